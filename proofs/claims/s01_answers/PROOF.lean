import PyProof.Rows.All
import Wide.All
import OpenK.AllK
import Wide.FinOn
import PyProof.EqAt
import PyProof.EqKinds
import PyProof.TupleCall
import KE.BitLaws
import Open.SpecLaws
import KE.OsHead
import KE.OsGo
import PySi37
import PySem.Challenge.RW_truerefs_s01_answers
set_option Elab.async false
set_option linter.all false
set_option maxRecDepth 100000
namespace L2
open PySem PySem.Spec PyProof.Rows

abbrev Key := Sum Int Str
def keyIs : Key → Value → Bool
  | .inl k, v => Value.isInt k v
  | .inr x, v => Value.isStrOf x v
def keyH (w : World) : Key → Int
  | .inl k => hashInt k
  | .inr x => hashStr w x
theorem keyIs_shape : ∀ {k : Key} {v : Value}, keyIs k v = true → (∃ i t, k = Sum.inl i ∧ v = Value.int i t) ∨ (∃ x t, k = Sum.inr x ∧ v = Value.str x t)
  | .inl i, v, h => by
    obtain ⟨t, e⟩ := Value.isInt_shape (k := i) (v := v) h
    exact .inl ⟨i, t, rfl, e⟩
  | .inr x, v, h => by
    obtain ⟨t, e⟩ := Value.isStrOf_shape (x := x) (v := v) h
    exact .inr ⟨x, t, rfl, e⟩
theorem keyIs_int (i : Int) (t : Tok) : keyIs (.inl i) (.int i t) = true := by simp [keyIs, Value.isInt]
theorem keyIs_str (x : Str) (t : Tok) : keyIs (.inr x) (.str x t) = true := by simp [keyIs, Value.isStrOf]
theorem key_ll (a b : Int) : decide ((Sum.inl a : Key) = Sum.inl b) = (a == b) := by
  by_cases e : a = b
  · subst e; simp
  · have h : ¬ (Sum.inl a : Key) = Sum.inl b := fun q => e (Sum.inl.inj q)
    rw [decide_eq_false h]
    exact (beq_eq_false_iff_ne.mpr e).symm
theorem key_rr (a b : Str) : decide ((Sum.inr a : Key) = Sum.inr b) = decide (a = b) := by
  by_cases e : a = b
  · subst e; simp
  · have h : ¬ (Sum.inr a : Key) = Sum.inr b := fun q => e (Sum.inr.inj q)
    rw [decide_eq_false h, decide_eq_false e]
theorem key_lr (a : Int) (b : Str) : decide ((Sum.inl a : Key) = Sum.inr b) = false := decide_eq_false (fun q => nomatch q)
theorem key_rl (a : Str) (b : Int) : decide ((Sum.inr a : Key) = Sum.inl b) = false := decide_eq_false (fun q => nomatch q)

def mixKind (prog : Program) (w : World) : PySem.KeyKind prog w Key where
  is := keyIs
  hash := keyH w
  inj := fun v a b ha hb => by
    rcases keyIs_shape ha with ⟨i, t, rfl, rfl⟩ | ⟨x, t, rfl, rfl⟩
    · rcases keyIs_shape hb with ⟨j, u, rfl, e⟩ | ⟨y, u, rfl, e⟩
      · injection e with e1 _; rw [e1]
      · exact nomatch e
    · rcases keyIs_shape hb with ⟨j, u, rfl, e⟩ | ⟨y, u, rfl, e⟩
      · exact nomatch e
      · injection e with e1 _; rw [e1]
  byValue := fun k v h => by
    rcases keyIs_shape h with ⟨i, t, rfl, rfl⟩ | ⟨x, t, rfl, rfl⟩ <;> rfl
  pyHash := fun hv h => by
    rcases keyIs_shape hv with ⟨i, t, rfl, rfl⟩ | ⟨x, t, rfl, rfl⟩
    · exact wpAny_pyHash_int h
    · exact wpAny_pyHash_str h
  eqBool := fun hu hv h => by
    rcases keyIs_shape hu with ⟨i, t, rfl, rfl⟩ | ⟨x, t, rfl, rfl⟩
    · rcases keyIs_shape hv with ⟨j, u, rfl, rfl⟩ | ⟨y, u, rfl, rfl⟩
      · rw [key_ll] at h; exact wpAny_eqBool_int h
      · rw [key_lr] at h; exact SeqAt.EqAt.int_str i t y u _ _ _ _ h
    · rcases keyIs_shape hv with ⟨j, u, rfl, rfl⟩ | ⟨y, u, rfl, rfl⟩
      · rw [key_rl] at h; exact SeqAt.EqAt.str_int x t j u _ _ _ _ h
      · rw [key_rr] at h; exact wpAny_eqBool_str h
  «strs» := fun k x t v h => by
    rcases keyIs_shape h with ⟨i, u, rfl, e⟩ | ⟨y, u, rfl, e⟩
    · exact nomatch e
    · injection e with e1 _
      subst e1
      cases v <;> rfl

theorem mixKind_int (prog : Program) (w : World) (i : Int) (t : Tok) : (mixKind prog w).is (.inl i) (.int i t) = true := keyIs_int i t
theorem mixKind_str (prog : Program) (w : World) (x : Str) (t : Tok) : (mixKind prog w).is (.inr x) (.str x t) = true := keyIs_str x t
end L2

namespace L2
open PySem PySem.Spec PyProof.Rows

inductive V where
  | non | bl (b : Bool) | int (i : Int) | str (x : Str) | byt (b : Array UInt8) | flt (b : UInt64) | ref (a : Addr) | ty (n : String)
  deriving DecidableEq

def RelV : V → Value → Prop
  | .non, u => u = Value.none
  | .bl b, u => u = Value.bool b
  | .int i, u => ∃ t, u = Value.int i t
  | .str x, u => ∃ t, u = Value.str x t
  | .byt b, u => ∃ t, u = Value.bytes b t
  | .flt b, u => ∃ t, u = Value.float b t
  | .ref a, u => u = Value.ref a
  | .ty n, u => u = Value.type n

abbrev Vals : List V → List Value → Prop := Paired RelV
theorem Vals.length {xs : List V} {us : List Value} (r : Vals xs us) : xs.length = us.length := Paired.length r
theorem Vals.get : ∀ {xs : List V} {us : List Value} {i : Nat} {x : V}, Vals xs us → xs[i]? = some x → ∃ u, us[i]? = some u ∧ RelV x u
  | _, _, _, _, .nil, e => by simp at e
  | _, _, 0, _, .cons r _, e => by simp at e; subst e; exact ⟨_, rfl, r⟩
  | _, _, i + 1, x, .cons _ t, e => by
    obtain ⟨u, h1, h2⟩ := Vals.get (i := i) (x := x) t (by simpa using e)
    exact ⟨u, by simpa using h1, h2⟩
theorem Vals.set {x : V} {u : Value} (r : RelV x u) : ∀ {xs : List V} {us : List Value} (i : Nat), Vals xs us → Vals (xs.set i x) (us.set i u)
  | _, _, _, .nil => .nil
  | _, _, 0, .cons _ t => .cons r t
  | _, _, i + 1, .cons q t => .cons q (Vals.set r i t)
theorem Vals.append : ∀ {xs ys : List V} {us ws : List Value}, Vals xs us → Vals ys ws → Vals (xs ++ ys) (us ++ ws)
  | _, _, _, _, .nil, s => s
  | _, _, _, _, .cons r t, s => .cons r (Vals.append t s)
theorem Vals.take : ∀ {xs : List V} {us : List Value} (n : Nat), Vals xs us → Vals (xs.take n) (us.take n)
  | _, _, 0, _ => .nil
  | _, _, _ + 1, .nil => .nil
  | _, _, n + 1, .cons r t => .cons r (Vals.take n t)
theorem Vals.drop : ∀ {xs : List V} {us : List Value} (n : Nat), Vals xs us → Vals (xs.drop n) (us.drop n)
  | _, _, 0, r => r
  | _, _, _ + 1, .nil => .nil
  | _, _, n + 1, .cons _ t => Vals.drop n t
def RelO : Option V → Option Value → Prop
  | some v, some u => RelV v u
  | none, none => True
  | _, _ => False
def KV {κ : Type} : List (κ × V) → List (κ × Value) → Prop := Paired fun (p : κ × V) (q : κ × Value) => p.1 = q.1 ∧ RelV p.2 q.2

def kV : Key → V
  | .inl i => .int i
  | .inr x => .str x

inductive HO where
  /-- a list -/
  | lst (xs : List V)
  /-- a tuple (never changes) -/
  | tup (xs : List V)
  /-- a dict whose keys are ints and texts; one whose keys are tuples of ints and texts (the empty one is both) -/
  | dK (kvs : List (Key × V)) | dT (kvs : List (List Key × V))
  /-- a set of ints: its members, its size -/
  | set (S : Int → Bool) (n : Nat)
  /-- an instance of the class at C, its dict at dx, its attributes -/
  | ins (C dx : Addr) (fs : List (Str × V))
  /-- the dict of the instance at x -/
  | own (x : Addr)
  /-- the dict of an exception -/
  | xd (fs : List (Str × V))
  /-- a bound method, f of x -/
  | met (f x : Addr)
  /-- a range object lo, lo + 1, .. below hi -/
  | rng (lo hi : Int)
  /-- a thing that is known to the object (the script; a dict while a loop walks it): read, never written while it is so -/
  | frz (o : Obj) (u : HO)
  /-- a code object's table -/
  | tbl (ps : Array Value)
  /-- any other thing, by what is true of its one object (a def of one's own: SetO a S n := HO.ext fun h => ..) -/
  | ext (φ : Heap → Prop)

abbrev Hp := Addr → Option HO
def upd (H : Hp) (a : Addr) (o : HO) : Hp := fun b => if b = a then some o else H b
theorem upd_same {H : Hp} {a : Addr} {o : HO} : upd H a o a = some o := by unfold upd; rw [if_pos rfl]
theorem upd_ne {H : Hp} {a b : Addr} {o : HO} (h : b ≠ a) : upd H a o b = H b := by unfold upd; rw [if_neg h]
theorem ne_of {H : Hp} {a b : Addr} {o u : HO} (h : H a = some o) (h' : H b = some u) (d : o ≠ u) : a ≠ b := by
  intro e; subst e; rw [h] at h'; exact d (Option.some.inj h')
theorem ne_of_none {H : Hp} {a b : Addr} {o : HO} (h : H a = some o) (h' : H b = none) : a ≠ b := by
  intro e; subst e; rw [h] at h'; cases h'

section
variable (P : Program) (w : World)
def ObjOk (H : Hp) (h : Heap) (a : Addr) : HO → Prop
  | .lst xs => xs.length ≤ sizeLine ∧ ∃ (its : List Value) (n : Nat), Vals xs its ∧ h.get? a = some { cls := .type "list", data := .seq its.toArray n }
  | .tup xs => xs.length ≤ sizeLine ∧ ∃ its : List Value, Vals xs its ∧ IsTup h a its.toArray
  | .dK kvs => kvs.length ≤ sizeLine ∧ (a == sysModules) = false ∧ ∃ vs, KV kvs vs ∧ h.DictOf (mixKind P w) a vs
  | .dT kvs => kvs.length ≤ sizeLine ∧ (a == sysModules) = false ∧ ∃ xs : List (List Key × Addr × Value),
      Paired (fun (p : List Key × V) (q : List Key × Addr × Value) => p.1 = q.1 ∧ H q.2.1 = some (.tup (p.1.map kV)) ∧ RelV p.2 q.2.2) kvs xs ∧
      ∃ o es ep, h.get? a = some o ∧ o.ExactDict ∧ o.data = .dict es ep ∧ es.toList = xs.map (entryOfKey (tupleKind (mixKind P w))) ∧ (xs.map (·.1)).Nodup
  | .set S n => h.SetOf (intKind P w) a S n
  | .ins C dx fs => H dx = some (.own a) ∧ fs.length ≤ 1000 ∧ dx ≠ a ∧ h.get? a = some (PySem.W.instObj C dx) ∧
      ∃ mA, h.Ns1 dx mA ∧ (∀ f, RelO (fs.lookup f) (mA f)) ∧ PySem.Within mA (fs.map (·.1))
  | .own _ => ∃ o, h.get? a = some o
  | .xd fs => ∃ mA, h.Ns1 a mA ∧ ∀ f, RelO (fs.lookup f) (mA f)
  | .rng lo hi => ∃ t u v, h.get? a = some { cls := .type "range", data := .fields #[.int lo t, .int hi u, .int 1 v] }
  | .frz o u => h.get? a = some o ∧ ObjOk H h a u
  | .tbl ps => h.get? a = some { cls := .none, data := .fields ps }
  | .met f x => h.get? a = some (PySem.W.methodObj (.ref f) (.ref x))
  | .ext φ => φ h ∧ (∃ o, h.get? a = some o) ∧ ∀ h1 h2 : Heap, φ h1 → (∀ o, h1.get? a = some o → h2.get? a = some o) → φ h2
def HOk (H : Hp) (h : Heap) : Prop := ∀ a o, H a = some o → ObjOk P w H h a o
end

section
variable {P : Program} {w : World} {H H' : Hp} {h h' : Heap} {a : Addr} {o : HO}
theorem ObjOk.lt (x : ObjOk P w H h a o) : a < h.objs.size := by
  cases o with
  | lst xs => obtain ⟨_, _, _, _, e⟩ := x; exact Heap.lt_size e
  | tup xs => obtain ⟨_, _, _, p⟩ := x; exact p.lt
  | dK kvs => obtain ⟨_, _, _, _, o, _, _, e, _⟩ := x; exact Heap.lt_size e
  | dT kvs => obtain ⟨_, _, _, _, o, _, _, e, _⟩ := x; exact Heap.lt_size e
  | set S n => obtain ⟨o, _, _, _, e, _⟩ := x; exact Heap.lt_size e
  | ins C dx fs => obtain ⟨_, _, _, e, _⟩ := x; exact Heap.lt_size e
  | own y => obtain ⟨_, e⟩ := x; exact Heap.lt_size e
  | xd fs => obtain ⟨_, ⟨_, _, _, e, _⟩, _⟩ := x; exact Heap.lt_size e
  | rng lo hi => obtain ⟨_, _, _, e⟩ := x; exact Heap.lt_size e
  | frz ob u => obtain ⟨e, _⟩ := x; exact Heap.lt_size e
  | tbl ps => exact Heap.lt_size (show h.get? a = some _ from x)
  | met f y => exact Heap.lt_size (show h.get? a = some _ from x)
  | ext φ => obtain ⟨_, ⟨_, e⟩, _⟩ := x; exact Heap.lt_size e
theorem Paired.mapP {α β : Type} {F G : α → β → Prop} : ∀ {l₁ : List α} {l₂ : List β}, Paired F l₁ l₂ → (∀ a b, F a b → G a b) → Paired G l₁ l₂
  | _, _, .nil, _ => .nil
  | _, _, .cons r t, f => .cons (f _ _ r) (Paired.mapP t f)
theorem ObjOk.stay (x : ObjOk P w H h a o) (k : ∀ b u, (b = a ∨ H b = some (.own a)) → h.get? b = some u → h'.get? b = some u)
    (ho : ∀ b, H b = some (.own a) → H' b = some (.own a)) (ht : ∀ b xs, H b = some (.tup xs) → H' b = some (.tup xs)) : ObjOk P w H' h' a o := by
  induction o with
  | lst xs => obtain ⟨z, its, n, r, e⟩ := x; exact ⟨z, its, n, r, k _ _ (.inl rfl) e⟩
  | tup xs => obtain ⟨z, its, r, ob, e, c⟩ := x; exact ⟨z, its, r, ob, k _ _ (.inl rfl) e, c⟩
  | dK kvs => obtain ⟨z, y, vs, r, ob, es, ep, e, c⟩ := x; exact ⟨z, y, vs, r, ob, es, ep, k _ _ (.inl rfl) e, c⟩
  | dT kvs =>
    obtain ⟨z, y, xs, r, ob, es, ep, e, c⟩ := x
    exact ⟨z, y, xs, Paired.mapP r fun p q z => ⟨z.1, ht _ _ z.2.1, z.2.2⟩, ob, es, ep, k _ _ (.inl rfl) e, c⟩
  | set S n => obtain ⟨ob, es, ep, t, e, c⟩ := x; exact ⟨ob, es, ep, t, k _ _ (.inl rfl) e, c⟩
  | ins C dx fs =>
    obtain ⟨d, z, ne, e, mA, ⟨od, es, ep, e2, c⟩, r⟩ := x
    exact ⟨ho _ d, z, ne, k _ _ (.inl rfl) e, mA, ⟨od, es, ep, k _ _ (.inr d) e2, c⟩, r⟩
  | own y => obtain ⟨ob, e⟩ := x; exact ⟨ob, k _ _ (.inl rfl) e⟩
  | xd fs => obtain ⟨mA, ⟨od, es, ep, e, c⟩, r⟩ := x; exact ⟨mA, ⟨od, es, ep, k _ _ (.inl rfl) e, c⟩, r⟩
  | rng lo hi => obtain ⟨t, u, v, e⟩ := x; exact ⟨t, u, v, k _ _ (.inl rfl) e⟩
  | frz ob u ih => obtain ⟨e, q⟩ := x; exact ⟨k _ _ (.inl rfl) e, ih q⟩
  | tbl ps =>
    have e : h.get? a = some { cls := .none, data := .fields ps } := x
    show h'.get? a = some { cls := .none, data := .fields ps }
    exact k a _ (.inl rfl) e
  | met f y =>
    have e : h.get? a = some (PySem.W.methodObj (.ref f) (.ref y)) := x
    show h'.get? a = some (PySem.W.methodObj (.ref f) (.ref y))
    exact k a _ (.inl rfl) e
  | ext φ => obtain ⟨p, ⟨o, e⟩, st⟩ := x; exact ⟨st _ _ p fun o q => k _ _ (.inl rfl) q, ⟨o, k _ _ (.inl rfl) e⟩, st⟩
theorem HOk.lt (x : HOk P w H h) (e : H a = some o) : a < h.objs.size := (x a o e).lt
theorem HOk.fresh (x : HOk P w H h) (e : h.objs.size ≤ a) : H a = none := by
  cases q : H a with
  | none => rfl
  | some u => exact absurd (Nat.lt_of_lt_of_le (x.lt q) e) (Nat.lt_irrefl _)
theorem HOk.kept (x : HOk P w H h) (k : ∀ b u, h.get? b = some u → h'.get? b = some u) : HOk P w H h' := fun a o e =>
  (x a o e).stay (fun b u _ q => k b u q) (fun _ q => q) fun _ _ q => q
theorem HOk.laid (x : HOk P w H h) (k : ∀ b u, h.get? b = some u → h'.get? b = some u) (hp : h.objs.size ≤ a) (new : ObjOk P w (upd H a o) h' a o) : HOk P w (upd H a o) h' := fun b u e => by
  have hn := x.fresh hp
  by_cases hb : b = a
  · subst hb; rw [upd_same] at e; cases e; exact new
  · rw [upd_ne hb] at e
    exact (x b u e).stay (fun c v _ q => k c v q) (fun c q => by rw [upd_ne (ne_of_none q hn)]; exact q) fun c xs q => by rw [upd_ne (ne_of_none q hn)]; exact q
end

def Rd (H : Hp) (a : Addr) (u : HO) : Prop := H a = some u ∨ ∃ o, H a = some (.frz o u)
theorem Rd.ok {P : Program} {w : World} {H : Hp} {h : Heap} {a : Addr} {u : HO} (r : Rd H a u) (x : HOk P w H h) : ObjOk P w H h a u := by
  rcases r with r | ⟨o, r⟩
  · exact x a u r
  · obtain ⟨_, q⟩ := x a _ r
    exact q
def Mut : Option HO → Prop
  | some (.lst _) => True
  | some (.dK _) => True
  | some (.dT _) => True
  | some (.set _ _) => True
  | some (.ins _ _ _) => True
  | some (.ext _) => True
  | _ => False
section
variable {P : Program} {w : World} {H : Hp} {h h' : Heap} {x e : Addr} {o' : HO}
theorem HOk.write (ok : HOk P w H h) (mu : Mut (H x)) (he : e = x ∨ H e = some (.own x)) (k : ∀ b u, b ≠ e → h.get? b = some u → h'.get? b = some u) (heo : ∃ u, h'.get? e = some u)
    (new : ObjOk P w (upd H x o') h' x o') : HOk P w (upd H x o') h' := fun b u q => by
  have nown : ∀ c y, H c = some (.own y) → c ≠ x := fun c y r z => by subst z; rw [r] at mu; exact mu
  have ntup : ∀ c xs, H c = some (.tup xs) → c ≠ x := fun c xs r z => by subst z; rw [r] at mu; exact mu
  by_cases hb : b = x
  · subst hb; rw [upd_same] at q; cases q; exact new
  · rw [upd_ne hb] at q
    by_cases hbe : b = e
    · have q' : H b = some (.own x) := by
        rcases he with z | z
        · exact absurd (hbe.trans z) hb
        · rw [hbe]; exact z
      rw [q] at q'; cases q'
      obtain ⟨v, hv⟩ := heo
      exact ⟨v, by rw [hbe]; exact hv⟩
    · refine (ok b u q).stay (fun c v hc r => k c v ?_ r) (fun c r => by rw [upd_ne (nown c b r)]; exact r) fun c xs r => by rw [upd_ne (ntup c xs r)]; exact r
      rcases hc with rfl | hc
      · exact hbe
      · rintro rfl
        rcases he with z | z
        · exact nown c b hc z
        · rw [hc] at z; cases z; exact hb rfl
end

structure Un (fs ex : List Addr) (H H' : Hp) (h h' : Heap) : Prop where
  keep : ∀ b o, h.get? b = some o → H b = none → b ∉ fs → b ∉ ex → h'.get? b = some o
  slot : ∀ b o, h.get? b = some o → H b = none → b ∈ fs → b ∉ ex → ∃ sl, h'.get? b = some { o with slots := sl }
  free : ∀ b o, h.get? b = some o → H b = none → b ∉ ex → H' b = none
  there : ∀ b o, h.get? b = some o → b ∉ ex → ∃ o', h'.get? b = some o'
  tups : ∀ b xs, H b = some (.tup xs) → H' b = some (.tup xs)
  frzs : ∀ b o u, H b = some (.frz o u) → H' b = some (.frz o u)
  tbls : ∀ b ps, H b = some (.tbl ps) → ∃ more, H' b = some (.tbl (ps ++ more))
section
variable {fs fs' ex ex' : List Addr} {H H1 H2 : Hp} {h h1 h2 h' : Heap} {a x e : Addr} {o : HO}
theorem Un.any (u : Un fs ex H H1 h h1) {b : Addr} {ob : Obj} (q : h.get? b = some ob) (n : H b = none) (hx : b ∉ ex) : ∃ sl, h1.get? b = some { ob with slots := sl } := by
  by_cases hb : b ∈ fs
  · exact u.slot b ob q n hb hx
  · exact ⟨ob.slots, u.keep b ob q n hb hx⟩
theorem Un.kept (k : ∀ b u, h.get? b = some u → h'.get? b = some u) : Un fs ex H H h h' :=
  ⟨fun b ob q _ _ _ => k b ob q, fun b ob q _ _ _ => ⟨ob.slots, k b ob q⟩, fun _ _ _ n _ => n, fun b ob q _ => ⟨ob, k b ob q⟩, fun _ _ q => q, fun _ _ _ q => q, fun _ ps q => ⟨#[], by rw [q]; simp⟩⟩
theorem Un.refl : Un fs ex H H h h := Un.kept fun _ _ q => q
theorem Un.laid (k : ∀ b u, h.get? b = some u → h'.get? b = some u) (hp : h.objs.size ≤ a) (hn : H a = none) : Un fs ex H (upd H a o) h h' where
  keep := fun b u q _ _ _ => k b u q
  slot := fun b u q _ _ _ => ⟨u.slots, k b u q⟩
  free := fun b u q n _ => by rw [upd_ne (Nat.ne_of_lt (Nat.lt_of_lt_of_le (Heap.lt_size q) hp))]; exact n
  there := fun b u q _ => ⟨u, k b u q⟩
  tups := fun b xs q => by rw [upd_ne (ne_of_none q hn)]; exact q
  frzs := fun b u xs q => by rw [upd_ne (ne_of_none q hn)]; exact q
  tbls := fun b ps q => ⟨#[], by rw [upd_ne (ne_of_none q hn), q]; simp⟩
theorem Un.write (mu : Mut (H x)) (he : e = x ∨ H e = some (.own x)) (k : ∀ b u, b ≠ e → h.get? b = some u → h'.get? b = some u) (heo : ∃ u, h'.get? e = some u) : Un fs ex H (upd H x o) h h' := by
  have hx : ∀ b, H b = none → b ≠ x := fun b n z => by subst z; rw [n] at mu; exact mu
  have hb : ∀ b, H b = none → b ≠ e := fun b n z => by
    subst z
    rcases he with r | r
    · exact hx b n r
    · rw [n] at r; cases r
  have hm : ∀ b u, H b = some u → ¬ Mut (some u) → b ≠ x := fun b u q nm z => by subst z; rw [q] at mu; exact nm mu
  refine ⟨fun b u q n _ _ => k b u (hb b n) q, fun b u q n _ _ => ⟨u.slots, k b u (hb b n) q⟩, fun b u q n _ => by rw [upd_ne (hx b n)]; exact n, fun b u q _ => ?_,
    fun b xs q => by rw [upd_ne (hm b _ q fun z => z)]; exact q, fun b u xs q => by rw [upd_ne (hm b _ q fun z => z)]; exact q, fun b ps q => ⟨#[], by rw [upd_ne (hm b _ q fun z => z), q]; simp⟩⟩
  by_cases hbe : b = e
  · subst hbe; exact heo
  · exact ⟨u, k b u hbe q⟩
end

def trk (h : Heap) (H : Hp) : List Addr := (List.range h.objs.size).filter fun a => (H a).isSome
def hidT (h : Heap) (H : Hp) : Heap := PySem.W.hideAll h (trk h H)
theorem hidT_size (h : Heap) (H : Hp) : (hidT h H).objs.size = h.objs.size := PySem.W.hideAll_size _ _
theorem hidT_get {h : Heap} {H : Hp} {b : Addr} {o : Obj} (e : h.get? b = some o) (n : H b = none) : (hidT h H).get? b = some o :=
  PySem.W.hideAll_get _ e fun hm => by
    have q : (H b).isSome = true := (List.mem_filter.mp hm).2
    rw [n] at q; simp at q
theorem of_hidT {h : Heap} {H : Hp} {b : Addr} {o : Obj} (e : (hidT h H).get? b = some o) : h.get? b = some o ∧ H b = none := by
  have e' : h.get? b = some o := PySem.W.of_hideAll (trk h H) e
  refine ⟨e', ?_⟩
  cases q : H b with
  | none => rfl
  | some x =>
    have hm : b ∈ trk h H := List.mem_filter.mpr ⟨List.mem_range.mpr (Heap.lt_size e'), by simp [q]⟩
    have z : (hidT h H).get? b = none := PySem.W.hideAll_none (trk h H) hm
    rw [z] at e; cases e

end L2

namespace L2
open PySem PySem.Spec PyProof.Rows

structure Mod (K : PySem.W.Frag) (mg : Str → Option Value) (base : Heap) : Prop where
  kin : K.In base
  glob : base.Ns mainGlobals mg
  blt : ∃ mb, base.Ns builtinsNs mb ∧ ∀ x : Str, x ≠ "__name__" → mb x = bootBuiltins x
  nolimit : base.NoLimit

structure Cx where
  prog : Program
  w : World
  K : PySem.W.Frag
  mg : Str → Option Value
  base : Heap
  A : Around
  N : List Str
  s_0 : Shared
  H_0 : Hp
  env : Env
  outer : List Env
  stack : List Env
  ex : List Addr
  fn : Str → Bool
  calm : Bool
  pn : List (Addr × Obj)
  xe : Value → Shared → Prop
def frs (l : List Env) : List Addr := l.filterMap (·.frame)
abbrev Cx.fs (X : Cx) : List Addr := frs X.outer

def Vis (sc : Scope) (x : Str) : Prop := sc.names.lookup x = some .local ∨ sc.names.lookup x = some .cell ∨ sc.names.lookup x = some .free
def Loc (sc : Scope) (x : Str) : Prop := sc.names.lookup x = some .local ∨ sc.names.lookup x = some .cell
def Look (env : Env) (h : Heap) (m : Str → Option Value) (x : Str) (u : Value) : Prop :=
  (env.kindOf x = some .local ∧ m x = some u) ∨ ((env.kindOf x = some .cell ∨ env.kindOf x = some .free) ∧ ∃ c, env.cells.lookup x = some c ∧ h.IsCell c (some u))

structure Cx.Ok (X : Cx) : Prop where
  mod : Mod X.K X.mg X.base
  kind : X.env.scope.kind = .function
  glob : X.env.globals = mainGlobals
  blt : X.env.builtins = builtinsNs
  above : X.s_0.heap.objs.size ≤ X.env.locals
  inj : ∀ x y c, X.env.cells.lookup x = some c → X.env.cells.lookup y = some c → x = y
  has : ∀ x, (X.env.kindOf x = some .cell ∨ X.env.kindOf x = some .free) → ∃ c, X.env.cells.lookup x = some c
  cab : ∀ x c, X.fn x = true → X.env.cells.lookup x = some c → X.s_0.heap.objs.size ≤ c
  hd : X.calm = true → X.A.handled = none
  frames : X.A.frames = some X.stack
  stk : X.stack = X.outer ∨ (X.stack = X.env :: X.outer ∧ X.env.frame = some X.env.locals)
  exf : ∀ b ∈ X.ex, b ≠ X.env.locals ∧ ∀ x c, X.env.cells.lookup x = some c → c ≠ b
  bs : ∀ b o, X.base.get? b = some o → X.s_0.heap.get? b = some o ∧ X.H_0 b = none
  bsz : X.base.objs.size ≤ X.s_0.heap.objs.size
  noex : ∀ b o, X.base.get? b = some o → b ∉ X.ex
  exfs : ∀ b ∈ X.ex, b ∉ X.fs
  funs : X.s_0.heap.FunFrames X.base X.outer
  frf : ∀ b ∈ X.fs, X.H_0 b = none

structure Inv (X : Cx) (pins : List (Addr × Obj)) (σ : List (Option V)) (H : Hp) (s : Shared) : Prop where
  ok : X.Ok
  os : s.os = X.s_0.os
  bare : AllBare s.gens
  base : Un X.fs X.ex X.H_0 H X.s_0.heap s.heap
  loc : ∃ m, s.heap.Ns X.env.locals m ∧ ∀ (i : Nat) (x : Str) (v : V), X.N[i]? = some x → σ[i]? = some (some v) → Vis X.env.scope x → ∃ u, RelV v u ∧ Look X.env s.heap m x u
  cell : ∀ x c, X.env.cells.lookup x = some c → ∃ v, s.heap.IsCell c v
  free : H X.env.locals = none
  freeC : ∀ x c, X.env.cells.lookup x = some c → H c = none
  pin : ∀ p ∈ X.pn ++ pins, s.heap.get? p.1 = some p.2 ∧ H p.1 = none ∧ p.1 ≠ X.env.locals ∧ p.1 ∉ X.fs ∧ ∀ v, p.2.data ≠ .cell v
  hok : HOk X.prog X.w H s.heap
  len : σ.length = X.N.length

section
variable {X : Cx} {pins : List (Addr × Obj)} {σ : List (Option V)} {H H' : Hp} {s : Shared} {h' : Heap}

theorem Cx.Ok.nofr (ok : X.Ok) {b : Addr} {o : Obj} (e : X.base.get? b = some o) : b ∉ X.fs := fun hb => by
  have := (ok.funs.mem hb).1
  rw [e] at this; cases this
theorem Inv.bs (I : Inv X pins σ H s) : ∀ b o, X.base.get? b = some o → s.heap.get? b = some o ∧ H b = none := fun b o e =>
  ⟨I.base.keep b o (I.ok.bs b o e).1 (I.ok.bs b o e).2 (I.ok.nofr e) (I.ok.noex b o e), I.base.free b o (I.ok.bs b o e).1 (I.ok.bs b o e).2 (I.ok.noex b o e)⟩
theorem Inv.bk (I : Inv X pins σ H s) : ∀ b o, X.base.get? b = some o → s.heap.get? b = some o := fun b o e => (I.bs b o e).1
theorem Inv.mod (I : Inv X pins σ H s) : Mod X.K X.mg X.base := I.ok.mod
theorem Inv.kIn (I : Inv X pins σ H s) : X.K.In s.heap := I.ok.mod.kin.keeps I.bk
theorem Inv.fr (I : Inv X pins σ H s) : ∃ m, Fr X.base X.env.locals s.heap m :=
  let ⟨m, hn, _⟩ := I.loc
  ⟨m, hn, I.bk, Nat.le_trans I.ok.bsz I.ok.above⟩
theorem Inv.lt (I : Inv X pins σ H s) : X.env.locals < s.heap.objs.size := let ⟨_, hn, _⟩ := I.loc; hn.lt
theorem Inv.sz (I : Inv X pins σ H s) : X.s_0.heap.objs.size ≤ s.heap.objs.size := Nat.le_trans I.ok.above (Nat.le_of_lt I.lt)
theorem Inv.nofs (I : Inv X pins σ H s) {a : Addr} (h : s.heap.objs.size ≤ a) : a ∉ X.fs := fun hb => by
  obtain ⟨_, o, ho, _⟩ := I.ok.funs.mem hb
  exact absurd (Nat.lt_of_lt_of_le (Heap.lt_size ho) (Nat.le_trans I.sz h)) (Nat.lt_irrefl _)
theorem Inv.cne (I : Inv X pins σ H s) : ∀ x c, X.env.cells.lookup x = some c → c ≠ X.env.locals := fun x c e z => by
  obtain ⟨v, o, ho, hd⟩ := I.cell x c e
  obtain ⟨m, ⟨o', es, ep, ho', hd', _⟩, _⟩ := I.loc
  rw [z, ho'] at ho; cases ho; rw [hd'] at hd; cases hd
theorem Inv.funs (I : Inv X pins σ H s) : s.heap.FunFrames X.base X.outer := by
  have all : ∀ (l : List Env), (∀ b ∈ frs l, b ∈ X.fs) → X.s_0.heap.FunFrames X.base l → s.heap.FunFrames X.base l := by
    intro l
    induction l with
    | nil => intro _ _; trivial
    | cons env r ih =>
      intro hs hl
      obtain ⟨hk, ⟨L, o, hf, hn, ho, hd⟩, hr⟩ := hl
      have hL : L ∈ X.fs := hs L (by unfold frs; rw [List.filterMap_cons, hf]; exact List.mem_cons_self)
      obtain ⟨sl, e⟩ := I.base.slot L o ho (I.ok.frf L hL) hL fun z => I.ok.exfs L z hL
      exact ⟨hk, ⟨L, _, hf, hn, e, hd⟩, ih (fun b hb => hs b (by unfold frs; rw [List.filterMap_cons, hf]; exact List.mem_cons_of_mem _ hb)) hr⟩
  exact all X.outer (fun _ hb => hb) I.ok.funs

theorem Inv.stack (I : Inv X pins σ H s) : s.heap.FunFrames X.base X.stack := by
  rcases I.ok.stk with e | ⟨e, hf⟩
  · rw [e]; exact I.funs
  · rw [e]
    obtain ⟨m, hn, _⟩ := I.loc
    refine .cons (by rw [I.ok.kind]; decide) hf hn ?_ I.funs
    exact Heap.get?_none_of_le (Nat.le_trans I.ok.bsz I.ok.above)
theorem Inv.stkSub (I : Inv X pins σ H s) : ∀ b ∈ frs X.stack, b ∈ X.env.locals :: X.fs := fun b hb => by
  rcases I.ok.stk with e | ⟨e, hf⟩
  · rw [e] at hb; exact List.mem_cons_of_mem _ hb
  · rw [e] at hb
    unfold frs at hb
    rw [List.filterMap_cons, hf] at hb
    exact hb
theorem Inv.stkFree (I : Inv X pins σ H s) : ∀ b ∈ frs X.stack, H b = none := fun b hb => by
  rcases List.mem_cons.mp (I.stkSub b hb) with e | hb
  · rw [e]; exact I.free
  · obtain ⟨_, o, ho, _⟩ := I.ok.funs.mem hb
    exact I.base.free b o ho (I.ok.frf b hb) fun z => I.ok.exfs b z hb

theorem Inv.step {g' : Array GenState} {t' : Nat} {d' : Drawn} {ch : List Addr} (I : Inv X pins σ H s)
    (hch : ∀ b ∈ ch, (b ∈ X.ex ∨ X.s_0.heap.objs.size ≤ b) ∧ b ≠ X.env.locals ∧ (∀ x c, X.env.cells.lookup x = some c → c ≠ b) ∧ ∀ p ∈ X.pn ++ pins, p.1 ≠ b)
    (keep : ∀ b o, b ≠ X.env.locals → b ∉ X.fs → b ∉ ch → s.heap.get? b = some o → H b = none → h'.get? b = some o)
    (slot : ∀ b o, b ≠ X.env.locals → b ∈ X.fs → b ∉ ch → s.heap.get? b = some o → H b = none → ∃ sl, h'.get? b = some { o with slots := sl }) (free : ∀ b o, b ∉ ch → s.heap.get? b = some o → H b = none → H' b = none)
    (there : ∀ b o, b ∉ ch → s.heap.get? b = some o → ∃ o', h'.get? b = some o')
    (tups : ∀ b xs, H b = some (.tup xs) → H' b = some (.tup xs)) (frzs : ∀ b o u, H b = some (.frz o u) → H' b = some (.frz o u)) (tbls : ∀ b ps, H b = some (.tbl ps) → ∃ more, H' b = some (.tbl (ps ++ more)))
    (ns : ∀ m, s.heap.Ns X.env.locals m → h'.Ns X.env.locals m) (hok : HOk X.prog X.w H' h') (hg : AllBare g') :
    Inv X pins σ H' { s with heap := h', gens := g', drawn := d', toks := t' } := by
  have neL : ∀ b o, X.s_0.heap.get? b = some o → b ≠ X.env.locals := fun b o e => Nat.ne_of_lt (Nat.lt_of_lt_of_le (Heap.lt_size e) I.ok.above)
  have neC : ∀ b o, X.s_0.heap.get? b = some o → b ∉ X.ex → b ∉ ch := fun b o e hx hb => by
    rcases (hch b hb).1 with z | z
    · exact hx z
    · exact absurd (Nat.lt_of_lt_of_le (Heap.lt_size e) z) (Nat.lt_irrefl _)
  have cellK : ∀ x c, X.env.cells.lookup x = some c → ∀ v, s.heap.IsCell c v → h'.IsCell c v := fun x c e v ⟨o, ho, hd⟩ => by
    have nch : c ∉ ch := fun z => (hch c z).2.2.1 x c e rfl
    by_cases hc : c ∈ X.fs
    · obtain ⟨sl, q⟩ := slot c o (I.cne x c e) hc nch ho (I.freeC x c e)
      exact ⟨_, q, hd⟩
    · exact ⟨o, keep c o (I.cne x c e) hc nch ho (I.freeC x c e), hd⟩
  refine ⟨I.ok, I.os, hg, ⟨fun b o e n hb hx => ?_, fun b o e n hb hx => ?_, fun b o e n hx => ?_, fun b o e hx => ?_, fun b xs e => tups b xs (I.base.tups b xs e), fun b o xs e => frzs b o xs (I.base.frzs b o xs e), fun b ps e => ?_⟩, ?_, fun x c e => ?_, ?_, fun x c e => ?_, fun p hp => ?_, hok, I.len⟩
  · exact keep b o (neL b o e) hb (neC b o e hx) (I.base.keep b o e n hb hx) (I.base.free b o e n hx)
  · obtain ⟨sl, e1⟩ := I.base.slot b o e n hb hx
    obtain ⟨sl', e2⟩ := slot b _ (neL b o e) hb (neC b o e hx) e1 (I.base.free b o e n hx)
    exact ⟨sl', e2⟩
  · obtain ⟨o', e1⟩ := I.base.there b o e hx
    exact free b o' (neC b o e hx) e1 (I.base.free b o e n hx)
  · obtain ⟨o', e1⟩ := I.base.there b o e hx
    exact there b o' (neC b o e hx) e1
  · obtain ⟨m1, e1⟩ := I.base.tbls b ps e
    obtain ⟨m2, e2⟩ := tbls b _ e1
    exact ⟨m1 ++ m2, by rw [e2, Array.append_assoc]⟩
  · obtain ⟨m, hn, hl⟩ := I.loc
    refine ⟨m, ns m hn, fun i x v e1 e2 e3 => ?_⟩
    obtain ⟨u, r, l⟩ := hl i x v e1 e2 e3
    refine ⟨u, r, ?_⟩
    rcases l with l | ⟨k, c, e, z⟩
    · exact .inl l
    · exact .inr ⟨k, c, e, cellK x c e _ z⟩
  · obtain ⟨v, z⟩ := I.cell x c e
    exact ⟨v, cellK x c e v z⟩
  · obtain ⟨m, ⟨o, _, _, ho, _⟩, _⟩ := I.loc
    exact free _ o (fun z => (hch _ z).2.1 rfl) ho I.free
  · obtain ⟨v, o, ho, hd⟩ := I.cell x c e
    exact free c o (fun z => (hch c z).2.2.1 x c e rfl) ho (I.freeC x c e)
  · obtain ⟨e, n, ne, nf, d⟩ := I.pin p hp
    have nch : p.1 ∉ ch := fun z => (hch p.1 z).2.2.2 p hp rfl
    exact ⟨keep p.1 p.2 ne nf nch e n, free p.1 p.2 nch e n, ne, nf, d⟩
theorem Inv.un {t' : Nat} (I : Inv X pins σ H s) (u : Un X.fs [] H H' s.heap h') (hok : HOk X.prog X.w H' h') : Inv X pins σ H' { s with heap := h', toks := t' } := by
  obtain ⟨m, ⟨o, es, ep, ho, r⟩, _⟩ := id I.loc
  obtain ⟨sl, hL⟩ := u.any ho I.free (by simp)
  exact I.step (g' := s.gens) (d' := s.drawn) (ch := []) (fun _ z => nomatch z) (fun b o _ hb _ e n => u.keep b o e n hb (by simp)) (fun b o _ hb _ e n => u.slot b o e n hb (by simp)) (fun b o _ e n => u.free b o e n (by simp)) (fun b o _ e => u.there b o e (by simp)) u.tups u.frzs u.tbls (fun m' hm => by
    obtain ⟨o', es', ep', ho', r'⟩ := hm
    rw [ho] at ho'; cases ho'
    exact ⟨_, es', ep', hL, r'⟩) hok I.bare
theorem Inv.call {g' : Array GenState} {t' : Nat} {d' : Drawn} {ch : List Addr} (I : Inv X pins σ H s) (u : Un (frs X.stack) ch H H' s.heap h') (hok : HOk X.prog X.w H' h') (hg : AllBare g')
    (hch : ∀ b ∈ ch, (b ∈ X.ex ∨ X.s_0.heap.objs.size ≤ b) ∧ b ≠ X.env.locals ∧ (∀ x c, X.env.cells.lookup x = some c → c ≠ b) ∧ ∀ p ∈ X.pn ++ pins, p.1 ≠ b) :
    Inv X pins σ H' { s with heap := h', gens := g', drawn := d', toks := t' } := by
  obtain ⟨m, ⟨o, es, ep, ho, r⟩, _⟩ := id I.loc
  obtain ⟨sl, hL⟩ := u.any ho I.free fun z => (hch _ z).2.1 rfl
  exact I.step (ch := ch) hch (fun b o hL hb hc e n => u.keep b o e n (fun z => (List.mem_cons.mp (I.stkSub b z)).elim hL hb) hc) (fun b o _ _ hc e n => u.any e n hc) (fun b o hc e n => u.free b o e n hc) (fun b o hc e => u.there b o e hc) u.tups u.frzs u.tbls (fun m' hm => by
    obtain ⟨o', es', ep', ho', r'⟩ := hm
    rw [ho] at ho'; cases ho'
    exact ⟨_, es', ep', hL, r'⟩) hok hg
theorem Inv.turned {t' : Nat} {it : Addr} (I : Inv X pins σ H s) (k : ∀ b o, b ≠ it → s.heap.get? b = some o → h'.get? b = some o) (hn : H it = none) (hL : it ≠ X.env.locals)
    (h1 : it ∈ X.ex ∨ X.s_0.heap.objs.size ≤ it) (h2 : ∀ x c, X.env.cells.lookup x = some c → c ≠ it) (h3 : ∀ p ∈ X.pn ++ pins, p.1 ≠ it) : Inv X pins σ H { s with heap := h', toks := t' } := by
  have nit : ∀ b u, H b = some u → b ≠ it := fun b u e z => by rw [z, hn] at e; cases e
  refine I.step (g' := s.gens) (d' := s.drawn) (ch := [it]) (fun b hb => ?_) (fun b o _ _ hc e _ => k b o (fun z => hc (by simp [z])) e) (fun b o _ _ hc e _ => ⟨o.slots, k b o (fun z => hc (by simp [z])) e⟩) (fun _ _ _ _ n => n)
    (fun b o hc e => ⟨o, k b o (fun z => hc (by simp [z])) e⟩) (fun _ _ e => e) (fun _ _ _ e => e) (fun b ps e => ⟨#[], by rw [e]; simp⟩) (fun m hm => ?_) (fun b u e => ?_) I.bare
  · have e : b = it := by simpa using hb
    subst e
    exact ⟨h1, hL, h2, h3⟩
  · obtain ⟨o, es, ep, ho, r⟩ := hm
    exact ⟨o, es, ep, k _ o (Ne.symm hL) ho, r⟩
  · refine (I.hok b u e).stay (fun c v hc q => k c v ?_ q) (fun _ q => q) fun _ _ q => q
    rcases hc with z | z
    · rw [z]; exact nit b u e
    · exact nit c _ z
theorem Inv.tok (I : Inv X pins σ H s) (t : Nat) : Inv X pins σ H { s with toks := t } := I.un (h' := s.heap) (t' := t) Un.refl I.hok
theorem Inv.kept {t' : Nat} (I : Inv X pins σ H s) (k : ∀ b u, s.heap.get? b = some u → h'.get? b = some u) : Inv X pins σ H { s with heap := h', toks := t' } := I.un (Un.kept k) (I.hok.kept k)
theorem Inv.laid {a : Addr} {o : HO} {t' : Nat} (I : Inv X pins σ H s) (k : ∀ b u, s.heap.get? b = some u → h'.get? b = some u) (hp : s.heap.objs.size ≤ a) (new : ObjOk X.prog X.w (upd H a o) h' a o) :
    Inv X pins σ (upd H a o) { s with heap := h', toks := t' } := I.un (Un.laid k hp (I.hok.fresh hp)) (I.hok.laid k hp new)
theorem Inv.write {x e : Addr} {o : HO} {t' : Nat} (I : Inv X pins σ H s) (mu : Mut (H x)) (he : e = x ∨ H e = some (.own x)) (k : ∀ b u, b ≠ e → s.heap.get? b = some u → h'.get? b = some u) (heo : ∃ u, h'.get? e = some u)
    (new : ObjOk X.prog X.w (upd H x o) h' x o) : Inv X pins σ (upd H x o) { s with heap := h', toks := t' } := I.un (Un.write mu he k heo) (I.hok.write mu he k heo new)
theorem Inv.weak {σ' : List (Option V)} (I : Inv X pins σ H s) (hl : σ'.length = σ.length) (w : ∀ (i : Nat) v, σ'[i]? = some (some v) → σ[i]? = some (some v)) : Inv X pins σ' H s :=
  ⟨I.ok, I.os, I.bare, I.base, let ⟨m, hn, hl'⟩ := I.loc; ⟨m, hn, fun i x v e1 e2 e3 => hl' i x v e1 (w i v e2) e3⟩, I.cell, I.free, I.freeC, I.pin, I.hok, hl.trans I.len⟩
theorem Inv.pins_of {pins' : List (Addr × Obj)} (I : Inv X pins σ H s) (h : ∀ p ∈ pins', s.heap.get? p.1 = some p.2 ∧ H p.1 = none ∧ p.1 ≠ X.env.locals ∧ p.1 ∉ X.fs ∧ ∀ v, p.2.data ≠ .cell v) : Inv X pins' σ H s :=
  ⟨I.ok, I.os, I.bare, I.base, I.loc, I.cell, I.free, I.freeC, fun p hp => (List.mem_append.mp hp).elim (fun z => I.pin p (List.mem_append_left _ z)) (h p), I.hok, I.len⟩

theorem nodup_ix {N : List Str} (hN : N.Nodup) {i j : Nat} {x : Str} (a : N[i]? = some x) (b : N[j]? = some x) : i = j := by
  obtain ⟨h1, e1⟩ := List.getElem?_eq_some_iff.mp a
  obtain ⟨h2, e2⟩ := List.getElem?_eq_some_iff.mp b
  exact (List.getElem_inj hN).mp (e1.trans e2.symm)

theorem store_ok2 {M : Model} {A : Around} {E : Value → Shared → Prop} {i : Nat} {x : Str} {v : V} {u : Value} {Q : Unit → Shared → Prop} (I : Inv X pins σ H s) (hN : X.N.Nodup) (hi : X.N[i]? = some x) (hx : Loc X.env.scope x) (r : RelV v u)
    (h : ∀ s', Inv X pins (σ.set i (some v)) H s' → (∃ a, Heap.SameBut a s.heap s'.heap ∧ (a = X.env.locals ∨ X.env.cells.lookup x = some a)) → Q () s') (hf : X.fn x = true ∨ X.env.scope.names.lookup x = some .local := by first | exact .inl rfl | exact .inr rfl | assumption) : wpAny M A (storeName X.env x u) Q E s := by
  obtain ⟨m, hn, hl⟩ := id I.loc
  have hcls : (X.env.scope.kind == .class || (X.env.scope.kind == .module && X.env.locals != X.env.globals)) = false := by rw [I.ok.kind]; rfl
  have hiσ : i < σ.length := by rw [I.len]; exact (List.getElem?_eq_some_iff.mp hi).1
  have cne := I.cne
  have tracked : ∀ {a : Addr} {h' : Heap}, (∃ o, s.heap.get? a = some o ∧ H a = none) → Heap.SameBut a s.heap h' → HOk X.prog X.w H h' := fun {a h'} ha hs b ob e => by
    obtain ⟨_, _, hfree⟩ := ha
    refine (I.hok b ob e).stay (fun c w' hc q => (hs.2 c ?_).trans q) (fun _ q => q) fun _ _ q => q
    rintro rfl
    rcases hc with rfl | hc
    · rw [hfree] at e; cases e
    · rw [hfree] at hc; cases hc
  rcases hx with hk | hk
  · refine wpAny_storeName_local hk hn (fun h' hn' hs => ?_) hcls
    obtain ⟨oL, _, _, hoL, _⟩ := id hn
    refine h _ ⟨I.ok, I.os, I.bare, ⟨fun b o e n hb hx => ?_, fun b o e n hb hx => ?_, I.base.free, fun b o e hx => ?_, I.base.tups, I.base.frzs, I.base.tbls⟩, ⟨_, hn', fun j y v' e1 e2 e3 => ?_⟩, fun y c e => ?_, I.free, I.freeC, fun p hp => ?_, tracked ⟨oL, hoL, I.free⟩ hs, by simpa using I.len⟩ ⟨_, hs, .inl rfl⟩
    · exact (hs.2 b (Nat.ne_of_lt (Nat.lt_of_lt_of_le (Heap.lt_size e) I.ok.above))).trans (I.base.keep b o e n hb hx)
    · obtain ⟨sl, e1⟩ := I.base.slot b o e n hb hx
      exact ⟨sl, (hs.2 b (Nat.ne_of_lt (Nat.lt_of_lt_of_le (Heap.lt_size e) I.ok.above))).trans e1⟩
    · obtain ⟨o', e1⟩ := I.base.there b o e hx
      exact ⟨o', (hs.2 b (Nat.ne_of_lt (Nat.lt_of_lt_of_le (Heap.lt_size e) I.ok.above))).trans e1⟩
    · by_cases hj : j = i
      · subst hj
        rw [hi] at e1; cases e1
        rw [List.getElem?_set_self hiσ] at e2
        cases e2
        exact ⟨u, r, .inl ⟨hk, by simp⟩⟩
      · rw [List.getElem?_set_ne (Ne.symm hj)] at e2
        obtain ⟨u', r', q⟩ := hl j y v' e1 e2 e3
        refine ⟨u', r', ?_⟩
        rcases q with ⟨k, e⟩ | ⟨k, c, e, z⟩
        · refine .inl ⟨k, ?_⟩
          have : y ≠ x := fun e => hj (nodup_ix hN e1 (e ▸ hi))
          simp [this, e]
        · exact .inr ⟨k, c, e, z.sameBut hs (cne y c e)⟩
    · obtain ⟨w', z⟩ := I.cell y c e
      exact ⟨w', z.sameBut hs (cne y c e)⟩
    · obtain ⟨e, n, ne, nf, d⟩ := I.pin p hp
      exact ⟨(hs.2 p.1 ne).trans e, n, ne, nf, d⟩
  · have hfn : X.fn x = true := by
      rcases hf with z | z
      · exact z
      · rw [z] at hk; cases hk
    obtain ⟨c, hc⟩ := I.ok.has x (.inl hk)
    obtain ⟨w', z⟩ := I.cell x c hc
    refine wpAny_storeName_cell I.ok.kind hk hc z (fun h' hc' hs => ?_)
    obtain ⟨oc, hoc, hocd⟩ := id z
    refine h { s with heap := h' } ⟨I.ok, I.os, I.bare, ⟨fun b o e n hb hx => ?_, fun b o e n hb hx => ?_, I.base.free, fun b o e hx => ?_, I.base.tups, I.base.frzs, I.base.tbls⟩, ⟨m, hn.sameBut hs (Ne.symm (cne x c hc)), fun j y v' e1 e2 e3 => ?_⟩, fun y c' e => ?_, I.free, I.freeC, fun p hp => ?_, tracked ⟨oc, hoc, I.freeC x c hc⟩ hs, by simpa using I.len⟩ ⟨c, hs, .inr hc⟩
    · exact (hs.2 b (Nat.ne_of_lt (Nat.lt_of_lt_of_le (Heap.lt_size e) (I.ok.cab x c hfn hc)))).trans (I.base.keep b o e n hb hx)
    · obtain ⟨sl, e1⟩ := I.base.slot b o e n hb hx
      exact ⟨sl, (hs.2 b (Nat.ne_of_lt (Nat.lt_of_lt_of_le (Heap.lt_size e) (I.ok.cab x c hfn hc)))).trans e1⟩
    · obtain ⟨o', e1⟩ := I.base.there b o e hx
      exact ⟨o', (hs.2 b (Nat.ne_of_lt (Nat.lt_of_lt_of_le (Heap.lt_size e) (I.ok.cab x c hfn hc)))).trans e1⟩
    · by_cases hj : j = i
      · subst hj
        rw [hi] at e1; cases e1
        rw [List.getElem?_set_self hiσ] at e2
        cases e2
        exact ⟨u, r, .inr ⟨.inl hk, c, hc, hc'⟩⟩
      · rw [List.getElem?_set_ne (Ne.symm hj)] at e2
        obtain ⟨u', r', q⟩ := hl j y v' e1 e2 e3
        refine ⟨u', r', ?_⟩
        rcases q with q | ⟨k, c', e, z'⟩
        · exact .inl q
        · refine .inr ⟨k, c', e, z'.sameBut hs ?_⟩
          rintro rfl
          exact hj (nodup_ix hN e1 (I.ok.inj _ _ _ e hc ▸ hi))
    · by_cases hcc : c' = c
      · subst hcc; exact ⟨_, hc'⟩
      · obtain ⟨w2, z2⟩ := I.cell y c' e
        exact ⟨w2, z2.sameBut hs hcc⟩
    · obtain ⟨e, n, ne, nf, d⟩ := I.pin p hp
      refine ⟨(hs.2 p.1 ?_).trans e, n, ne, nf, d⟩
      intro q
      rw [q, hoc] at e
      have q' : oc = p.2 := Option.some.inj e
      exact d w' (by rw [← q']; exact hocd)
theorem store_ok {M : Model} {A : Around} {E : Value → Shared → Prop} {i : Nat} {x : Str} {v : V} {u : Value} {Q : Unit → Shared → Prop} (I : Inv X pins σ H s) (hN : X.N.Nodup) (hi : X.N[i]? = some x) (hx : Loc X.env.scope x) (r : RelV v u)
    (h : ∀ s', Inv X pins (σ.set i (some v)) H s' → Q () s') (hf : X.fn x = true ∨ X.env.scope.names.lookup x = some .local := by first | exact .inl rfl | exact .inr rfl | assumption) : wpAny M A (storeName X.env x u) Q E s :=
  store_ok2 I hN hi hx r (fun s' I' _ => h s' I') hf
theorem Inv.call' {s' : Shared} {ch : List Addr} (I : Inv X pins σ H s) (ho : s'.os = s.os) (u : Un (frs X.stack) ch H H' s.heap s'.heap) (hok : HOk X.prog X.w H' s'.heap) (hg : AllBare s'.gens)
    (hch : ∀ b ∈ ch, (b ∈ X.ex ∨ X.s_0.heap.objs.size ≤ b) ∧ b ≠ X.env.locals ∧ (∀ x c, X.env.cells.lookup x = some c → c ≠ b) ∧ ∀ p ∈ X.pn ++ pins, p.1 ≠ b) : Inv X pins σ H' s' := by
  obtain ⟨h', g', d', t', o'⟩ := s'
  have e : o' = s.os := ho
  subst e
  exact I.call (g' := g') (t' := t') (d' := d') u hok hg hch
end

abbrev XK := Value → Option Addr → Hp → Prop
abbrev St := List (Option V)
abbrev VK := V → Hp → Prop
abbrev TE := St → Hp → VK → Prop
abbrev TT := St → Hp → (Bool → Hp → Prop) → Prop
abbrev TA := St → Hp → (List V → Hp → Prop) → Prop
structure Ends where
  nx : St → Hp → Prop
  rt : VK
  bk : St → Hp → Prop := fun _ _ => False
  ct : St → Hp → Prop := fun _ _ => False
abbrev TS := Ends → St → Hp → Prop

def EP (X : Cx) (pins : List (Addr × Obj)) (σ : St) (Q : VK) (u : Value) (s' : Shared) : Prop := ∃ v H', Inv X pins σ H' s' ∧ RelV v u ∧ Q v H'
def TP (X : Cx) (pins : List (Addr × Obj)) (σ : St) (Q : Bool → Hp → Prop) (b : Bool) (s' : Shared) : Prop := ∃ H', Inv X pins σ H' s' ∧ Q b H'
def AP (X : Cx) (pins : List (Addr × Obj)) (σ : St) (Q : List V → Hp → Prop) (us : List Value) (s' : Shared) : Prop := ∃ vs H', Inv X pins σ H' s' ∧ Vals vs us ∧ Q vs H'
def SP (X : Cx) (pins : List (Addr × Obj)) (D : Ends) (f : Flow) (s' : Shared) : Prop :=
  match f with
  | .next => ∃ σ' H', Inv X pins σ' H' s' ∧ D.nx σ' H'
  | .brk => ∃ σ' H', Inv X pins σ' H' s' ∧ D.bk σ' H'
  | .cont => ∃ σ' H', Inv X pins σ' H' s' ∧ D.ct σ' H'
  | .ret u => ∃ v σ' H', Inv X pins σ' H' s' ∧ RelV v u ∧ D.rt v H'

def PE (X : Cx) (e : Expr) (t : TE) : Prop :=
  ∀ (pins : List (Addr × Obj)) (s : Shared) (σ : St) (H : Hp) (Q : VK), Inv X pins σ H s → t σ H Q → wpAny (model X.prog X.w) X.A (eval e X.env) (EP X pins σ Q) X.xe s
def PT (X : Cx) (e : Expr) (t : TT) : Prop :=
  ∀ (pins : List (Addr × Obj)) (s : Shared) (σ : St) (H : Hp) (Q : Bool → Hp → Prop), Inv X pins σ H s → t σ H Q → wpAny (model X.prog X.w) X.A (isTrue e X.env (eval e X.env)) (TP X pins σ Q) X.xe s
def PW (X : Cx) (e : Expr) (t : TT) : Prop :=
  ∀ (whole : Sem Value) (pins : List (Addr × Obj)) (s : Shared) (σ : St) (H : Hp) (Q : Bool → Hp → Prop), Inv X pins σ H s → t σ H Q → wpAny (model X.prog X.w) X.A (isTrue e X.env whole) (TP X pins σ Q) X.xe s
theorem PW.pt {X : Cx} {e : Expr} {t : TT} (h : PW X e t) : PT X e t := h _
def PA (X : Cx) (es : List Expr) (t : TA) : Prop :=
  ∀ (pos : Pos) (pins : List (Addr × Obj)) (s : Shared) (σ : St) (H : Hp) (Q : List V → Hp → Prop), Inv X pins σ H s → t σ H Q → wpAny (model X.prog X.w) X.A (spliced (backTo pos (starEach es X.env))) (AP X pins σ Q) X.xe s
def PS (X : Cx) (st : Stmt) (t : TS) : Prop :=
  ∀ (pins : List (Addr × Obj)) (s : Shared) (σ : St) (H : Hp) (D : Ends), Inv X pins σ H s → t D σ H → wpAny (model X.prog X.w) X.A (exec st X.env) (SP X pins D) X.xe s
def PSs (X : Cx) (st : List Stmt) (t : TS) : Prop :=
  ∀ (pins : List (Addr × Obj)) (s : Shared) (σ : St) (H : Hp) (D : Ends), Inv X pins σ H s → t D σ H → wpAny (model X.prog X.w) X.A (execs st X.env) (SP X pins D) X.xe s
theorem thn {α : Type} {t : Sem α} {Q Q' : α → Shared → Prop} {M : Model} {A : Around} {E : Value → Shared → Prop} {s : Shared} (h : wpAny M A t Q E s) (hQ : ∀ a s, Q a s → Q' a s) : wpAny M A t Q' E s := wpAny_mono h hQ fun _ _ x => x
end L2

namespace L2
open PySem PySem.Spec PyProof.Rows
section
variable {X : Cx}

theorem bin {a b : Expr} {ta tb : TE} (ha : PE X a ta) (hb : PE X b tb) {pins : List (Addr × Obj)} {s : Shared} {σ : St} {H : Hp} {R : V → V → Hp → Prop} (I : Inv X pins σ H s) (h : ta σ H fun x H1 => tb σ H1 fun y H2 => R x y H2)
    {α : Type} {Q : α → Shared → Prop} {f : Value → Value → Sem α}
    (hf : ∀ v u s2 x y H2, Inv X pins σ H2 s2 → RelV x v → RelV y u → R x y H2 → wpAny (model X.prog X.w) X.A (f v u) Q X.xe s2) :
    wpAny (model X.prog X.w) X.A (eval a X.env) (fun v s₁ => wpAny (model X.prog X.w) X.A (eval b X.env) (fun u s₂ => wpAny (model X.prog X.w) X.A (f v u) Q X.xe s₂) X.xe s₁) X.xe s := by
  refine thn (ha pins s σ H _ I h) fun v s1 ⟨x, H1, I1, r1, q1⟩ => ?_
  refine thn (hb pins s1 σ H1 _ I1 q1) fun u s2 ⟨y, H2, I2, r2, q2⟩ => ?_
  exact hf v u s2 x y H2 I2 r1 r2 q2

def tVar (i : Nat) : TE := fun σ H Q => ∃ v, σ[i]? = some (some v) ∧ Q v H
def tC (v : V) : TE := fun _ H Q => Q v H
theorem pe_var {i : Nat} {x : Str} {pos : Pos} (hN : X.N[i]? = some x) (hv : Vis X.env.scope x) (hd : (x == ("__debug__" : Str)) = false := by decide) (hcd : (x == ("__classdict__" : Str)) = false := by decide) : PE X (.Name x pos) (tVar i) := by
  intro pins s σ H Q I h
  obtain ⟨v, e, h⟩ := h
  obtain ⟨m, hn, hl⟩ := I.loc
  obtain ⟨u, r, l⟩ := hl i x v hN e hv
  have fin : EP X pins σ Q u s := ⟨v, H, I, r, h⟩
  rcases l with ⟨hk, hm⟩ | ⟨hk, c, hc, hcell⟩
  · exact wpAny_Name (wpAny_loadName_local I.ok.kind hk hn hm fin) hd
  · rcases hk with hk | hk
    · exact wpAny_Name (wpAny_loadName_cell I.ok.kind hk hc hcell fin) hd
    · exact wpAny_Name (wpAny_loadName_free I.ok.kind hk hc hcell fin hcd) hd
theorem pe_int {i j pos} : PE X (.Constant (.int i) j pos) (tC (.int i)) := fun _ _ _ H _ I h => wpAny_Constant_int ⟨.int i, H, I.tok _, ⟨_, rfl⟩, h⟩
theorem pe_bl {b j pos} : PE X (.Constant (.bool b) j pos) (tC (.bl b)) := fun _ _ _ H _ I h => Constant_bool ⟨.bl b, H, I, rfl, h⟩
theorem pe_non {j pos} : PE X (.Constant .none j pos) (tC .non) := fun _ _ _ H _ I h => Constant_none ⟨.non, H, I, rfl, h⟩
def Gl (X : Cx) (x : Str) : Prop := X.env.kindOf x = some .globalImplicit
theorem ld_glob {E : Value → Shared → Prop} {pins : List (Addr × Obj)} {s : Shared} {σ : St} {H : Hp} {x : Str} {u : Value} {pos : Pos} {Q : Value → Shared → Prop} (I : Inv X pins σ H s) (hg : Gl X x) (hm : X.mg x = some u) (h : Q u s)
    (hd : (x == ("__debug__" : Str)) = false := by decide) : wpAny (model X.prog X.w) X.A (eval (.Name x pos) X.env) Q E s :=
  Calls.Name_function_global I.ok.kind hg (Calls.loadGlobal_global (by rw [I.ok.glob]; exact I.mod.glob.keeps I.bk) hm h) hd
theorem ld_blt {E : Value → Shared → Prop} {pins : List (Addr × Obj)} {s : Shared} {σ : St} {H : Hp} {x : Str} {u : Value} {pos : Pos} {Q : Value → Shared → Prop} (I : Inv X pins σ H s) (hg : Gl X x) (hm : X.mg x = none) (hv : bootBuiltins x = some u) (h : Q u s)
    (hn : x ≠ "__name__" := by decide) (hd : (x == ("__debug__" : Str)) = false := by decide) : wpAny (model X.prog X.w) X.A (eval (.Name x pos) X.env) Q E s := by
  obtain ⟨mb, h1, h2⟩ := I.mod.blt
  exact Calls.Name_function_global I.ok.kind hg (Calls.loadGlobal_builtin (by rw [I.ok.glob]; exact I.mod.glob.keeps I.bk) hm (by rw [I.ok.blt]; exact h1.keeps I.bk) ((h2 x hn).trans hv) h) hd
theorem pe_glob {x : Str} {v : V} {u : Value} {pos : Pos} (hg : Gl X x) (hm : X.mg x = some u) (r : RelV v u) (hd : (x == ("__debug__" : Str)) = false := by decide) : PE X (.Name x pos) (tC v) :=
  fun _ _ _ H _ I h => ld_glob I hg hm ⟨v, H, I, r, h⟩ hd
variable {a b : Expr} {ta tb : TE} {pos : Pos}
def PC (X : Cx) (op : CmpOp) (a b : Expr) (t : TE) : Prop :=
  ∀ (pins : List (Addr × Obj)) (s : Shared) (σ : St) (H : Hp) (Q : VK), Inv X pins σ H s → t σ H Q →
    wpAny (model X.prog X.w) X.A (eval a X.env) (fun v s₁ => wpAny (model X.prog X.w) X.A (eval b X.env) (fun u s₂ => wpAny (model X.prog X.w) X.A (compareOp op v u) (EP X pins σ Q) X.xe s₂) X.xe s₁) X.xe s
theorem nobehind (b : Expr) {op : CmpOp} (h : op ≠ .In) (h2 : op ≠ .NotIn) : behindInMarks op b = false := by
  have e1 : (op == CmpOp.In) = false := by cases op <;> first | rfl | exact absurd rfl h
  have e2 : (op == CmpOp.NotIn) = false := by cases op <;> first | rfl | exact absurd rfl h2
  cases b <;> simp [behindInMarks, e1, e2]
def tIsN (ta : TE) : TE := fun σ H Q => ta σ H fun x H1 => Q (.bl (decide (x = .non))) H1
theorem RelV.none_iff {x : V} {v : Value} (r : RelV x v) : (v == Value.none) = decide (x = .non) := by
  cases x with
  | non => cases r; rfl
  | bl _ => cases r; rfl
  | int _ => obtain ⟨t, rfl⟩ := r; rfl
  | str _ => obtain ⟨t, rfl⟩ := r; rfl
  | byt _ => obtain ⟨t, rfl⟩ := r; rfl
  | flt _ => obtain ⟨t, rfl⟩ := r; rfl
  | ref _ => cases r; rfl
  | ty _ => cases r; rfl
theorem pc_isN {j pos'} (ha : PE X a ta) : PC X .Is a (.Constant .none j pos') (tIsN ta) := by
  intro pins s σ H Q I h
  refine thn (ha pins s σ H _ I h) fun v s1 ⟨x, H1, I1, r1, q1⟩ => ?_
  exact Constant_none (is_none_gen ⟨.bl _, H1, I1, by rw [r1.none_iff]; rfl, q1⟩)
def tB (t : TE) : TT := fun σ H Q => t σ H fun x H1 => ∃ c, x = .bl c ∧ Q c H1
theorem pe_cmp {op : CmpOp} {t : TE} (h : PC X op a b t) (h1 : behindInMarks op b = false := by first | exact nobehind _ (by decide) (by decide) | rfl) : PE X (.Compare a [op] [b] pos) t := fun pins s σ H Q I hw => wpAny_Compare1 (h pins s σ H Q I hw) h1
theorem pt_cmp {op : CmpOp} {t : TE} (h : PC X op a b t) (h1 : behindInMarks op b = false := by first | exact nobehind _ (by decide) (by decide) | rfl) : PT X (.Compare a [op] [b] pos) (tB t) := by
  intro pins s σ H Q I hw
  refine wpAny_isTrue_Compare1 (thn (h pins s σ H _ I hw) fun v s1 h1 => thn h1 fun u s2 h2 => thn h2 fun c s3 ⟨x, H1, I1, r1, q1⟩ => ?_) h1
  obtain ⟨d, rfl, q⟩ := q1
  cases r1
  exact wpAny_truthy_bool ⟨H1, I1, q⟩
theorem pt_val {e : Expr} {t : TE} (h : PE X e t) (he : ∀ whole, isTrue e X.env whole = (do let v ← whole; standAt e.pos; holding [v] (truthy v)) := by intro _; rfl) : PT X e (tB t) := by
  intro pins s σ H Q I hw
  refine isTrue_plain (thn (h pins s σ H _ I hw) fun v s1 ⟨x, H1, I1, r1, q1⟩ => ?_) (he _)
  obtain ⟨d, rfl, q⟩ := q1
  cases r1
  exact wpAny_truthy_bool ⟨H1, I1, q⟩

variable {tA tB' : TT} {rest : List Expr}
def tOr (t u : TT) : TT := fun σ H Q => t σ H fun c H1 => if c = true then Q true H1 else u σ H1 Q
def tNot (t : TT) : TT := fun σ H Q => t σ H fun c H1 => Q (!c) H1
theorem pw_or1 (ha : PT X a tA) : PW X (.BoolOp .Or [a] pos) tA := by
  intro wh pins s σ H Q I h
  refine isTrue_or (thn (ha pins s σ H Q I h) fun c s1 e => ?_)
  cases c with
  | false => exact isTrue_or_nil e
  | true => exact e
theorem pw_or (ha : PT X a tA) (hb : PW X (.BoolOp .Or (b :: rest) pos) tB') : PW X (.BoolOp .Or (a :: b :: rest) pos) (tOr tA tB') := by
  intro wh pins s σ H Q I h
  refine isTrue_or (thn (ha pins s σ H _ I h) fun c s1 ⟨H1, I1, q1⟩ => ?_)
  cases c with
  | true => exact ⟨H1, I1, q1⟩
  | false => exact hb wh pins s1 σ H1 Q I1 q1
theorem pt_not (ha : PT X a tA) : PT X (.UnaryOp .Not a pos) (tNot tA) := by
  intro pins s σ H Q I h
  exact isTrue_not (ha pins s σ H (fun c H1 => Q (!c) H1) I h)
def tAndV (ta tb : TE) : TE := fun σ H Q => ta σ H fun x H1 => ∃ c, x = .bl c ∧ if c = true then tb σ H1 Q else Q (.bl false) H1
def tOrV (ta tb : TE) : TE := fun σ H Q => ta σ H fun x H1 => ∃ c, x = .bl c ∧ if c = true then Q (.bl true) H1 else tb σ H1 Q
theorem pe_one {op} {t : TE} (h : PE X a t) : PE X (.BoolOp op [a] pos) t := fun pins s σ H Q I hw => BoolOp_one (h pins s σ H Q I hw)
theorem pe_and (ha : PE X a ta) (hb : PE X (.BoolOp .And (b :: rest) pos) tb) : PE X (.BoolOp .And (a :: b :: rest) pos) (tAndV ta tb) := by
  intro pins s σ H Q I h
  refine BoolOp_and (thn (ha pins s σ H _ I h) fun v s1 ⟨x, H1, I1, r1, q1⟩ => ?_)
  obtain ⟨c, rfl, q1⟩ := q1
  cases r1
  refine wpAny_truthy_bool ?_
  cases c with
  | true => exact hb pins s1 σ H1 Q I1 q1
  | false => exact ⟨.bl false, H1, I1, rfl, q1⟩
theorem pe_or (ha : PE X a ta) (hb : PE X (.BoolOp .Or (b :: rest) pos) tb) : PE X (.BoolOp .Or (a :: b :: rest) pos) (tOrV ta tb) := by
  intro pins s σ H Q I h
  refine BoolOp_or (thn (ha pins s σ H _ I h) fun v s1 ⟨x, H1, I1, r1, q1⟩ => ?_)
  obtain ⟨c, rfl, q1⟩ := q1
  cases r1
  refine wpAny_truthy_bool ?_
  cases c with
  | false => exact hb pins s1 σ H1 Q I1 q1
  | true => exact ⟨.bl true, H1, I1, rfl, q1⟩
def tIf (t : TT) (ta tb : TE) : TE := fun σ H Q => t σ H fun c H1 => if c = true then ta σ H1 Q else tb σ H1 Q
theorem pe_ifExp {c : Expr} (hc : PT X c tA) (ha : PE X a ta) (hb : PE X b tb) : PE X (.IfExp c a b pos) (tIf tA ta tb) := by
  intro pins s σ H Q I h
  refine wpAny_IfExp (thn (hc pins s σ H _ I h) fun d s1 ⟨H1, I1, q1⟩ => ?_)
  cases d with
  | true => exact ha pins s1 σ H1 Q I1 q1
  | false => exact hb pins s1 σ H1 Q I1 q1
end
end L2

namespace L2
open PySem PySem.Spec PyProof.Rows

def SqL (K : PySem.W.Frag) (H : Hp) (a : Addr) (xs : List V) : Prop :=
  Rd H a (.lst xs) ∨
    ∃ (o : Obj) (its : Array Value) (n : Nat), K.lookup a = some o ∧ o.cls = .type "list" ∧ o.dict = none ∧ o.data = .seq its n ∧ its.size ≤ sizeLine ∧ Vals xs its.toList
def SqT (K : PySem.W.Frag) (H : Hp) (a : Addr) (xs : List V) : Prop :=
  Rd H a (.tup xs) ∨
    ∃ (o : Obj) (its : Array Value) (n : Nat), K.lookup a = some o ∧ o.cls = .type "tuple" ∧ o.data = .seq its n ∧ its.size ≤ sizeLine ∧ Vals xs its.toList
def absV : Value → Option V
  | .none => some .non
  | .bool b => some (.bl b)
  | .int i _ => some (.int i)
  | .str x _ => some (.str x)
  | .bytes b _ => some (.byt b)
  | .float b _ => some (.flt b)
  | .ref a => some (.ref a)
  | .type n => some (.ty n)
  | _ => none
theorem RelV.abs {x : V} {u : Value} (r : RelV x u) : absV u = some x := by
  cases x with
  | non => cases r; rfl
  | bl _ => cases r; rfl
  | int _ => obtain ⟨t, rfl⟩ := r; rfl
  | str _ => obtain ⟨t, rfl⟩ := r; rfl
  | byt _ => obtain ⟨t, rfl⟩ := r; rfl
  | flt _ => obtain ⟨t, rfl⟩ := r; rfl
  | ref _ => cases r; rfl
  | ty _ => cases r; rfl
theorem RelV.inj {x y : V} {u : Value} (r : RelV x u) (q : RelV y u) : x = y := Option.some.inj (r.abs.symm.trans q.abs)
theorem Vals.inj : ∀ {xs ys : List V} {us : List Value}, Vals xs us → Vals ys us → xs = ys
  | _, _, _, .nil, .nil => rfl
  | _, _, _, .cons r t, .cons r' t' => by rw [r.inj r', Vals.inj t t']
section
variable {X : Cx} {pins : List (Addr × Obj)} {σ : St} {H : Hp} {s : Shared} {a : Addr} {xs ys : List V}
theorem SqL.of {K : PySem.W.Frag} (h : H a = some (.lst xs)) : SqL K H a xs := .inl (.inl h)
theorem SqT.of {K : PySem.W.Frag} (h : H a = some (.tup xs)) : SqT K H a xs := .inl (.inl h)
theorem Inv.list (I : Inv X pins σ H s) (h : SqL X.K H a xs) : ∃ its : List Value, Vals xs its ∧ PlainL s.heap a its.toArray ∧ xs.length ≤ sizeLine := by
  rcases h with h | ⟨o, its, n, hk, hc, hd, hs, hz, r⟩
  · obtain ⟨z, its, n, r, e⟩ := h.ok I.hok
    exact ⟨its, r, ⟨_, n, e, rfl, rfl, rfl⟩, z⟩
  · refine ⟨its.toList, r, ⟨o, n, I.kIn a o hk, hc, hd, by simpa using hs⟩, ?_⟩
    have e := r.length
    simp only [Array.length_toList] at e
    omega
theorem Inv.tuple (I : Inv X pins σ H s) (h : SqT X.K H a xs) : ∃ its : List Value, Vals xs its ∧ IsTup s.heap a its.toArray ∧ xs.length ≤ sizeLine := by
  rcases h with h | ⟨o, its, n, hk, hc, hs, hz, r⟩
  · obtain ⟨z, its, r, p⟩ := h.ok I.hok
    exact ⟨its, r, p, z⟩
  · refine ⟨its.toList, r, ⟨o, I.kIn a o hk, hc, n, by simpa using hs⟩, ?_⟩
    have e := r.length
    simp only [Array.length_toList] at e
    omega
theorem Inv.list_inj (I : Inv X pins σ H s) (h : SqL X.K H a xs) (h' : SqL X.K H a ys) : xs = ys := by
  obtain ⟨its, r, ⟨o, n, e, _, _, d⟩, _⟩ := I.list h
  obtain ⟨its', r', ⟨o', n', e', _, _, d'⟩, _⟩ := I.list h'
  rw [e] at e'; cases e'
  rw [d] at d'
  injection d' with d1 _
  have : its = its' := by simpa using congrArg Array.toList d1
  subst this
  exact r.inj r'
end

abbrev Cx.wish (X : Cx) (E : Value → Shared → Prop) : Cx := { X with xe := E }
abbrev Cx.nox (X : Cx) : Cx := X.wish fun _ _ => False
theorem Cx.Ok.wish {X : Cx} (ok : X.Ok) (E : Value → Shared → Prop) : (X.wish E).Ok :=
  ⟨ok.mod, ok.kind, ok.glob, ok.blt, ok.above, ok.inj, ok.has, ok.cab, ok.hd, ok.frames, ok.stk, ok.exf, ok.bs, ok.bsz, ok.noex, ok.exfs, ok.funs, ok.frf⟩
theorem Cx.Ok.unwish {X : Cx} {E : Value → Shared → Prop} (ok : (X.wish E).Ok) : X.Ok :=
  ⟨ok.mod, ok.kind, ok.glob, ok.blt, ok.above, ok.inj, ok.has, ok.cab, ok.hd, ok.frames, ok.stk, ok.exf, ok.bs, ok.bsz, ok.noex, ok.exfs, ok.funs, ok.frf⟩
section
variable {X : Cx} {pins : List (Addr × Obj)} {σ : St} {H : Hp} {s : Shared} {E : Value → Shared → Prop}
theorem Inv.wish (I : Inv X pins σ H s) (E : Value → Shared → Prop) : Inv (X.wish E) pins σ H s := ⟨I.ok.wish E, I.os, I.bare, I.base, I.loc, I.cell, I.free, I.freeC, I.pin, I.hok, I.len⟩
theorem Inv.unwish (I : Inv (X.wish E) pins σ H s) : Inv X pins σ H s := ⟨I.ok.unwish, I.os, I.bare, I.base, I.loc, I.cell, I.free, I.freeC, I.pin, I.hok, I.len⟩
theorem SP.unwish {D : Ends} {f : Flow} {s' : Shared} (h : SP (X.wish E) pins D f s') : SP X pins D f s' := by
  cases f with
  | next => obtain ⟨σ', H', I, q⟩ := h; exact ⟨σ', H', I.unwish, q⟩
  | brk => obtain ⟨σ', H', I, q⟩ := h; exact ⟨σ', H', I.unwish, q⟩
  | cont => obtain ⟨σ', H', I, q⟩ := h; exact ⟨σ', H', I.unwish, q⟩
  | ret u => obtain ⟨v, σ', H', I, r, q⟩ := h; exact ⟨v, σ', H', I.unwish, r, q⟩
theorem PSs.nox {st : List Stmt} {t : TS} (h : PSs X.nox st t) : PSs X st t := fun pins s σ H D I hw =>
  wpAny_mono (h pins s σ H D (I.wish _) hw) (fun _ _ q => q.unwish) fun _ _ z => False.elim z
end

section
variable {X : Cx} {st : Stmt} {rest : List Stmt} {t u : TS} {e : Expr} {te : TE} {pos : Pos}
def tNext : TS := fun D σ H => D.nx σ H
def tSeq (t u : TS) : TS := fun D σ H => t { D with nx := u D } σ H
theorem pss_nil : PSs X [] tNext := fun _ _ σ H _ I h => wpAny_execs_nil ⟨σ, H, I, h⟩
theorem pss_cons (h1 : PS X st t) (h2 : PSs X rest u) : PSs X (st :: rest) (tSeq t u) := by
  intro pins s σ H D I h
  refine wpAny_execs_cons (thn (h1 pins s σ H { D with nx := u D } I h) fun f s1 q => ?_)
  cases f with
  | next =>
    obtain ⟨σ', H', I', q⟩ := q
    exact h2 pins s1 σ' H' D I' q
  | ret v => exact q
  | brk => exact q
  | cont => exact q
theorem pss_one (h1 : PS X st t) : PSs X [st] t := by
  intro pins s σ H D I h
  refine wpAny_execs_cons (thn (h1 pins s σ H D I h) fun f s1 q => ?_)
  cases f with
  | next => exact wpAny_execs_nil q
  | ret v => exact q
  | brk => exact q
  | cont => exact q
theorem Inv.quiet {pins : List (Addr × Obj)} {σ : St} {H : Hp} {s : Shared} (I : Inv X pins σ H s) : interactive X.env = false := by simp [interactive, I.ok.kind]
def tDrop (te : TE) : TS := fun D σ H => te σ H fun _ H1 => D.nx σ H1
theorem ps_expr (he : PE X e te) (hs : swapsWith e none pos.line X.env = pure false := by rfl) : PS X (.Expr e pos) (tDrop te) := by
  intro pins s σ H D I h
  exact wpAny_Expr_any (thn (he pins s σ H _ I h) fun v s1 ⟨x, H1, I1, r1, q1⟩ => ⟨σ, H1, I1, q1⟩) I.quiet hs
def tRet (te : TE) : TS := fun D σ H => te σ H D.rt
theorem ps_ret (he : PE X e te) : PS X (.Return (some e) pos) (tRet te) := by
  intro pins s σ H D I h
  exact wpAny_Return_some (thn (he pins s σ H _ I h) fun v s1 ⟨x, H1, I1, r1, q1⟩ => ⟨x, σ, H1, I1, r1, q1⟩)
def tIfS (c : TT) (t u : TS) : TS := fun D σ H => c σ H fun b H1 => if b = true then t D σ H1 else u D σ H1
theorem ps_if {c : Expr} {a b : List Stmt} {tc : TT} (hc : PT X c tc) (ha : PSs X a t) (hb : PSs X b u) : PS X (.If c a b pos) (tIfS tc t u) := by
  intro pins s σ H D I h
  refine wpAny_If (thn (hc pins s σ H _ I h) fun d s1 ⟨H1, I1, q1⟩ => ?_)
  cases d with
  | true => exact ha pins s1 σ H1 D I1 q1
  | false => exact hb pins s1 σ H1 D I1 q1
end

abbrev TG := V → St → Hp → (St → Hp → Prop) → Prop
abbrev TGs := List V → St → Hp → (St → Hp → Prop) → Prop
def PG (X : Cx) (target : Expr) (t : TG) : Prop :=
  ∀ (pins : List (Addr × Obj)) (s : Shared) (σ : St) (H : Hp) (v : V) (u : Value) (Q : St → Hp → Prop), Inv X pins σ H s → RelV v u → t v σ H Q →
    wpAny (model X.prog X.w) X.A (assign target X.env u) (fun _ s' => ∃ σ' H', Inv X pins σ' H' s' ∧ Q σ' H') X.xe s
def PGs (X : Cx) (ts : List Expr) (t : TGs) : Prop :=
  ∀ (pins : List (Addr × Obj)) (s : Shared) (σ : St) (H : Hp) (vs : List V) (us : List Value) (Q : St → Hp → Prop), Inv X pins σ H s → Vals vs us → t vs σ H Q →
    wpAny (model X.prog X.w) X.A (assignInOrder ((assignEach ts X.env).map (·.2)) us) (fun _ s' => ∃ σ' H', Inv X pins σ' H' s' ∧ Q σ' H') X.xe s
abbrev TSet := V → V → V → Hp → (Hp → Prop) → Prop
def PSet (X : Cx) (t : TSet) : Prop :=
  ∀ (pins : List (Addr × Obj)) (s : Shared) (σ : St) (H : Hp) (o i v : V) (ov iv u : Value) (Q : Hp → Prop), Inv X pins σ H s → RelV o ov → RelV i iv → RelV v u → t o i v H Q →
    wpAny (model X.prog X.w) X.A (setItem ov iv u) (fun _ s' => ∃ H', Inv X pins σ H' s' ∧ Q H') X.xe s
abbrev TIp := V → V → Hp → VK → Prop
def PIp (X : Cx) (op : Operator) (t : TIp) : Prop :=
  ∀ (pins : List (Addr × Obj)) (s : Shared) (σ : St) (H : Hp) (x y : V) (v u : Value) (Q : VK), Inv X pins σ H s → RelV x v → RelV y u → t x y H Q →
    wpAny (model X.prog X.w) X.A (inplaceOp op v u) (EP X pins σ Q) X.xe s
section
variable {X : Cx} {pos : Pos}
def gName (i : Nat) : TG := fun v σ H Q => Q (σ.set i (some v)) H
theorem pg_name {i : Nat} {x : Str} (hN : X.N.Nodup) (hi : X.N[i]? = some x) (hx : Loc X.env.scope x) (hf : X.fn x = true ∨ X.env.scope.names.lookup x = some .local := by first | exact .inl rfl | exact .inr rfl | assumption) : PG X (.Name x pos) (gName i) := by
  intro pins s σ H v u Q I r h
  exact wpAny_assign_Name (store_ok I hN hi hx r (fun s' I' => ⟨_, H, I', h⟩) hf)
def gNil : TGs := fun vs σ H Q => vs = [] ∧ Q σ H
def gCons (t : TG) (u : TGs) : TGs := fun vs σ H Q => ∃ v r, vs = v :: r ∧ t v σ H fun σ' H' => u r σ' H' Q
theorem pgs_nil : PGs X [] gNil := by
  intro pins s σ H vs us Q I r h
  obtain ⟨e, h⟩ := h
  subst e
  cases r
  exact assignInOrder_nil ⟨σ, H, I, h⟩
theorem pgs_cons {e : Expr} {es : List Expr} {t : TG} {u : TGs} (h1 : PG X e t) (h2 : PGs X es u)
    (hs : (assignEach (e :: es) X.env).map (·.2) = assign e X.env :: (assignEach es X.env).map (·.2) := by rfl) : PGs X (e :: es) (gCons t u) := by
  intro pins s σ H vs us Q I r h
  obtain ⟨v, vr, e1, h⟩ := h
  subst e1
  cases r with
  | cons r rr =>
    rw [hs]
    refine assignInOrder_cons (thn (h1 pins s σ H _ _ _ I r h) fun _ s1 ⟨σ1, H1, I1, q1⟩ => ?_)
    exact h2 pins s1 σ1 H1 _ _ Q I1 rr q1
def gTup (K : PySem.W.Frag) (n : Nat) (t : TGs) : TG := fun v σ H Q => ∃ a xs, v = .ref a ∧ SqT K H a xs ∧ xs.length = n ∧ t xs σ H Q
theorem pg_tup {es : List Expr} {k : Nat} {t : TGs} {n : Nat} (hc : X.calm = true) (h : PGs X es t)
    (hn : (assignEach es X.env).length = n := by rfl) (hst : (assignEach es X.env).findIdx? (·.1) = none := by rfl) : PG X (.Tuple es k pos) (gTup X.K n t) := by
  intro pins s σ H v u Q I r hw
  obtain ⟨a, xs, e1, hq, hl, hw⟩ := hw
  subst e1
  cases r
  obtain ⟨its, rv, ht, hz⟩ := I.tuple hq
  refine assign_Tuple_tuple (I.ok.hd hc) ht (by simp [hn, ← hl, rv.length]) hst fun h' hx => ?_
  have I1 : Inv X pins σ H { s with heap := h' } := I.kept (t' := s.toks) fun b o e => hx b o (Nat.ne_of_lt (Heap.lt_size e)) e
  exact h pins _ σ H xs _ Q I1 (by simpa using rv) hw
def gSub (to ti : TE) (t : TSet) : TG := fun v σ H Q => to σ H fun o H1 => ti σ H1 fun i H2 => t o i v H2 fun H3 => Q σ H3
theorem pg_sub {o i : Expr} {to ti : TE} {t : TSet} (ho : PE X o to) (hi : PE X i ti) (hs : PSet X t)
    (ha : ∀ v, assign (.Subscript o i pos) X.env v = (do
      let ov ← holding [v] (eval o X.env)
      let iv ← holding [v, ov] (eval i X.env)
      standAt pos
      holding [v, ov, iv] (setItem ov iv v)
      release [v, ov, iv] []) := by intro _; rfl) : PG X (.Subscript o i pos) (gSub to ti t) := by
  intro pins s σ H v u Q I r h
  rw [ha]
  refine wpAny_bind (wpAny_holding (thn (ho pins s σ H _ I h) fun ov s1 ⟨x, H1, I1, r1, q1⟩ => ?_))
  refine wpAny_bind (wpAny_holding (thn (hi pins s1 σ H1 _ I1 q1) fun iv s2 ⟨y, H2, I2, r2, q2⟩ => ?_))
  refine wpAny_bind (wpAny_standAt (wpAny_bind (wpAny_holding (thn (hs pins s2 σ H2 x y v ov iv u _ I2 r1 r2 r q2) fun _ s3 ⟨H3, I3, q3⟩ => ?_))))
  exact wpAny_release ⟨σ, H3, I3, q3⟩
def tAsg (te : TE) (g : TG) : TS := fun D σ H => te σ H fun x H1 => g x σ H1 D.nx
theorem ps_asg {tg e : Expr} {te : TE} {g : TG} (he : PE X e te) (hg : PG X tg g) (hs : swapsWithSole [tg] e pos.line X.env = pure false := by rfl) (hw : swappedStores [tg] e X.env = pure none := by rfl)
    (h1 : (assignEach [tg] X.env).map (·.2) = [assign tg X.env] := by rfl) : PS X (.Assign [tg] e pos) (tAsg te g) := by
  intro pins s σ H D I h
  refine wpAny_Assign_stores (thn (he pins s σ H _ I h) fun v s1 ⟨x, H1, I1, r1, q1⟩ => ?_) hs hw
  rw [h1]
  exact thn (hg pins s1 σ H1 x v _ I1 r1 q1) fun _ s2 q => q
theorem ps_set {i : Nat} {x : Str} {e : Expr} {te : TE} {pos' : Pos} (hN : X.N.Nodup) (hi : X.N[i]? = some x) (hx : Loc X.env.scope x) (he : PE X e te) (hs : swapsWith e (some (.Name x pos')) pos.line X.env = pure false := by rfl) (hf : X.fn x = true ∨ X.env.scope.names.lookup x = some .local := by first | exact .inl rfl | exact .inr rfl | assumption) :
    PS X (.Assign [.Name x pos'] e pos) (tAsg te (gName i)) := by
  intro pins s σ H D I h
  refine wpAny_Assign_Name (thn (he pins s σ H _ I h) fun v s1 ⟨y, H1, I1, r1, q1⟩ => ?_) hs
  exact store_ok I1 hN hi hx r1 (fun s2 I2 => ⟨_, H1, I2, q1⟩) hf
def tAug (i : Nat) (te : TE) (ti : TIp) : TS := fun D σ H => ∃ x, σ[i]? = some (some x) ∧ te σ H fun y H1 => ti x y H1 fun z H2 => D.nx (σ.set i (some z)) H2
theorem ps_aug {i : Nat} {x : Str} {e : Expr} {te : TE} {op : Operator} {ti : TIp} {pos' : Pos} (hN : X.N.Nodup) (hi : X.N[i]? = some x) (hx : Loc X.env.scope x) (he : PE X e te) (ho : PIp X op ti) (hf : X.fn x = true ∨ X.env.scope.names.lookup x = some .local := by first | exact .inl rfl | exact .inr rfl | assumption) :
    PS X (.AugAssign (.Name x pos') op e pos) (tAug i te ti) := by
  intro pins s σ H D I h
  obtain ⟨v, e1, h⟩ := h
  obtain ⟨m, hn, hl⟩ := I.loc
  have vis : Vis X.env.scope x := by rcases hx with k | k; exact .inl k; exact .inr (.inl k)
  obtain ⟨u, r, l⟩ := hl i x v hi e1 vis
  refine wpAny_AugAssign_Name ?_
  have go : wpAny (model X.prog X.w) X.A (eval e X.env) (fun w s₂ => wpAny (model X.prog X.w) X.A (inplaceOp op u w) (fun r s₃ => wpAny (model X.prog X.w) X.A (storeName X.env x r) (fun _ => SP X pins D .next) X.xe s₃) X.xe s₂) X.xe s := by
    refine thn (he pins s σ H _ I h) fun w s1 ⟨y, H1, I1, r1, q1⟩ => ?_
    refine thn (ho pins s1 σ H1 v y u w _ I1 r r1 q1) fun z s2 ⟨zv, H2, I2, r2, q2⟩ => ?_
    exact store_ok I2 hN hi hx r2 (fun s3 I3 => ⟨_, H2, I3, q2⟩) hf
  rcases l with ⟨hk, hm⟩ | ⟨hk, c, hc, hcell⟩
  · exact wpAny_loadName_local I.ok.kind hk hn hm go
  · rcases hk with hk | hk
    · exact wpAny_loadName_cell I.ok.kind hk hc hcell go
    · rcases hx with k | k
      · have : X.env.scope.names.lookup x = some .free := hk
        rw [k] at this; cases this
      · have : X.env.scope.names.lookup x = some .free := hk
        rw [k] at this; cases this
def ipI (f : Int → Int → Int) : TIp := fun x y H Q => ∃ i j, x = .int i ∧ y = .int j ∧ Q (.int (f i j)) H
theorem ip_add : PIp X .Add (ipI fun i j => i + j) := by
  intro pins s σ H x y v u Q I r1 r2 h
  obtain ⟨i, j, e1, e2, q⟩ := h
  subst e1; subst e2
  obtain ⟨t, rfl⟩ := r1
  obtain ⟨t', rfl⟩ := r2
  exact iadd_int ⟨.int _, H, I.tok _, ⟨_, rfl⟩, q⟩
end

section
variable {X : Cx} {pos : Pos}
def tWhile (c : TT) (tb : TS) : TS := fun D σ H => ∃ W : Nat → St → Hp → Prop, (∃ m, W m σ H) ∧ ∀ m σ H, W m σ H →
  c σ H fun b H1 => if b = true then ∃ N : St → Hp → Prop, (∀ σ' H', N σ' H' → ∃ m', m' < m ∧ W m' σ' H') ∧ tb { D with nx := N, ct := N, bk := D.nx } σ H1 else D.nx σ H1
theorem ps_while {c : Expr} {body : List Stmt} {tc : TT} {tb : TS} (hp : PassesOwn (model X.prog X.w) X.A X.env X.xe) (hc : PT X c tc) (hb : PSs X body tb) : PS X (.While c body [] pos) (tWhile tc tb) := by
  intro pins s σ H D I h
  obtain ⟨W, ⟨m0, w0⟩, turn⟩ := h
  refine wpAny_While (codeAny_whileLoop (fun n s' => ∃ σ' H', Inv X pins σ' H' s' ∧ W n σ' H') ?_ m0 ⟨σ, H, I, w0⟩)
  rintro n s1 ⟨σ1, H1, I1, w1⟩
  refine wpAny_passesOwn hp (thn (hc pins s1 σ1 H1 _ I1 (turn n σ1 H1 w1)) fun b s2 ⟨H2, I2, q2⟩ => ?_)
  cases b with
  | true =>
    obtain ⟨N, hN, q2⟩ := q2
    rw [if_pos rfl]
    refine wpAny_passesOwn hp (thn (hb pins s2 σ1 H2 _ I2 q2) fun f s3 q3 => ?_)
    cases f with
    | next =>
      obtain ⟨σ3, H3, I3, n3⟩ := q3
      obtain ⟨m', hm, w3⟩ := hN σ3 H3 n3
      exact ⟨m', hm, σ3, H3, I3, w3⟩
    | cont =>
      obtain ⟨σ3, H3, I3, n3⟩ := q3
      obtain ⟨m', hm, w3⟩ := hN σ3 H3 n3
      exact ⟨m', hm, σ3, H3, I3, w3⟩
    | brk => exact q3
    | ret v => exact q3
  | false =>
    rw [if_neg Bool.false_ne_true]
    exact wpAny_execs_nil ⟨σ1, H2, I2, q2⟩
end

structure It where
  go : Nat → Hp → Prop
  yld : Nat → Hp → V → Hp → Prop
  stop : Nat → Hp → Prop
def FpOk (X : Cx) (pins : List (Addr × Obj)) (H : Hp) (b : Addr) : Prop :=
  H b = none ∧ b ≠ X.env.locals ∧ b ∉ X.fs ∧ (b ∈ X.ex ∨ X.s_0.heap.objs.size ≤ b) ∧ (∀ x c, X.env.cells.lookup x = some c → c ≠ b) ∧ ∀ p ∈ X.pn ++ pins, p.1 ≠ b
theorem Inv.fpOk {X : Cx} {pins : List (Addr × Obj)} {σ : St} {H H' : Hp} {s : Shared} {b : Addr} (I : Inv X pins σ H s) (hb : s.heap.objs.size ≤ b) (hn : H' b = none) : FpOk X pins H' b := by
  refine ⟨hn, Nat.ne_of_gt (Nat.lt_of_lt_of_le I.lt hb), I.nofs hb, .inr (Nat.le_trans I.sz hb), fun x c e z => ?_, fun p hp z => ?_⟩
  · obtain ⟨v, q⟩ := I.cell x c e
    exact absurd (Nat.lt_of_lt_of_le q.lt (by rw [z]; exact hb)) (Nat.lt_irrefl _)
  · exact absurd (Nat.lt_of_lt_of_le (Heap.lt_size (I.pin p hp).1) (by rw [z]; exact hb)) (Nat.lt_irrefl _)
structure Turn (P : Program) (w : World) (K : PySem.W.Frag) (tg : Expr) (J : It) (fp : List Addr) (it : Addr) (tn : Nat → Heap → Prop) : Prop where
  mem : it ∈ fp
  obj : ∀ i h, tn i h → ∀ b ∈ fp, ∃ o, h.get? b = some o ∧ ∀ v, o.data ≠ .cell v
  keep : ∀ i h h', tn i h → (∀ b ∈ fp, ∀ o, h.get? b = some o → h'.get? b = some o) → tn i h'
  item : ∀ (X : Cx), X.prog = P → X.w = w → X.K = K → X.calm = true → ∀ (i : Nat) (pins : List (Addr × Obj)) (s : Shared) (σ : St) (H : Hp) (E : Value → Shared → Prop), Inv X pins σ H s → (∀ b ∈ fp, FpOk X pins H b) → tn i s.heap → J.go i H →
    wpAny (model P w) X.A (pyNext (.ref it)) (fun r s1 => ∃ u, r = some u ∧
      wpAny (model P w) X.A (letOwnedTupleGo tg (.ref it) u) (fun _ s2 => ∃ x H', Inv X pins σ H' s2 ∧ RelV x u ∧ J.yld i H x H' ∧ tn (i + 1) s2.heap ∧ ∀ b ∈ fp, H' b = none) E s1) E s
  done : ∀ (X : Cx), X.prog = P → X.w = w → X.K = K → X.calm = true → ∀ (i : Nat) (pins : List (Addr × Obj)) (s : Shared) (σ : St) (H : Hp) (E : Value → Shared → Prop), Inv X pins σ H s → (∀ b ∈ fp, FpOk X pins H b) → tn i s.heap → J.stop i H →
    wpAny (model P w) X.A (pyNext (.ref it)) (fun r s1 => r = none ∧ Inv X pins σ H s1) E s
  self : ∀ (A : Around) (i : Nat) (s : Shared) (Q : Value → Shared → Prop) (E : Value → Shared → Prop), tn i s.heap → Q (.ref it) s → wpAny (model P w) A (pyIter (.ref it)) Q E s
abbrev TI := St → Hp → (It → Hp → Prop) → Prop
def PIE (X : Cx) (pins : List (Addr × Obj)) (σ : St) (tg : Expr) (R : It → Hp → Prop) (itv : Value) (s2 : Shared) : Prop :=
  ∃ (it : Addr) (fp : List Addr) (tn : Nat → Heap → Prop) (J : It) (H' : Hp), itv = .ref it ∧ Inv X pins σ H' s2 ∧ Turn X.prog X.w X.K tg J fp it tn ∧ tn 0 s2.heap ∧ (∀ b ∈ fp, FpOk X pins H' b) ∧ R J H'
def PI (X : Cx) (tg iter : Expr) (wi : TI) : Prop :=
  ∀ (pins : List (Addr × Obj)) (s : Shared) (σ : St) (H : Hp) (R : It → Hp → Prop), Inv X pins σ H s → wi σ H R →
    wpAny (model X.prog X.w) X.A (eval iter X.env) (fun v s1 => wpAny (model X.prog X.w) X.A (pyIter v) (PIE X pins σ tg R) X.xe s1) X.xe s

theorem go_of {M : Model} {A : Around} {E : Value → Shared → Prop} {s : Shared} {tg : Expr} {it : Addr} {u : Value} {o : Obj} {n : String} {vs : Array Value} {Q : Unit → Shared → Prop} (ho : s.heap.get? it = some o) (hc : o.cls = .type n) (hd : o.data = .fields vs)
    (hn : ["enumerate", "zip", "dict_itemiterator", "dict_reverseitemiterator", "odict_iterator", "itertools.zip_longest", "itertools.pairwise"].contains n = false) (hQ : Q () s) : wpAny M A (letOwnedTupleGo tg (.ref it) u) Q E s := by
  unfold letOwnedTupleGo
  cases tg <;> first
    | exact wpAny_pure hQ
    | (cases u <;> first
        | exact wpAny_pure hQ
        | (refine wpAny_bind (wpAny_load ho ?_)
           rw [hc, hd]
           show wpAny M A (if (["enumerate", "zip", "dict_itemiterator", "dict_reverseitemiterator", "odict_iterator", "itertools.zip_longest", "itertools.pairwise"].contains n && vs[0]? == some (rawInt _)) = true then _ else _) Q E s
           rw [if_neg (by intro h; rw [hn, Bool.false_and] at h; cases h)]
           exact wpAny_pure hQ))

def Itl (K : PySem.W.Frag) (a : Addr) : It :=
  ⟨fun i H => ∃ xs x, SqL K H a xs ∧ xs[i]? = some x, fun i H x H' => H' = H ∧ ∀ xs, SqL K H a xs → xs[i]? = some x, fun i H => ∃ xs, SqL K H a xs ∧ xs.length ≤ i⟩
def Itr (lo : Int) (n : Nat) : It := ⟨fun i _ => i < n, fun i H x H' => H' = H ∧ x = .int (lo + i), fun i _ => n ≤ i⟩
theorem turn_list {P : Program} {w : World} {K : PySem.W.Frag} {tg : Expr} (a it : Addr) : Turn P w K tg (Itl K a) [it] it (fun i h => h.IsListIter it a i) where
  mem := by simp
  obj := fun i h st b hb => by
    have e : b = it := by simpa using hb
    subst e
    obtain ⟨o, e, c, d⟩ := st
    exact ⟨o, e, fun v z => by rw [d] at z; cases z⟩
  keep := fun i h h' st k => st.at fun o e => k it (by simp) o e
  item := by
    intro X hP hw hK hc i pins s σ H E I hf st hg
    subst hP hw hK
    obtain ⟨xs, x, hq, hx⟩ := hg
    obtain ⟨its, rv, p, hz⟩ := I.list hq
    obtain ⟨u, hu, ru⟩ := rv.get hx
    obtain ⟨f0, f1, f2, f3, f4, f5⟩ := hf it (by simp)
    refine wpAny_pyNext_list_item st p.isList (x := u) (by simpa using hu) fun h' st' sb => ?_
    have I1 : Inv X pins σ H { s with heap := h' } := I.turned (t' := s.toks) (fun b o hb e => (sb.2 b hb).trans e) f0 f1 f3 f4 f5
    obtain ⟨o, e, c, d⟩ := id st'
    exact ⟨u, rfl, go_of (s := { s with heap := h' }) e c d (by decide) ⟨x, H, I1, ru, ⟨rfl, fun ys hy => by rw [I.list_inj hy hq]; exact hx⟩, st', fun b hb => (hf b hb).1⟩⟩
  done := by
    intro X hP hw hK hc i pins s σ H E I hf st hg
    subst hP hw hK
    obtain ⟨xs, hq, hx⟩ := hg
    obtain ⟨its, rv, p, hz⟩ := I.list hq
    obtain ⟨f0, f1, f2, f3, f4, f5⟩ := hf it (by simp)
    have hl := rv.length
    exact wpAny_pyNext_list_end (I.ok.hd hc) st p.isList (by simp; omega) fun h' eb => ⟨rfl, I.turned (t' := s.toks) (fun b o hb e => eb b o hb e) f0 f1 f3 f4 f5⟩
  self := fun _ _ _ _ _ st h => wpAny_pyIter_listiter st h
theorem turn_range {P : Program} {w : World} {K : PySem.W.Frag} {tg : Expr} (it : Addr) (lo : Int) (n : Nat) : Turn P w K tg (Itr lo n) [it] it (fun i h => IsRangeIter h it (lo + (i : Nat) * 1) ((n : Int) - (i : Nat)) 1) where
  mem := by simp
  obj := fun i h st b hb => by
    have e : b = it := by simpa using hb
    subst e
    exact ⟨_, st, fun v z => by
      have z' : Data.fields _ = Data.cell v := z
      cases z'⟩
  keep := fun i h h' st k => k it (by simp) _ st
  item := by
    intro X hP hw hK hc i pins s σ H E I hf st hg
    subst hP hw hK
    obtain ⟨f0, f1, f2, f3, f4, f5⟩ := hf it (by simp)
    have W := Walks.range (prog := X.prog) (w := X.w) (I.ok.hd hc) it lo 1 n
    refine W.item i s _ _ hg st fun v h' tk hv st' kk => ?_
    obtain ⟨t, rfl⟩ := hv
    have I1 : Inv X pins σ H { s with heap := h', toks := tk } := I.turned (fun b o hb e => kk b o (by simpa using hb) e) f0 f1 f3 f4 f5
    refine ⟨_, rfl, go_of (s := { s with heap := h', toks := tk }) (n := "range_iterator") st' rfl rfl (by decide) ⟨.int (lo + i), H, I1, ⟨t, ?_⟩, ⟨rfl, rfl⟩, st', fun b hb => (hf b hb).1⟩⟩
    rw [Int.mul_one]
  done := by
    intro X hP hw hK hc i pins s σ H E I hf st hg
    subst hP hw hK
    obtain ⟨f0, f1, f2, f3, f4, f5⟩ := hf it (by simp)
    exact wpAny_pyNext_range_end (I.ok.hd hc) st (by have : n ≤ i := hg; omega) fun h' eb => ⟨rfl, I.turned (t' := s.toks) (fun b o hb e => eb b o hb e) f0 f1 f3 f4 f5⟩
  self := fun _ _ _ _ _ st h => wpAny_pyIter_rangeiter st h
end L2

namespace L2
open PySem PySem.Spec PyProof.Rows
section
variable {X : Cx} {tg : Expr}
def iList (K : PySem.W.Frag) (tl : TE) : TI := fun σ H R => tl σ H fun x H1 => ∃ a, x = .ref a ∧ (∃ xs, SqL K H1 a xs) ∧ R (Itl K a) H1
theorem pi_list {l : Expr} {tl : TE} (hl : PE X l tl) : PI X tg l (iList X.K tl) := by
  intro pins s σ H R I h
  refine thn (hl pins s σ H _ I h) fun v s1 ⟨x, H1, I1, r1, q1⟩ => ?_
  obtain ⟨a, e, ⟨xs, hq⟩, q⟩ := q1
  subst e
  cases r1
  obtain ⟨its, rv, p, hz⟩ := I1.list hq
  refine wpAny_pyIter_list p.isList ?_
  refine ⟨s1.heap.objs.size, [s1.heap.objs.size], _, _, H1, rfl, I1.kept (t' := s1.toks) fun b o e => Heap.get?_push_of_some _ e, turn_list a _, ⟨_, Heap.get?_push_size _ rfl, rfl, rfl⟩, fun b hb => ?_, q⟩
  have e : b = s1.heap.objs.size := by simpa using hb
  subst e
  exact I1.fpOk (Nat.le_refl _) (I1.hok.fresh (Nat.le_refl _))
theorem range_it {pins : List (Addr × Obj)} {σ : St} {H : Hp} {s : Shared} {R : It → Hp → Prop} {E : Value → Shared → Prop} {lo hi : Int} {t u v : Tok} {tk : Nat} (I : Inv X pins σ H s) (h1 : -(2 ^ 62) ≤ lo) (h2 : lo < 2 ^ 62) (h3 : -(2 ^ 62) ≤ hi) (h4 : hi < 2 ^ 62)
    (q : R (Itr lo (hi - lo).toNat) H) : wpAny (model X.prog X.w) X.A (pyIter (.ref s.heap.objs.size)) (PIE X pins σ tg R) E { s with heap := s.heap.push { cls := .type "range", data := .fields #[.int lo t, .int hi u, .int 1 v] }, toks := tk } := by
  refine wpAny_pyIter_range (IsRange.new ..) (small_one h1 h2 h3 h4) ?_
  have I1 : Inv X pins σ H { s with heap := s.heap.push { cls := .type "range", data := .fields #[.int lo t, .int hi u, .int 1 v] }, toks := tk } := I.kept fun b o e => Heap.get?_push_of_some _ e
  refine ⟨(s.heap.push { cls := .type "range", data := .fields #[.int lo t, .int hi u, .int 1 v] }).objs.size, [(s.heap.push { cls := .type "range", data := .fields #[.int lo t, .int hi u, .int 1 v] }).objs.size], _, _, H, rfl,
    I1.kept (t' := tk) fun b o e => Heap.get?_push_of_some _ e, turn_range _ lo (hi - lo).toNat, ?_, fun b hb => ?_, q⟩
  · have e1 : lo + ((0 : Nat) : Int) * 1 = lo := by simp
    have e2 : (((hi - lo).toNat : Nat) : Int) - ((0 : Nat) : Int) = Builtin.Range.rangeSize lo hi 1 := by rw [rangeSize_one]; split <;> omega
    show IsRangeIter _ _ (lo + ((0 : Nat) : Int) * 1) ((((hi - lo).toNat : Nat) : Int) - ((0 : Nat) : Int)) 1
    rw [e1, e2]
    exact Heap.get?_push_size _ rfl
  · have e : b = (s.heap.push { cls := .type "range", data := .fields #[.int lo t, .int hi u, .int 1 v] }).objs.size := by simpa using hb
    subst e
    exact I1.fpOk (Nat.le_refl _) (I1.hok.fresh (Nat.le_refl _))
def iRng2 (ta : TA) : TI := fun σ H R => ta σ H fun vs H1 => ∃ i j : Int, vs = [.int i, .int j] ∧ (-(2 ^ 62) ≤ i ∧ i < 2 ^ 62 ∧ -(2 ^ 62) ≤ j ∧ j < 2 ^ 62) ∧ R (Itr i (j - i).toNat) H1
theorem pi_range2 {a b : Expr} {ta : TA} {p pos : Pos} (hg : Gl X "range") (hm : X.mg "range" = none) (ha : PA X [a, b] ta) (hs : starEach [a, b] X.env = [(false, eval a X.env), (false, eval b X.env)] := by rfl) (hs2 : starEach [b] X.env = [(false, eval b X.env)] := by rfl) :
    PI X tg (.Call (.Name "range" p) [a, b] [] pos) (iRng2 ta) := by
  intro pins s σ H R I h
  refine Call_ (ld_blt I hg hm boot_range (PyProof.Rows.callWith_type1 (thn (ha pos pins s σ H _ I h) fun us s1 ⟨vs, H1, I1, r1, q1⟩ => ?_) (by rw [hs, hs2]) (by rw [hs2]; rfl)))
  obtain ⟨i, j, e, ⟨q1, q2, q3, q4⟩, q⟩ := q1
  subst e
  cases r1 with
  | cons r rr =>
    cases rr with
    | cons r' rr =>
      cases rr
      obtain ⟨t, rfl⟩ := r
      obtain ⟨t', rfl⟩ := r'
      exact call_range_2 (range_it I1 q1 q2 q3 q4 q)

def tFor (wi : TI) (g : TG) (tb : TS) : TS := fun D σ H => wi σ H fun J H1 => ∃ W : Nat → Nat → St → Hp → Prop, (∃ m, W 0 m σ H1) ∧ ∀ i m σ H, W i m σ H →
  (J.stop i H ∧ D.nx σ H) ∨ (J.go i H ∧ ∃ N : St → Hp → Prop, (∀ σ' H', N σ' H' → ∃ m', m' < m ∧ W (i + 1) m' σ' H') ∧ ∀ x H', J.yld i H x H' → g x σ H' fun σ2 H2 => tb { D with nx := N, ct := N, bk := D.nx } σ2 H2)
def pinsAt (fp : List Addr) (h : Heap) : List (Addr × Obj) := fp.filterMap fun b => (h.get? b).map fun o => (b, o)
theorem mem_pinsAt {fp : List Addr} {h : Heap} {b : Addr} {o : Obj} (hb : b ∈ fp) (e : h.get? b = some o) : (b, o) ∈ pinsAt fp h := List.mem_filterMap.mpr ⟨b, hb, by rw [e]; rfl⟩
theorem of_pinsAt {fp : List Addr} {h : Heap} {p : Addr × Obj} (hp : p ∈ pinsAt fp h) : p.1 ∈ fp ∧ h.get? p.1 = some p.2 := by
  obtain ⟨b, hb, e⟩ := List.mem_filterMap.mp hp
  cases q : h.get? b with
  | none => rw [q] at e; cases e
  | some o =>
    rw [q] at e
    have e' : (b, o) = p := Option.some.inj e
    subst e'
    exact ⟨hb, q⟩
theorem Inv.pinned {pins : List (Addr × Obj)} {σ : St} {H : Hp} {s : Shared} {fp : List Addr} (I : Inv X pins σ H s) (hf : ∀ b ∈ fp, FpOk X pins H b) (ho : ∀ b ∈ fp, ∃ o, s.heap.get? b = some o ∧ ∀ v, o.data ≠ .cell v) : Inv X (pins ++ pinsAt fp s.heap) σ H s :=
  I.pins_of fun p hp => (List.mem_append.mp hp).elim (fun z => I.pin p (List.mem_append_right _ z)) fun z => by
    obtain ⟨hb, e⟩ := of_pinsAt z
    obtain ⟨f0, f1, f2, _⟩ := hf p.1 hb
    obtain ⟨o, e', d⟩ := ho p.1 hb
    rw [e] at e'; cases e'
    exact ⟨e, f0, f1, f2, d⟩
theorem Inv.unpinned {pins pl : List (Addr × Obj)} {σ : St} {H : Hp} {s : Shared} (I : Inv X (pins ++ pl) σ H s) : Inv X pins σ H s := I.pins_of fun p hp => I.pin p (List.mem_append_right _ (List.mem_append_left _ hp))
theorem ps_for {iter : Expr} {body : List Stmt} {wi : TI} {g : TG} {tb : TS} {pos : Pos} (hp : PassesOwn (model X.prog X.w) X.A X.env X.xe) (hc : X.calm = true) (hi : PI X tg iter wi) (hg : PG X tg g) (hb : PSs X body tb)
    (hs : ∀ x, foldedSetIterable iter X.env x = pure x := by intro _; rfl) : PS X (.For tg iter body [] pos) (tFor wi g tb) := by
  intro pins s σ H D I h
  refine wpAny_For (thn (hi pins s σ H _ I h) fun v s1 h1 => thn h1 fun itv s2 h2 => ?_) hs
  obtain ⟨it, fp, tn, J, H2, e, I2, T, st2, f2, W, ⟨m0, w0⟩, turn⟩ := h2
  subst e
  have stat : ∀ {H' : Hp}, (∀ b ∈ fp, H' b = none) → ∀ b ∈ fp, FpOk X pins H' b := fun hn b hb => ⟨hn b hb, (f2 b hb).2⟩
  refine codeAny_forLoop_any (fun n s' => ∃ i σ' H', Inv X pins σ' H' s' ∧ tn i s'.heap ∧ (∀ b ∈ fp, H' b = none) ∧ W i n σ' H') ?_ m0 ⟨0, σ, H2, I2, st2, fun b hb => (f2 b hb).1, w0⟩
  rintro n s3 ⟨i, σ3, H3, I3, st3, fr3, w3⟩
  rcases turn i n σ3 H3 w3 with ⟨stop, qn⟩ | ⟨go, N, hN, step⟩
  · refine wpAny_passesOwn hp (thn (T.done X rfl rfl rfl hc i pins s3 σ3 H3 X.xe I3 (stat fr3) st3 stop) fun r s4 ⟨hr, I4⟩ => ?_)
    subst hr
    exact wpAny_execs_nil ⟨σ3, H3, I4, qn⟩
  · refine wpAny_passesOwn hp (thn (T.item X rfl rfl rfl hc i pins s3 σ3 H3 X.xe I3 (stat fr3) st3 go) fun r s4 ⟨u, hr, h4⟩ => ?_)
    subst hr
    refine wpAny_passesOwn hp (thn h4 fun _ s5 ⟨x, H5, I5, r5, y5, st5, fr5⟩ => ?_)
    have I5' := I5.pinned (stat fr5) (T.obj _ _ st5)
    refine wpAny_passesOwn hp (thn (hg _ s5 σ3 H5 x u _ I5' r5 (step x H5 y5)) fun _ s6 ⟨σ6, H6, I6, q6⟩ => ?_)
    refine wpAny_passesOwn hp (thn (hb _ s6 σ6 H6 _ I6 q6) fun f s7 q7 => ?_)
    have again : ∀ {σ7 : St} {H7 : Hp}, Inv X (pins ++ pinsAt fp s5.heap) σ7 H7 s7 → N σ7 H7 → ∃ m, m < n ∧ ∃ i σ' H', Inv X pins σ' H' s7 ∧ tn i s7.heap ∧ (∀ b ∈ fp, H' b = none) ∧ W i m σ' H' := fun {σ7 H7} I7 n7 => by
      obtain ⟨m', hm, w7⟩ := hN σ7 H7 n7
      refine ⟨m', hm, i + 1, σ7, H7, I7.unpinned, T.keep _ _ _ st5 fun b hb o e => (I7.pin (b, o) (List.mem_append_right _ (List.mem_append_right _ (mem_pinsAt hb e)))).1, fun b hb => ?_, w7⟩
      obtain ⟨o, e, d⟩ := T.obj _ _ st5 b hb
      exact (I7.pin (b, o) (List.mem_append_right _ (List.mem_append_right _ (mem_pinsAt hb e)))).2.1
    cases f with
    | next => obtain ⟨σ7, H7, I7, n7⟩ := q7; exact again I7 n7
    | cont => obtain ⟨σ7, H7, I7, n7⟩ := q7; exact again I7 n7
    | brk => obtain ⟨σ7, H7, I7, q7⟩ := q7; exact ⟨σ7, H7, I7.unpinned, q7⟩
    | ret v => obtain ⟨x7, σ7, H7, I7, r7, q7⟩ := q7; exact ⟨x7, σ7, H7, I7.unpinned, r7, q7⟩
end

theorem for_list {K : PySem.W.Frag} {a : Addr} {xs : List V} {g : TG} {tb : TS} {D : Ends} {σ : St} {H : Hp} (Pv : Nat → St → Hp → Prop) (h0 : Pv 0 σ H) (hl : ∀ i σ H, i ≤ xs.length → Pv i σ H → SqL K H a xs)
    (hs : ∀ i x σ H, xs[i]? = some x → Pv i σ H → g x σ H fun σ2 H2 => tb { D with nx := Pv (i + 1), ct := Pv (i + 1), bk := D.nx } σ2 H2) (hd : ∀ σ H, Pv xs.length σ H → D.nx σ H) :
    ∃ W : Nat → Nat → St → Hp → Prop, (∃ m, W 0 m σ H) ∧ ∀ i m σ H, W i m σ H →
      ((Itl K a).stop i H ∧ D.nx σ H) ∨ ((Itl K a).go i H ∧ ∃ N : St → Hp → Prop, (∀ σ' H', N σ' H' → ∃ m', m' < m ∧ W (i + 1) m' σ' H') ∧ ∀ x H', (Itl K a).yld i H x H' → g x σ H' fun σ2 H2 => tb { D with nx := N, ct := N, bk := D.nx } σ2 H2) := by
  refine ⟨fun i m σ H => m = xs.length - i ∧ i ≤ xs.length ∧ Pv i σ H, ⟨xs.length, by simp, Nat.zero_le _, h0⟩, ?_⟩
  rintro i m σ H ⟨rfl, hi, p⟩
  have q := hl i σ H hi p
  by_cases hlt : i < xs.length
  · refine .inr ⟨⟨xs, xs[i], q, by simp [hlt]⟩, Pv (i + 1), fun σ' H' p' => ⟨xs.length - (i + 1), by omega, rfl, hlt, p'⟩, fun x H' y => ?_⟩
    obtain ⟨e, y⟩ := y
    subst e
    exact hs i x σ _ (y xs q) p
  · have e : i = xs.length := by omega
    subst e
    exact .inl ⟨⟨xs, q, Nat.le_refl _⟩, hd σ H p⟩
theorem for_range {lo : Int} {n : Nat} {g : TG} {tb : TS} {D : Ends} {σ : St} {H : Hp} (Pv : Nat → St → Hp → Prop) (h0 : Pv 0 σ H)
    (hs : ∀ i σ H, i < n → Pv i σ H → g (.int (lo + i)) σ H fun σ2 H2 => tb { D with nx := Pv (i + 1), ct := Pv (i + 1), bk := D.nx } σ2 H2) (hd : ∀ σ H, Pv n σ H → D.nx σ H) :
    ∃ W : Nat → Nat → St → Hp → Prop, (∃ m, W 0 m σ H) ∧ ∀ i m σ H, W i m σ H →
      ((Itr lo n).stop i H ∧ D.nx σ H) ∨ ((Itr lo n).go i H ∧ ∃ N : St → Hp → Prop, (∀ σ' H', N σ' H' → ∃ m', m' < m ∧ W (i + 1) m' σ' H') ∧ ∀ x H', (Itr lo n).yld i H x H' → g x σ H' fun σ2 H2 => tb { D with nx := N, ct := N, bk := D.nx } σ2 H2) := by
  refine ⟨fun i m σ H => m = n - i ∧ i ≤ n ∧ Pv i σ H, ⟨n, by simp, Nat.zero_le _, h0⟩, ?_⟩
  rintro i m σ H ⟨rfl, hi, p⟩
  by_cases hlt : i < n
  · refine .inr ⟨hlt, Pv (i + 1), fun σ' H' p' => ⟨n - (i + 1), by omega, rfl, hlt, p'⟩, fun x H' y => ?_⟩
    obtain ⟨e, y⟩ := y
    subst e y
    exact hs i σ _ hlt p
  · have e : i = n := by omega
    subst e
    exact .inl ⟨Nat.le_refl _, hd σ H p⟩
theorem while_by {c : TT} {tb : TS} {D : Ends} {σ : St} {H : Hp} (Pv : St → Hp → Prop) (μ : St → Hp → Nat) (h0 : Pv σ H)
    (hs : ∀ σ H, Pv σ H → c σ H fun b H1 => if b = true then tb { D with nx := fun σ' H' => Pv σ' H' ∧ μ σ' H' < μ σ H, ct := fun σ' H' => Pv σ' H' ∧ μ σ' H' < μ σ H, bk := D.nx } σ H1 else D.nx σ H1)
    (mono : ∀ σ H Q Q', (∀ b H1, Q b H1 → Q' b H1) → c σ H Q → c σ H Q') : tWhile c tb D σ H := by
  refine ⟨fun m σ H => m = μ σ H ∧ Pv σ H, ⟨_, rfl, h0⟩, ?_⟩
  rintro m σ H ⟨rfl, p⟩
  refine mono σ H _ _ (fun b H1 q => ?_) (hs σ H p)
  cases b with
  | true => exact ⟨_, fun σ' H' ⟨p', l⟩ => ⟨_, l, rfl, p'⟩, q⟩
  | false => exact q
end L2

namespace L2
open PySem PySem.Spec PyProof.Rows

abbrev R2 := V → V → Hp → VK → Prop
def OpR (X : Cx) (f : Value → Value → Sem Value) (r : R2) : Prop :=
  ∀ (pins : List (Addr × Obj)) (s : Shared) (σ : St) (H : Hp) (x y : V) (v u : Value) (Q : VK), Inv X pins σ H s → RelV x v → RelV y u → r x y H Q →
    wpAny (model X.prog X.w) X.A (f v u) (EP X pins σ Q) X.xe s
def UnR (X : Cx) (f : Value → Sem Value) (r : V → Hp → VK → Prop) : Prop :=
  ∀ (pins : List (Addr × Obj)) (s : Shared) (σ : St) (H : Hp) (x : V) (v : Value) (Q : VK), Inv X pins σ H s → RelV x v → r x H Q →
    wpAny (model X.prog X.w) X.A (f v) (EP X pins σ Q) X.xe s
def CallR (X : Cx) (f : Value) (r : List V → Hp → VK → Prop) : Prop :=
  ∀ (pins : List (Addr × Obj)) (s : Shared) (σ : St) (H : Hp) (xs : List V) (us : List Value) (Q : VK), Inv X pins σ H s → Vals xs us → r xs H Q →
    wpAny (model X.prog X.w) X.A (call f us) (EP X pins σ Q) X.xe s
def tOp (r : R2) (ta tb : TE) : TE := fun σ H Q => ta σ H fun x H1 => tb σ H1 fun y H2 => r x y H2 Q
def tUn (r : V → Hp → VK → Prop) (ta : TE) : TE := fun σ H Q => ta σ H fun x H1 => r x H1 Q
def rI (C : Int → Int → Prop) (g : Int → Int → V) : R2 := fun x y H Q => ∃ i j, x = .int i ∧ y = .int j ∧ C i j ∧ Q (g i j) H
def rI0 (g : Int → Int → V) : R2 := fun x y H Q => ∃ i j, x = .int i ∧ y = .int j ∧ Q (g i j) H
def rU (g : Int → V) : V → Hp → VK → Prop := fun x H Q => ∃ i, x = .int i ∧ Q (g i) H

section
variable {X : Cx} {a b c : Expr} {ta tb tc : TE} {pos : Pos}

theorem binT (ha : PE X a ta) (hb : PE X b tb) {pins : List (Addr × Obj)} {s : Shared} {σ : St} {H : Hp} {R : V → V → Hp → Prop} (I : Inv X pins σ H s)
    (h : ta σ H fun x H1 => tb σ H1 fun y H2 => R x y H2) {Q : Value → Shared → Prop} {f : Value → Value → Sem Value}
    (hf : ∀ v u s2 x y H2, Inv X pins σ H2 s2 → RelV x v → RelV y u → R x y H2 → wpAny (model X.prog X.w) X.A (f v u) Q X.xe s2) :
    wpAny (model X.prog X.w) X.A (eval a X.env) (fun v s₁ => wpAny (model X.prog X.w) X.A (eval b X.env) (fun u s₂ => wpAny (model X.prog X.w) X.A (f v u) Q X.xe s₂) X.xe s₁) X.xe s := by
  refine thn (ha pins s σ H _ I h) fun v s1 ⟨x, H1, I1, r1, q1⟩ => ?_
  refine thn (hb pins s1 σ H1 _ I1 q1) fun u s2 ⟨y, H2, I2, r2, q2⟩ => ?_
  exact hf v u s2 x y H2 I2 r1 r2 q2

theorem pe_op {op : Operator} {r : R2} (ho : OpR X (binaryOp op) r) (ha : PE X a ta) (hb : PE X b tb) : PE X (.BinOp a op b pos) (tOp r ta tb) := by
  intro pins s σ H Q I h
  exact wpAny_BinOp (binT ha hb I h fun v u s2 x y H2 I2 rx ry q => ho pins s2 σ H2 x y v u Q I2 rx ry q)
theorem pe_un {op : UnaryOp} {r : V → Hp → VK → Prop} (ho : UnR X (unaryOp op) r) (ha : PE X a ta) : PE X (.UnaryOp op a pos) (tUn r ta) := by
  intro pins s σ H Q I h
  exact UnaryOp_ (thn (ha pins s σ H _ I h) fun v s1 ⟨x, H1, I1, r1, q1⟩ => ho pins s1 σ H1 x v Q I1 r1 q1)
theorem opI {f : Value → Value → Sem Value} {C : Int → Int → Prop} {g : Int → Int → Int}
    (rule : ∀ (i j : Int) (t u : Tok) (s : Shared) (Q : Value → Shared → Prop) (E : Value → Shared → Prop), C i j → Q (.int (g i j) s.toks) { s with toks := s.toks + 1 } → wpAny (model X.prog X.w) X.A (f (.int i t) (.int j u)) Q E s) :
    OpR X f (rI C fun i j => .int (g i j)) := by
  intro pins s σ H x y v u Q I rx ry h
  obtain ⟨i, j, rfl, rfl, hc, q⟩ := h
  obtain ⟨t, rfl⟩ := rx
  obtain ⟨t', rfl⟩ := ry
  exact rule i j t t' s _ _ hc ⟨.int (g i j), H, I.tok _, ⟨_, rfl⟩, q⟩
theorem opI0 {f : Value → Value → Sem Value} {g : Int → Int → Int}
    (rule : ∀ (i j : Int) (t u : Tok) (s : Shared) (Q : Value → Shared → Prop) (E : Value → Shared → Prop), Q (.int (g i j) s.toks) { s with toks := s.toks + 1 } → wpAny (model X.prog X.w) X.A (f (.int i t) (.int j u)) Q E s) :
    OpR X f (rI0 fun i j => .int (g i j)) := by
  intro pins s σ H x y v u Q I rx ry h
  obtain ⟨i, j, rfl, rfl, q⟩ := h
  obtain ⟨t, rfl⟩ := rx
  obtain ⟨t', rfl⟩ := ry
  exact rule i j t t' s _ _ ⟨.int (g i j), H, I.tok _, ⟨_, rfl⟩, q⟩
theorem opB0 {f : Value → Value → Sem Value} {g : Int → Int → Bool}
    (rule : ∀ (i j : Int) (t u : Tok) (s : Shared) (Q : Value → Shared → Prop) (E : Value → Shared → Prop), Q (.bool (g i j)) s → wpAny (model X.prog X.w) X.A (f (.int i t) (.int j u)) Q E s) :
    OpR X f (rI0 fun i j => .bl (g i j)) := by
  intro pins s σ H x y v u Q I rx ry h
  obtain ⟨i, j, rfl, rfl, q⟩ := h
  obtain ⟨t, rfl⟩ := rx
  obtain ⟨t', rfl⟩ := ry
  exact rule i j t t' s _ _ ⟨.bl (g i j), H, I, rfl, q⟩

def CDiv (i j : Int) : Prop := 0 < j ∧ j < 1073741824
def CMul (i j : Int) : Prop := (-(2 ^ 64) < i ∧ i < 2 ^ 64) ∨ (-(2 ^ 64) < j ∧ j < 2 ^ 64)
theorem CMul.ok {i j : Int} (h : CMul i j) : IntMulOk i j := by
  rcases h with ⟨h1, h2⟩ | ⟨h1, h2⟩
  · exact .of_left (intBits_le_64 h1 h2)
  · exact .of_right (intBits_le_64 h1 h2)
theorem op_add : OpR X (binaryOp .Add) (rI0 fun i j => .int (i + j)) := opI0 fun _ _ _ _ _ _ _ q => add_int q
theorem op_sub : OpR X (binaryOp .Sub) (rI0 fun i j => .int (i - j)) := opI0 fun _ _ _ _ _ _ _ q => sub_int q
theorem op_mul : OpR X (binaryOp .Mult) (rI CMul fun i j => .int (i * j)) := opI fun _ _ _ _ _ _ _ hc q => mul_int q hc.ok
theorem op_fdiv : OpR X (binaryOp .FloorDiv) (rI CDiv fun i j => .int (i / j)) := opI fun i j _ _ _ _ _ hc q => by
  have h1 : (0 : Int) < j := hc.1
  have h2 : j < 1073741824 := hc.2
  exact floordiv_int (by omega) (by rw [Int.fdiv_eq_ediv_of_nonneg i (by omega)]; exact q) (.inl (PyProof.noPylong_small (by omega)))
theorem op_mod : OpR X (binaryOp .Mod) (rI (fun _ j => 0 < j) fun i j => .int (i % j)) := opI fun i j _ _ _ _ _ hc q => by
  have h1 : (0 : Int) < j := hc
  exact mod_int' (by omega) (by rw [Int.fmod_eq_emod_of_nonneg i (by omega)]; exact q)
theorem unI {f : Value → Sem Value} {g : Int → Int}
    (rule : ∀ (i : Int) (t : Tok) (s : Shared) (Q : Value → Shared → Prop) (E : Value → Shared → Prop), Q (.int (g i) s.toks) { s with toks := s.toks + 1 } → wpAny (model X.prog X.w) X.A (f (.int i t)) Q E s) :
    UnR X f (rU fun i => .int (g i)) := by
  intro pins s σ H x v Q I rx h
  obtain ⟨i, rfl, q⟩ := h
  obtain ⟨t, rfl⟩ := rx
  exact rule i t s _ _ ⟨.int (g i), H, I.tok _, ⟨_, rfl⟩, q⟩
theorem un_neg : UnR X (unaryOp .USub) (rU fun i => .int (-i)) := unI fun _ _ _ _ _ q => neg_int q
end

def scal : V → V → Bool
  | .non, .non => true | .non, .int _ => true | .int _, .non => true | .non, .bl _ => true | .bl _, .non => true | .non, .str _ => true | .str _, .non => true
  | .int _, .int _ => true | .bl _, .bl _ => true | .str _, .str _ => true | .byt _, .byt _ => true
  | .int _, .str _ => true | .str _, .int _ => true | .bl _, .str _ => true | .str _, .bl _ => true
  | _, _ => false
def rEq : R2 := fun x y H Q => scal x y = true ∧ Q (.bl (decide (x = y))) H
def rNe : R2 := fun x y H Q => scal x y = true ∧ Q (.bl (!decide (x = y))) H

theorem dec_int {i j : Int} : decide (V.int i = V.int j) = (i == j) := by
  rw [Bool.eq_iff_iff]
  simp
theorem dec_bl {i j : Bool} : decide (V.bl i = V.bl j) = (i == j) := by
  rw [Bool.eq_iff_iff]
  simp
theorem dec_str {i j : Str} : decide (V.str i = V.str j) = (i == j) := by
  rw [Bool.eq_iff_iff]
  simp
theorem dec_byt {i j : Array UInt8} : decide (V.byt i = V.byt j) = (i.toList == j.toList) := by
  rw [Bool.eq_iff_iff]
  cases i
  cases j
  simp

section
variable {X : Cx} {a b c : Expr} {ta tb tc : TE} {pos : Pos}
theorem fin_bl {pins : List (Addr × Obj)} {σ : St} {H : Hp} {s : Shared} {Q : VK} {k k' : Bool} (I : Inv X pins σ H s) (q : Q (.bl k) H) (e : k = k') : EP X pins σ Q (.bool k') s := by
  subst e
  exact ⟨.bl k, H, I, rfl, q⟩
theorem op_eq : OpR X (compareOp .Eq) rEq := by
  intro pins s σ H x y v u Q I rx ry h
  obtain ⟨hs, q⟩ := h
  cases x with
  | non =>
    cases rx
    cases y with
    | non => cases ry; exact PySem.EqNone.eq_none_none (fin_bl I q (by simp))
    | bl j => cases ry; exact PySem.EqNone.eq_none_bool (fin_bl I q (by simp))
    | int j => obtain ⟨t', rfl⟩ := ry; exact PySem.EqNone.eq_none_int (fin_bl I q (by simp))
    | str j => obtain ⟨t', rfl⟩ := ry; exact PySem.EqNone.eq_none_str (fin_bl I q (by simp))
    | _ => exact absurd (show false = true from hs) Bool.false_ne_true
  | bl i =>
    cases rx
    cases y with
    | non => cases ry; exact PySem.EqNone.eq_bool_none (fin_bl I q (by simp))
    | bl j => cases ry; exact eq_bool (fin_bl I q dec_bl)
    | str j => obtain ⟨t', rfl⟩ := ry; exact PySem.EqMixed.eq_bool_str (fin_bl I q (by simp))
    | _ => exact absurd (show false = true from hs) Bool.false_ne_true
  | int i =>
    obtain ⟨t, rfl⟩ := rx
    cases y with
    | non => cases ry; exact PySem.EqNone.eq_int_none (fin_bl I q (by simp))
    | int j => obtain ⟨t', rfl⟩ := ry; exact eq_int (fin_bl I q dec_int)
    | str j => obtain ⟨t', rfl⟩ := ry; exact PySem.EqMixed.eq_int_str (fin_bl I q (by simp))
    | _ => exact absurd (show false = true from hs) Bool.false_ne_true
  | str i =>
    obtain ⟨t, rfl⟩ := rx
    cases y with
    | non => cases ry; exact PySem.EqNone.eq_str_none (fin_bl I q (by simp))
    | bl j => cases ry; exact PySem.EqMixed.eq_str_bool (fin_bl I q (by simp))
    | int j => obtain ⟨t', rfl⟩ := ry; exact PySem.EqMixed.eq_str_int (fin_bl I q (by simp))
    | str j => obtain ⟨t', rfl⟩ := ry; exact eq_str (fin_bl I q dec_str)
    | _ => exact absurd (show false = true from hs) Bool.false_ne_true
  | byt i =>
    obtain ⟨t, rfl⟩ := rx
    cases y with
    | byt j => obtain ⟨t', rfl⟩ := ry; exact PySem.W.eq_bytes (fin_bl I q dec_byt)
    | _ => exact absurd (show false = true from hs) Bool.false_ne_true
  | _ => cases y <;> exact absurd (show false = true from hs) Bool.false_ne_true
theorem op_ne : OpR X (compareOp .NotEq) rNe := by
  intro pins s σ H x y v u Q I rx ry h
  obtain ⟨hs, q⟩ := h
  cases x with
  | non =>
    cases rx
    cases y with
    | non => cases ry; exact PySem.EqNone.ne_none_none (fin_bl I q (by simp))
    | bl j => cases ry; exact PySem.EqNone.ne_none_bool (fin_bl I q (by simp))
    | int j => obtain ⟨t', rfl⟩ := ry; exact PySem.EqNone.ne_none_int (fin_bl I q (by simp))
    | str j => obtain ⟨t', rfl⟩ := ry; exact PySem.EqNone.ne_none_str (fin_bl I q (by simp))
    | _ => exact absurd (show false = true from hs) Bool.false_ne_true
  | bl i =>
    cases rx
    cases y with
    | non => cases ry; exact PySem.EqNone.ne_bool_none (fin_bl I q (by simp))
    | bl j => cases ry; exact ne_bool (fin_bl I q (congrArg not dec_bl))
    | str j => obtain ⟨t', rfl⟩ := ry; exact PySem.EqMixed.ne_bool_str (fin_bl I q (by simp))
    | _ => exact absurd (show false = true from hs) Bool.false_ne_true
  | int i =>
    obtain ⟨t, rfl⟩ := rx
    cases y with
    | non => cases ry; exact PySem.EqNone.ne_int_none (fin_bl I q (by simp))
    | int j => obtain ⟨t', rfl⟩ := ry; exact ne_int (fin_bl I q (congrArg not dec_int))
    | str j => obtain ⟨t', rfl⟩ := ry; exact PySem.EqMixed.ne_int_str (fin_bl I q (by simp))
    | _ => exact absurd (show false = true from hs) Bool.false_ne_true
  | str i =>
    obtain ⟨t, rfl⟩ := rx
    cases y with
    | non => cases ry; exact PySem.EqNone.ne_str_none (fin_bl I q (by simp))
    | bl j => cases ry; exact PySem.EqMixed.ne_str_bool (fin_bl I q (by simp))
    | int j => obtain ⟨t', rfl⟩ := ry; exact PySem.EqMixed.ne_str_int (fin_bl I q (by simp))
    | str j => obtain ⟨t', rfl⟩ := ry; exact ne_str (fin_bl I q (congrArg not dec_str))
    | _ => exact absurd (show false = true from hs) Bool.false_ne_true
  | byt i =>
    obtain ⟨t, rfl⟩ := rx
    cases y with
    | byt j => obtain ⟨t', rfl⟩ := ry; exact PySem.W.ne_bytes (fin_bl I q (congrArg not dec_byt))
    | _ => exact absurd (show false = true from hs) Bool.false_ne_true
  | _ => cases y <;> exact absurd (show false = true from hs) Bool.false_ne_true

theorem op_lt : OpR X (compareOp .Lt) (rI0 fun i j => .bl (decide (i < j))) := opB0 fun _ _ _ _ _ _ _ q => lt_int q
theorem op_le : OpR X (compareOp .LtE) (rI0 fun i j => .bl (decide (i ≤ j))) := opB0 fun _ _ _ _ _ _ _ q => le_int q
theorem op_gt : OpR X (compareOp .Gt) (rI0 fun i j => .bl (decide (j < i))) := opB0 fun _ _ _ _ _ _ _ q => gt_int q
theorem nomark (b : Expr) {op : CmpOp} (h : op ≠ .In := by decide) (h2 : op ≠ .NotIn := by decide) : behindInMarks op b = false := by
  have e1 : (op == CmpOp.In) = false := by cases op <;> first | rfl | exact absurd rfl h
  have e2 : (op == CmpOp.NotIn) = false := by cases op <;> first | rfl | exact absurd rfl h2
  cases b <;> simp [behindInMarks, e1, e2]
theorem pe_cmpR {op : CmpOp} {r : R2} (ho : OpR X (compareOp op) r) (ha : PE X a ta) (hb : PE X b tb) (hm : behindInMarks op b = false) : PE X (.Compare a [op] [b] pos) (tOp r ta tb) := by
  intro pins s σ H Q I h
  exact wpAny_Compare1 (binT ha hb I h fun v u s2 x y H2 I2 rx ry q => ho pins s2 σ H2 x y v u Q I2 rx ry q) hm
def tTest (t : TE) : TT := fun σ H Q => t σ H fun x H' => ∃ k, x = .bl k ∧ Q k H'
theorem pt_cmpR {op : CmpOp} {r : R2} (ho : OpR X (compareOp op) r) (ha : PE X a ta) (hb : PE X b tb) (hm : behindInMarks op b = false) : PT X (.Compare a [op] [b] pos) (tTest (tOp r ta tb)) := by
  intro pins s σ H Q I h
  refine wpAny_isTrue_Compare1 (thn (ha pins s σ H _ I h) fun v s1 ⟨x, H1, I1, r1, q1⟩ => thn (hb pins s1 σ H1 _ I1 q1) fun u s2 ⟨y, H2, I2, r2, q2⟩ =>
    thn (ho pins s2 σ H2 x y v u _ I2 r1 r2 q2) fun c s3 ⟨z, H3, I3, r3, k, e, q3⟩ => ?_) hm
  subst e
  cases r3
  exact wpAny_truthy_bool ⟨H3, I3, q3⟩
def tChain (r r' : R2) (ta tb tc : TE) : TE := fun σ H Q => ta σ H fun x H1 => tb σ H1 fun y H2 => r x y H2 fun z H3 => ∃ k, z = .bl k ∧
  (if k = true then tc σ H3 fun w' H4 => r' y w' H4 Q else Q (.bl false) H3)
theorem pe_chain {op op' : CmpOp} {r r' : R2} (ho : OpR X (compareOp op) r) (ho' : OpR X (compareOp op') r') (ha : PE X a ta) (hb : PE X b tb) (hc : PE X c tc)
    (hm : lastMarks [op, op'] [b, c] = false := by with_unfolding_all rfl) : PE X (.Compare a [op, op'] [b, c] pos) (tChain r r' ta tb tc) := by
  intro pins s σ H Q I h
  refine Compare_chain (thn (ha pins s σ H _ I h) fun v s1 ⟨x, H1, I1, r1, q1⟩ => chain_link (thn (hb pins s1 σ H1 _ I1 q1) fun u s2 ⟨y, H2, I2, r2, q2⟩ =>
    thn (ho pins s2 σ H2 x y v u _ I2 r1 r2 q2) fun d s3 ⟨z, H3, I3, r3, k, e, q3⟩ => ?_)) hm
  subst e
  cases r3
  refine wpAny_truthy_bool ?_
  cases k with
  | false => exact ite_ff ⟨.bl false, H3, I3, rfl, q3⟩
  | true => exact ite_tt (chain_last (thn (hc pins s3 σ H3 _ I3 q3) fun w' s4 ⟨z', H4, I4, r4, q4⟩ => ho' pins s4 σ H4 y z' u w' Q I4 r2 r4 q4))
theorem line63 : (sizeLine : Nat) < 2 ^ 63 := by rw [sizeLine_eq]; decide
theorem vals1 {x : V} {us : List Value} (r : Vals [x] us) : ∃ u, us = [u] ∧ RelV x u := by
  cases r with
  | cons r1 r2 => cases r2; exact ⟨_, rfl, r1⟩
theorem call_str_int : CallR X (.type "str") (fun xs H Q => ∃ i, xs = [.int i] ∧ i.natAbs.log2 < 1920 ∧ Q (.str (toString i)) H) := by
  intro pins s σ H xs us Q I r h
  obtain ⟨i, rfl, hz, q⟩ := h
  obtain ⟨u, rfl, t, rfl⟩ := vals1 r
  exact PySem.P.str_of_int hz ⟨.str _, H, I.tok _, ⟨_, rfl⟩, q⟩
end
end L2

namespace L2
open PySem PySem.Spec PyProof.Rows

structure ObjM (h : Heap) (x dx C : Addr) (mA : Str → Option Value) : Prop where
  obj : h.get? x = some (PySem.W.instObj C dx)
  ns : h.Ns1 dx mA
  ne : dx ≠ x

theorem lookIn_ns {h : Heap} {dx : Addr} {mA : Str → Option Value} (n : h.Ns1 dx mA) : ∃ od, h.get? dx = some od ∧ ∀ name, PySem.W.lookIn name od = some (mA name) := by
  obtain ⟨o, es, ep, ho, hd, hk, _, hm⟩ := n
  refine ⟨o, ho, fun name => ?_⟩
  have e := hm name
  unfold nsFind findBy at e
  rw [← Array.find?_toList] at e
  unfold PySem.W.lookIn
  rw [hd]
  dsimp only
  split
  · rename_i y q
    rw [q] at e
    exact congrArg some e
  · rename_i q
    rw [q] at e
    have a : es.toList.any (·.refKey) = false := by
      rw [List.any_eq_false]
      intro y hy
      obtain ⟨z, t, hkey⟩ := hk y (Array.mem_toList_iff.mp hy)
      simp [DictEntry.refKey, hkey]
    have a' : ¬ es.toList.any (·.refKey) = true := by rw [a]; exact Bool.false_ne_true
    rw [if_neg a']
    exact congrArg some e

theorem ObjM.look {h : Heap} {x dx C : Addr} {mA : Str → Option Value} (I : ObjM h x dx C mA) : ∃ od, PySem.W.InstAt h x (PySem.W.instObj C dx) C (some od) ∧ ∀ name, PySem.W.lookIn name od = some (mA name) :=
  let ⟨od, ho, hl⟩ := lookIn_ns I.ns
  ⟨od, ⟨I.obj, rfl, rfl, ho⟩, hl⟩

section
variable {prog : Program} {w : World} {A : Around} {E : Value → Shared → Prop} {s : Shared} {K : PySem.W.Frag} {x dx C f : Addr} {mA : Str → Option Value} {name : Str} {v : Value}

theorem get_map {expr : Bool} {Q : Value → Shared → Prop} (X : K.In s.heap) (I : ObjM s.heap x dx C mA) (hg : PySem.W.plainGet K C name = true) (hh : PySem.W.hasDictIn K C = true)
    (ha : PySem.W.findIn K (.ref C) name = some none) (hv : mA name = some v) (hv' : PySem.W.handedIn v = true) (h : Q v { s with toks := s.toks + 1 }) :
    wpAny (model prog w) A (getAttr (.ref x) name expr) Q E s := by
  obtain ⟨od, J, hl⟩ := I.look
  exact PySem.W.get_value X J (PySem.W.plainGet_of hg).1 (PySem.W.findObj_own hh ha rfl (by rw [hl, hv])) hv' h

theorem get_meth {pl : Sem Bool} {Q : Value × List Value → Shared → Prop} (X : K.In s.heap) (I : ObjM s.heap x dx C mA) (hg : PySem.W.plainGet K C name = true)
    (hf : PySem.W.findIn K (.ref C) name = some (some (.ref f))) (ht : PySem.W.isFn K (.ref f) = true) (hv : mA name = none) (h : Q (.ref f, [.ref x]) s) :
    wpAny (model prog w) A (getMethod (.ref x) name pl) Q E s := by
  obtain ⟨od, J, hl⟩ := I.look
  exact PySem.W.method_fn X J (PySem.W.plainGet_of hg).1 (PySem.W.plainGet_of hg).2 hf (beq_iff_eq.mp ht) (by show (PySem.W.lookIn name od).map (·.isSome) = some false; rw [hl, hv]; rfl) h

theorem set_map {ns : List Str} {Q : Unit → Shared → Prop} (X : K.In s.heap) (I : ObjM s.heap x dx C mA)
    (hs : PySem.W.findIn K (.ref C) "__setattr__" = some (some (.builtin "object.__setattr__"))) (hp : PySem.W.plainOver K C = true) (ht : PySem.W.takerIn K C name = some none) (hh : PySem.W.hasDictIn K C = true)
    (hw : PySem.Within mA ns) (hsz : ns.length ≤ sizeLine)
    (h : ∀ h', ObjM h' x dx C (fun y => if y = name then some v else mA y) → Heap.SameBut dx s.heap h' → Q () { s with heap := h', toks := s.toks + 2 }) :
    wpAny (model prog w) A (setAttr (.ref x) name v) Q E s := by
  obtain ⟨od, J, hl⟩ := I.look
  refine PySem.W.set_plain X J hs (PySem.W.osa_open (s := { s with toks := s.toks + 1 }) (r := none) X J hp ht fun b => ?_)
  obtain ⟨cd, hc, hd'⟩ := PySem.W.any_some hh
  have hx : s.heap.get? x = some ⟨.ref C, some dx, .plain, #[]⟩ := I.obj
  refine wpAny_bind (wpAny_pure (wpAny_bind (wpAny_bind (wpAny_loadPart hx (wpAny_bind (PySem.W.Looks.here (s := { s with toks := s.toks + 1 }) (PySem.W.looks_clsIn X hc) ?_))))))
  rw [hd']
  refine wpAny_pure (a := some dx) (wpAny_bind (wpAny_pure (wpAny_bind ?_)))
  refine wpAny_nsSet1 (s := { s with toks := s.toks + 1 }) I.ns fun h' hn2 hs2 => ?_
  obtain ⟨oD, esD, epD, hoD, hdD, hcD⟩ := hn2.count (PySem.Within.cons name v hw)
  refine wpAny_bind (wpAny_lookBehind hoD (by rw [hdD]; exact pastItsLine_dict (Nat.le_trans hcD (by rw [List.length_cons]; omega))) ?_)
  exact wpAny_pure (h _ ⟨(hs2.2 _ (Ne.symm I.ne)).trans I.obj, hn2, I.ne⟩ hs2)

theorem make_map {R : Result → Shared → Prop} {vs : List Value} {kw : List (Str × Value)} (X : K.In s.heap) (hm : PySem.W.makesIn K C = true)
    (hi : PySem.W.findIn K (.ref C) "__init__" = some (some (.ref f))) (hf : PySem.W.typeIn K (.ref f) = some (.type "function"))
    (h : codeAny (model prog w) (A.under (.builtin "type.__call__" ⟨.ref C :: vs, kw⟩)) (.call (.ref f) ⟨.ref (s.heap.objs.size + 1) :: vs, kw⟩) (PySem.W.InitBack (s.heap.objs.size + 1) R)
      { s with heap := (s.heap.push PySem.W.emptyDict).push (PySem.W.instObj C s.heap.objs.size) }) :
    codeAny (model prog w) A (.call (.ref C) ⟨vs, kw⟩) R s := by
  obtain ⟨hh, g, d, t, os⟩ := s
  exact PySem.W.make_core (PySem.W.makes_of X hm) (PySem.W.looks_findIn X hi) (fun self => PySem.W.bind_fn X self hf) (.inl rfl) h
end

def putF (f : Str) (v : V) : List (Str × V) → List (Str × V)
  | [] => [(f, v)]
  | (g, x) :: r => if g = f then (g, v) :: r else (g, x) :: putF f v r
theorem lookup_putF (f g : Str) (v : V) : ∀ fs : List (Str × V), (putF f v fs).lookup g = if g = f then some v else fs.lookup g
  | [] => by
    show List.lookup g [(f, v)] = _
    by_cases h : g = f
    · have hb : (g == f) = true := beq_iff_eq.mpr h
      simp only [List.lookup, hb, if_pos h]
    · have hb : (g == f) = false := beq_eq_false_iff_ne.mpr h
      simp only [List.lookup, hb, if_neg h]
  | (k, x) :: r => by
    have ih := lookup_putF f g v r
    rw [show putF f v ((k, x) :: r) = (if k = f then (k, v) :: r else (k, x) :: putF f v r) from rfl]
    by_cases hk : k = f
    · rw [if_pos hk]
      by_cases h : g = k
      · have hb : (g == k) = true := beq_iff_eq.mpr h
        simp only [List.lookup, hb, if_pos (h.trans hk)]
      · have hb : (g == k) = false := beq_eq_false_iff_ne.mpr h
        simp only [List.lookup, hb, if_neg (fun e : g = f => h (e.trans hk.symm))]
    · rw [if_neg hk]
      by_cases h : g = k
      · have hb : (g == k) = true := beq_iff_eq.mpr h
        simp only [List.lookup, hb, if_neg (fun e : g = f => hk (h.symm.trans e))]
      · have hb : (g == k) = false := beq_eq_false_iff_ne.mpr h
        simp only [List.lookup, hb]
        exact ih
theorem keys_putF (f : Str) (v : V) : ∀ fs : List (Str × V), f ∈ (putF f v fs).map (·.1) ∧ ∀ g, g ∈ fs.map (·.1) → g ∈ (putF f v fs).map (·.1)
  | [] => ⟨by simp [putF], fun g h => by simp at h⟩
  | (k, x) :: r => by
    obtain ⟨i1, i2⟩ := keys_putF f v r
    rw [show putF f v ((k, x) :: r) = (if k = f then (k, v) :: r else (k, x) :: putF f v r) from rfl]
    by_cases hk : k = f
    · rw [if_pos hk]
      subst hk
      exact ⟨by simp, fun g h => by simpa using h⟩
    · rw [if_neg hk]
      refine ⟨?_, fun g h => ?_⟩
      · rw [List.map_cons]
        exact List.mem_cons_of_mem _ i1
      · rw [List.map_cons] at h ⊢
        rcases List.mem_cons.mp h with e | e
        · exact List.mem_cons.mpr (.inl e)
        · exact List.mem_cons_of_mem _ (i2 g e)
theorem length_putF (f : Str) (v : V) : ∀ fs : List (Str × V), (putF f v fs).length ≤ fs.length + 1
  | [] => by simp [putF]
  | (k, x) :: r => by
    have ih := length_putF f v r
    rw [show putF f v ((k, x) :: r) = (if k = f then (k, v) :: r else (k, x) :: putF f v r) from rfl]
    by_cases hk : k = f
    · rw [if_pos hk, List.length_cons, List.length_cons]; omega
    · rw [if_neg hk, List.length_cons, List.length_cons]; omega

theorem RelO.some_of {v : V} {o : Option Value} (r : RelO (some v) o) : ∃ u, o = some u ∧ RelV v u := by
  cases o with
  | none => exact (show False from r).elim
  | some u => exact ⟨u, rfl, r⟩
theorem RelO.none_of {o : Option Value} (r : RelO none o) : o = none := by
  cases o with
  | none => rfl
  | some u => exact (show False from r).elim
theorem handed_of {v : V} {u : Value} (r : RelV v u) : PySem.W.handedIn u = true := by
  cases v with
  | non => cases (show u = Value.none from r); rfl
  | bl b => cases (show u = Value.bool b from r); rfl
  | int i => obtain ⟨t, e⟩ := (show ∃ t, u = Value.int i t from r); cases e; rfl
  | str x => obtain ⟨t, e⟩ := (show ∃ t, u = Value.str x t from r); cases e; rfl
  | byt b => obtain ⟨t, e⟩ := (show ∃ t, u = Value.bytes b t from r); cases e; rfl
  | flt b => obtain ⟨t, e⟩ := (show ∃ t, u = Value.float b t from r); cases e; rfl
  | ref a => cases (show u = Value.ref a from r); rfl
  | ty n => cases (show u = Value.type n from r); rfl

section
variable {P : Program} {w : World} {H H' : Hp} {h h' : Heap} {a C dx : Addr} {fs fs' : List (Str × V)}
theorem ins_get (hok : HOk P w H h) (e : H a = some (.ins C dx fs)) : ∃ mA, ObjM h a dx C mA ∧ (∀ f, RelO (fs.lookup f) (mA f)) ∧ PySem.Within mA (fs.map (·.1)) ∧ fs.length ≤ 1000 ∧ H dx = some (.own a) := by
  obtain ⟨d, z, ne, ob, mA, n, r, q⟩ := (show ObjOk P w H h a (.ins C dx fs) from hok a _ e)
  exact ⟨mA, ⟨ob, n, ne⟩, r, q, z, d⟩
end

structure Cls (K : PySem.W.Frag) (C : Addr) : Prop where
  pg : PySem.W.plainGet K C Str.empty = true
  hd : PySem.W.hasDictIn K C = true
  po : PySem.W.plainOver K C = true
  sa : PySem.W.findIn K (.ref C) "__setattr__" = some (some (.builtin "object.__setattr__"))
theorem Cls.get {K : PySem.W.Frag} {C : Addr} (c : Cls K C) (f : Str) : PySem.W.plainGet K C f = true := c.pg
def NoAttr (K : PySem.W.Frag) (C : Addr) (f : Str) : Prop := PySem.W.findIn K (.ref C) f = some none
theorem NoAttr.taker {K : PySem.W.Frag} {C : Addr} {f : Str} (n : NoAttr K C f) : PySem.W.takerIn K C f = some none := by
  unfold PySem.W.takerIn
  rw [show PySem.W.findIn K (.ref C) f = some none from n]
  rfl
structure Con (K : PySem.W.Frag) (C : Addr) (f : Str) (v : V) (u : Value) : Prop where
  at_ : PySem.W.findIn K (.ref C) f = some (some u)
  rel : RelV v u
  get : PySem.W.specialIn K u "__get__" = some none
  cp : PySem.W.copiedNames.contains f = false
structure Meth (K : PySem.W.Frag) (C : Addr) (m : Str) (f : Addr) : Prop where
  at_ : PySem.W.findIn K (.ref C) m = some (some (.ref f))
  fn : PySem.W.isFn K (.ref f) = true
  kp : PySem.W.keepIn K (.ref f) = true

section
variable {X : Cx} {pins : List (Addr × Obj)} {σ : St} {H : Hp} {s : Shared} {a C dx : Addr} {fs : List (Str × V)} {f : Str} {v : V} {A : Around} {E : Value → Shared → Prop}

theorem getattr_ok {b : Bool} {Q : Value → Shared → Prop} (I : Inv X pins σ H s) (e : H a = some (.ins C dx fs)) (c : Cls X.K C) (n : NoAttr X.K C f) (l : fs.lookup f = some v)
    (h : ∀ u s', Inv X pins σ H s' → RelV v u → Q u s') : wpAny (model X.prog X.w) A (getAttr (.ref a) f b) Q E s := by
  obtain ⟨mA, O, r, _, _, _⟩ := ins_get I.hok e
  obtain ⟨u, hu, ru⟩ := RelO.some_of (v := v) (o := mA f) (by rw [← l]; exact r f)
  exact get_map I.kIn O (c.get f) c.hd n hu (handed_of ru) (h u _ (I.tok _) ru)

theorem getmeth_ok {m : Str} {g : Addr} {pl : Sem Bool} {Q : Value × List Value → Shared → Prop} (I : Inv X pins σ H s) (e : H a = some (.ins C dx fs)) (c : Cls X.K C) (k : Meth X.K C m g) (l : fs.lookup m = none)
    (h : Q (.ref g, [.ref a]) s) : wpAny (model X.prog X.w) A (getMethod (.ref a) m pl) Q E s := by
  obtain ⟨mA, O, r, _, _, _⟩ := ins_get I.hok e
  have hn : mA m = none := RelO.none_of (by rw [← l]; exact r m)
  exact get_meth I.kIn O (c.get m) k.at_ k.fn hn h

theorem setattr_ok {y : V} {u : Value} {Q : Unit → Shared → Prop} (I : Inv X pins σ H s) (e : H a = some (.ins C dx fs)) (c : Cls X.K C) (n : NoAttr X.K C f) (hl : fs.length < 1000) (ry : RelV y u)
    (h : ∀ s', Inv X pins σ (upd H a (.ins C dx (putF f y fs))) s' → Q () s') : wpAny (model X.prog X.w) A (setAttr (.ref a) f u) Q E s := by
  obtain ⟨mA, O, r, wi, _, ho⟩ := ins_get I.hok e
  have hz : (fs.map (·.1)).length ≤ sizeLine := by rw [List.length_map, sizeLine_eq]; omega
  refine set_map I.kIn O c.sa c.po n.taker c.hd wi hz fun h' O' sb => h _ ?_
  have hd : ∃ o, h'.get? dx = some o := let ⟨o, _, _, e', _⟩ := O'.ns; ⟨o, e'⟩
  refine I.write (x := a) (e := dx) (by rw [e]; exact True.intro) (.inr ho) (fun b q hb z => (sb.2 b hb).trans z) hd ?_
  refine ⟨by rw [upd_ne O.ne]; exact ho, ?_, O.ne, O'.obj, _, O'.ns, fun g => ?_, fun g hg => ?_⟩
  · have := length_putF f y fs; omega
  · show RelO ((putF f y fs).lookup g) (if g = f then some u else mA g)
    rw [lookup_putF]
    by_cases q : g = f
    · rw [if_pos q, if_pos q]; exact ry
    · rw [if_neg q, if_neg q]; exact r g
  · by_cases q : g = f
    · rw [q]; exact (keys_putF f y fs).1
    · refine (keys_putF f y fs).2 g (wi g fun z => hg ?_)
      show (if g = f then some u else mA g) = none
      rw [if_neg q]; exact z

theorem Inv.made (I : Inv X pins σ H s) : Inv X pins σ (upd (upd H s.heap.objs.size (.own (s.heap.objs.size + 1))) (s.heap.objs.size + 1) (.ins C s.heap.objs.size []))
    { s with heap := (s.heap.push PySem.W.emptyDict).push (PySem.W.instObj C s.heap.objs.size) } := by
  have e1 : (s.heap.push PySem.W.emptyDict).get? s.heap.objs.size = some PySem.W.emptyDict := Heap.get?_push_size s.heap rfl
  have e2 : ((s.heap.push PySem.W.emptyDict).push (PySem.W.instObj C s.heap.objs.size)).get? (s.heap.objs.size + 1) = some (PySem.W.instObj C s.heap.objs.size) := by
    have := Heap.get?_push_size (s.heap.push PySem.W.emptyDict) (o := PySem.W.instObj C s.heap.objs.size) rfl
    rwa [Heap.size_push] at this
  have e3 : (s.heap.push PySem.W.emptyDict).Ns s.heap.objs.size (fun _ => none) := ⟨PySem.W.emptyDict, #[], _, e1, rfl, (fun e he => absurd he (by simp)), fun _ => rfl⟩
  have I1 := I.laid (a := s.heap.objs.size) (o := .own (s.heap.objs.size + 1)) (h' := s.heap.push PySem.W.emptyDict) (t' := s.toks) (fun b u q => Heap.get?_push_of_some _ q) (Nat.le_refl _) ⟨_, e1⟩
  refine I1.laid (a := s.heap.objs.size + 1) (o := .ins C s.heap.objs.size []) (t' := s.toks) (fun b u q => Heap.get?_push_of_some _ q) (Nat.le_of_eq (Heap.size_push _ _)) ?_
  have ne : s.heap.objs.size ≠ s.heap.objs.size + 1 := Nat.ne_of_lt (Nat.lt_succ_self _)
  refine ⟨by rw [upd_ne ne, upd_same], Nat.zero_le _, ne, e2, fun _ => none, (Heap.Ns1.of_empty e3).at fun o q => Heap.get?_push_of_some _ q, fun _ => True.intro, fun y hy => absurd rfl hy⟩

theorem attr_of {prog : Program} {w : World} {env : Env} {e : Expr} {f : Str} {pos : Pos} {s : Shared} {Q : Value → Shared → Prop} (hb : attributeBase e f env (eval e env) = eval e env)
    (h : wpAny (model prog w) A (eval e env) (fun o s₁ => wpAny (model prog w) A (getAttr o f true) Q E s₁) E s) : wpAny (model prog w) A (eval (.Attribute e f pos) env) Q E s :=
  Attribute_any_ h (by rw [arm_eval_Attribute, hb])
end

def tFld (K : PySem.W.Frag) (ta : TE) (f : Str) : TE := fun σ H Q => ta σ H fun x H1 => ∃ a C dx fs v, x = .ref a ∧ H1 a = some (.ins C dx fs) ∧ Cls K C ∧ NoAttr K C f ∧ fs.lookup f = some v ∧ Q v H1
def sFld (K : PySem.W.Frag) (ta tv : TE) (f : Str) : TS := fun D σ H => tv σ H fun y H1 => ta σ H1 fun x H2 => ∃ a C dx fs, x = .ref a ∧ H2 a = some (.ins C dx fs) ∧ Cls K C ∧ NoAttr K C f ∧ fs.length < 1000 ∧
  D.nx σ (upd H2 a (.ins C dx (putF f y fs)))
section
variable {X : Cx} {o e value : Expr} {f : Str} {pos pos' tpos : Pos} {ta tv : TE}
theorem pe_fld (he : PE X e ta) (hb : attributeBase e f X.env (eval e X.env) = eval e X.env) : PE X (.Attribute e f pos) (tFld X.K ta f) := by
  intro pins s σ H Q I h
  refine attr_of hb (thn (he pins s σ H _ I h) fun u s1 ⟨x, H1, I1, rx, a, C, dx, fs, v, ex, ea, c, n, l, q⟩ => ?_)
  subst ex
  obtain rfl : u = Value.ref a := rx
  exact getattr_ok I1 ea c n l fun u' s2 I2 ru => ⟨v, H1, I2, ru, q⟩
theorem ps_fld (ha : PE X o ta) (hv : PE X value tv) (hs : swapsWith value (some (.Attribute o f pos')) pos.line X.env = pure false) : PS X (.Assign [.Attribute o f pos'] value pos) (sFld X.K ta tv f) := by
  intro pins s σ H D I h
  refine plainObj_wpAny_Assign_Attribute (thn (hv pins s σ H _ I h) fun u s1 ⟨y, H1, I1, ry, q⟩ => thn (ha pins s1 σ H1 _ I1 q) fun ov s2 ⟨x, H2, I2, rx, a, C, dx, fs, ex, ea, c, n, l, q2⟩ => ?_) hs
  subst ex
  obtain rfl : ov = Value.ref a := rx
  exact setattr_ok I2 ea c n l ry fun s3 I3 => ⟨σ, _, I3, q2⟩
theorem methcall_of {pl : Sem Bool} {m : Str} {apos : Pos} {args : List Expr} {pins : List (Addr × Obj)} {s : Shared} {σ : St} {H : Hp} {Q : Value → Shared → Prop} {te : TE} (he : PE X e te) (I : Inv X pins σ H s)
    (h : te σ H fun x H1 => ∃ a C dx fs g, x = .ref a ∧ H1 a = some (.ins C dx fs) ∧ Cls X.K C ∧ Meth X.K C m g ∧ fs.lookup m = none ∧
      ∀ s1, Inv X pins σ H1 s1 → wpAny (model X.prog X.w) X.A (callWith pos (.ref g) [.ref a] (backTo pos (starEach args X.env)) (backToKw pos (keywordEach [] X.env))) Q X.xe s1)
    (ht : eval (.Call (.Attribute e m apos) args [] pos) X.env = (do
      let ov ← eval e X.env
      standAt apos.atName
      let (f, first) ← holding [ov] (getMethod ov m pl)
      callWith pos f first (backTo pos (starEach args X.env)) (backToKw pos (keywordEach [] X.env)))) :
    wpAny (model X.prog X.w) X.A (eval (.Call (.Attribute e m apos) args [] pos) X.env) Q X.xe s := by
  refine PySem.W.methodCall_KW (pl := pl) (thn (he pins s σ H _ I h) fun u s1 ⟨x, H1, I1, rx, a, C, dx, fs, g, ex, ea, c, k, l, q⟩ => ?_) ht
  subst ex
  obtain rfl : u = Value.ref a := rx
  exact getmeth_ok I1 ea c k l (q s1 I1)
end

section
variable {X : Cx} {pins : List (Addr × Obj)} {σ : St} {H : Hp} {s : Shared} {A : Around} {E : Value → Shared → Prop} {Q : Value → Shared → Prop} {c : Value} {b : Bool}
inductive TyOf (K : PySem.W.Frag) (H : Hp) : V → Value → Prop where
  | non : TyOf K H .non (.type "NoneType")
  | bl (x : Bool) : TyOf K H (.bl x) (.type "bool")
  | int (i : Int) : TyOf K H (.int i) (.type "int")
  | str (x : Str) : TyOf K H (.str x) (.type "str")
  | flt (x : UInt64) : TyOf K H (.flt x) (.type "float")
  | lst {a : Addr} {xs : List V} (e : H a = some (.lst xs)) : TyOf K H (.ref a) (.type "list")
  | frz {a : Addr} {o : Obj} {xs : List V} (e : H a = some (.frz o (.lst xs))) : TyOf K H (.ref a) (.type "list")
  | tup {a : Addr} {xs : List V} (e : H a = some (.tup xs)) : TyOf K H (.ref a) (.type "tuple")
  | dK {a : Addr} {kvs : List (Key × V)} (e : H a = some (.dK kvs)) : TyOf K H (.ref a) (.type "dict")
  | dT {a : Addr} {kvs : List (List Key × V)} (e : H a = some (.dT kvs)) : TyOf K H (.ref a) (.type "dict")
  | ins {a C dx : Addr} {fs : List (Str × V)} (e : H a = some (.ins C dx fs)) (cl : Cls K C) (ha : PySem.W.findIn K (.ref C) "__class__" = some (some (.builtin "object.__class__")))
      (hn : PySem.W.specialIn K (.builtin "object.__class__") "__get__" = some (some (.builtin "getset_descriptor.__get__"))) (htk : PySem.W.takesIn K (.builtin "object.__class__") = some true)
      (hm : PySem.W.mroIn K C (.type "object") = some true) : TyOf K H (.ref a) (.ref C)
end
end L2

namespace L2
open PySem PySem.Spec PyProof.Rows

structure Room (k : Nat) (A : Around) : Prop where
  hd : A.handled = none
  dp : A.depth + 3 * k + 5 < recursionLimit
  un : A.units + 16 * k + 200 < cLine
theorem Room.mono {j k : Nat} {A : Around} (r : Room k A) (h : j ≤ k) : Room j A := ⟨r.hd, by have := r.dp; omega, by have := r.un; omega⟩
theorem Room.deeper {k : Nat} {A : Around} (r : Room (k + 1) A) (env : Env) : Room k (A.deeper env) :=
  ⟨r.hd, by have := r.dp; show A.depth + 1 + 3 * k + 5 < _; omega, by have := r.un; show A.units + 3 + 16 * k + 200 < _; omega⟩
theorem Room.in1 {k : Nat} {A : Around} (r : Room (k + 1) A) : Room k A.in1 :=
  ⟨r.hd, by have := r.dp; show A.depth + 3 * k + 5 < _; omega, by have := r.un; show A.units + 1 + 16 * k + 200 < _; omega⟩
theorem make_depth {A : Around} {C : Addr} {us : List Value} {kw : List (Str × Value)} : (A.under (.builtin "type.__call__" ⟨.ref C :: us, kw⟩)).depth = A.depth + 1 := by
  first | rfl | simp [Around.under, Code.weight, Code.isCreation, Code.isGuard, Code.isCaller, Code.frames, Code.isFrame, guardIds]
theorem make_units {A : Around} {C : Addr} {us : List Value} {kw : List (Str × Value)} : (A.under (.builtin "type.__call__" ⟨.ref C :: us, kw⟩)).units = A.units + 1 := by
  first | rfl | simp [Around.under, Code.cUnits, Code.frames, Code.isFrame]
theorem Room.make {k : Nat} {A : Around} (r : Room (k + 1) A) (C : Addr) (us : List Value) (kw : List (Str × Value)) : Room k (A.under (.builtin "type.__call__" ⟨.ref C :: us, kw⟩)) :=
  ⟨r.hd, by have := r.dp; rw [make_depth]; omega, by have := r.un; rw [make_units]; omega⟩
theorem Room.depth {k : Nat} {A : Around} (r : Room k A) : A.depth < recursionLimit := by have := r.dp; omega
theorem Room.units {k : Nat} {A : Around} (r : Room k A) : A.units + 64 < cLine := by have := r.un; omega
def tNil : TA := fun _ H Q => Q [] H
def tCons (ta : TE) (tr : TA) : TA := fun σ H Q => ta σ H fun x H1 => tr σ H1 fun xs H2 => Q (x :: xs) H2
section
variable {X : Cx} {e : Expr} {es : List Expr} {te : TE} {t : TA} {pos : Pos}
theorem pa_nil : PA X [] tNil := fun _ _ _ _ H Q I h => Calls.spliced_nil ⟨[], H, I, .nil, h⟩
theorem pa_cons (ha : PE X e te) (hr : PA X es t) (hs : starEach (e :: es) X.env = (false, eval e X.env) :: starEach es X.env := by rfl) : PA X (e :: es) (tCons te t) := by
  intro pos pins s σ H Q I h
  rw [hs]
  show wpAny _ _ (spliced ((false, eval e X.env) :: backTo pos (starEach es X.env))) _ _ s
  refine Calls.spliced_cons (thn (ha pins s σ H _ I h) fun u s1 ⟨x, H1, I1, r1, q1⟩ => ?_)
  exact thn (hr pos pins s1 σ H1 _ I1 q1) fun us s2 ⟨xs, H2, I2, r2, q2⟩ => ⟨x :: xs, H2, I2, .cons r1 r2, q2⟩

def tTup (t : TA) : TE := fun σ H Q => t σ H fun xs H1 => xs.length ≤ sizeLine ∧ ∀ p, H1 p = none → Q (.ref p) (upd H1 p (.tup xs))
def tLst (t : TA) : TE := fun σ H Q => t σ H fun xs H1 => xs.length ≤ sizeLine ∧ ∀ p, H1 p = none → Q (.ref p) (upd H1 p (.lst xs))
theorem pe_tup {x1} (h : PA X es t) : PE X (.Tuple es x1 pos) (tTup t) := by
  intro pins s σ H Q I hq
  refine wpAny_Tuple_spliced (thn (h pos pins s σ H _ I hq) fun us s1 ⟨xs, H1, I1, r, z, q⟩ => ⟨by rw [← r.length]; exact z, ?_⟩)
  have hf : H1 s1.heap.objs.size = none := I1.hok.fresh (Nat.le_refl _)
  refine ⟨.ref s1.heap.objs.size, upd H1 s1.heap.objs.size (.tup xs), I1.laid (t' := s1.toks) (fun b u e => Heap.get?_push_of_some _ e) (Nat.le_refl _) ?_, rfl, q _ hf⟩
  exact ⟨z, us, r, ⟨_, Heap.get?_push_size _ rfl, rfl, _, rfl⟩⟩
theorem pe_lst (h : PA X es t) : PE X (.List es pos) (tLst t) := by
  intro pins s σ H Q I hq
  refine wpAny_List_spliced (thn (h pos pins s σ H _ I hq) fun us s1 ⟨xs, H1, I1, r, z, q⟩ => ⟨by rw [← r.length]; exact z, ?_⟩)
  have hf : H1 s1.heap.objs.size = none := I1.hok.fresh (Nat.le_refl _)
  refine ⟨.ref s1.heap.objs.size, upd H1 s1.heap.objs.size (.lst xs), I1.laid (t' := s1.toks) (fun b u e => Heap.get?_push_of_some _ e) (Nat.le_refl _) ?_, rfl, q _ hf⟩
  exact ⟨z, us, 0, r, Heap.get?_push_size _ rfl⟩
end

abbrev Sp := List V → Hp → VK → XK → Prop
abbrev CXT := List Env → Hp → Shared → XK → Value → Shared → Prop

structure Env0 (P : Program) (w : World) (K : PySem.W.Frag) (mg : Str → Option Value) (base : Heap) (A : Around) (outer : List Env) (s : Shared) (H : Hp) : Prop where
  frames : A.frames = some outer
  mod : Mod K mg base
  bs : ∀ b o, base.get? b = some o → s.heap.get? b = some o ∧ H b = none
  bsz : base.objs.size ≤ s.heap.objs.size
  funs : s.heap.FunFrames base outer
  frf : ∀ b ∈ frs outer, H b = none
  hok : HOk P w H s.heap
  bare : AllBare s.gens
def CE (outer : List Env) (P : Program) (w : World) (H : Hp) (s : Shared) (Q : VK) (u : Value) (s' : Shared) : Prop :=
  ∃ v H', s'.os = s.os ∧ AllBare s'.gens ∧ Un (frs outer) [] H H' s.heap s'.heap ∧ HOk P w H' s'.heap ∧ RelV v u ∧ Q v H'
def CR (CX : CXT) (outer : List Env) (P : Program) (w : World) (H : Hp) (s : Shared) (Q : VK) (E : XK) (r : Result) (s' : Shared) : Prop :=
  match r with
  | .ok (.ret u) => CE outer P w H s Q u s'
  | .ok _ => False
  | .error e => CX outer H s E e s'
structure FnOk (P : Program) (w : World) (K : PySem.W.Frag) (mg : Str → Option Value) (base : Heap) (CX : CXT) (k : Nat) (f : Addr) (fd : FuncData) (ps : List Str) (sp : Sp) : Prop where
  len : ∀ vs H Q E, sp vs H Q E → vs.length = ps.length
  run : ∀ (A : Around) (outer : List Env) (s : Shared) (H : Hp) (args : Args) (us : List Value) (vs : List V) (Q : VK) (E : XK), Room k A → Env0 P w K mg base A outer s H → BindsTo s fd args (ps.zip us) → Vals vs us → sp vs H Q E →
    codeAny (model P w) A (.call (.ref f) args) (CR CX outer P w H s Q E) s
theorem Env0.make {P : Program} {w : World} {K : PySem.W.Frag} {mg : Str → Option Value} {base : Heap} {A : Around} {outer : List Env} {s : Shared} {H : Hp} (e : Env0 P w K mg base A outer s H) (C : Addr) (us : List Value) (kw : List (Str × Value)) :
    Env0 P w K mg base (A.under (.builtin "type.__call__" ⟨.ref C :: us, kw⟩)) outer s H := ⟨by first | exact e.frames | (simpa [Around.under, Code.envs, Code.isFrame, pushEnvs] using e.frames), e.mod, e.bs, e.bsz, e.funs, e.frf, e.hok, e.bare⟩
theorem Env0.in1 {P : Program} {w : World} {K : PySem.W.Frag} {mg : Str → Option Value} {base : Heap} {A : Around} {outer : List Env} {s : Shared} {H : Hp} (e : Env0 P w K mg base A outer s H) :
    Env0 P w K mg base A.in1 outer s H := ⟨e.frames, e.mod, e.bs, e.bsz, e.funs, e.frf, e.hok, e.bare⟩

section
variable {X : Cx} {pins : List (Addr × Obj)} {σ : St} {H : Hp} {s s' : Shared}
theorem Inv.env0 (I : Inv X pins σ H s) : Env0 X.prog X.w X.K X.mg X.base X.A X.stack s H :=
  ⟨I.ok.frames, I.ok.mod, I.bs, Nat.le_trans I.ok.bsz I.sz, I.stack, I.stkFree, I.hok, I.bare⟩
theorem Inv.after {Q : VK} {u : Value} (I : Inv X pins σ H s) (h : CE X.stack X.prog X.w H s Q u s') : EP X pins σ Q u s' := by
  obtain ⟨v, H', os, bare, un, hok, r, q⟩ := h
  obtain ⟨hh, g, d, t, os'⟩ := s'
  obtain rfl : os' = s.os := os
  exact ⟨v, H', I.call (h' := hh) (g' := g) (d' := d) (t' := t) (ch := []) un hok bare (fun b z => absurd z (by simp)), r, q⟩
end

def tCall (sp : Sp) (dvs : List V) (E : XK) (t : TA) : TE := fun σ H Q => t σ H fun vs H1 => sp (vs ++ dvs) H1 Q E
def tMeth (C : Addr) (m : Str) (sp : Sp) (dvs : List V) (E : XK) (ta : TE) (t : TA) : TE := fun σ H Q => ta σ H fun x H1 => ∃ a dx fs, x = .ref a ∧ H1 a = some (.ins C dx fs) ∧ fs.lookup m = none ∧
  t σ H1 fun vs H2 => sp (x :: (vs ++ dvs)) H2 Q E
def tMake (C : Addr) (sp : Sp) (dvs : List V) (E : XK) (t : TA) : TE := fun σ H Q => t σ H fun vs H1 => ∀ x dx, H1 x = none → H1 dx = none → dx ≠ x →
  sp (.ref x :: (vs ++ dvs)) (upd (upd H1 dx (.own x)) x (.ins C dx [])) (fun v H2 => v = .non ∧ Q (.ref x) H2) E

def Binds (K : PySem.W.Frag) (fd : FuncData) (ps : List Str) (ds : List Value) : Prop :=
  ∀ (s : Shared) (us : List Value), K.In s.heap → (us ++ ds).length = ps.length → BindsTo s fd ⟨us, []⟩ (ps.zip (us ++ ds))
theorem Binds.all {K : PySem.W.Frag} {fd : FuncData} {ps : List Str} (h : ∀ us : List Value, us.length = ps.length → bindArgs fd ⟨us, []⟩ = pure (ps.zip us)) : Binds K fd ps [] := fun s us _ hl => by
  rw [List.append_nil] at hl ⊢
  exact .of_eq (h us hl)

def Passes (CX : CXT) (X : Cx) (E : XK) : Prop := ∀ (pins : List (Addr × Obj)) (σ : St) (H : Hp) (s : Shared) (e : Value) (s' : Shared), Inv X pins σ H s → CX X.stack H s E e s' → X.xe e s'

section
variable {X : Cx} {CX : CXT} {k : Nat} {f C : Addr} {fd : FuncData} {ps : List Str} {sp : Sp} {dvs : List V} {ds : List Value} {E : XK} {x m : Str} {p pos apos : Pos} {e o : Expr} {es : List Expr} {ta : TE} {t : TA}

theorem run_fn {pins : List (Addr × Obj)} {σ : St} {H : Hp} {s : Shared} {Q : VK} {us : List Value} {vs : List V} (F : FnOk X.prog X.w X.K X.mg X.base CX k f fd ps sp) (hr : Room k X.A) (hb : Binds X.K fd ps ds) (hd : Vals dvs ds) (hx : Passes CX X E)
    (I : Inv X pins σ H s) (r : Vals vs us) (h : sp (vs ++ dvs) H Q E) : wpAny (model X.prog X.w) X.A (call (.ref f) us) (EP X pins σ Q) X.xe s := by
  have r2 : Vals (vs ++ dvs) (us ++ ds) := r.append hd
  have hl : (us ++ ds).length = ps.length := by rw [← r2.length]; exact F.len _ _ _ _ h
  refine wpAny_call (codeAny_mono (F.run X.A X.stack s H ⟨us, []⟩ (us ++ ds) (vs ++ dvs) Q E hr I.env0 (hb s us I.kIn hl) r2 h) fun r s' hq => ?_)
  cases r with
  | error e => exact hx pins σ H s e s' I hq
  | ok fl =>
    cases fl with
    | ret u => exact I.after hq
    | next => exact False.elim hq
    | brk => exact False.elim hq
    | cont => exact False.elim hq

theorem pe_call (F : FnOk X.prog X.w X.K X.mg X.base CX k f fd ps sp) (hr : Room k X.A) (hg : Gl X x) (hm : X.mg x = some (.ref f)) (hk : PySem.W.keepIn X.K (.ref f) = true) (hb : Binds X.K fd ps ds) (hd : Vals dvs ds) (hx : Passes CX X E)
    (ha : PA X (e :: es) t) (hdb : (x == ("__debug__" : Str)) = false := by decide) (he : starEach (e :: es) X.env = (false, eval e X.env) :: starEach es X.env := by rfl) (hpl : (backTo pos (starEach es X.env)).any (·.1) = false := by rfl) :
    PE X (.Call (.Name x p) (e :: es) [] pos) (tCall sp dvs E t) := by
  intro pins s σ H Q I h
  refine wpAny_Call_Name_kw (ld_glob I hg hm ?_ hdb)
  refine PySem.W.callWith_K (h₀ := X.base) I.ok.mod.kin hk (thn (ha pos pins s σ H _ I h) fun us s1 ⟨vs, H1, I1, r, q⟩ => ⟨I1.kIn, ?_⟩) he hpl
  exact run_fn F hr hb hd hx I1 r q
theorem pe_call0 (F : FnOk X.prog X.w X.K X.mg X.base CX k f fd ps sp) (hr : Room k X.A) (hg : Gl X x) (hm : X.mg x = some (.ref f)) (hk : PySem.W.keepIn X.K (.ref f) = true) (hb : Binds X.K fd ps ds) (hd : Vals dvs ds) (hx : Passes CX X E)
    (hdb : (x == ("__debug__" : Str)) = false := by decide) : PE X (.Call (.Name x p) [] [] pos) (tCall sp dvs E tNil) := by
  intro pins s σ H Q I h
  refine wpAny_Call_Name_kw (ld_glob I hg hm ?_ hdb)
  exact PySem.W.callWith_K0 I.kIn hk (run_fn (us := []) F hr hb hd hx I .nil h)

theorem pe_meth {pl : Sem Bool} (he : PE X o ta) (c : Cls X.K C) (hm : Meth X.K C m f) (F : FnOk X.prog X.w X.K X.mg X.base CX k f fd ps sp) (hr : Room k X.A) (hb : Binds X.K fd ps ds) (hd : Vals dvs ds) (hx : Passes CX X E) (ha : PA X (e :: es) t)
    (hst : starEach (e :: es) X.env = (false, eval e X.env) :: starEach es X.env := by rfl) (hpl : (backTo pos (starEach es X.env)).any (·.1) = false := by rfl)
    (ht : eval (.Call (.Attribute o m apos) (e :: es) [] pos) X.env = (do
      let ov ← eval o X.env
      standAt apos.atName
      let (f, first) ← holding [ov] (getMethod ov m pl)
      callWith pos f first (backTo pos (starEach (e :: es) X.env)) (backToKw pos (keywordEach [] X.env))) := by rfl) :
    PE X (.Call (.Attribute o m apos) (e :: es) [] pos) (tMeth C m sp dvs E ta t) := by
  intro pins s σ H Q I h
  refine PySem.W.methodCall_KW (pl := pl) (thn (he pins s σ H _ I h) fun u s1 ⟨x, H1, I1, rx, a, dx, fs, ex, ea, l, q⟩ => ?_) ht
  subst ex
  obtain rfl : u = Value.ref a := rx
  refine getmeth_ok I1 ea c hm l ?_
  refine PySem.W.callWith_K (first := [.ref a]) (h₀ := X.base) I.ok.mod.kin hm.kp (thn (ha pos pins s1 σ H1 _ I1 q) fun us s2 ⟨vs, H2, I2, r, q2⟩ => ⟨I2.kIn, ?_⟩) hst hpl
  exact run_fn (us := .ref a :: us) (vs := .ref a :: vs) F hr hb hd hx I2 (.cons rfl r) q2
theorem pe_meth0 {pl : Sem Bool} (he : PE X o ta) (c : Cls X.K C) (hm : Meth X.K C m f) (F : FnOk X.prog X.w X.K X.mg X.base CX k f fd ps sp) (hr : Room k X.A) (hb : Binds X.K fd ps ds) (hd : Vals dvs ds) (hx : Passes CX X E)
    (ht : eval (.Call (.Attribute o m apos) [] [] pos) X.env = (do
      let ov ← eval o X.env
      standAt apos.atName
      let (f, first) ← holding [ov] (getMethod ov m pl)
      callWith pos f first (backTo pos (starEach [] X.env)) (backToKw pos (keywordEach [] X.env))) := by rfl) :
    PE X (.Call (.Attribute o m apos) [] [] pos) (tMeth C m sp dvs E ta tNil) := by
  intro pins s σ H Q I h
  refine PySem.W.methodCall_KW (pl := pl) (thn (he pins s σ H _ I h) fun u s1 ⟨x, H1, I1, rx, a, dx, fs, ex, ea, l, q⟩ => ?_) ht
  subst ex
  obtain rfl : u = Value.ref a := rx
  refine getmeth_ok I1 ea c hm l ?_
  exact PySem.W.callWith_K0 (first := [.ref a]) I1.kIn hm.kp (run_fn (us := [.ref a]) (vs := [.ref a]) F hr hb hd hx I1 (.cons rfl .nil) q)

structure Mk (K : PySem.W.Frag) (C f : Addr) : Prop where
  makes : PySem.W.makesIn K C = true
  init : PySem.W.findIn K (.ref C) "__init__" = some (some (.ref f))
  fn : PySem.W.isFn K (.ref f) = true
  kp : PySem.W.keepIn K (.ref C) = true

theorem run_make {pins : List (Addr × Obj)} {σ : St} {H : Hp} {s : Shared} {Q : VK} {us : List Value} {vs : List V} (M : Mk X.K C f) (F : FnOk X.prog X.w X.K X.mg X.base CX k f fd ps sp) (hr : Room (k + 1) X.A) (hb : Binds X.K fd ps ds) (hd : Vals dvs ds)
    (hx : Passes CX X E) (I : Inv X pins σ H s) (r : Vals vs us)
    (h : ∀ x dx, H x = none → H dx = none → dx ≠ x → sp (.ref x :: (vs ++ dvs)) (upd (upd H dx (.own x)) x (.ins C dx [])) (fun v H2 => v = .non ∧ Q (.ref x) H2) E) :
    wpAny (model X.prog X.w) X.A (call (.ref C) us) (EP X pins σ Q) X.xe s := by
  have hq := h (s.heap.objs.size + 1) s.heap.objs.size (I.hok.fresh (Nat.le_succ _)) (I.hok.fresh (Nat.le_refl _)) (Nat.ne_of_lt (Nat.lt_succ_self _))
  have I2 := Inv.made (C := C) I
  have r2 : Vals (V.ref (s.heap.objs.size + 1) :: (vs ++ dvs)) (Value.ref (s.heap.objs.size + 1) :: (us ++ ds)) := .cons rfl (r.append hd)
  have hl : (Value.ref (s.heap.objs.size + 1) :: us ++ ds).length = ps.length := by
    have e := r2.length
    rw [F.len _ _ _ _ hq] at e
    exact e.symm
  refine wpAny_call (make_map (f := f) I.kIn M.makes M.init (beq_iff_eq.mp M.fn) (codeAny_mono (F.run _ X.stack _ _ ⟨Value.ref (s.heap.objs.size + 1) :: us, []⟩ (Value.ref (s.heap.objs.size + 1) :: (us ++ ds)) _ _ E (hr.make C us [])
    (I2.env0.make C us []) (hb _ (Value.ref (s.heap.objs.size + 1) :: us) I2.kIn hl) r2 hq) fun r s' hq' => ?_))
  cases r with
  | error e => exact hx pins σ _ _ e s' I2 hq'
  | ok fl =>
    cases fl with
    | ret u =>
      obtain ⟨v, H', I3, rv, ev, q3⟩ := I2.after hq'
      subst ev
      exact ⟨rv, ⟨V.ref (s.heap.objs.size + 1), H', I3, rfl, q3⟩⟩
    | next => exact False.elim hq'
    | brk => exact False.elim hq'
    | cont => exact False.elim hq'
theorem pe_make (M : Mk X.K C f) (F : FnOk X.prog X.w X.K X.mg X.base CX k f fd ps sp) (hr : Room (k + 1) X.A) (hg : Gl X x) (hm : X.mg x = some (.ref C)) (hb : Binds X.K fd ps ds) (hd : Vals dvs ds) (hx : Passes CX X E)
    (ha : PA X (e :: es) t) (hdb : (x == ("__debug__" : Str)) = false := by decide) (he : starEach (e :: es) X.env = (false, eval e X.env) :: starEach es X.env := by rfl) (hpl : (backTo pos (starEach es X.env)).any (·.1) = false := by rfl) :
    PE X (.Call (.Name x p) (e :: es) [] pos) (tMake C sp dvs E t) := by
  intro pins s σ H Q I h
  refine wpAny_Call_Name_kw (ld_glob I hg hm ?_ hdb)
  refine PySem.W.callWith_K (h₀ := X.base) I.ok.mod.kin M.kp (thn (ha pos pins s σ H _ I h) fun us s1 ⟨vs, H1, I1, r, q⟩ => ⟨I1.kIn, ?_⟩) he hpl
  exact run_make M F hr hb hd hx I1 r q
end

def PK (X : Cx) (kws : List Keyword) (t : TA) : Prop :=
  ∀ (pos : Pos) (pins : List (Addr × Obj)) (s : Shared) (σ : St) (H : Hp) (Q : List V → Hp → Prop), Inv X pins σ H s → t σ H Q → wpAny (model X.prog X.w) X.A (evalAll ((backToKw pos (keywordEach kws X.env)).map (·.2))) (AP X pins σ Q) X.xe s
section
variable {X : Cx} {CX : CXT} {k : Nat} {f C : Addr} {fd : FuncData} {ps ks : List Str} {sp : Sp} {E : XK} {x m : Str} {p pos apos kpos : Pos} {e o : Expr} {es : List Expr} {kws : List Keyword} {te ta : TE} {t tk : TA} {nm : Option Str}
theorem pk_nil : PK X [] tNil := fun _ _ _ _ H Q I h => wpAny_evalAll_nil ⟨[], H, I, .nil, h⟩
theorem pk_cons (ha : PE X e te) (hr : PK X kws t) : PK X (⟨nm, e, kpos⟩ :: kws) (tCons te t) := by
  intro pos pins s σ H Q I h
  show wpAny _ _ (evalAll ((do let v ← eval e X.env; standAt pos; pure v) :: (backToKw pos (keywordEach kws X.env)).map (·.2))) _ _ s
  refine wpAny_evalAll_cons (wpAny_bind (thn (ha pins s σ H _ I h) fun u s1 ⟨x, H1, I1, r1, q1⟩ => wpAny_bind (wpAny_standAt (wpAny_pure ?_))))
  exact thn (hr pos pins s1 σ H1 _ I1 q1) fun us s2 ⟨xs, H2, I2, r2, q2⟩ => ⟨x :: xs, H2, I2, .cons r1 r2, q2⟩

structure KBinds (K : PySem.W.Frag) (fd : FuncData) (ps ks : List Str) (g : List Value → List Value → List Value) (gV : List V → List V → List V) : Prop where
  to : ∀ (s : Shared) (us ws : List Value), K.In s.heap → (g us ws).length = ps.length → BindsTo s fd ⟨us, ks.zip ws⟩ (ps.zip (g us ws))
  rel : ∀ {vs : List V} {us : List Value} {zs : List V} {ws : List Value}, Vals vs us → Vals zs ws → Vals (gV vs zs) (g us ws)
variable {g : List Value → List Value → List Value} {gV : List V → List V → List V}
end

structure FnScope (N P : List Str) (sc : Scope) : Prop where
  kind : sc.kind = .function
  co : sc.isCoroutine = false
  gen : sc.isGenerator = false
  nd : N.Nodup
  pre : N.take P.length = P
  par : ∀ x ∈ P, sc.names.lookup x = some .local ∨ sc.names.lookup x = some .cell
  nofree : ∀ y ∈ sc.names, y.2 ≠ .free

theorem bindL_out {kindOf : Str → Option NameKind} {x : Str} : ∀ {binds : List (Str × Value)} {m : Str → Option Value}, (∀ v, (x, v) ∉ binds) → bindL kindOf binds m x = m x
  | [], _, _ => rfl
  | (n, v) :: r, m, h => by
    unfold bindL
    rw [bindL_out fun w hw => h w (List.mem_cons_of_mem _ hw)]
    split
    · have : x ≠ n := by rintro rfl; exact h v List.mem_cons_self
      simp [this]
    · rfl
theorem bindC_out {kindOf : Str → Option NameKind} {x : Str} : ∀ {binds : List (Str × Value)} {m : Str → Option Value}, (∀ v, (x, v) ∉ binds) → bindC kindOf binds m x = m x
  | [], _, _ => rfl
  | (n, v) :: r, m, h => by
    unfold bindC
    rw [bindC_out fun w hw => h w (List.mem_cons_of_mem _ hw)]
    split
    · rfl
    · have : x ≠ n := by rintro rfl; exact h v List.mem_cons_self
      simp [this]
theorem bindL_get {kindOf : Str → Option NameKind} {x : Str} {v : Value} : ∀ {P : List Str} {vs : List Value} {i : Nat} {m : Str → Option Value}, P.Nodup → P[i]? = some x → vs[i]? = some v → kindOf x = some .local →
    bindL kindOf (P.zip vs) m x = some v
  | [], _, _, _, _, h, _, _ => by simp at h
  | _ :: _, [], _, _, _, _, h, _ => by simp at h
  | p :: P, w :: vs, 0, m, nd, h1, h2, hk => by
    simp at h1 h2; subst h1; subst h2
    show bindL kindOf ((p, w) :: P.zip vs) m p = _
    unfold bindL
    rw [bindL_out fun v hv => (List.nodup_cons.mp nd).1 (List.of_mem_zip hv).1, if_pos hk]
    simp
  | p :: P, w :: vs, i + 1, m, nd, h1, h2, hk => by
    show bindL kindOf ((p, w) :: P.zip vs) m x = _
    unfold bindL
    exact bindL_get (i := i) (List.nodup_cons.mp nd).2 (by simpa using h1) (by simpa using h2) hk
theorem bindC_get {kindOf : Str → Option NameKind} {x : Str} {v : Value} : ∀ {P : List Str} {vs : List Value} {i : Nat} {m : Str → Option Value}, P.Nodup → P[i]? = some x → vs[i]? = some v → kindOf x ≠ some .local →
    bindC kindOf (P.zip vs) m x = some v
  | [], _, _, _, _, h, _, _ => by simp at h
  | _ :: _, [], _, _, _, _, h, _ => by simp at h
  | p :: P, w :: vs, 0, m, nd, h1, h2, hk => by
    simp at h1 h2; subst h1; subst h2
    show bindC kindOf ((p, w) :: P.zip vs) m p = _
    unfold bindC
    rw [bindC_out fun v hv => (List.nodup_cons.mp nd).1 (List.of_mem_zip hv).1, if_neg hk]
    simp
  | p :: P, w :: vs, i + 1, m, nd, h1, h2, hk => by
    show bindC kindOf ((p, w) :: P.zip vs) m x = _
    unfold bindC
    exact bindC_get (i := i) (List.nodup_cons.mp nd).2 (by simpa using h1) (by simpa using h2) hk

def start (N : List Str) (vs : List V) : St := vs.map some ++ List.replicate (N.length - vs.length) none

def cxOf (CX : CXT) (P : Program) (w : World) (K : PySem.W.Frag) (mg : Str → Option Value) (base : Heap) (N : List Str) (qual : Str) (scope : Scope) (f : Addr) (cd : Value) (A : Around) (outer : List Env) (s : Shared) (H : Hp) (E : XK) : Cx where
  prog := P
  w := w
  K := K
  mg := mg
  base := base
  A := A.deeper (envOfC qual scope s.heap.objs.size f cd)
  N := N
  s_0 := s
  H_0 := H
  env := envOfC qual scope s.heap.objs.size f cd
  outer := outer
  stack := envOfC qual scope s.heap.objs.size f cd :: outer
  ex := []
  calm := true
  fn := fun _ => true
  pn := []
  xe := fun e s' => wpAny (model P w) (A.deeper (envOfC qual scope s.heap.objs.size f cd)) (leaving (envOfC qual scope s.heap.objs.size f cd) e) (fun _ s'' => CX outer H s E e s'') (fun e' s'' => CX outer H s E e' s'') s'

theorem cell_has {sc : Scope} {n : Nat} {x : Str} (h : sc.names.lookup x = some .cell) : ∃ c, (cellsFrom n sc.names []).lookup x = some c := by
  have q := PySem.W.cellsFrom_some sc.names n [] (.inl h)
  exact Option.isSome_iff_exists.mp q

theorem inv_start {CX : CXT} {P : Program} {w : World} {K : PySem.W.Frag} {mg : Str → Option Value} {base : Heap} {N ps : List Str} {qual : Str} {scope : Scope} {f : Addr} {cd : Value} {A : Around} {outer : List Env} {s s1 : Shared} {H : Hp} {E : XK} {us : List Value} {vs : List V}
    (S : FnScope N ps scope) (hd : A.handled = none) (e0 : Env0 P w K mg base A outer s H) (hl : vs.length = ps.length) (r : Vals vs us)
    (x : InCallC s s.heap.objs.size (bindL (envOfC qual scope s.heap.objs.size f cd).kindOf (ps.zip us) fun _ => none) (cellsFrom (s.heap.objs.size + 1) scope.names []) (bindC (envOfC qual scope s.heap.objs.size f cd).kindOf (ps.zip us) fun _ => none) s1) :
    Inv (cxOf CX P w K mg base N qual scope f cd A outer s H E) [] (start N vs) H s1 := by
  have hpl : ps.length ≤ N.length := by have := congrArg List.length S.pre; rw [List.length_take] at this; omega
  obtain ⟨h1, tk, rfl, hk⟩ := x.done
  have noA : ∀ b : Addr, b ∉ (cxOf CX P w K mg base N qual scope f cd A outer s H E).ex := fun b z => absurd (show b ∈ ([] : List Addr) from z) (by simp)
  refine ⟨⟨e0.mod, S.kind, rfl, rfl, Nat.le_refl _, fun y z c h1 h2 => ?_, fun y hy => ?_, fun y c _ h => ?_, fun _ => hd, Around.frames_deeper e0.frames, .inr ⟨rfl, rfl⟩, fun b z => absurd z (noA b), e0.bs, e0.bsz, fun b _ _ => noA b, fun b z => absurd z (noA b), e0.funs, e0.frf⟩,
    rfl, e0.bare, Un.kept hk, ⟨_, x.toInCall.ns, fun i y v h1 h2 h3 => ?_⟩, fun y c h => ⟨_, x.cell y c h⟩, e0.hok.fresh (Nat.le_refl _), fun y c h => ?_, fun p hp => absurd (show p ∈ ([] : List (Addr × Obj)) from hp) (by simp), e0.hok.kept hk, ?_⟩
  · exact name_of_addr x.apart (PySem.mem_of_lookup h1) (PySem.mem_of_lookup h2)
  · have hy : scope.names.lookup y = some .cell ∨ scope.names.lookup y = some .free := hy
    rcases hy with hy | hy
    · exact cell_has hy
    · exact absurd rfl (S.nofree _ (PySem.mem_of_lookup hy))
  · exact Nat.le_of_lt (x.above y c (PySem.mem_of_lookup h))
  · have hi : i < vs.length := by
      unfold start at h2
      by_cases hi : i < vs.length
      · exact hi
      · rw [List.getElem?_append_right (by simpa using hi)] at h2
        rw [List.getElem?_replicate] at h2
        split at h2 <;> cases h2
    have ha : vs[i]? = some v := by
      unfold start at h2
      rw [List.getElem?_append_left (by simpa using hi), List.getElem?_map] at h2
      cases e : vs[i]? with
      | none => rw [e] at h2; cases h2
      | some a => rw [e] at h2; cases h2; rfl
    obtain ⟨u, hu, rv⟩ := r.get ha
    have hp : ps[i]? = some y := by
      rw [← S.pre, List.getElem?_take_of_lt (by omega)]; exact h1
    have ndP : ps.Nodup := by rw [← S.pre]; exact S.nd.sublist (List.take_sublist _ _)
    refine ⟨u, rv, ?_⟩
    rcases S.par y (List.mem_of_getElem? hp) with k | k
    · exact .inl ⟨k, bindL_get ndP hp hu k⟩
    · obtain ⟨c, e⟩ := cell_has (n := s.heap.objs.size + 1) k
      refine .inr ⟨.inl k, c, e, ?_⟩
      have q := x.cell y c e
      rw [bindC_get ndP hp hu (by show scope.names.lookup y ≠ _; rw [k]; decide)] at q
      exact q
  · exact e0.hok.fresh (Nat.le_of_lt (x.above y c (PySem.mem_of_lookup h)))
  · unfold start
    show _ = N.length
    rw [List.length_append, List.length_map, List.length_replicate]
    omega

theorem fn_of {CX : CXT} {P : Program} {w : World} {K : PySem.W.Frag} {mg : Str → Option Value} {base : Heap} {k : Nat} {f : Addr} {name qual : Str} {params : Arguments} {body : List Stmt} {scope : Scope} {dV kV doc pm cdv ct oc : Value} {an od : Option Addr}
    {osl : Array (Option Value)} {N ps : List Str} {sp : Sp} (lk : K.lookup f = some ⟨oc, od, .func (PySem.W.fnOf name qual params body scope dV kV doc pm an cdv ct), osl⟩) (hcd : PySem.W.codeIn K cdv qual = true) (S : FnScope N ps scope)
    (len : ∀ vs H Q E, sp vs H Q E → vs.length = ps.length)
    (hbody : ∀ (A : Around) (outer : List Env) (s : Shared) (H : Hp) (vs : List V) (Q : VK) (E : XK), Room k (A.deeper (envOfC qual scope s.heap.objs.size f cdv)) → sp vs H Q E →
      ∃ t, PSs (cxOf CX P w K mg base N qual scope f cdv A outer s H E) body t ∧ t { nx := fun _ H' => Q .non H', rt := Q } (start N vs) H) :
    FnOk P w K mg base CX (k + 1) f (PySem.W.fnOf name qual params body scope dV kV doc pm an cdv ct) ps sp := by
  refine ⟨len, fun A outer s H args us vs Q E hr e0 hb r hsp => ?_⟩
  have hl := len _ _ _ _ hsp
  have KX : K.In s.heap := e0.mod.kin.keeps fun b o e => (e0.bs b o e).1
  have lim : s.heap.NoLimit := e0.mod.nolimit.keeps fun b o e => (e0.bs b o e).1
  have hkind : ∀ y ∈ ps.zip us, scope.names.lookup y.1 = some .local ∨ (scope.names.lookup y.1 = some .cell ∧ ((cellsFrom (s.heap.objs.size + 1) scope.names []).lookup y.1).isSome = true) := fun ⟨n, v⟩ hy => by
    rcases S.par n (List.of_mem_zip hy).1 with q | q
    · exact .inl q
    · exact .inr ⟨q, PySem.W.cellsFrom_some _ _ _ (.inl q)⟩
  refine codeAny_call_function hr.depth (KX _ _ lk) rfl S.co S.gen rfl (PySem.W.codeRec_of KX hcd) (hb _ _ _ _ ?_)
  refine wpAny_newFunctionEnv_cells S.kind hkind fun env he s1 x => ?_
  subst he
  refine ⟨lim.keeps x.toInCall.keep, codeAny_func ?_⟩
  obtain ⟨t, ht, hq⟩ := hbody A outer s H vs Q E (hr.deeper _) hsp
  have I : Inv (cxOf CX P w K mg base N qual scope f cdv A outer s H E) [] (start N vs) H s1 := inv_start S hr.hd e0 hl r x
  refine wpAny_mono (ht [] s1 (start N vs) H _ I hq) (fun fl s' hs => ?_) fun e s' hs => hs
  have fin : ∀ {σ' : St} {H' : Hp} {v : V} {u : Value}, Inv (cxOf CX P w K mg base N qual scope f cdv A outer s H E) [] σ' H' s' → RelV v u → Q v H' → CE outer P w H s Q u s' :=
    fun {σ' H' v u} J rv q => ⟨v, H', J.os, J.bare, J.base, J.hok, rv, q⟩
  cases fl with
  | ret u =>
    obtain ⟨v, σ', H', J, rv, q⟩ := hs
    exact fin J rv q
  | next =>
    obtain ⟨σ', H', J, q⟩ := hs
    exact fin (v := V.non) (u := Value.none) J rfl q
  | brk =>
    obtain ⟨_, _, _, q⟩ := hs
    exact False.elim q
  | cont =>
    obtain ⟨_, _, _, q⟩ := hs
    exact False.elim q
end L2

namespace L2
open PySem PySem.Spec PyProof.Rows
section
variable {X : Cx} {x : Str} {p pos : Pos} {e : Expr} {es : List Expr} {t : TA} {id T : String} {r : List V → Hp → VK → Prop}

def tCB (r : List V → Hp → VK → Prop) (t : TA) : TE := fun σ H Q => t σ H fun vs H1 => r vs H1 Q
theorem pe_callB (hc : CallR X (.builtin id) r) (hg : Gl X x) (hm : X.mg x = none) (hv : bootBuiltins x = some (.builtin id)) (ha : PA X (e :: es) t) (hn : x ≠ "__name__" := by decide) (hdb : (x == ("__debug__" : Str)) = false := by decide)
    (he : starEach (e :: es) X.env = (false, eval e X.env) :: starEach es X.env := by rfl) (hpl : (backTo pos (starEach es X.env)).any (·.1) = false := by rfl) : PE X (.Call (.Name x p) (e :: es) [] pos) (tCB r t) := by
  intro pins s σ H Q I h
  refine wpAny_Call_Name_kw (ld_blt I hg hm hv ?_ hn hdb)
  exact PyProof.Rows.callWith_builtin1 (thn (ha pos pins s σ H _ I h) fun us s1 ⟨vs, H1, I1, r1, q1⟩ => hc pins s1 σ H1 vs us Q I1 r1 q1) he hpl
theorem pe_callTy (hc : CallR X (.type T) r) (hg : Gl X x) (hm : X.mg x = none) (hv : bootBuiltins x = some (.type T)) (ha : PA X (e :: es) t) (hn : x ≠ "__name__" := by decide) (hdb : (x == ("__debug__" : Str)) = false := by decide)
    (he : starEach (e :: es) X.env = (false, eval e X.env) :: starEach es X.env := by rfl) (hpl : (backTo pos (starEach es X.env)).any (·.1) = false := by rfl) : PE X (.Call (.Name x p) (e :: es) [] pos) (tCB r t) := by
  intro pins s σ H Q I h
  refine wpAny_Call_Name_kw (ld_blt I hg hm hv ?_ hn hdb)
  exact PyProof.Rows.callWith_type1 (thn (ha pos pins s σ H _ I h) fun us s1 ⟨vs, H1, I1, r1, q1⟩ => hc pins s1 σ H1 vs us Q I1 r1 q1) he hpl
end
end L2

namespace HT
open PySem PyProof.Rows

def lexLt : List Int → List Int → Bool
  | [], [] => false
  | [], _ :: _ => true
  | _ :: _, [] => false
  | x :: xs, y :: ys => if x = y then lexLt xs ys else decide (x < y)
theorem lexLt_cons (x y : Int) (xs ys : List Int) : lexLt (x :: xs) (y :: ys) = if x = y then lexLt xs ys else decide (x < y) := rfl
theorem lexLt_nil_nil : lexLt [] [] = false := rfl
theorem eqAt_int (A : Around) (s : Shared) (a : Int) (t : Tok) (c : Int) (u : Tok) : ∃ e, SeqAt.EqAt A s (.int a t) (.int c u) e ∧ (e = true ↔ a = c) :=
  ⟨(a == c), SeqAt.EqAt.int_int a t c u, by simp⟩
theorem rcLt_int (A : Around) (s : Shared) (a : Int) (t : Tok) (c : Int) (u : Tok) (prog : Program) (w : World) (E : Value → Shared → Prop) (Q : Value → Shared → Prop) (h : Q (.bool (decide (a < c))) s) :
    wpAny (model prog w) A (richCompare .Lt (.int a t) (.int c u)) Q E s :=
  (PyProof.Rows.lt_int h : wpAny (model prog w) A (compareOp .Lt (.int a t) (.int c u)) Q E s)

section
open PySem.SeqAt
open PySem.AutoSeq1 (wpAny_loadPart')
open PySem.MeetsSeq PySem.MeetsSeq2 PySem.MeetsSeq3

end

section
variable {prog : Program} {w : World} {A : Around} {E : Value → Shared → Prop} {s : Shared}

def sIx (n d : Nat) : Option Int → Nat
  | none => d
  | some v => if v < 0 then (v + (n : Int)).toNat else min v.toNat n
theorem sIx_none (n d : Nat) : sIx n d none = d := rfl
theorem sIx_nat (n d k : Nat) : sIx n d (some (k : Int)) = min k n := by
  show (if (k : Int) < 0 then ((k : Int) + (n : Int)).toNat else min (k : Int).toNat n) = min k n
  rw [if_neg (by omega), Int.toNat_natCast]
end
end HT

namespace L2
open PySem PySem.Spec PyProof.Rows

abbrev TO := St → Hp → (Option Int → Hp → Prop) → Prop
def PO (X : Cx) (e : Option Expr) (t : TO) : Prop :=
  ∀ (pins : List (Addr × Obj)) (s : Shared) (σ : St) (H : Hp) (Q : Option Int → Hp → Prop), Inv X pins σ H s → t σ H Q →
    wpAny (model X.prog X.w) X.A (evalPart e X.env) (fun u s' => ∃ o H', Inv X pins σ H' s' ∧ IsPart u o ∧ Q o H') X.xe s
def tNoPart : TO := fun _ H Q => Q none H
def tPart (t : TE) : TO := fun σ H Q => t σ H fun x H1 => ∃ i, x = .int i ∧ Q (some i) H1

theorem intsAre_of {ns : List Int} : ∀ {us : List Value}, Vals (ns.map V.int) us → IntsAre us ns := by
  induction ns with
  | nil => intro us r; rw [List.map_nil] at r; cases r; exact .nil
  | cons n ns ih =>
    intro us r
    rw [List.map_cons] at r
    cases r with
    | cons r1 r2 =>
      obtain ⟨t, e⟩ := r1
      subst e
      exact .cons n t (ih r2)

section
variable {X : Cx} {e : Expr} {te : TE} {lo hi : Option Expr} {tl th : TO} {pos p2 : Pos}

theorem po_none : PO X none tNoPart := by
  intro pins s σ H Q I h
  rw [evalPart_none]
  exact wpAny_pure ⟨none, H, I, .none, h⟩
theorem po_some (h : PE X e te) : PO X (some e) (tPart te) := by
  intro pins s σ H Q I hw
  rw [evalPart_some]
  refine thn (h pins s σ H _ I hw) fun u s1 ⟨x, H1, I1, r1, q1⟩ => ?_
  obtain ⟨i, rfl, q⟩ := q1
  obtain ⟨t, rfl⟩ := r1
  exact ⟨some i, H1, I1, .int i t, q⟩

def SlR (X : Cx) (r : V → Option Int → Option Int → Hp → VK → Prop) : Prop :=
  ∀ (pins : List (Addr × Obj)) (s : Shared) (σ : St) (H : Hp) (x : V) (v vl vu : Value) (lo hi : Option Int) (sl : Addr) (Q : VK), Inv X pins σ H s → RelV x v → s.heap.IsSliceOf sl vl vu .none → IsPart vl lo → IsPart vu hi → r x lo hi H Q →
    ∃ T id, typeLookup (.type T) "__getitem__" = pure (some (.builtin id)) ∧ s.TypeIs v T ∧ wpAny (model X.prog X.w) X.A (getItem v (.ref sl)) (EP X pins σ Q) X.xe s
def tSl (r : V → Option Int → Option Int → Hp → VK → Prop) (te : TE) (tl th : TO) : TE := fun σ H Q => te σ H fun x H1 => tl σ H1 fun l H2 => th σ H2 fun u H3 => r x l u H3 Q
theorem pe_slice {r : V → Option Int → Option Int → Hp → VK → Prop} (hr : SlR X r) (he : PE X e te) (hl : PO X lo tl) (hu : PO X hi th) : PE X (.Subscript e (.Slice lo hi none p2) pos) (tSl r te tl th) := by
  intro pins s σ H Q I h
  refine Subscript_ (thn (he pins s σ H _ I h) fun v s1 ⟨x, H1, I1, r1, q1⟩ => ?_)
  refine wpAny_Slice (thn (hl pins s1 σ H1 _ I1 q1) fun vl s2 ⟨l, H2, I2, pl, q2⟩ => thn (hu pins s2 σ H2 _ I2 q2) fun vu s3 ⟨u, H3, I3, pu, q3⟩ => ?_)
  rw [evalPart_none]
  refine wpAny_pure ?_
  have I4 : Inv X pins σ H3 { s3 with heap := s3.heap.push { cls := .type "slice", data := .fields #[vl, vu, .none] } } := I3.kept (t' := s3.toks) fun b ob q => Heap.get?_push_of_some _ q
  obtain ⟨T, id, hT, ht, hg⟩ := hr pins { s3 with heap := s3.heap.push { cls := .type "slice", data := .fields #[vl, vu, .none] } } σ H3 x v vl vu l u s3.heap.objs.size Q I4 r1 (Heap.IsSliceOf.new ..) pl pu q3
  show wpAny (model X.prog X.w) X.A (subscriptTail e (.Slice lo hi none p2) v (.ref s3.heap.objs.size)) (EP X pins σ Q) X.xe { s3 with heap := s3.heap.push { cls := .type "slice", data := .fields #[vl, vu, .none] } }
  exact tail_any (ops := [.ref s3.heap.objs.size, v]) ht hT hg (by with_unfolding_all rfl)

def cutV (xs : List V) (lo hi : Option Int) : List V := (xs.drop (HT.sIx xs.length 0 lo)).take (HT.sIx xs.length xs.length hi - HT.sIx xs.length 0 lo)
theorem cutV_length (xs : List V) (lo hi : Option Int) : (cutV xs lo hi).length ≤ xs.length := by
  unfold cutV
  rw [List.length_take, List.length_drop]
  omega
end
end L2

namespace L2
open PySem PySem.Spec PyProof.Rows

def ixN (n : Nat) (i : Int) : Option Nat := if 0 ≤ i then (if i < n then some i.toNat else none) else if -(n : Int) ≤ i then some (i + n).toNat else none
def atI {α : Type} (xs : List α) (i : Int) : Option α := (ixN xs.length i).bind fun j => xs[j]?
theorem ixN_seq {n : Nat} {i : Int} {j : Nat} (h : ixN n i = some j) : seqIndex? i n = some j ∧ j < n ∧ -(n : Int) ≤ i ∧ i < n := by
  unfold ixN at h
  by_cases h0 : 0 ≤ i
  · rw [if_pos h0] at h
    by_cases h1 : i < n
    · rw [if_pos h1] at h
      have e : i.toNat = j := Option.some.inj h
      exact ⟨by rw [seqIndex_of h0 h1, e], by omega, by omega, h1⟩
    · rw [if_neg h1] at h; cases h
  · rw [if_neg h0] at h
    by_cases h1 : -(n : Int) ≤ i
    · rw [if_pos h1] at h
      have e : (i + n).toNat = j := Option.some.inj h
      exact ⟨by rw [seqIndex_neg (by omega) h1, e], by omega, h1, by omega⟩
    · rw [if_neg h1] at h; cases h
theorem atI_get {α : Type} {xs : List α} {i : Int} {v : α} (h : atI xs i = some v) : ∃ j, seqIndex? i xs.length = some j ∧ xs[j]? = some v ∧ j < xs.length ∧ -(xs.length : Int) ≤ i ∧ i < xs.length := by
  unfold atI at h
  cases e : ixN xs.length i with
  | none => rw [e] at h; cases h
  | some j =>
    rw [e] at h
    obtain ⟨h1, h2, h3, h4⟩ := ixN_seq e
    exact ⟨j, h1, h, h2, h3, h4⟩
theorem atI_nat {α : Type} {xs : List α} {j : Nat} {v : α} (h : xs[j]? = some v) : atI xs (j : Int) = some v := by
  have hj : j < xs.length := (List.getElem?_eq_some_iff.mp h).1
  have e : ixN xs.length (j : Int) = some j := by
    unfold ixN
    rw [if_pos (by omega), if_pos (by omega)]; simp
  unfold atI; rw [e]; exact h
theorem atI_last {α : Type} (xs : List α) (v : α) : atI (xs ++ [v]) (-1) = some v := by
  have hl : (xs ++ [v]).length = xs.length + 1 := by simp
  have e : ixN (xs ++ [v]).length (-1) = some xs.length := by
    unfold ixN
    rw [hl, if_neg (by decide), if_pos (by omega)]
    congr 1
    omega
  unfold atI
  rw [e]
  show (xs ++ [v])[xs.length]? = some v
  simp

def PlainIx (b : Expr) : Prop := ∀ o i, subscripted b false o i = operate [o, i] (getItem o i)
def IxR (X : Cx) (r : R2) : Prop :=
  ∀ (value slice : Expr) (pins : List (Addr × Obj)) (s : Shared) (σ : St) (H : Hp) (x y : V) (v u : Value) (Q : VK), Inv X pins σ H s → RelV x v → RelV y u → r x y H Q →
    subscripted slice false v u = operate [v, u] (getItem v u) → wpAny (model X.prog X.w) X.A (subscriptTail value slice v u) (EP X pins σ Q) X.xe s
def MtR (X : Cx) (id : String) (r : V → List V → Hp → VK → Prop) : Prop :=
  ∀ (pins : List (Addr × Obj)) (s : Shared) (σ : St) (H : Hp) (x : V) (xs : List V) (v : Value) (us : List Value) (Q : VK), Inv X pins σ H s → RelV x v → Vals xs us → r x xs H Q →
    wpAny (model X.prog X.w) X.A (call (.builtin id) (v :: us)) (EP X pins σ Q) X.xe s
section
variable {X : Cx} {a b : Expr} {ta tb : TE} {pos : Pos}
theorem pe_ix {r : R2} (hr : IxR X r) (ha : PE X a ta) (hb : PE X b tb) (hs : PlainIx b) : PE X (.Subscript a b pos) (tOp r ta tb) := by
  intro pins s σ H Q I h
  exact Subscript_ (binT ha hb I h fun v u s2 x y H2 I2 rx ry q => hr a b pins s2 σ H2 x y v u Q I2 rx ry q (hs _ _))

def rIxL (K : PySem.W.Frag) : R2 := fun x y H Q => ∃ p xs i v, x = .ref p ∧ y = .int i ∧ SqL K H p xs ∧ atI xs i = some v ∧ Q v H
def rIxT (K : PySem.W.Frag) : R2 := fun x y H Q => ∃ p xs i v, x = .ref p ∧ y = .int i ∧ SqT K H p xs ∧ atI xs i = some v ∧ Q v H
theorem ix_list : IxR X (rIxL X.K) := by
  intro value slice pins s σ H x y v u Q I rx ry h hs
  obtain ⟨p, xs, i, z, rfl, rfl, hq, he, q⟩ := h
  cases rx
  obtain ⟨t, rfl⟩ := ry
  obtain ⟨its, r, pl, hz⟩ := I.list hq
  obtain ⟨j, h1, h2, h3, h4, h5⟩ := atI_get he
  obtain ⟨w, ew, rw'⟩ := r.get h2
  have hl := r.length
  have hn := line63
  have fin : EP X pins σ Q w s := ⟨z, H, I, rw', q⟩
  by_cases h0 : 0 ≤ i
  · have hj : i.toNat = j := by
      rw [seqIndex_of h0 h5] at h1
      exact Option.some.inj h1
    exact item_listR pl.isList h0 (by omega) (by rw [hj]; simpa using ew) fin hs
  · have hj : (i + (its.toArray.size : Int)).toNat = j := by
      rw [seqIndex_neg (by omega) h4] at h1
      rw [List.size_toArray, ← hl]
      exact Option.some.inj h1
    exact subscriptTail_builtinR (x := w) pl.isList.typeIs slot_list_getitem.lookup
      (wpAny_getItem_list_neg (Q := fun r s' => r = w ∧ EP X pins σ Q r s') pl.isList (by omega) (by rw [List.size_toArray] <;> omega) (by omega) (by rw [hj]; simpa using ew) ⟨rfl, fin⟩) hs
theorem ix_tup : IxR X (rIxT X.K) := by
  intro value slice pins s σ H x y v u Q I rx ry h hs
  obtain ⟨p, xs, i, z, rfl, rfl, hq, he, q⟩ := h
  cases rx
  obtain ⟨t, rfl⟩ := ry
  obtain ⟨its, r, pl, hz⟩ := I.tuple hq
  obtain ⟨j, h1, h2, h3, h4, h5⟩ := atI_get he
  obtain ⟨w, ew, rw'⟩ := r.get h2
  have hl := r.length
  have hn := line63
  have fin : EP X pins σ Q w s := ⟨z, H, I, rw', q⟩
  exact subscriptTail_builtinR (x := w) pl.typeIs slot_tuple_getitem.lookup
    (getItem_tuple (j := j) (Q := fun r s' => r = w ∧ EP X pins σ Q r s') pl (by omega) (by omega) (by rw [List.size_toArray, ← hl]; exact h1) (by simpa using ew) ⟨rfl, fin⟩) hs
theorem mapSeq_set (its : List Value) (n j : Nat) (u : Value) : Obj.mapSeq (·.setIfInBounds j u) { cls := .type "list", data := .seq its.toArray n } = { cls := .type "list", data := .seq (its.set j u).toArray n } := by
  simp [Obj.mapSeq]
theorem Inv.lst {pins : List (Addr × Obj)} {σ : St} {H : Hp} {s : Shared} {p : Addr} {xs : List V} (I : Inv X pins σ H s) (h : H p = some (.lst xs)) :
    ∃ (its : List Value) (n : Nat), Vals xs its ∧ s.heap.get? p = some { cls := .type "list", data := .seq its.toArray n } ∧ xs.length ≤ sizeLine := by
  obtain ⟨z, its, n, r, e⟩ := I.hok p _ h
  exact ⟨its, n, r, e, z⟩
theorem Inv.lstUpd {pins : List (Addr × Obj)} {σ : St} {H : Hp} {s : Shared} {p : Addr} {xs ys : List V} {its its' : List Value} {n n' : Nat} {f : Obj → Obj} (I : Inv X pins σ H s) (h : H p = some (.lst xs))
    (ho : s.heap.get? p = some { cls := .type "list", data := .seq its.toArray n }) (hf : f { cls := .type "list", data := .seq its.toArray n } = { cls := .type "list", data := .seq its'.toArray n' }) (r : Vals ys its') (hz : ys.length ≤ sizeLine) (t : Nat) :
    Inv X pins σ (upd H p (.lst ys)) { s with heap := s.heap.update p f, toks := t } := by
  have e : (s.heap.update p f).get? p = some { cls := .type "list", data := .seq its'.toArray n' } := by
    rw [Heap.get?_update_self f ho (by rw [hf] <;> rfl), hf]
  refine I.write (x := p) (e := p) (by rw [h]; trivial) (.inl rfl) (fun b u hb q => (Heap.get?_update_other _ _ (Ne.symm hb)).trans q) ⟨_, e⟩ ?_
  exact ⟨hz, its', n', r, e⟩
def rSetL : V → V → V → Hp → (Hp → Prop) → Prop := fun o i v H Q => ∃ p xs k j, o = .ref p ∧ i = .int k ∧ H p = some (.lst xs) ∧ ixN xs.length k = some j ∧ Q (upd H p (.lst (xs.set j v)))
theorem set_list : PSet X rSetL := by
  intro pins s σ H o i v ov iv u Q I ro ri rv h
  obtain ⟨p, xs, k, j, rfl, rfl, hp, hj, q⟩ := h
  cases ro
  obtain ⟨t, rfl⟩ := ri
  obtain ⟨its, n, r, ho, hz⟩ := I.lst hp
  obtain ⟨h1, h2, h3, h4⟩ := ixN_seq hj
  have hl := r.length
  have hn := line63
  have I' : Inv X pins σ (upd H p (.lst (xs.set j v))) { s with heap := s.heap.update p (Obj.mapSeq (·.setIfInBounds j u)) } :=
    I.lstUpd hp ho (mapSeq_set its n j u) (r.set rv j) (by rw [List.length_set]; exact hz) s.toks
  by_cases h0 : 0 ≤ k
  · have hk : k.toNat = j := by
      rw [seqIndex_of h0 h4] at h1
      exact Option.some.inj h1
    exact PySem.W.ki_setAt ho h0 (by omega) (by rw [List.size_toArray, ← hl]; exact h4) (by rw [hk]; exact ⟨_, I', q⟩)
  · have hk : (k + (its.toArray.size : Int)).toNat = j := by
      rw [seqIndex_neg (by omega) h3] at h1
      rw [List.size_toArray, ← hl]
      exact Option.some.inj h1
    exact PySem.W.ki_setBack ho (by omega) (by rw [List.size_toArray, ← hl]; exact h3) (by omega) (by rw [hk]; exact ⟨_, I', q⟩)

theorem slice_bounds (lo hi : Option Int) (n : Nat) : (sliceBounds lo hi none n).1 = ((HT.sIx n 0 lo : Nat) : Int) ∧ (sliceBounds lo hi none n).2.1 = ((HT.sIx n n hi : Nat) : Int) ∧ (sliceBounds lo hi none n).2.2 = 1 := by
  refine ⟨?_, ?_, rfl⟩
  · cases lo with
    | none => simp [sliceBounds, HT.sIx]
    | some i =>
      simp only [sliceBounds, HT.sIx, Option.getD_none, show (1 : Int) > 0 by decide, if_true]
      by_cases h : i < 0
      · simp only [h, if_true] <;> omega
      · simp only [h, if_false] <;> omega
  · cases hi with
    | none => simp [sliceBounds, HT.sIx]
    | some i =>
      simp only [sliceBounds, HT.sIx, Option.getD_none, show (1 : Int) > 0 by decide, if_true]
      by_cases h : i < 0
      · simp only [h, if_true] <;> omega
      · simp only [h, if_false] <;> omega
theorem slicePick_cut (its : List Value) (lo hi : Option Int) : slicePick its.toArray lo hi none = ((its.drop (HT.sIx its.length 0 lo)).take (HT.sIx its.length its.length hi - HT.sIx its.length 0 lo)).toArray := by
  obtain ⟨h1, h2, h3⟩ := slice_bounds lo hi its.toArray.size
  unfold slicePick
  rw [h1, h2, h3]
  simp only [sliceRange_one, pick_run, List.size_toArray] <;> rfl
def rSlL (K : PySem.W.Frag) : V → Option Int → Option Int → Hp → VK → Prop := fun x lo hi H Q => ∃ a xs, x = .ref a ∧ SqL K H a xs ∧ ∀ p, H p = none → Q (.ref p) (upd H p (.lst (cutV xs lo hi)))
theorem sl_list : SlR X (rSlL X.K) := by
  intro pins s σ H x v vl vu lo hi sl Q I rx hs pl pu h
  obtain ⟨a, xs, rfl, hx, q⟩ := h
  cases rx
  obtain ⟨its, r, ht, hz⟩ := I.list hx
  have hlen := r.length
  refine ⟨"list", _, slot_list_getitem.lookup, ht.isList.typeIs, ?_⟩
  refine wpAny_getItem_list_slice ht.isList hs pl pu .none (by simp) ?_ (by rw [List.size_toArray] <;> omega)
  rw [slicePick_cut, ← hlen]
  refine ⟨.ref s.heap.objs.size, _, I.laid (t' := s.toks) (o := .lst (cutV xs lo hi)) (fun b ob q => Heap.get?_push_of_some _ q) (Nat.le_refl _) ?_, rfl, q _ (I.hok.fresh (Nat.le_refl _))⟩
  exact ⟨Nat.le_trans (cutV_length xs lo hi) hz, _, 0, (r.drop (HT.sIx xs.length 0 lo)).take (HT.sIx xs.length xs.length hi - HT.sIx xs.length 0 lo), Heap.get?_push_size _ rfl⟩

def flatV : V → Bool
  | .non => true
  | .bl _ => true
  | .int _ => true
  | .str _ => true
  | _ => false
def eqV : V → V → Bool
  | .non, .non => true
  | .bl a, .bl b => a == b
  | .bl a, .int b => (if a then 1 else 0) == b
  | .int a, .bl b => a == (if b then 1 else 0)
  | .int a, .int b => a == b
  | .str a, .str b => a == b
  | _, _ => false
theorem eqAt_V {A : Around} {s : Shared} {y x : V} {u v : Value} (ry : RelV y u) (rx : RelV x v) (fy : flatV y = true) (fx : flatV x = true) : SeqAt.EqAt A s u v (eqV y x) := by
  cases y with
  | non =>
    cases ry
    cases x with
    | non => cases rx; exact SeqAt.EqAt.same _
    | bl b => cases rx; exact SeqAt.EqAt.none_bool b
    | int b => obtain ⟨t, rfl⟩ := rx; exact SeqAt.EqAt.none_int b t
    | str b => obtain ⟨t, rfl⟩ := rx; exact SeqAt.EqAt.none_str b t
    | _ => exact absurd (show false = true from fx) Bool.false_ne_true
  | bl a =>
    cases ry
    cases x with
    | non => cases rx; exact SeqAt.EqAt.bool_none a
    | bl b => cases rx; exact SeqAt.EqAt.bool_bool a b
    | int b => obtain ⟨t, rfl⟩ := rx; exact SeqAt.EqAt.bool_int a b t
    | str b => obtain ⟨t, rfl⟩ := rx; exact SeqAt.EqAt.bool_str a b t
    | _ => exact absurd (show false = true from fx) Bool.false_ne_true
  | int a =>
    obtain ⟨t', rfl⟩ := ry
    cases x with
    | non => cases rx; exact SeqAt.EqAt.int_none a t'
    | bl b => cases rx; exact SeqAt.EqAt.int_bool a t' b
    | int b => obtain ⟨t, rfl⟩ := rx; exact SeqAt.EqAt.int_int a t' b t
    | str b => obtain ⟨t, rfl⟩ := rx; exact SeqAt.EqAt.int_str a t' b t
    | _ => exact absurd (show false = true from fx) Bool.false_ne_true
  | str a =>
    obtain ⟨t', rfl⟩ := ry
    cases x with
    | non => cases rx; exact SeqAt.EqAt.str_none a t'
    | bl b => cases rx; exact SeqAt.EqAt.str_bool a t' b
    | int b => obtain ⟨t, rfl⟩ := rx; exact SeqAt.EqAt.str_int a t' b t
    | str b => obtain ⟨t, rfl⟩ := rx; exact SeqAt.EqAt.str_str a t' b t
    | _ => exact absurd (show false = true from fx) Bool.false_ne_true
  | _ => exact absurd (show false = true from fy) Bool.false_ne_true
def eqU (x : V) (u : Value) : Bool := match u with
  | .none => eqV .non x
  | .bool b => eqV (.bl b) x
  | .int i _ => eqV (.int i) x
  | .str z _ => eqV (.str z) x
  | _ => false
theorem eqU_of {x y : V} {u : Value} (r : RelV y u) (f : flatV y = true) : eqU x u = eqV y x := by
  cases y with
  | non => cases r; rfl
  | bl b => cases r; rfl
  | int i => obtain ⟨t, rfl⟩ := r; rfl
  | str z => obtain ⟨t, rfl⟩ := r; rfl
  | _ => exact absurd (show false = true from f) Bool.false_ne_true
theorem any_eqU {x : V} : ∀ {xs : List V} {us : List Value}, Vals xs us → xs.all flatV = true → us.any (eqU x) = xs.any fun y => eqV y x
  | _, _, .nil, _ => rfl
  | y :: xs, u :: us, .cons r t, f => by
    rw [List.all_cons, Bool.and_eq_true] at f
    rw [List.any_cons, List.any_cons, eqU_of r f.1, any_eqU t f.2]
theorem mem_eqAt {A : Around} {s : Shared} {x : V} {v : Value} (rx : RelV x v) (fx : flatV x = true) : ∀ {xs : List V} {us : List Value}, Vals xs us → xs.all flatV = true → ∀ u ∈ us, SeqAt.EqAt A s u v (eqU x u)
  | _, _, .nil, _ => fun u hu => by cases hu
  | y :: xs, u :: us, .cons r t, f => fun u' hu => by
    rw [List.all_cons, Bool.and_eq_true] at f
    rcases List.mem_cons.mp hu with rfl | hu
    · rw [eqU_of r f.1]; exact eqAt_V r rx f.1 fx
    · exact mem_eqAt rx fx t f.2 u' hu
def inV (x : V) (xs : List V) : Bool := xs.any fun y => eqV y x
def rIn (K : PySem.W.Frag) (neg : Bool) : R2 := fun x y H Q => ∃ p xs, y = .ref p ∧ (SqL K H p xs ∨ SqT K H p xs) ∧ flatV x = true ∧ xs.all flatV = true ∧ Q (.bl (if neg then !inV x xs else inV x xs)) H
theorem op_in_seq : OpR X (compareOp .In) (rIn X.K false) := by
  intro pins s σ H x y v u Q I rx ry h
  obtain ⟨p, xs, rfl, hq, fx, fs, q⟩ := h
  cases ry
  rcases hq with hq | hq
  · obtain ⟨its, r, pl, hz⟩ := I.list hq
    refine SeqAt.in_listAt (eqU x) pl.isList (fun w hw => mem_eqAt rx fx r fs w (by simpa using hw)) ⟨.bl _, H, I, rfl, ?_⟩
    rw [show its.toArray.any (eqU x) = its.any (eqU x) by simp, any_eqU r fs]
    exact q
  · obtain ⟨its, r, pl, hz⟩ := I.tuple hq
    refine SeqAt.in_tupleAt (eqU x) pl (fun w hw => mem_eqAt rx fx r fs w (by simpa using hw)) ⟨.bl _, H, I, rfl, ?_⟩
    rw [show its.toArray.any (eqU x) = its.any (eqU x) by simp, any_eqU r fs]
    exact q
theorem call_len_seq : CallR X (.builtin "len") (fun xs H Q => ∃ p ys, xs = [.ref p] ∧ (SqL X.K H p ys ∨ SqT X.K H p ys) ∧ Q (.int ys.length) H) := by
  intro pins s σ H xs us Q I r h
  obtain ⟨p, ys, rfl, hq, q⟩ := h
  obtain ⟨u, rfl, rx⟩ := vals1 r
  cases rx
  have hn := line63
  rcases hq with hq | hq
  · obtain ⟨its, r', pl, hz⟩ := I.list hq
    have hlen := r'.length
    exact Calls.call_len_list pl.isList (by simp only [List.size_toArray] <;> omega) ⟨.int ys.length, H, I.tok _, ⟨s.toks + 1, by rw [List.size_toArray, hlen]⟩, q⟩
  · obtain ⟨its, r', pl, hz⟩ := I.tuple hq
    have hlen := r'.length
    exact len_tuple pl (by simp only [List.size_toArray] <;> omega) ⟨.int ys.length, H, I.tok _, ⟨s.toks + 1, by rw [List.size_toArray, hlen]⟩, q⟩
theorem call_len_str : CallR X (.builtin "len") (fun xs H Q => ∃ z, xs = [.str z] ∧ z.length ≤ sizeLine ∧ Q (.int z.length) H) := by
  intro pins s σ H xs us Q I r h
  obtain ⟨z, rfl, hz, q⟩ := h
  obtain ⟨u, rfl, t, rfl⟩ := vals1 r
  have hn := line63
  exact len_str (by omega) ⟨.int z.length, H, I.tok _, ⟨_, rfl⟩, q⟩
theorem call_tuple_of : CallR X (.type "tuple") (fun xs H Q => ∃ p ys, xs = [.ref p] ∧ ((SqL X.K H p ys ∧ ∀ l, H l = none → Q (.ref l) (upd H l (.tup ys))) ∨ (SqT X.K H p ys ∧ Q (.ref p) H))) := by
  intro pins s σ H xs us Q I r h
  obtain ⟨p, ys, rfl, h⟩ := h
  obtain ⟨u, rfl, rx⟩ := vals1 r
  cases rx
  rcases h with ⟨hq, q⟩ | ⟨hq, q⟩
  · obtain ⟨its, r', pl, hz⟩ := I.list hq
    have hlen := r'.length
    refine call_tuple_list pl.isList (fun h' kp => ?_) (by simp only [List.size_toArray] <;> omega)
    have I1 : Inv X pins σ H { s with heap := h' } := I.kept (t' := s.toks) kp
    have I2 : Inv X pins σ (upd H h'.objs.size (.tup ys)) { s with heap := h'.push { cls := .type "tuple", data := .seq its.toArray } } :=
      I1.laid (t' := s.toks) (fun b o e => Heap.get?_push_of_some _ e) (Nat.le_refl _) (show ObjOk X.prog X.w _ _ _ (.tup ys) from ⟨hz, its, r', IsTup.new _ _⟩)
    exact ⟨.ref h'.objs.size, _, I2, rfl, q _ (I1.hok.fresh (Nat.le_refl _))⟩
  · obtain ⟨its, r', pl, hz⟩ := I.tuple hq
    exact call_tuple_same pl ⟨.ref p, H, I, rfl, q⟩

def tyV (K : PySem.W.Frag) (T : String) (x : V) (H : Hp) : Prop := match x with
  | .str _ => T = "str"
  | .int _ => T = "int"
  | .ref p => (T = "list" ∧ ∃ xs, SqL K H p xs) ∨ (T = "tuple" ∧ ∃ o, K.lookup p = some o ∧ o.cls = .type "tuple" ∧ o.dict = none) ∨
      (T = "dict" ∧ ((∃ kvs, H p = some (.dK kvs)) ∨ ∃ kvs, H p = some (.dT kvs))) ∨ (T = "set" ∧ ∃ S n, H p = some (.set S n))
  | _ => False
theorem tyV_is {pins : List (Addr × Obj)} {σ : St} {H : Hp} {s : Shared} {T : String} {x : V} {v : Value} (I : Inv X pins σ H s) (r : RelV x v) (ty : tyV X.K T x H) :
    s.TypeIs v T ∧ ∀ a, v = .ref a → ∃ ob, s.heap.get? a = some ob ∧ ob.dict = none := by
  cases x with
  | str z =>
    obtain ⟨t, rfl⟩ := r
    cases (show T = "str" from ty)
    exact ⟨typeIs_str s z t, fun _ e => nomatch e⟩
  | int i =>
    obtain ⟨t, rfl⟩ := r
    cases (show T = "int" from ty)
    exact ⟨typeIs_int s i t, fun _ e => nomatch e⟩
  | ref p =>
    cases r
    rcases ty with ⟨rfl, xs, hq⟩ | ⟨rfl, o, hk, hc, hd⟩ | ⟨rfl, hk⟩ | ⟨rfl, S, n, hk⟩
    · obtain ⟨its, _, pl, _⟩ := I.list hq
      refine ⟨pl.isList.typeIs, fun a e => ?_⟩
      cases e
      obtain ⟨o, n, e, c, hd, _⟩ := pl
      exact ⟨o, e, hd⟩
    · refine ⟨⟨o, I.kIn p o hk, hc⟩, fun a e => ?_⟩
      cases e
      exact ⟨o, I.kIn _ o hk, hd⟩
    · have z : ∃ o, s.heap.get? p = some o ∧ o.ExactDict := by
        rcases hk with ⟨kvs, hk⟩ | ⟨kvs, hk⟩
        · obtain ⟨_, _, _, _, o, _, _, e, ex, _⟩ := I.hok p _ hk
          exact ⟨o, e, ex⟩
        · obtain ⟨_, _, _, _, o, _, _, e, ex, _⟩ := I.hok p _ hk
          exact ⟨o, e, ex⟩
      obtain ⟨o, e, ex⟩ := z
      refine ⟨⟨o, e, ex.1⟩, fun a e2 => ?_⟩
      cases e2
      exact ⟨o, e, ex.2.1⟩
    · obtain ⟨o, _, _, _, e, ex, _⟩ := I.hok p _ hk
      refine ⟨⟨o, e, ex.1⟩, fun a e2 => ?_⟩
      cases e2
      exact ⟨o, e, ex.2.1⟩
  | _ => exact False.elim ty
def tBM (K : PySem.W.Frag) (T : String) (r : V → List V → Hp → VK → Prop) (to : TE) (t : TA) : TE := fun σ H Q => to σ H fun x H1 => tyV K T x H1 ∧ t σ H1 fun xs H2 => r x xs H2 Q
variable {o e : Expr} {es : List Expr} {to : TE} {t : TA} {name : Str} {apos cpos : Pos} {T id : String} {r : V → List V → Hp → VK → Prop}
theorem pe_bm (pa : PlainAttrs T) (slot : Slot T name id) (hty : typeOf (.builtin id) = pure (.type "method_descriptor")) (hm : MtR X id r) (ho : PE X o to) (ha : PA X (e :: es) t)
    (hbase : attributeBase o name X.env (eval o X.env) = eval o X.env := by rfl)
    (hfew : ((backTo cpos (starEach (e :: es) X.env)).all (fun x => !x.1) && (backToKw cpos (keywordEach [] X.env)).all (fun x => x.1.isSome)
      && decide ((e :: es).length + ([] : List Keyword).length + (if ([] : List Keyword).isEmpty then 0 else 1) < 30)) = true := by rfl)
    (hline : (apos.endLine == cpos.line) = true := by rfl) (hs : starEach (e :: es) X.env = (false, eval e X.env) :: starEach es X.env := by rfl) (hplain : (backTo cpos (starEach es X.env)).any (·.1) = false := by rfl) :
    PE X (.Call (.Attribute o name apos) (e :: es) [] cpos) (tBM X.K T r to t) := by
  intro pins s σ H Q I h
  refine wpAny_Call_method_late hbase hfew hline rfl (thn (ho pins s σ H _ I h) fun v s1 ⟨x, H1, I1, r1, ty, q1⟩ => ?_)
  obtain ⟨h1, h2⟩ := tyV_is I1 r1 ty
  refine ⟨T, id, pa, slot, hty, h1, h2, ?_⟩
  have hA := ha cpos pins s1 σ H1 _ I1 q1
  rw [hs] at hA ⊢
  refine Calls.callWith_builtin (by show (false || (backTo cpos (starEach es X.env)).any (·.1)) = false; rw [hplain] <;> rfl) (Calls.evalArgs_plain ?_)
  exact thn hA fun us s2 ⟨vs, H2, I2, r2, q2⟩ => hm pins s2 σ H2 x vs v us Q I2 r1 r2 q2
end
end L2

namespace L2
open PySem PySem.Spec PyProof.Rows

def MtM (X : Cx) (id : String) (r : V → List V → Hp → VK → Prop) : Prop :=
  ∀ (pins : List (Addr × Obj)) (s : Shared) (σ : St) (H : Hp) (x : V) (xs : List V) (v : Value) (us : List Value) (Q : VK), Inv X pins σ H s → RelV x v → Vals xs us → r x xs H Q →
    wpAny (model X.prog X.w) X.A (call (.builtin id) (v :: us)) (EP X pins σ Q) X.xe s

theorem Vals.one : ∀ {x : V} {us : List Value}, Vals [x] us → ∃ u, us = [u] ∧ RelV x u
  | _, _, .cons r .nil => ⟨_, rfl, r⟩
section
variable {X : Cx} {pins : List (Addr × Obj)} {σ : St} {H : Hp} {s : Shared} {l b : Addr} {xs ys zs : List V}

theorem Inv.lset {its its' : List Value} {n : Nat} {f : Array Value → Array Value} {t' : Nat} (I : Inv X pins σ H s) (hH : H l = some (.lst xs))
    (e : s.heap.get? l = some { cls := .type "list", data := .seq its.toArray n }) (hf : f its.toArray = its'.toArray) (hv : Vals ys its') (hz : ys.length ≤ sizeLine) :
    Inv X pins σ (upd H l (.lst ys)) { s with heap := s.heap.update l (Obj.mapSeq f), toks := t' } := by
  have q := PySem.IsL.update e f
  rw [hf] at q
  refine I.write (x := l) (e := l) (by rw [hH]; exact trivial) (.inl rfl) (fun b' u hb hu => (Heap.get?_update_other s.heap (Obj.mapSeq f) (Ne.symm hb)).trans hu) ⟨_, q⟩ ?_
  exact ⟨hz, its', _, hv, q⟩
theorem Inv.lnew {its : List Value} {t' : Nat} (I : Inv X pins σ H s) (hv : Vals ys its) (hz : ys.length ≤ sizeLine) :
    Inv X pins σ (upd H s.heap.objs.size (.lst ys)) { s with heap := s.heap.push { cls := .type "list", data := .seq its.toArray }, toks := t' } :=
  I.laid (fun _ _ q => Heap.get?_push_of_some _ q) (Nat.le_refl _) ⟨hz, its, 0, hv, Heap.get?_push_size _ rfl⟩
theorem Inv.fresh (I : Inv X pins σ H s) : H s.heap.objs.size = none := I.hok.fresh (Nat.le_refl _)
theorem Inv.lstM (I : Inv X pins σ H s) (hH : H l = some (.lst xs)) : xs.length ≤ sizeLine ∧ ∃ (its : List Value) (n : Nat), Vals xs its ∧ xs.length = its.length ∧ s.heap.get? l = some { cls := .type "list", data := .seq its.toArray n } := by
  obtain ⟨z, its, n, r, e⟩ := I.hok l _ hH
  exact ⟨z, its, n, r, r.length, e⟩

theorem notLongL {n : Nat} (h : n ≤ sizeLine) : Builtin.List.listTooLong n = false := by
  unfold Builtin.List.listTooLong
  exact decide_eq_false (by omega)
end

section
variable {X : Cx}

def rAppend : V → List V → Hp → VK → Prop := fun x vs H Q => ∃ l xs y, x = .ref l ∧ vs = [y] ∧ H l = some (.lst xs) ∧ xs.length < sizeLine ∧ Q .non (upd H l (.lst (xs ++ [y])))
theorem mt_append : MtM X "list.append" rAppend := by
  intro pins s σ H x vs v us Q I rx rv h
  obtain ⟨l, xs, y, rfl, rfl, hH, hz, q⟩ := h
  cases rx
  obtain ⟨u, rfl, ru⟩ := rv.one
  obtain ⟨z, its, n, r, hl, e⟩ := I.lstM hH
  refine call_meets F.slot_list_append ⟨_, e, rfl⟩ F.entry_list_append (F.args_list_append_2 _ _) (PySem.list_append l its.toArray n u (by rw [List.size_toArray]; omega)) ⟨e, ?_⟩
  refine ⟨.non, _, I.lset (its' := its ++ [u]) hH e (by simp) (r.append (.cons ru .nil)) ?_, rfl, q⟩
  rw [List.length_append, List.length_singleton]
  omega

def rExtend : V → List V → Hp → VK → Prop := fun x vs H Q => ∃ l b xs zs, x = .ref l ∧ vs = [.ref b] ∧ H l = some (.lst xs) ∧ H b = some (.lst zs) ∧ xs.length + zs.length ≤ sizeLine ∧ Q .non (upd H l (.lst (xs ++ zs)))
theorem mt_extend : MtM X "list.extend" rExtend := by
  intro pins s σ H x vs v us Q I rx rv h
  obtain ⟨l, b, xs, zs, rfl, rfl, hH, hB, hz, q⟩ := h
  cases rx
  obtain ⟨u, rfl, ru⟩ := rv.one
  cases ru
  obtain ⟨z, its, n, r, hl, e⟩ := I.lstM hH
  obtain ⟨z2, its2, n2, r2, hl2, e2⟩ := I.lstM hB
  have hsz : its.toArray.size + its2.toArray.size ≤ sizeLine := by rw [List.size_toArray, List.size_toArray]; omega
  have hlong : ¬ (!its.toArray.isEmpty && Builtin.List.listTooLong (its.toArray.size + its2.toArray.size)) = true := by
    rw [notLongL hsz, Bool.and_false]
    exact Bool.false_ne_true
  refine call_meets F.slot_list_extend ⟨_, e, rfl⟩ F.entry_list_extend (F.args_list_extend_2 _ _)
    (AutoSeq1.list_extend_list_list_0 l its.toArray n b its2.toArray n2 hlong (by rw [List.size_toArray]; omega) (by omega)) ⟨e, e2, ?_⟩
  refine ⟨.non, _, I.lset (its' := its ++ its2) hH e (by simp) (r.append r2) ?_, rfl, q⟩
  rw [List.length_append]
  omega

def rCat : R2 := fun x y H Q => ∃ l b xs zs, x = .ref l ∧ y = .ref b ∧ H l = some (.lst xs) ∧ H b = some (.lst zs) ∧ xs.length + zs.length ≤ sizeLine ∧ ∀ p, H p = none → Q (.ref p) (upd H p (.lst (xs ++ zs)))
theorem op_cat : OpR X (binaryOp .Add) rCat := by
  intro pins s σ H x y v u Q I rx ry h
  obtain ⟨l, b, xs, zs, rfl, rfl, hH, hB, hz, q⟩ := h
  cases rx
  cases ry
  obtain ⟨z, its, n, r, hl, e⟩ := I.lstM hH
  obtain ⟨z2, its2, n2, r2, hl2, e2⟩ := I.lstM hB
  refine PySem.P.add_list e e2 ?_ (by rw [List.size_toArray, List.size_toArray]; omega)
  have ea : its.toArray ++ its2.toArray = (its ++ its2).toArray := by simp
  rw [ea]
  exact ⟨.ref _, _, I.lnew (t' := s.toks) (r.append r2) (by rw [List.length_append]; omega), rfl, q _ I.fresh⟩
end

section
variable {prog : Program} {w : World} {A : Around} {E : Value → Shared → Prop} {s : Shared}
end

section
variable {X : Cx}
end
end L2

namespace L2
open PySem PySem.Spec PyProof.Rows

theorem Vals.ints : ∀ {ns : List Int} {us : List Value}, Vals (ns.map V.int) us → IntsAre us ns
  | [], us, h => by
    rw [List.map_nil] at h
    cases h
    exact IntsAre.nil
  | n :: ns, us, h => by
    rw [List.map_cons] at h
    cases h with
    | cons r t =>
      obtain ⟨k, rfl⟩ := r
      exact IntsAre.cons n k (Vals.ints t)
theorem vals_of_ints : ∀ {us : List Value} {ns : List Int}, IntsAre us ns → Vals (ns.map V.int) us
  | _, _, .nil => by rw [List.map_nil]; exact Paired.nil
  | _, _, .cons n t h => by rw [List.map_cons]; exact Paired.cons (show RelV (V.int n) (Value.int n t) from ⟨t, rfl⟩) (vals_of_ints h)
theorem Vals.bls : ∀ {bs : List Bool} {us : List Value}, Vals (bs.map V.bl) us → us = bs.map Value.bool
  | [], us, h => by
    rw [List.map_nil] at h
    cases h
    rfl
  | b :: bs, us, h => by
    rw [List.map_cons] at h
    cases h with
    | cons r t =>
      cases r
      rw [Vals.bls t, List.map_cons]
theorem Vals.ref1 {a : Addr} {us : List Value} (r : Vals [V.ref a] us) : us = [Value.ref a] := by
  cases r with
  | cons r t =>
    cases t
    cases r
    rfl
section
variable {prog : Program} {w : World} {A : Around} {E : Value → Shared → Prop} {s : Shared} {l : Addr} {its : List Value} {ns : List Int} {Q : Value → Shared → Prop}
end

section
variable {X : Cx}
end

section
variable {X : Cx}
end

section
variable {X : Cx}
end

theorem iter_any {prog : Program} {w : World} {A : Around} {E : Value → Shared → Prop} {s : Shared} {l : Addr} {items : Array Value} {Q : Value → Shared → Prop} (hl : s.heap.IsList l items)
    (h : ∀ s₂ : Shared, s₂ = { s with heap := s.heap.push { cls := .type "list_iterator", data := .fields #[.ref l, .int 0 0] } } →
      (s₂.heap.IsListIter s.heap.objs.size l 0 ∧ s₂.heap.IsList l items) → l ≠ s.heap.objs.size → Q (.ref s.heap.objs.size) s₂) : wpAny (model prog w) A (pyIter (.ref l)) Q E s := by
  have hlt : l < s.heap.objs.size := by obtain ⟨_, e, _⟩ := hl; exact Heap.lt_size e
  exact wpAny_pyIter_list hl (h _ rfl ⟨⟨_, Heap.get?_push_size _ rfl, rfl, rfl⟩, hl.push _⟩ (Nat.ne_of_lt hlt))
theorem truth_bools {prog : Program} {w : World} {A : Around} {bs : List Bool} {its : List Value} (e : its = bs.map Value.bool) :
    TruthOf prog w A (fun i v => its.toArray[i]? = some v) (fun i => bs.getD i false) := fun i v s Q E hv hq => by
  have hv' : its[i]? = some v := by simpa using hv
  rw [e, List.getElem?_map] at hv'
  obtain ⟨b, hb, rfl⟩ := Option.map_eq_some_iff.mp hv'
  have hg : bs.getD i false = b := by rw [List.getD_eq_getElem?_getD, hb] <;> rfl
  have hq' : Q (bs.getD i false) s := hq
  rw [hg] at hq'
  exact wpAny_truthy_bool hq'
theorem any_range : ∀ bs : List Bool, (List.range bs.length).any (fun i => bs.getD i false) = bs.any id
  | [] => rfl
  | b :: bs => by
    rw [List.length_cons, List.range_succ_eq_map, List.any_cons, List.any_map, List.any_cons, ← any_range bs]
    all_goals rfl
theorem all_range : ∀ bs : List Bool, (List.range bs.length).all (fun i => bs.getD i false) = bs.all id
  | [] => rfl
  | b :: bs => by
    rw [List.length_cons, List.range_succ_eq_map, List.all_cons, List.all_map, List.all_cons, ← all_range bs]
    all_goals rfl
section
variable {X : Cx}
def rAny (K : PySem.W.Frag) : List V → Hp → VK → Prop := fun vs H Q => ∃ (a : Addr) (bs : List Bool), vs = [V.ref a] ∧ SqL K H a (bs.map V.bl) ∧ Q (.bl (bs.any id)) H
def rAll (K : PySem.W.Frag) : List V → Hp → VK → Prop := fun vs H Q => ∃ (a : Addr) (bs : List Bool), vs = [V.ref a] ∧ SqL K H a (bs.map V.bl) ∧ Q (.bl (bs.all id)) H
theorem cr_any (hc : X.calm = true) : CallR X (.builtin "any") (rAny X.K) := by
  intro pins s σ H vs us Q I r h
  obtain ⟨a, bs, rfl, hs, q⟩ := h
  obtain ⟨its, rv, hl, _⟩ := I.list hs
  rw [Vals.ref1 r]
  have hb := rv.bls
  refine call_any_walk (iter_any hl.isList fun s₂ e2 st hne => ?_)
  subst e2
  refine ⟨_, _, _, _, _, _, _, rfl, Walks.list (A := X.A.in1) (I.ok.hd hc) _ a hne its.toArray, st, truth_bools hb, fun h' tk hk => ?_⟩
  refine ⟨.bl _, H, I.kept fun b o eo => hk b o (fun hmem => ?_) (Heap.get?_push_of_some _ eo), ?_, q⟩
  · rcases List.mem_cons.mp hmem with e1 | hmem
    · exact absurd (e1 ▸ Heap.lt_size eo) (Nat.lt_irrefl _)
    · cases hmem
  · show Value.bool _ = Value.bool _
    rw [← any_range, hb, List.size_toArray, List.length_map]
theorem cr_all (hc : X.calm = true) : CallR X (.builtin "all") (rAll X.K) := by
  intro pins s σ H vs us Q I r h
  obtain ⟨a, bs, rfl, hs, q⟩ := h
  obtain ⟨its, rv, hl, _⟩ := I.list hs
  rw [Vals.ref1 r]
  have hb := rv.bls
  refine call_all_walk (iter_any hl.isList fun s₂ e2 st hne => ?_)
  subst e2
  refine ⟨_, _, _, _, _, _, _, rfl, Walks.list (A := X.A.in1) (I.ok.hd hc) _ a hne its.toArray, st, truth_bools hb, fun h' tk hk => ?_⟩
  refine ⟨.bl _, H, I.kept fun b o eo => hk b o (fun hmem => ?_) (Heap.get?_push_of_some _ eo), ?_, q⟩
  · rcases List.mem_cons.mp hmem with e1 | hmem
    · exact absurd (e1 ▸ Heap.lt_size eo) (Nat.lt_irrefl _)
    · cases hmem
  · show Value.bool _ = Value.bool _
    rw [← all_range, hb, List.size_toArray, List.length_map]
end

mutual
inductive Dp (K : PySem.W.Frag) (H : Hp) : V → PyData → Prop
  | non : Dp K H .non .none
  | bl (b : Bool) : Dp K H (.bl b) (.bool b)
  | int (i : Int) : Dp K H (.int i) (.int i)
  | str (x : Str) : Dp K H (.str x) (.str x)
  | lst {a : Addr} {xs : List V} {ds : List PyData} : SqL K H a xs → DpAll K H xs ds → Dp K H (.ref a) (.list ds)
  | tup {a : Addr} {xs : List V} {ds : List PyData} : SqT K H a xs → DpAll K H xs ds → Dp K H (.ref a) (.tuple ds)
inductive DpAll (K : PySem.W.Frag) (H : Hp) : List V → List PyData → Prop
  | nil : DpAll K H [] []
  | cons {v : V} {vs : List V} {d : PyData} {ds : List PyData} : Dp K H v d → DpAll K H vs ds → DpAll K H (v :: vs) (d :: ds)
end
section
variable {X : Cx} {pins : List (Addr × Obj)} {σ : St} {H : Hp} {s : Shared}
mutual
theorem Dp.reads (I : Inv X pins σ H s) : ∀ (d : PyData) (v : V) (u : Value), Dp X.K H v d → RelV v u → ∃ as, Reads s.heap u d as
  | .none, _, _, h, r => by
    cases h
    cases r
    exact ⟨_, Reads.none⟩
  | .bool b, _, _, h, r => by
    cases h
    cases r
    exact ⟨_, Reads.bool b⟩
  | .int i, _, _, h, r => by
    cases h
    obtain ⟨t, rfl⟩ := r
    exact ⟨_, Reads.int i t⟩
  | .str x, _, _, h, r => by
    cases h
    obtain ⟨t, rfl⟩ := r
    exact ⟨_, Reads.str x t⟩
  | .list ds, _, _, h, r => by
    cases h with
    | lst hs ha =>
      cases r
      obtain ⟨its, rv, ⟨o, n, ho, hc, _, hd⟩, _⟩ := I.list hs
      obtain ⟨as, hr⟩ := Dp.readsAll I ds _ its ha rv
      exact ⟨_, Reads.list ho hc hd hr⟩
  | .tuple ds, _, _, h, r => by
    cases h with
    | tup hs ha =>
      cases r
      obtain ⟨its, rv, ⟨o, ho, hc, n, hd⟩, _⟩ := I.tuple hs
      obtain ⟨as, hr⟩ := Dp.readsAll I ds _ its ha rv
      exact ⟨_, Reads.tuple ho hc hd hr⟩
  | .dict _, _, _, h, _ => by cases h
theorem Dp.readsAll (I : Inv X pins σ H s) : ∀ (ds : List PyData) (vs : List V) (us : List Value), DpAll X.K H vs ds → Vals vs us → ∃ as, ReadsAll s.heap us ds as
  | [], _, _, h, r => by
    cases h
    cases r
    exact ⟨_, ReadsAll.nil⟩
  | d :: ds, _, _, h, r => by
    cases h with
    | cons h1 h2 =>
      cases r with
      | cons r1 r2 =>
        obtain ⟨as, q1⟩ := Dp.reads I d _ _ h1 r1
        obtain ⟨bs, q2⟩ := Dp.readsAll I ds _ _ h2 r2
        exact ⟨_, ReadsAll.cons q1 q2⟩
end
end
section
variable {X : Cx}
def rEqD (K : PySem.W.Frag) : R2 := fun x y H Q => ∃ d e, Dp K H x d ∧ Dp K H y e ∧ SeqAt.shaped d = true ∧ SeqAt.shaped e = true ∧ Q (.bl (PyData.eqv d e)) H
theorem op_eqD (hu : X.A.units + 64 < cLine) : OpR X (compareOp .Eq) (rEqD X.K) := by
  intro pins s σ H x y v u Q I rx ry h
  obtain ⟨d, e, hd, he, sd, se, q⟩ := h
  obtain ⟨as, r1⟩ := Dp.reads I d x v hd rx
  obtain ⟨bs, r2⟩ := Dp.reads I e y u he ry
  exact SeqAt.compareEq_shaped r1 r2 sd se hu ⟨.bl _, H, I, rfl, q⟩
end
end L2

namespace L2
open PySem PySem.Spec PyProof.Rows
abbrev CellAt (h : Heap) (c : Addr) (v : Option Value) : Prop := h.IsCell c v
def relS (scope sc : Scope) : Scope :=
  { scope with names := scope.names.map fun (n, k) => if (k == .free && sc.kind == .function && sc.names.lookup n == some .cell) then (n, .cell) else (n, k) }

def cloFrom (cells : List (Str × Addr)) : List (Str × NameKind) → List (Str × Addr) → List (Str × Addr)
  | [], acc => acc
  | (n, k) :: r, acc => if k == .free then cloFrom cells r ((n, (cells.lookup n).getD 0) :: acc) else cloFrom cells r acc

theorem closure_loop (env : Env) (f : Str × NameKind → List (Str × Addr) → Sem (ForInStep (List (Str × Addr))))
    (hf : ∀ n k c, f (n, k) c = if k == .free then (do let a ← cellOf env n; pure (.yield ((n, a) :: c))) else pure (.yield c)) :
    ∀ (names : List (Str × NameKind)) (acc : List (Str × Addr)), (∀ y ∈ names, y.2 = .free → ∃ c, env.cells.lookup y.1 = some c) → forIn names acc f = pure (cloFrom env.cells names acc)
  | [], acc, _ => by rw [List.forIn_nil]; rfl
  | (n, k) :: r, acc, h => by
    rw [List.forIn_cons, hf]
    have ih := fun acc => closure_loop env f hf r acc fun y hy => h y (List.mem_cons_of_mem _ hy)
    unfold cloFrom
    by_cases hk : (k == NameKind.free) = true
    · rw [if_pos hk, if_pos hk]
      obtain ⟨c, hc⟩ := h (n, k) List.mem_cons_self (by simpa using hk)
      have e : cellOf env n = pure c := by unfold cellOf; rw [hc]
      rw [e]
      have e2 : (env.cells.lookup n).getD 0 = c := by rw [hc]; rfl
      rw [e2]
      exact ih _
    · rw [if_neg hk, if_neg hk]
      exact ih _
theorem closure_ok {scope : Scope} {env : Env} (h : ∀ y ∈ scope.names, y.2 = .free → ∃ c, env.cells.lookup y.1 = some c) : closureFor scope env = pure (cloFrom env.cells scope.names []) := by
  simp only [closureFor]
  rw [closure_loop env _ (fun n k c => rfl) scope.names [] h]
  rfl

theorem mem_lookup {α : Type} : ∀ {l : List (Str × α)} {n : Str} {c : α}, (n, c) ∈ l → ∃ c', l.lookup n = some c'
  | (k, v) :: r, n, c, h => by
    rw [List.lookup_cons]
    cases hb : n == k with
    | true => exact ⟨_, rfl⟩
    | false =>
      rcases List.mem_cons.mp h with e | h
      · cases e; simp at hb
      · exact mem_lookup h

theorem cloFrom_mem {cells : List (Str × Addr)} : ∀ {names : List (Str × NameKind)} {acc : List (Str × Addr)} {n : Str} {c : Addr}, (n, c) ∈ cloFrom cells names acc → (n, c) ∈ acc ∨ ((n, .free) ∈ names ∧ c = (cells.lookup n).getD 0)
  | [], _, _, _, h => .inl h
  | (m, k) :: r, acc, n, c, h => by
    unfold cloFrom at h
    split at h
    · rename_i hk
      have hk : k = .free := by simpa using hk
      rcases cloFrom_mem h with h | ⟨h1, h2⟩
      · rcases List.mem_cons.mp h with e | h
        · cases e; exact .inr ⟨hk ▸ List.mem_cons_self, rfl⟩
        · exact .inl h
      · exact .inr ⟨List.mem_cons_of_mem _ h1, h2⟩
    · rcases cloFrom_mem h with h | ⟨h1, h2⟩
      · exact .inl h
      · exact .inr ⟨List.mem_cons_of_mem _ h1, h2⟩
theorem cloFrom_acc {cells : List (Str × Addr)} : ∀ {names : List (Str × NameKind)} {acc : List (Str × Addr)} {p : Str × Addr}, p ∈ acc → p ∈ cloFrom cells names acc
  | [], _, _, h => h
  | (m, k) :: r, acc, p, h => by
    unfold cloFrom
    split
    · exact cloFrom_acc (List.mem_cons_of_mem _ h)
    · exact cloFrom_acc h
theorem cloFrom_has {cells : List (Str × Addr)} : ∀ {names : List (Str × NameKind)} {acc : List (Str × Addr)} {n : Str}, (n, .free) ∈ names → (n, (cells.lookup n).getD 0) ∈ cloFrom cells names acc
  | (m, k) :: r, acc, n, h => by
    unfold cloFrom
    rcases List.mem_cons.mp h with e | h
    · cases e
      exact cloFrom_acc List.mem_cons_self
    · split
      · exact cloFrom_has h
      · exact cloFrom_has h

theorem cells_mem : ∀ {names : List (Str × NameKind)} {h : Heap} {acc : List (Str × Addr)} {x : Str} {c : Addr}, (x, c) ∈ cellsFrom h.objs.size names acc →
    (x, c) ∈ acc ∨ ((x, .cell) ∈ names ∧ h.objs.size ≤ c ∧ CellAt (pushCells h names) c none)
  | [], _, _, _, _, h => .inl h
  | (n, k) :: r, h, acc, x, c, hm => by
    unfold cellsFrom at hm
    unfold pushCells
    split at hm
    · rename_i hk
      rw [if_pos hk]
      have hk : k = .cell := by simpa using hk
      rw [← Heap.size_push h { cls := .type "cell", data := .cell none }] at hm
      rcases cells_mem hm with hm | ⟨h1, h2, h3⟩
      · rcases List.mem_cons.mp hm with e | hm
        · cases e
          exact .inr ⟨hk ▸ List.mem_cons_self, Nat.le_refl _, _, pushCells_keeps r _ _ _ (Heap.get?_push_size _ rfl), rfl⟩
        · exact .inl hm
      · rw [Heap.size_push] at h2
        exact .inr ⟨List.mem_cons_of_mem _ h1, Nat.le_of_succ_le h2, h3⟩
    · rename_i hk
      rw [if_neg hk]
      rcases cells_mem hm with hm | ⟨h1, h2, h3⟩
      · exact .inl hm
      · exact .inr ⟨List.mem_cons_of_mem _ h1, h2, h3⟩
theorem cells_acc : ∀ {names : List (Str × NameKind)} {n : Nat} {acc : List (Str × Addr)} {p : Str × Addr}, p ∈ acc → p ∈ cellsFrom n names acc
  | [], _, _, _, h => h
  | (m, k) :: r, n, acc, p, h => by
    unfold cellsFrom
    split
    · exact cells_acc (List.mem_cons_of_mem _ h)
    · exact cells_acc h
theorem cells_has : ∀ {names : List (Str × NameKind)} {n : Nat} {acc : List (Str × Addr)} {x : Str}, (x, .cell) ∈ names → ∃ c, (x, c) ∈ cellsFrom n names acc
  | (m, k) :: r, n, acc, x, h => by
    unfold cellsFrom
    rcases List.mem_cons.mp h with e | h
    · cases e
      exact ⟨n, cells_acc List.mem_cons_self⟩
    · split
      · exact cells_has h
      · exact cells_has h
theorem cells_inj : ∀ {names : List (Str × NameKind)} {h : Heap} {acc : List (Str × Addr)} {x y : Str} {c : Addr}, (∀ p ∈ acc, p.2 < h.objs.size) → (∀ x y c, (x, c) ∈ acc → (y, c) ∈ acc → x = y) →
    (x, c) ∈ cellsFrom h.objs.size names acc → (y, c) ∈ cellsFrom h.objs.size names acc → x = y
  | [], _, _, _, _, _, _, hi, h1, h2 => hi _ _ _ h1 h2
  | (n, k) :: r, h, acc, x, y, c, hl, hi, h1, h2 => by
    unfold cellsFrom at h1 h2
    split at h1
    · rename_i hk
      rw [if_pos hk] at h2
      rw [← Heap.size_push h { cls := .type "cell", data := .cell none }] at h1 h2
      refine cells_inj (h := h.push _) (fun p hp => ?_) (fun x y c a b => ?_) h1 h2
      · rw [Heap.size_push]
        rcases List.mem_cons.mp hp with rfl | hp
        · exact Nat.lt_succ_self _
        · exact Nat.lt_succ_of_lt (hl p hp)
      · rcases List.mem_cons.mp a with e | a <;> rcases List.mem_cons.mp b with e' | b
        · cases e; cases e'; rfl
        · cases e; exact absurd (hl _ b) (Nat.lt_irrefl _)
        · cases e'; exact absurd (hl _ a) (Nat.lt_irrefl _)
        · exact hi _ _ _ a b
    · rename_i hk
      rw [if_neg hk] at h2
      exact cells_inj hl hi h1 h2

theorem newEnv_comp {M : Model} {A : Around} {E : Value → Shared → Prop} {s : Shared} {scope : Scope} {globals : Addr} {closure : List (Str × Addr)} {qual : Str} {func : Option Addr} {code : Value} {around : Env} {builtins : Addr} {Q : Env → Shared → Prop}
    (h : Q (newEnv scope s.heap.objs.size globals (cellsFrom (s.heap.objs.size + 1) scope.names closure) qual func code (some around) builtins)
      { s with heap := pushCells (s.heap.push { cls := .type "dict", data := .dict #[] }) scope.names }) :
    wpAny M A (newFunctionEnv scope globals closure [] qual func code (some around) builtins) Q E s := by
  simp only [newFunctionEnv, Option.isSome_some, if_true]
  refine wpAny_bind (wpAny_alloc ?_)
  refine wpAny_bind (wpAny_layCells _ (fun n k c => rfl) scope.names closure _ _ ?_)
  rw [show ({ s with heap := s.heap.push { cls := .type "dict", data := .dict #[] } } : Shared).heap.objs.size = s.heap.objs.size + 1 from Heap.size_push ..]
  rw [List.forIn_nil]
  exact wpAny_bind (wpAny_pure (wpAny_pure h))

theorem lookup_relS {sc : Scope} : ∀ {names : List (Str × NameKind)} {x : Str} {k : NameKind},
    (names.map fun (n, k) => if (k == NameKind.free && sc.kind == .function && sc.names.lookup n == some .cell) then (n, NameKind.cell) else (n, k)).lookup x = some k →
    ∃ k', names.lookup x = some k' ∧ (k = k' ∨ (k' = .free ∧ k = .cell))
  | [], _, _, h => by simp at h
  | (n, k₀) :: r, x, k, h => by
    have ih := @lookup_relS sc r x k
    have h' : List.lookup x ((if (k₀ == NameKind.free && sc.kind == .function && sc.names.lookup n == some .cell) = true then (n, NameKind.cell) else (n, k₀)) :: (r.map _)) = some k := h
    cases hx : x == n with
    | true =>
      simp only [List.lookup_cons, hx]
      by_cases hc : (k₀ == NameKind.free && sc.kind == .function && sc.names.lookup n == some .cell) = true
      · rw [if_pos hc] at h'
        simp only [List.lookup_cons, hx] at h'
        cases h'
        simp only [Bool.and_eq_true, beq_iff_eq] at hc
        exact ⟨k₀, rfl, .inr ⟨hc.1.1, rfl⟩⟩
      · rw [if_neg hc] at h'
        simp only [List.lookup_cons, hx] at h'
        cases h'
        exact ⟨_, rfl, .inl rfl⟩
    | false =>
      simp only [List.lookup_cons, hx]
      by_cases hc : (k₀ == NameKind.free && sc.kind == .function && sc.names.lookup n == some .cell) = true
      · rw [if_pos hc] at h'
        simp only [List.lookup_cons, hx] at h'
        exact ih h'
      · rw [if_neg hc] at h'
        simp only [List.lookup_cons, hx] at h'
        exact ih h'
structure BlkOk (N : List Str) (sc scope : Scope) (own : List (Str × Nat)) : Prop where
  kind : scope.kind = .function
  uniq : ∀ y ∈ scope.names, scope.names.lookup y.1 = some y.2
  ix : ∀ p ∈ own, N[p.2]? = some p.1
  free : ∀ y ∈ scope.names, y.2 = .free → sc.names.lookup y.1 = some .cell ∨ sc.names.lookup y.1 = some .free
  own : ∀ y ∈ scope.names, y.2 = .local ∨ y.2 = .cell → y.1 ∈ own.map (·.1) ∨ y.1 ∉ N
def wipe (σ : St) : List Nat → St
  | [] => σ
  | v :: vs => (wipe σ vs).set v none
theorem wipe_length (σ : St) : ∀ vs : List Nat, (wipe σ vs).length = σ.length
  | [] => rfl
  | v :: vs => by unfold wipe; rw [List.length_set, wipe_length σ vs]
theorem wipe_some {σ : St} {i : Nat} {x : V} : ∀ {vs : List Nat}, (wipe σ vs)[i]? = some (some x) → σ[i]? = some (some x) ∧ i ∉ vs
  | [], h => ⟨h, by simp⟩
  | v :: vs, h => by
    unfold wipe at h
    by_cases hi : v = i
    · subst hi
      by_cases hv : v < (wipe σ vs).length
      · rw [List.getElem?_set_self hv] at h; cases h
      · rw [List.getElem?_eq_none (by simpa using hv)] at h; cases h
    · rw [List.getElem?_set_ne hi] at h
      obtain ⟨h1, h2⟩ := wipe_some h
      exact ⟨h1, by simp only [List.mem_cons, not_or]; exact ⟨fun e => hi e.symm, h2⟩⟩

abbrev Cx.blk (X : Cx) (s : Shared) (H : Hp) (scope : Scope) (cenv : Env) (fp : List Addr) : Cx := { X with s_0 := s, H_0 := H, env := cenv, outer := X.stack, ex := fp, fn := fun x => scope.names.lookup x == some .cell, pn := [], xe := fun _ _ => False }
section
variable {X : Cx} {pins : List (Addr × Obj)} {σ : St} {H : Hp} {s : Shared}
theorem block_start {scope : Scope} {own : List (Str × Nat)} {fp : List Addr} (I : Inv X pins σ H s) (ok : BlkOk X.N X.env.scope scope own) (hN : X.N.Nodup) (hfp : ∀ b ∈ fp, FpOk X pins H b ∧ b < s.heap.objs.size) :
    Inv (X.blk s H scope (compEnvC scope (cellsFrom (s.heap.objs.size + 1) scope.names (cloFrom X.env.cells scope.names [])) s.heap.objs.size X.env) fp) [] (wipe σ (own.map (·.2))) H { s with heap := pushCells (s.heap.push { cls := .type "dict", data := .dict #[] }) scope.names } := by
  have hfree : ∀ y ∈ scope.names, y.2 = .free → ∃ c, X.env.cells.lookup y.1 = some c := fun y hy e => by
    rcases ok.free y hy e with k | k
    · exact I.ok.has _ (.inl k)
    · exact I.ok.has _ (.inr k)
  generalize hcenv : compEnvC scope (cellsFrom (s.heap.objs.size + 1) scope.names (cloFrom X.env.cells scope.names [])) s.heap.objs.size X.env = cenv
  have kp : ∀ b o, s.heap.get? b = some o → (pushCells (s.heap.push { cls := .type "dict", data := .dict #[] }) scope.names).get? b = some o := fun b o e => pushCells_keeps _ _ _ _ (Heap.get?_push_of_some _ e)
  have hL : cenv.locals = s.heap.objs.size := by rw [← hcenv]; rfl
  have hcl : cenv.cells = cellsFrom (s.heap.objs.size + 1) scope.names (cloFrom X.env.cells scope.names []) := by rw [← hcenv]; rfl
  have hsc : cenv.scope = relS scope X.env.scope := by rw [← hcenv]; rfl
  rw [← Heap.size_push s.heap { cls := .type "dict", data := .dict #[] }] at hcl
  have cm : ∀ {y c}, (y, c) ∈ cloFrom X.env.cells scope.names [] → X.env.cells.lookup y = some c ∧ c < s.heap.objs.size := fun {y c} hm => by
    rcases cloFrom_mem hm with hm | ⟨h1, rfl⟩
    · cases hm
    · obtain ⟨c, hc⟩ := hfree _ h1 rfl
      rw [hc]
      obtain ⟨w, z⟩ := I.cell _ _ hc
      exact ⟨rfl, z.lt⟩
  have mem : ∀ {y c}, cenv.cells.lookup y = some c → (X.env.cells.lookup y = some c ∧ c < s.heap.objs.size) ∨ (s.heap.objs.size + 1 ≤ c ∧ CellAt (pushCells (s.heap.push { cls := .type "dict", data := .dict #[] }) scope.names) c none) := fun {y c} e => by
    rw [hcl] at e
    rcases cells_mem (PySem.mem_of_lookup e) with hm | ⟨_, h2, h3⟩
    · exact .inl (cm hm)
    · rw [Heap.size_push] at h2; exact .inr ⟨h2, h3⟩
  have look : ∀ {y}, scope.names.lookup y = some .free → ∃ c, cenv.cells.lookup y = some c ∧ X.env.cells.lookup y = some c := fun {y} hl => by
    have hy : (y, NameKind.free) ∈ scope.names := PySem.mem_of_lookup hl
    obtain ⟨c', e'⟩ := mem_lookup (cells_acc (names := scope.names) (n := (s.heap.push { cls := .type "dict", data := .dict #[] }).objs.size) (cloFrom_has (cells := X.env.cells) (acc := []) hy))
    rw [← hcl] at e'
    refine ⟨c', e', ?_⟩
    rw [hcl] at e'
    rcases cells_mem (PySem.mem_of_lookup e') with hm | ⟨h1, _, _⟩
    · exact (cm hm).1
    · have := ok.uniq _ h1
      rw [hl] at this; cases this
  have okB : (X.blk s H scope cenv fp).Ok := by
    refine ⟨I.ok.mod, by show cenv.scope.kind = _; rw [hsc]; exact ok.kind, by show cenv.globals = _; rw [← hcenv]; exact I.ok.glob, by show cenv.builtins = _; rw [← hcenv]; exact I.ok.blt, by show s.heap.objs.size ≤ cenv.locals; rw [hL]; exact Nat.le_refl _,
      fun y z c e1 e2 => ?_, fun y hy => ?_, fun y c z e => ?_, I.ok.hd, I.ok.frames, .inl rfl, fun b hb => ⟨?_, fun y c e z => ?_⟩, I.bs, Nat.le_trans I.ok.bsz I.sz, fun b o e hb => ?_, fun b hb z => ?_, I.stack, I.stkFree⟩
    · have e1 : cenv.cells.lookup y = some c := e1
      have e2 : cenv.cells.lookup z = some c := e2
      rw [hcl] at e1 e2
      refine cells_inj (fun p hp => ?_) (fun y z c a b => I.ok.inj y z c (cm a).1 (cm b).1) (PySem.mem_of_lookup e1) (PySem.mem_of_lookup e2)
      rw [Heap.size_push]
      exact Nat.lt_succ_of_lt (cm (y := p.1) (c := p.2) hp).2
    · show ∃ c, cenv.cells.lookup y = some c
      have key : ∀ k, cenv.kindOf y = some k → (k = .cell ∨ k = .free) → ∃ c, cenv.cells.lookup y = some c := fun k hk hk' => by
        unfold Env.kindOf at hk
        rw [hsc] at hk
        obtain ⟨k', e, r⟩ := lookup_relS hk
        have : k' = .cell ∨ k' = .free := by
          rcases r with rfl | ⟨rfl, _⟩
          · exact hk'
          · exact .inr rfl
        rcases this with rfl | rfl
        · obtain ⟨c, hm⟩ := cells_has (n := (s.heap.push { cls := .type "dict", data := .dict #[] }).objs.size) (acc := cloFrom X.env.cells scope.names []) (PySem.mem_of_lookup e)
          obtain ⟨c', e'⟩ := mem_lookup hm
          exact ⟨c', by rw [hcl]; exact e'⟩
        · obtain ⟨c, h1, _⟩ := look e
          exact ⟨c, h1⟩
      rcases hy with hy | hy
      · exact key _ hy (.inl rfl)
      · exact key _ hy (.inr rfl)
    · have z : (scope.names.lookup y == some NameKind.cell) = true := z
      have z : scope.names.lookup y = some .cell := by simpa using z
      have e : cenv.cells.lookup y = some c := e
      rw [hcl] at e
      rcases cells_mem (PySem.mem_of_lookup e) with hm | ⟨_, h2, _⟩
      · rcases cloFrom_mem hm with hm | ⟨h1, _⟩
        · cases hm
        · have q := ok.uniq _ h1
          rw [z] at q; cases q
      · rw [Heap.size_push] at h2
        exact Nat.le_of_succ_le h2
    · show b ≠ cenv.locals
      rw [hL]; exact Nat.ne_of_lt (hfp b hb).2
    · have e : cenv.cells.lookup y = some c := e
      rcases mem e with ⟨h1, _⟩ | ⟨h1, _⟩
      · exact (hfp b hb).1.2.2.2.2.1 y c h1 z
      · have h2 : s.heap.objs.size + 1 ≤ b := by rw [← z]; exact h1
        exact absurd (Nat.lt_of_lt_of_le (hfp b hb).2 (Nat.le_of_succ_le h2)) (Nat.lt_irrefl _)
    · rcases (hfp b hb).1.2.2.2.1 with z | z
      · exact I.ok.noex b o e z
      · exact absurd (Nat.lt_of_lt_of_le (Heap.lt_size e) (Nat.le_trans I.ok.bsz z)) (Nat.lt_irrefl _)
    · rcases List.mem_cons.mp (I.stkSub b z) with z | z
      · exact (hfp b hb).1.2.1 z
      · exact (hfp b hb).1.2.2.1 z
  refine ⟨okB, rfl, I.bare, Un.kept kp, ⟨fun _ => none, ?_, fun i y av e1 e2 e3 => ?_⟩, fun y c e => ?_, ?_, fun y c e => ?_, fun p hp => ?_, I.hok.kept kp, by rw [wipe_length]; exact I.len⟩
  · show Heap.Ns _ cenv.locals _
    rw [hL]
    exact Heap.Ns.keeps (Heap.Ns.new ..) fun b o e => pushCells_keeps _ _ _ _ e
  · obtain ⟨e2, hne⟩ := wipe_some e2
    have hfr : scope.names.lookup y = some .free ∧ (cenv.kindOf y = some .cell ∨ cenv.kindOf y = some .free) := by
      have key : ∀ k, cenv.scope.names.lookup y = some k → k = .local ∨ k = .cell ∨ k = .free → scope.names.lookup y = some .free ∧ (cenv.kindOf y = some .cell ∨ cenv.kindOf y = some .free) := fun k hk hk' => by
        have hk0 := hk
        rw [hsc] at hk
        obtain ⟨k', e, r⟩ := lookup_relS hk
        have no : ¬ (k' = .local ∨ k' = .cell) := fun hh => by
          rcases ok.own _ (PySem.mem_of_lookup e) hh with e' | e'
          · obtain ⟨p, hp, hpy⟩ := List.mem_map.mp e'
            have e3 := ok.ix p hp
            have : p.1 = y := hpy
            rw [this] at e3
            exact hne (List.mem_map.mpr ⟨p, hp, nodup_ix hN e3 e1⟩)
          · exact e' (List.mem_of_getElem? e1)
        rcases r with rfl | ⟨rfl, rfl⟩
        · rcases hk' with rfl | rfl | rfl
          · exact absurd (.inl rfl) no
          · exact absurd (.inr rfl) no
          · exact ⟨e, .inr hk0⟩
        · exact ⟨e, .inl hk0⟩
      have e3 : Vis cenv.scope y := e3
      rcases e3 with e3 | e3 | e3
      · exact key _ e3 (.inl rfl)
      · exact key _ e3 (.inr (.inl rfl))
      · exact key _ e3 (.inr (.inr rfl))
    obtain ⟨m, hn, hl⟩ := I.loc
    have hvis : Vis X.env.scope y := (ok.free _ (PySem.mem_of_lookup hfr.1) rfl).elim (fun k => .inr (.inl k)) (fun k => .inr (.inr k))
    obtain ⟨w, r, q⟩ := hl i y av e1 e2 hvis
    refine ⟨w, r, .inr ⟨hfr.2, ?_⟩⟩
    obtain ⟨c, h1, h2⟩ := look hfr.1
    rcases q with ⟨k, _⟩ | ⟨_, c', e', z⟩
    · have k : X.env.scope.names.lookup y = some .local := k
      rcases ok.free _ (PySem.mem_of_lookup hfr.1) rfl with k' | k' <;> rw [show X.env.scope.names.lookup y = _ from k'] at k <;> cases k
    · rw [h2] at e'; cases e'
      exact ⟨c, h1, z.keeps kp⟩
  · have e : cenv.cells.lookup y = some c := e
    rcases mem e with ⟨h1, _⟩ | ⟨_, z⟩
    · obtain ⟨w, z⟩ := I.cell y c h1
      exact ⟨w, z.keeps kp⟩
    · exact ⟨_, z⟩
  · show H cenv.locals = none
    rw [hL]; exact I.hok.fresh (Nat.le_refl _)
  · have e : cenv.cells.lookup y = some c := e
    rcases mem e with ⟨h1, _⟩ | ⟨h1, _⟩
    · exact I.freeC y c h1
    · exact I.hok.fresh (Nat.le_of_succ_le h1)
  · exact absurd (show p ∈ ([] : List (Addr × Obj)) ++ [] from hp) (by simp)

theorem app_ok {E : Value → Shared → Prop} {D : Addr} {xs : List V} {y : V} {v : Value} {Q : Value → Shared → Prop} (I : Inv X pins σ H s) (hD : H D = some (.lst xs)) (hz : xs.length < sizeLine) (r : RelV y v)
    (h : ∀ s', Inv X pins σ (upd H D (.lst (xs ++ [y]))) s' → Q .none s') : wpAny (model X.prog X.w) X.A (call (.builtin "list.append") [.ref D, v]) Q E s := by
  obtain ⟨hz', its, n, ri, e⟩ := I.hok D _ hD
  have hl := ri.length
  refine append_at (hsz := by rw [List.size_toArray]; omega) e fun h' sb ho' => ?_
  refine h { s with heap := h' } (I.write (t' := s.toks) (by rw [hD]; trivial) (.inl rfl) (fun b u hb q => (sb.2 b hb).trans q) ⟨_, ho'⟩ ⟨by rw [List.length_append]; exact hz, its ++ [v], n + 1, ri.append (.cons r .nil), ?_⟩)
  rw [ho']
  simp

def PTs (X : Cx) (ifs : List Expr) (t : TT) : Prop :=
  ∀ (pins : List (Addr × Obj)) (s : Shared) (σ : St) (H : Hp) (Q : Bool → Hp → Prop), Inv X pins σ H s → t σ H Q →
    wpAny (model X.prog X.w) X.A (forIn ifs true fun c r => if r = true then do let ok ← isTrue c X.env (eval c X.env); pure (ForInStep.yield ok) else pure (ForInStep.yield r)) (TP X pins σ Q) X.xe s
def tYes : TT := fun _ H Q => Q true H
theorem pts_nil : PTs X [] tYes := fun _ _ _ H _ I h => wpAny_tests_nil ⟨H, I, h⟩
theorem pts_one {c : Expr} {t : TT} (h : PT X c t) : PTs X [c] t := fun pins s σ H Q I hw => wpAny_tests_one (h pins s σ H Q I hw)
end

theorem thnF {α : Type} {t : Sem α} {Q Q' : α → Shared → Prop} {M : Model} {A : Around} {E : Value → Shared → Prop} {s : Shared} (h : wpAny M A t Q (fun _ _ => False) s) (hQ : ∀ a s, Q a s → Q' a s) : wpAny M A t Q' E s := wpAny_mono h hQ fun _ _ z => False.elim z

theorem compLoop_any {prog : Program} {w : World} {A : Around} {R : Result → Shared → Prop} {s : Shared} {elt target iter : Expr} {ifs : List Expr} {scope : Scope} {pos : Pos} {it acc : Value} {env : Env} (I : Nat → Shared → Prop)
    (turn : ∀ n s, I n s → wpAny (model prog w) A (pyNext it) (fun r s₁ => match r with
      | none => R (.ok .next) s₁
      | some v => wpAny (model prog w) A (letOwnedTupleGo target it v) (fun _ s₁' => wpAny (model prog w) A (assign target env v) (fun _ s₂ =>
          wpAny (model prog w) A (forIn ifs true fun c r => if r = true then do let ok ← isTrue c env (eval c env); pure (ForInStep.yield ok) else pure (ForInStep.yield r)) (fun ok s₃ =>
            if ok = true then wpAny (model prog w) A (eval elt env) (fun x s₄ =>
              wpAny (model prog w) A (call (.builtin "list.append") [acc, x]) (fun _ s₅ => ∃ m, m < n ∧ I m s₅) (notedBy (model prog w) A env fun e s' => R (.error e) s') s₄) (notedBy (model prog w) A env fun e s' => R (.error e) s') s₃
            else ∃ m, m < n ∧ I m s₃) (notedBy (model prog w) A env fun e s' => R (.error e) s') s₂) (notedBy (model prog w) A env fun e s' => R (.error e) s') s₁') (notedBy (model prog w) A env fun e s' => R (.error e) s') s₁) (notedBy (model prog w) A env fun e s' => R (.error e) s') s)
    (n : Nat) (h : I n s) :
    codeAny (model prog w) A (.compLoop (.ListComp elt [⟨target, iter, ifs, 0⟩] scope pos) 0 it acc env) R s := by
  refine codeAny_loop rfl I (fun n s hI => ?_) n h
  show wpAny _ A ((compTurn (.ListComp elt [⟨target, iter, ifs, 0⟩] scope pos) 0 it acc env).onRaise (fun x => do noteFrame x env; theTreesLotGoes x)) _ _ s
  refine wpAny_noted ?_
  rw [compTurn_list]
  refine wpAny_bind (wpAny_standAt (wpAny_bind (wpAny_mono (turn n s hI) (fun r s₁ h₁ => ?_) fun _ _ h' => h')))
  cases r with
  | none => exact wpAny_pure h₁
  | some v =>
    refine wpAny_bind (wpAny_mono h₁ (fun _ s₁' h₁' => ?_) fun _ _ h' => h')
    refine wpAny_bind (wpAny_mono h₁' (fun _ s₂ h₂ => wpAny_bind (wpAny_mono h₂ (fun ok s₃ h₃ => ?_) fun _ _ h' => h')) fun _ _ h' => h')
    cases ok with
    | false => exact wpAny_pure ⟨rfl, h₃⟩
    | true =>
      exact wpAny_bind (wpAny_bind (wpAny_mono h₃ (fun x s₄ h₄ => wpAny_bind (wpAny_mono h₄ (fun _ s₅ h₅ => wpAny_pure (wpAny_pure ⟨rfl, h₅⟩)) fun _ _ h' => h')) fun _ _ h' => h'))

section
variable {X : Cx}
def tLc (wi : TI) (g : TG) (tt : TT) (te : TE) (vs : List Nat) : TE := fun σ H Q => wi σ H fun J H1 => ∀ D, H1 D = none → ∃ W : Nat → Nat → Hp → Prop, (∃ m, W 0 m (upd H1 D (.lst []))) ∧ ∀ i m H, W i m H →
  (J.stop i H ∧ Q (.ref D) H) ∨ (J.go i H ∧ ∃ Nx : Hp → Prop, (∀ H', Nx H' → ∃ m', m' < m ∧ W (i + 1) m' H') ∧ ∀ x H', J.yld i H x H' → g x (wipe σ vs) H' fun σ2 H2 => wipe σ2 vs = wipe σ vs ∧ tt σ2 H2 fun b H3 =>
    if b = true then te σ2 H3 fun y H4 => ∃ acc, H4 D = some (.lst acc) ∧ acc.length < sizeLine ∧ Nx (upd H4 D (.lst (acc ++ [y]))) else Nx H3)
theorem lc_core {pins : List (Addr × Obj)} {s : Shared} {σ : St} {H : Hp} {Q : VK} {elt tg iter : Expr} {ifs : List Expr} {scope : Scope} {own : List (Str × Nat)} {pos pos' : Pos} {wi : TI} {g : TG} {tt : TT} {te : TE} {use : Option (Value → Sem Unit)} {Qf : Value → Shared → Prop}
    (hc : X.calm = true) (hN : X.N.Nodup) (I : Inv X pins σ H s) (hi : PI X tg iter wi) (ok : BlkOk X.N X.env.scope scope own)
    (hg : ∀ (s : Shared) (H : Hp) (C : Addr) (cl : List (Str × Addr)) (fp : List Addr), PG (X.blk s H scope (compEnvC scope cl C X.env) fp) tg g) (ht : ∀ (s : Shared) (H : Hp) (C : Addr) (cl : List (Str × Addr)) (fp : List Addr), PTs (X.blk s H scope (compEnvC scope cl C X.env) fp) ifs tt)
    (he : ∀ (s : Shared) (H : Hp) (C : Addr) (cl : List (Str × Addr)) (fp : List Addr), PE (X.blk s H scope (compEnvC scope cl C X.env) fp) elt te) (hs : ∀ x, foldedSetIterable iter X.env x = pure x)
    (h : tLc wi g tt te (own.map (·.2)) σ H Q)
    (hRR : ∀ D C s' m H', Inv X pins σ H' s' → Q (.ref D) H' → s'.heap.Ns C m → FpOk X pins H' C → compPost (model X.prog X.w) X.A X.xe use Qf (.ref D) C (.ok .next) s') :
    wpAny (model X.prog X.w) X.A (comprehension (.ListComp elt [⟨tg, iter, ifs, 0⟩] scope pos) scope X.env pos' (newList []) false (eval iter X.env) use) Qf X.xe s := by
  have hfree : ∀ y ∈ scope.names, y.2 = .free → ∃ c, X.env.cells.lookup y.1 = some c := fun y hy e => by
    rcases ok.free y hy e with k | k
    · exact I.ok.has _ (.inl k)
    · exact I.ok.has _ (.inr k)
  refine wpAny_comprehension_free (use := use) rfl hs (closure_ok hfree) ok.kind (fun y hy e => by rw [ok.uniq y hy, e])
    (thn (hi pins s σ H _ I h) fun xv s1 hx => thn hx fun itv s2 h2 => ?_)
  obtain ⟨it, fp, tn, J, H2, e, I2, T, st2, f2, q⟩ := h2
  subst e
  refine wpAny_newObj_type (newEnv_comp ?_) (by show 0 ≤ sizeLine; decide)
  generalize hD : s2.heap.objs.size = D
  have hDn : H2 D = none := I2.hok.fresh (Nat.le_of_eq hD)
  obtain ⟨W, ⟨m0, w0⟩, turn⟩ := q D hDn
  generalize hs3 : ({ s2 with heap := s2.heap.push { cls := .type "list", data := .seq ([] : List Value).toArray } } : Shared) = s3
  have I3 : Inv X pins σ (upd H2 D (.lst [])) s3 := by
    rw [← hs3]
    refine I2.laid (t' := s2.toks) (fun b o e => Heap.get?_push_of_some _ e) (Nat.le_of_eq hD) ⟨Nat.zero_le _, [], 0, .nil, ?_⟩
    rw [← hD]
    exact Heap.get?_push_size _ rfl
  have h3 : s3.heap = s2.heap.push { cls := .type "list", data := .seq ([] : List Value).toArray } := by rw [← hs3]
  have sz : ∀ b ∈ fp, b < s2.heap.objs.size := fun b hb => by
    obtain ⟨o, e, _⟩ := T.obj _ _ st2 b hb
    exact Heap.lt_size e
  have f3 : ∀ b ∈ fp, FpOk X pins (upd H2 D (.lst [])) b ∧ b < s3.heap.objs.size := fun b hb => by
    have hlt := sz b hb
    refine ⟨⟨?_, (f2 b hb).2⟩, by rw [h3, Heap.size_push]; exact Nat.lt_succ_of_lt hlt⟩
    rw [upd_ne (by rw [← hD]; exact Nat.ne_of_lt hlt)]
    exact (f2 b hb).1
  have st3 : tn 0 s3.heap := T.keep _ _ _ st2 fun b _ o e => by rw [h3]; exact Heap.get?_push_of_some _ e
  have I4 := block_start I3 ok hN f3
  have pg := hg s3 (upd H2 D (.lst [])) s3.heap.objs.size (cellsFrom (s3.heap.objs.size + 1) scope.names (cloFrom X.env.cells scope.names [])) fp
  have pt := ht s3 (upd H2 D (.lst [])) s3.heap.objs.size (cellsFrom (s3.heap.objs.size + 1) scope.names (cloFrom X.env.cells scope.names [])) fp
  have pe := he s3 (upd H2 D (.lst [])) s3.heap.objs.size (cellsFrom (s3.heap.objs.size + 1) scope.names (cloFrom X.env.cells scope.names [])) fp
  show codeAny _ _ (.compStart (.ListComp elt [⟨tg, iter, ifs, 0⟩] scope pos) 0 (.ref it) (.ref D) (compEnvC scope (cellsFrom (s3.heap.objs.size + 1) scope.names (cloFrom X.env.cells scope.names [])) s3.heap.objs.size X.env)) (compPost (model X.prog X.w) X.A X.xe use Qf (.ref D) s3.heap.objs.size) { s3 with heap := pushCells (s3.heap.push { cls := .type "dict", data := .dict #[] }) scope.names }
  have nfp : ∀ b ∈ fp, (upd H2 D (.lst [])) b = none := fun b hb => (f3 b hb).1.1
  generalize hce : compEnvC scope (cellsFrom (s3.heap.objs.size + 1) scope.names (cloFrom X.env.cells scope.names [])) s3.heap.objs.size X.env = ce at I4 pg pt pe ⊢
  have cL : ce.locals = s3.heap.objs.size := by subst hce; rfl
  generalize hH3 : upd H2 D (.lst []) = H3 at I3 I4 pg pt pe w0 nfp f3
  generalize hs4 : ({ s3 with heap := pushCells (s3.heap.push { cls := .type "dict", data := .dict #[] }) scope.names } : Shared) = s4 at I4 ⊢
  have st4 : tn 0 s4.heap := T.keep _ _ _ st3 fun b _ o e => by rw [← hs4]; exact pushCells_keeps _ _ _ _ (Heap.get?_push_of_some _ e)
  have stat : ∀ {σ' : St} {H' : Hp} {s' : Shared}, Inv (X.blk s3 H3 scope ce fp) [] σ' H' s' → (∀ b ∈ fp, H' b = none) → ∀ b ∈ fp, FpOk (X.blk s3 H3 scope ce fp) [] H' b := fun {σ' H' s'} I' hn b hb =>
    ⟨hn b hb, (I'.ok.exf b hb).1, I'.ok.exfs b hb, .inl hb, fun x c e => (I'.ok.exf b hb).2 x c e, fun p hp => absurd (show p ∈ ([] : List (Addr × Obj)) ++ [] from hp) (by simp)⟩
  have loop : codeAny (model X.prog X.w) X.A (.compLoop (.ListComp elt [⟨tg, iter, ifs, 0⟩] scope pos) 0 (.ref it) (.ref D) ce) (compPost (model X.prog X.w) X.A X.xe use Qf (.ref D) s3.heap.objs.size) s4 := by
    refine compLoop_any (fun n s' => ∃ i H', Inv (X.blk s3 H3 scope ce fp) [] (wipe σ (own.map (·.2))) H' s' ∧ tn i s'.heap ∧ (∀ b ∈ fp, H' b = none) ∧ W i n H') ?_ m0 ⟨0, H3, I4, st4, nfp, w0⟩
    rintro n s5 ⟨i, H5, I5, st5, n5, w5⟩
    rcases turn i n H5 w5 with ⟨stop, qq⟩ | ⟨go, Nx, hNx, step⟩
    · have td := T.done (X.blk s3 H3 scope ce fp) rfl rfl rfl hc i [] s5 _ H5 (fun _ _ => False) I5 (stat I5 n5) st5 stop
      refine thnF td fun r s6 ⟨hr, I6⟩ => ?_
      subst hr
      have I7 : Inv X pins σ H5 s6 := I3.call' (ch := fp) I6.os I6.base I6.hok I6.bare fun b hb => ⟨(f3 b hb).1.2.2.2.1, (f3 b hb).1.2.1, (f3 b hb).1.2.2.2.2.1, (f3 b hb).1.2.2.2.2.2⟩
      have nC : H5 s3.heap.objs.size = none := by
        have z : H5 ce.locals = none := I6.free
        rw [cL] at z
        exact z
      obtain ⟨m, hn, _⟩ := I6.loc
      have hn : s6.heap.Ns ce.locals m := hn
      rw [cL] at hn
      exact hRR D s3.heap.objs.size s6 m H5 I7 qq hn (I3.fpOk (Nat.le_refl _) nC)
    · have ti := T.item (X.blk s3 H3 scope ce fp) rfl rfl rfl hc i [] s5 _ H5 (fun _ _ => False) I5 (stat I5 n5) st5 go
      refine thnF ti fun r s6 ⟨u, hr, h6⟩ => ?_
      subst hr
      refine thnF h6 fun _ s7 ⟨x, H7, I7, r7, y7, st7, n7⟩ => ?_
      have I7' := I7.pinned (stat I7 n7) (T.obj _ _ st7)
      refine thnF (pg _ s7 _ H7 x u _ I7' r7 (step x H7 y7)) fun _ s8 ⟨σ8, H8, I8, hw8, q8⟩ => ?_
      refine thnF (pt _ s8 σ8 H8 _ I8 q8) fun b s9 ⟨H9, I9, q9⟩ => ?_
      have fin : ∀ {s' : Shared} {H' : Hp}, Inv (X.blk s3 H3 scope ce fp) ([] ++ pinsAt fp s7.heap) σ8 H' s' → Nx H' → ∃ m, m < n ∧ ∃ i H', Inv (X.blk s3 H3 scope ce fp) [] (wipe σ (own.map (·.2))) H' s' ∧ tn i s'.heap ∧ (∀ b ∈ fp, H' b = none) ∧ W i m H' := fun {s' H'} I' nx => by
        obtain ⟨m', hm, w'⟩ := hNx H' nx
        have pin' : ∀ b ∈ fp, ∀ o, s7.heap.get? b = some o → s'.heap.get? b = some o ∧ H' b = none := fun b hb o e =>
          let z := I'.pin (b, o) (List.mem_append_right _ (List.mem_append_right _ (mem_pinsAt hb e)))
          ⟨z.1, z.2.1⟩
        have hl : (wipe σ (own.map (·.2))).length = σ8.length := by rw [← hw8, wipe_length]
        refine ⟨m', hm, i + 1, H', (I'.unpinned (pins := [])).weak hl (fun j v e => ?_), T.keep _ _ _ st7 fun b hb o e => (pin' b hb o e).1, fun b hb => ?_, w'⟩
        · rw [← hw8] at e
          exact (wipe_some e).1
        · obtain ⟨o, e, _⟩ := T.obj _ _ st7 b hb
          exact (pin' b hb o e).2
      cases b with
      | false =>
        simp only [Bool.false_eq_true, if_false] at q9 ⊢
        exact fin I9 q9
      | true =>
        simp only [if_true] at q9 ⊢
        refine thnF (pe _ s9 σ8 H9 _ I9 q9) fun z s10 ⟨yv, H10, I10, r10, acc, hD10, hz10, nx⟩ => ?_
        exact app_ok (X := X.blk s3 H3 scope ce fp) I10 hD10 hz10 r10 fun s11 I11 => fin I11 nx
  exact codeAny_compStart_list loop (T.self X.A 0 _ _ _ st4 loop)
theorem pe_lc {elt tg iter : Expr} {ifs : List Expr} {scope : Scope} {own : List (Str × Nat)} {pos : Pos} {wi : TI} {g : TG} {tt : TT} {te : TE} (hc : X.calm = true) (hN : X.N.Nodup) (hi : PI X tg iter wi) (ok : BlkOk X.N X.env.scope scope own)
    (hg : ∀ (s : Shared) (H : Hp) (C : Addr) (cl : List (Str × Addr)) (fp : List Addr), PG (X.blk s H scope (compEnvC scope cl C X.env) fp) tg g) (ht : ∀ (s : Shared) (H : Hp) (C : Addr) (cl : List (Str × Addr)) (fp : List Addr), PTs (X.blk s H scope (compEnvC scope cl C X.env) fp) ifs tt)
    (he : ∀ (s : Shared) (H : Hp) (C : Addr) (cl : List (Str × Addr)) (fp : List Addr), PE (X.blk s H scope (compEnvC scope cl C X.env) fp) elt te) (hs : ∀ x, foldedSetIterable iter X.env x = pure x := by intro _; rfl) :
    PE X (.ListComp elt [⟨tg, iter, ifs, 0⟩] scope pos) (tLc wi g tt te (own.map (·.2))) := by
  intro pins s σ H Q I h
  rw [eval_ListComp]
  refine lc_core hc hN I hi ok hg ht he hs h fun D C s' m H' I' q hn f => ⟨m, hn, fun h'' sb => ?_⟩
  obtain ⟨f0, f1, f2, f3, f4, f5⟩ := f
  exact ⟨.ref D, H', I'.turned (t' := s'.toks) (fun b o hb e => (sb.2 b hb).trans e) f0 f1 f3 f4 f5, rfl, q⟩
theorem ps_setLc {i : Nat} {y : Str} {py : Pos} {elt tg iter : Expr} {ifs : List Expr} {scope : Scope} {own : List (Str × Nat)} {pos spos : Pos} {wi : TI} {g : TG} {tt : TT} {te : TE} (hc : X.calm = true) (hN : X.N.Nodup) (hy : X.N[i]? = some y) (hyl : X.env.scope.names.lookup y = some .local)
    (hsw : swapsWith (.ListComp elt [⟨tg, iter, ifs, 0⟩] scope pos) (some (.Name y py)) spos.line X.env = pure true) (hi : PI X tg iter wi) (ok : BlkOk X.N X.env.scope scope own)
    (hg : ∀ (s : Shared) (H : Hp) (C : Addr) (cl : List (Str × Addr)) (fp : List Addr), PG (X.blk s H scope (compEnvC scope cl C X.env) fp) tg g) (ht : ∀ (s : Shared) (H : Hp) (C : Addr) (cl : List (Str × Addr)) (fp : List Addr), PTs (X.blk s H scope (compEnvC scope cl C X.env) fp) ifs tt)
    (he : ∀ (s : Shared) (H : Hp) (C : Addr) (cl : List (Str × Addr)) (fp : List Addr), PE (X.blk s H scope (compEnvC scope cl C X.env) fp) elt te) (hs : ∀ x, foldedSetIterable iter X.env x = pure x := by intro _; rfl) :
    PS X (.Assign [.Name y py] (.ListComp elt [⟨tg, iter, ifs, 0⟩] scope pos) spos) (tAsg (tLc wi g tt te (own.map (·.2))) (gName i)) := by
  intro pins s σ H D I h
  rw [exec_Assign_Name_used _ _ _ _ hsw]
  refine wpAny_bind (wpAny_standAt (wpAny_bind ?_))
  show wpAny _ X.A (do let _ ← comprehension (.ListComp elt [⟨tg, iter, ifs, 0⟩] scope pos) scope X.env (firstIterPos [⟨tg, iter, ifs, 0⟩] pos) (newList []) false (eval iter X.env) (some (assign (.Name y py) X.env))) _ _ s
  have h : tLc wi g tt te (own.map (·.2)) σ H (fun x H1 => gName i x σ H1 D.nx) := h
  refine wpAny_bind (thn (lc_core (Qf := fun _ s' => SP X pins D .next s') hc hN I hi ok hg ht he hs h fun L C s' m H' I' q hn f => ?_) fun _ s' hq => wpAny_pure (wpAny_pure hq))
  show wpAny _ _ (assign (.Name y py) X.env (.ref L)) _ _ _
  refine wpAny_assign_Name (store_ok2 (v := V.ref L) I' hN hy (.inl hyl) rfl (fun s2 I2 ⟨a, sb, ha⟩ => ?_) (.inr hyl))
  obtain ⟨f0, f1, f2, f3, f4, f5⟩ := f
  have haC : C ≠ a := by
    rcases ha with z | z
    · rw [z]; exact f1
    · exact fun e => f4 y a z e.symm
  refine ⟨m, hn.sameBut sb haC, fun h3 sb3 => ?_⟩
  exact ⟨_, H', I2.turned (t' := s2.toks) (fun b o hb e => (sb3.2 b hb).trans e) f0 f1 f3 f4 f5, q⟩
theorem sw_true {elt : Expr} {gs : List Comprehension} {scope : Scope} {pos py : Pos} {y : Str} {l : Nat} {env : Env} (hk : env.scope.kind = .function) (hy : env.scope.names.lookup y = some .local) (hl : (py.line == pos.line) = true)
    (ha : (scope.names.any fun (n, k) => n == y && (k == .local || k == .cell)) = false) : swapsWith (.ListComp elt gs scope pos) (some (.Name y py)) l env = pure true := by
  have ky : env.kindOf y = some .local := hy
  have hb : env.blockKind = .function := by unfold Env.blockKind; rw [hk]; rfl
  unfold swapsWith
  simp only [hb, ky, ha, Expr.pos, hl]
  rfl
end

theorem lc_range {lo : Int} {n : Nat} {g : TG} {tt : TT} {te : TE} {vs : List Nat} {σ : St} {H1 : Hp} {D : Addr} {Qd : Hp → Prop} (Pv : Nat → Hp → Prop) (h0 : Pv 0 (upd H1 D (.lst [])))
    (hs : ∀ i H, i < n → Pv i H → g (.int (lo + i)) (wipe σ vs) H fun σ2 H2 => wipe σ2 vs = wipe σ vs ∧ tt σ2 H2 fun b H3 =>
      if b = true then te σ2 H3 fun y H4 => ∃ acc, H4 D = some (.lst acc) ∧ acc.length < sizeLine ∧ Pv (i + 1) (upd H4 D (.lst (acc ++ [y]))) else Pv (i + 1) H3) (hd : ∀ H, Pv n H → Qd H) :
    ∃ W : Nat → Nat → Hp → Prop, (∃ m, W 0 m (upd H1 D (.lst []))) ∧ ∀ i m H, W i m H →
      ((Itr lo n).stop i H ∧ Qd H) ∨ ((Itr lo n).go i H ∧ ∃ Nx : Hp → Prop, (∀ H', Nx H' → ∃ m', m' < m ∧ W (i + 1) m' H') ∧ ∀ x H', (Itr lo n).yld i H x H' → g x (wipe σ vs) H' fun σ2 H2 => wipe σ2 vs = wipe σ vs ∧ tt σ2 H2 fun b H3 =>
        if b = true then te σ2 H3 fun y H4 => ∃ acc, H4 D = some (.lst acc) ∧ acc.length < sizeLine ∧ Nx (upd H4 D (.lst (acc ++ [y]))) else Nx H3) := by
  refine ⟨fun i m H => m = n - i ∧ i ≤ n ∧ Pv i H, ⟨n, by simp, Nat.zero_le _, h0⟩, ?_⟩
  rintro i m H ⟨rfl, hi, p⟩
  by_cases hlt : i < n
  · refine .inr ⟨hlt, Pv (i + 1), fun H' p' => ⟨n - (i + 1), by omega, rfl, hlt, p'⟩, fun x H' y => ?_⟩
    obtain ⟨e, y⟩ := y
    subst e y
    exact hs i _ hlt p
  · have e : i = n := by omega
    subst e
    exact .inl ⟨Nat.le_refl _, hd H p⟩
theorem lc_list {K : PySem.W.Frag} {a : Addr} {xs : List V} {g : TG} {tt : TT} {te : TE} {vs : List Nat} {σ : St} {H1 : Hp} {D : Addr} {Qd : Hp → Prop} (Pv : Nat → Hp → Prop) (h0 : Pv 0 (upd H1 D (.lst []))) (hl : ∀ i H, i ≤ xs.length → Pv i H → SqL K H a xs)
    (hs : ∀ i x H, xs[i]? = some x → Pv i H → g x (wipe σ vs) H fun σ2 H2 => wipe σ2 vs = wipe σ vs ∧ tt σ2 H2 fun b H3 =>
      if b = true then te σ2 H3 fun y H4 => ∃ acc, H4 D = some (.lst acc) ∧ acc.length < sizeLine ∧ Pv (i + 1) (upd H4 D (.lst (acc ++ [y]))) else Pv (i + 1) H3) (hd : ∀ H, Pv xs.length H → Qd H) :
    ∃ W : Nat → Nat → Hp → Prop, (∃ m, W 0 m (upd H1 D (.lst []))) ∧ ∀ i m H, W i m H →
      ((Itl K a).stop i H ∧ Qd H) ∨ ((Itl K a).go i H ∧ ∃ Nx : Hp → Prop, (∀ H', Nx H' → ∃ m', m' < m ∧ W (i + 1) m' H') ∧ ∀ x H', (Itl K a).yld i H x H' → g x (wipe σ vs) H' fun σ2 H2 => wipe σ2 vs = wipe σ vs ∧ tt σ2 H2 fun b H3 =>
        if b = true then te σ2 H3 fun y H4 => ∃ acc, H4 D = some (.lst acc) ∧ acc.length < sizeLine ∧ Nx (upd H4 D (.lst (acc ++ [y]))) else Nx H3) := by
  refine ⟨fun i m H => m = xs.length - i ∧ i ≤ xs.length ∧ Pv i H, ⟨xs.length, by simp, Nat.zero_le _, h0⟩, ?_⟩
  rintro i m H ⟨rfl, hi, p⟩
  have q := hl i H hi p
  by_cases hlt : i < xs.length
  · refine .inr ⟨⟨xs, xs[i], q, by simp [hlt]⟩, Pv (i + 1), fun H' p' => ⟨xs.length - (i + 1), by omega, rfl, hlt, p'⟩, fun x H' y => ?_⟩
    obtain ⟨e, y⟩ := y
    subst e
    exact hs i x _ (y xs q) p
  · have e : i = xs.length := by omega
    subst e
    exact .inl ⟨⟨xs, q, Nat.le_refl _⟩, hd H p⟩
def blkC (N : List Str) (sc scope : Scope) (own : List (Str × Nat)) : Bool :=
  (match scope.kind with | .function => true | _ => false) && (scope.names.all fun y => decide (scope.names.lookup y.1 = some y.2)) && (own.all fun p => decide (N[p.2]? = some p.1)) &&
    (scope.names.all fun y => match y.2 with
      | .free => (match sc.names.lookup y.1 with | some .cell => true | some .free => true | _ => false)
      | .local => decide (y.1 ∈ own.map (·.1)) || decide (y.1 ∉ N)
      | .cell => decide (y.1 ∈ own.map (·.1)) || decide (y.1 ∉ N)
      | _ => true)
theorem blkOk_by {N : List Str} {sc scope : Scope} {own : List (Str × Nat)} (h : blkC N sc scope own = true) : BlkOk N sc scope own := by
  unfold blkC at h
  simp only [Bool.and_eq_true, List.all_eq_true, decide_eq_true_eq] at h
  obtain ⟨⟨⟨h1, h2⟩, h3⟩, h4⟩ := h
  refine ⟨?_, h2, h3, fun y hy e => ?_, fun y hy e => ?_⟩
  · split at h1
    · assumption
    · cases h1
  · have q := h4 y hy
    simp only [e] at q
    split at q <;> first | exact .inl (by assumption) | exact .inr (by assumption) | cases q
  · have q := h4 y hy
    rcases e with e | e <;> (simp only [e, Bool.or_eq_true, decide_eq_true_eq] at q; exact q)
end L2

namespace L2
open PySem PySem.Spec PyProof.Rows

section
variable {prog : Program} {w : World} {A : Around} {R : Result → Shared → Prop} {s : Shared} {elt t0 i0 t1 i1 : Expr} {ifs0 ifs1 : List Expr} {scope : Scope} {pos : Pos} {it acc : Value} {env : Env}
end

section
variable {X : Cx}
end
end L2

namespace L2
open PySem PySem.Spec PyProof.Rows

section
variable {κ : Type} [DecidableEq κ]
def valV (kvs : List (κ × V)) (k : κ) : Option V := (kvs.find? fun kv => decide (kv.1 = k)).map (·.2)
def putK (kvs : List (κ × V)) (k : κ) (v : V) : List (κ × V) :=
  if (kvs.any fun kv => decide (kv.1 = k)) = true then kvs.map (fun kv => if kv.1 = k then (kv.1, v) else kv) else kvs ++ [(k, v)]
theorem valV_pos {p : κ × V} {r : List (κ × V)} {k : κ} (e : p.1 = k) : valV (p :: r) k = some p.2 := by simp [valV, List.find?_cons, e]
theorem valV_neg {p : κ × V} {r : List (κ × V)} {k : κ} (e : ¬ p.1 = k) : valV (p :: r) k = valV r k := by simp [valV, List.find?_cons, e]
theorem valV_any (k : κ) : ∀ kvs : List (κ × V), (kvs.any fun kv => decide (kv.1 = k)) = (valV kvs k).isSome
  | [] => rfl
  | p :: r => by
    rw [List.any_cons]
    by_cases e : p.1 = k
    · simp only [valV_pos e, decide_eq_true e, Bool.true_or, Option.isSome_some]
    · rw [valV_neg e, decide_eq_false e, Bool.false_or]; exact valV_any k r
theorem valV_map (k j : κ) (y : V) : ∀ kvs : List (κ × V), valV (kvs.map fun kv => if kv.1 = k then (kv.1, y) else kv) j = (valV kvs j).map fun x => if j = k then y else x
  | [] => rfl
  | p :: r => by
    have ih := valV_map k j y r
    rw [List.map_cons]
    by_cases h : p.1 = k
    · rw [if_pos h]
      by_cases e : p.1 = j
      · rw [valV_pos (p := (p.1, y)) e, valV_pos e, Option.map_some, if_pos (e.symm.trans h)]
      · rw [valV_neg (p := (p.1, y)) e, valV_neg e, ih]
    · rw [if_neg h]
      by_cases e : p.1 = j
      · rw [valV_pos (p := p) e, valV_pos e, Option.map_some, if_neg (fun z => h (e.trans z))]
      · rw [valV_neg (p := p) e, valV_neg e, ih]
theorem valV_snoc (k j : κ) (y : V) : ∀ kvs : List (κ × V), valV kvs k = none → valV (kvs ++ [(k, y)]) j = if j = k then some y else valV kvs j
  | [], _ => by
    by_cases e : k = j
    · rw [if_pos e.symm]; exact valV_pos (p := (k, y)) e
    · rw [if_neg (fun z => e z.symm)]; exact valV_neg (p := (k, y)) e
  | p :: r, hn => by
    rw [List.cons_append]
    have hk : ¬ p.1 = k := fun z => by rw [valV_pos z] at hn; cases hn
    rw [valV_neg hk] at hn
    have ih := valV_snoc k j y r hn
    by_cases e : p.1 = j
    · rw [valV_pos e, valV_pos e, if_neg (fun z => hk (e.trans z))]
    · rw [valV_neg e, valV_neg e, ih]
theorem valV_put (kvs : List (κ × V)) (k j : κ) (y : V) : valV (putK kvs k y) j = if j = k then some y else valV kvs j := by
  unfold putK
  by_cases a : (kvs.any fun kv => decide (kv.1 = k)) = true
  · rw [if_pos a, valV_map]
    rw [valV_any] at a
    by_cases e : j = k
    · obtain ⟨x, hx⟩ := Option.isSome_iff_exists.mp a
      rw [if_pos e, e, hx, Option.map_some, if_pos rfl]
    · rw [if_neg e]
      cases valV kvs j with
      | none => rfl
      | some x => rw [Option.map_some, if_neg e]
  · rw [if_neg a]
    refine valV_snoc k j y kvs ?_
    rw [valV_any] at a
    cases q : valV kvs k with
    | none => rfl
    | some x => rw [q] at a; exact (a rfl).elim
theorem length_putK (kvs : List (κ × V)) (k : κ) (v : V) : (putK kvs k v).length ≤ kvs.length + 1 := by
  unfold putK
  split
  · rw [List.length_map]; omega
  · rw [List.length_append, List.length_cons, List.length_nil]; omega
theorem putK_new {kvs : List (κ × V)} {k : κ} (v : V) (h : valV kvs k = none) : putK kvs k v = kvs ++ [(k, v)] := by
  unfold putK
  rw [valV_any, h]
  exact if_neg (by decide)

theorem RelO.isSome_eq {o : Option V} {u : Option Value} (r : RelO o u) : o.isSome = u.isSome := by
  cases o with
  | none => cases u with
    | none => rfl
    | some _ => exact (show False from r).elim
  | some _ => cases u with
    | none => exact (show False from r).elim
    | some _ => rfl
theorem KV.val {kvs : List (κ × V)} {vs : List (κ × Value)} (r : KV kvs vs) (k : κ) : RelO (valV kvs k) (valueAt vs k) := by
  unfold KV at r
  induction r with
  | nil => exact True.intro
  | @cons p q ps qs h t ih =>
    obtain ⟨h1, h2⟩ := h
    by_cases e : p.1 = k
    · have e' : q.1 = k := h1.symm.trans e
      have b : valueAt (q :: qs) k = some q.2 := by simp [valueAt, List.find?_cons, e']
      rw [valV_pos e, b]; exact h2
    · have e' : ¬ q.1 = k := fun z => e (h1.trans z)
      have b : valueAt (q :: qs) k = valueAt qs k := by simp [valueAt, List.find?_cons, e']
      rw [valV_neg e, b]; exact ih
theorem KV.any {kvs : List (κ × V)} {vs : List (κ × Value)} (r : KV kvs vs) (k : κ) : (kvs.any fun kv => decide (kv.1 = k)) = vs.any fun kv => decide (kv.1 = k) := by
  unfold KV at r
  induction r with
  | nil => rfl
  | cons h t ih => rw [List.any_cons, List.any_cons, ih, h.1]
theorem KV.repl {kvs : List (κ × V)} {vs : List (κ × Value)} (r : KV kvs vs) (k : κ) {y : V} {u : Value} (ry : RelV y u) :
    KV (kvs.map fun kv => if kv.1 = k then (kv.1, y) else kv) (vs.map fun kv => if kv.1 = k then (kv.1, u) else kv) := by
  unfold KV at r ⊢
  induction r with
  | nil => exact .nil
  | @cons p q ps qs h t ih =>
    rw [List.map_cons, List.map_cons]
    refine .cons ?_ ih
    obtain ⟨h1, h2⟩ := h
    by_cases e : p.1 = k
    · rw [if_pos e, if_pos (h1.symm.trans e)]; exact ⟨h1, ry⟩
    · rw [if_neg e, if_neg (fun z => e (h1.trans z))]; exact ⟨h1, h2⟩
theorem KV.put {kvs : List (κ × V)} {vs : List (κ × Value)} (r : KV kvs vs) (k : κ) {y : V} {u : Value} (ry : RelV y u) : KV (putK kvs k y) (stored vs k u) := by
  unfold putK stored
  rw [r.any k]
  by_cases e : (vs.any fun kv => decide (kv.1 = k)) = true
  · rw [if_pos e, if_pos e]; exact r.repl k ry
  · rw [if_neg e, if_neg e]; exact Paired.snoc r ⟨rfl, ry⟩
theorem KV.length {kvs : List (κ × V)} {vs : List (κ × Value)} (r : KV kvs vs) : kvs.length = vs.length := Paired.length r
end


theorem kV_is {P : Program} {w : World} {k : Key} {u : Value} (r : RelV (kV k) u) : (mixKind P w).is k u = true := by
  cases k with
  | inl i => obtain ⟨t, e⟩ := (show ∃ t, u = Value.int i t from r); subst e; exact mixKind_int P w i t
  | inr x => obtain ⟨t, e⟩ := (show ∃ t, u = Value.str x t from r); subst e; exact mixKind_str P w x t
theorem items_are {P : Program} {w : World} : ∀ {ks : List Key} {us : List Value}, Vals (ks.map kV) us → ItemsAre (mixKind P w) ks us
  | [], _, r => by rw [List.map_nil] at r; cases r; exact .nil
  | k :: ks, _, r => by
    rw [List.map_cons] at r
    cases r with
    | cons h t => exact .cons (kV_is h) (items_are t)

abbrev KT (H : Hp) : List (List Key × V) → List (List Key × Addr × Value) → Prop := Paired fun p q => p.1 = q.1 ∧ H q.2.1 = some (.tup (p.1.map kV)) ∧ RelV p.2 q.2.2
theorem KT.val {H : Hp} {kvs : List (List Key × V)} {xs : List (List Key × Addr × Value)} (r : KT H kvs xs) (k : List Key) : RelO (valV kvs k) ((atKey xs k).map (·.2)) := by
  induction r with
  | nil => exact True.intro
  | @cons p q ps qs h t ih =>
    obtain ⟨h1, _, h2⟩ := h
    by_cases e : p.1 = k
    · have e' : q.1 = k := h1.symm.trans e
      have b : atKey (q :: qs) k = some q.2 := by simp [atKey, List.find?_cons, e']
      rw [valV_pos e, b]; exact h2
    · have e' : ¬ q.1 = k := fun z => e (h1.trans z)
      have b : atKey (q :: qs) k = atKey qs k := by simp [atKey, List.find?_cons, e']
      rw [valV_neg e, b]; exact ih
theorem KT.repl {H : Hp} {kvs : List (List Key × V)} {xs : List (List Key × Addr × Value)} (r : KT H kvs xs) (k : List Key) {y : V} {u : Value} (ry : RelV y u) :
    KT H (kvs.map fun kv => if kv.1 = k then (kv.1, y) else kv) (xs.map (putAt k u)) := by
  induction r with
  | nil => exact .nil
  | @cons p q ps qs h t ih =>
    rw [List.map_cons, List.map_cons]
    refine .cons ?_ ih
    obtain ⟨h1, h2, h3⟩ := h
    unfold putAt
    by_cases e : p.1 = k
    · rw [if_pos e, if_pos (h1.symm.trans e)]; exact ⟨h1, h2, ry⟩
    · rw [if_neg e, if_neg (fun z => e (h1.trans z))]; exact ⟨h1, h2, h3⟩
theorem KT.put {H : Hp} {kvs : List (List Key × V)} {xs : List (List Key × Addr × Value)} (r : KT H kvs xs) (k : List Key) {b : Addr} {y : V} {u : Value} (hb : H b = some (.tup (k.map kV))) (ry : RelV y u) :
    KT H (putK kvs k y) (storedH xs k b u) := by
  have e : (kvs.any fun kv => decide (kv.1 = k)) = (atKey xs k).isSome := by
    rw [valV_any, (r.val k).isSome_eq, Option.isSome_map]
  unfold putK storedH
  rw [e]
  by_cases q : (atKey xs k).isSome = true
  · rw [if_pos q, if_pos q]; exact r.repl k ry
  · rw [if_neg q, if_neg q]; exact Paired.snoc r ⟨rfl, hb, ry⟩
theorem KT.keeps {H H' : Hp} {kvs : List (List Key × V)} {xs : List (List Key × Addr × Value)} (r : KT H kvs xs) (ht : ∀ b ys, H b = some (.tup ys) → H' b = some (.tup ys)) : KT H' kvs xs :=
  Paired.mapP r fun _ _ z => ⟨z.1, ht _ _ z.2.1, z.2.2⟩

section
variable {P : Program} {w : World} {H : Hp} {h : Heap} {a : Addr}
theorem rd_of {u : HO} (ok : HOk P w H h) (e : Rd H a u) : ObjOk P w H h a u := e.ok ok
theorem dk_rd {kvs : List (Key × V)} (ok : HOk P w H h) (e : Rd H a (.dK kvs)) : kvs.length ≤ sizeLine ∧ (a == sysModules) = false ∧ ∃ vs, KV kvs vs ∧ h.DictOf (mixKind P w) a vs :=
  show ObjOk P w H h a (.dK kvs) from rd_of ok e
theorem dk_of {kvs : List (Key × V)} (ok : HOk P w H h) (e : H a = some (.dK kvs)) : kvs.length ≤ sizeLine ∧ (a == sysModules) = false ∧ ∃ vs, KV kvs vs ∧ h.DictOf (mixKind P w) a vs := dk_rd ok (.inl e)
theorem key_of {ks : List Key} (ok : HOk P w H h) (e : H a = some (.tup (ks.map kV))) : (tupleKind (mixKind P w)).is h ks a := by
  obtain ⟨_, its, r, o, h1, h2, n, h3⟩ := (show ObjOk P w H h a (.tup (ks.map kV)) from ok a _ e)
  exact ⟨o, its.toArray, n, h1, h2, h3, by simpa using items_are r⟩
theorem dt_rd {kvs : List (List Key × V)} (ok : HOk P w H h) (e : Rd H a (.dT kvs)) : kvs.length ≤ sizeLine ∧ (a == sysModules) = false ∧
    ∃ xs, KT H kvs xs ∧ h.DictOfH (tupleKind (mixKind P w)) a xs := by
  obtain ⟨z, y, xs, r, o, es, ep, h1, h2, h3, h4, h5⟩ := (show ObjOk P w H h a (.dT kvs) from rd_of ok e)
  refine ⟨z, y, xs, r, o, es, ep, h1, h2, h3, h4, fun x hx => ?_, h5⟩
  have all : ∀ {l : List (List Key × V)} {m : List (List Key × Addr × Value)}, KT H l m → ∀ x ∈ m, (tupleKind (mixKind P w)).is h x.1 x.2.1 := by
    intro l m q
    induction q with
    | nil => intro x hx; exact nomatch hx
    | @cons p q ps qs hq t ih =>
      intro x hx
      rcases List.mem_cons.mp hx with e | hx
      · subst e
        exact key_of ok (by rw [← hq.1]; exact hq.2.1)
      · exact ih x hx
  exact all r x hx
theorem dt_of {kvs : List (List Key × V)} (ok : HOk P w H h) (e : H a = some (.dT kvs)) : kvs.length ≤ sizeLine ∧ (a == sysModules) = false ∧
    ∃ xs, KT H kvs xs ∧ h.DictOfH (tupleKind (mixKind P w)) a xs := dt_rd ok (.inl e)
end

def DGet (H : Hp) (a : Addr) (y : V) (r : Option V) : Prop :=
  (∃ kvs k, Rd H a (.dK kvs) ∧ y = kV k ∧ r = valV kvs k) ∨ ∃ kvs k b, Rd H a (.dT kvs) ∧ y = .ref b ∧ H b = some (.tup (k.map kV)) ∧ r = valV kvs k
def DPut (H : Hp) (a : Addr) (y v : V) (H' : Hp) : Prop :=
  (∃ kvs k, H a = some (.dK kvs) ∧ y = kV k ∧ kvs.length < sizeLine ∧ H' = upd H a (.dK (putK kvs k v))) ∨
  ∃ kvs k b, H a = some (.dT kvs) ∧ y = .ref b ∧ H b = some (.tup (k.map kV)) ∧ kvs.length < sizeLine ∧ H' = upd H a (.dT (putK kvs k v))
theorem DGet.k {H : Hp} {a : Addr} {kvs : List (Key × V)} {k : Key} (e : H a = some (.dK kvs)) : DGet H a (kV k) (valV kvs k) := .inl ⟨kvs, k, .inl e, rfl, rfl⟩
theorem DGet.t {H : Hp} {a b : Addr} {kvs : List (List Key × V)} {k : List Key} (e : H a = some (.dT kvs)) (eb : H b = some (.tup (k.map kV))) : DGet H a (.ref b) (valV kvs k) := .inr ⟨kvs, k, b, .inl e, rfl, eb, rfl⟩
theorem DPut.k {H : Hp} {a : Addr} {kvs : List (Key × V)} {k : Key} {v : V} (e : H a = some (.dK kvs)) (hl : kvs.length < sizeLine) : DPut H a (kV k) v (upd H a (.dK (putK kvs k v))) := .inl ⟨kvs, k, e, rfl, hl, rfl⟩
theorem DPut.t {H : Hp} {a b : Addr} {kvs : List (List Key × V)} {k : List Key} {v : V} (e : H a = some (.dT kvs)) (eb : H b = some (.tup (k.map kV))) (hl : kvs.length < sizeLine) :
    DPut H a (.ref b) v (upd H a (.dT (putK kvs k v))) := .inr ⟨kvs, k, b, e, rfl, eb, hl, rfl⟩


section
variable {X : Cx} {pins : List (Addr × Obj)} {σ : St} {H : Hp} {s : Shared} {a : Addr} {y v : V} {u r : Value} {o : Option V} {A : Around} {E : Value → Shared → Prop}

theorem Inv.big (I : Inv X pins σ H s) : sysModules < s.heap.objs.size := by
  have h : mainGlobals < s.heap.objs.size := (I.mod.glob.keeps I.bk).lt
  exact Nat.lt_trans (by decide) h

theorem d_getItem {Q : Value → Shared → Prop} (hu : A.units + 1 < cLine) (I : Inv X pins σ H s) (g : DGet H a y (some v)) (ry : RelV y u) (h : ∀ w' s', Inv X pins σ H s' → RelV v w' → Q w' s') :
    wpAny (model X.prog X.w) A (getItem (.ref a) u) Q E s := by
  rcases g with ⟨kvs, k, e, ey, l⟩ | ⟨kvs, k, b, e, ey, eb, l⟩
  · subst ey
    obtain ⟨z, hd, vs, rel, dd⟩ := dk_rd I.hok e
    obtain ⟨w', hw, rw'⟩ := RelO.some_of (v := v) (o := valueAt vs k) (by rw [l]; exact rel.val k)
    exact wpAny_getItem_of (kV_is ry) dd.mapOf hw (h w' _ (I.tok _) rw')
  · subst ey
    cases (show u = Value.ref b from ry)
    obtain ⟨z, hd, xs, rel, dd⟩ := dt_rd I.hok e
    obtain ⟨w', hw, rw'⟩ := RelO.some_of (v := v) (o := (atKey xs k).map (·.2)) (by rw [l]; exact rel.val k)
    obtain ⟨p, hp, hp2⟩ := Option.map_eq_some_iff.mp hw
    refine wpAny_getItem_heap (tupleKind_room_in1 hu) (key_of I.hok eb) dd hp ?_
    rw [hp2]
    exact h w' _ (I.tok _) rw'
theorem d_in {Q : Value → Shared → Prop} (hu : A.units + 1 < cLine) (I : Inv X pins σ H s) (g : DGet H a y o) (ry : RelV y u) (h : ∀ s', Inv X pins σ H s' → Q (.bool o.isSome) s') :
    wpAny (model X.prog X.w) A (compareOp .In u (.ref a)) Q E s := by
  rcases g with ⟨kvs, k, e, ey, l⟩ | ⟨kvs, k, b, e, ey, eb, l⟩
  · subst ey
    obtain ⟨z, hd, vs, rel, dd⟩ := dk_rd I.hok e
    refine wpAny_in_of (kV_is ry) hd dd.mapOf ?_
    rw [← (rel.val k).isSome_eq, ← l]
    exact h _ (I.tok _)
  · subst ey
    cases (show u = Value.ref b from ry)
    obtain ⟨z, hd, xs, rel, dd⟩ := dt_rd I.hok e
    refine wpAny_in_heap (tupleKind_room_in1 hu) (key_of I.hok eb) hd dd ?_
    have q := (rel.val k).isSome_eq
    rw [Option.isSome_map] at q
    rw [← q, ← l]
    exact h _ (I.tok _)
theorem d_notIn {Q : Value → Shared → Prop} (hu : A.units + 1 < cLine) (I : Inv X pins σ H s) (g : DGet H a y o) (ry : RelV y u) (h : ∀ s', Inv X pins σ H s' → Q (.bool (!o.isSome)) s') :
    wpAny (model X.prog X.w) A (compareOp .NotIn u (.ref a)) Q E s := by
  rcases g with ⟨kvs, k, e, ey, l⟩ | ⟨kvs, k, b, e, ey, eb, l⟩
  · subst ey
    obtain ⟨z, hd, vs, rel, dd⟩ := dk_rd I.hok e
    refine wpAny_notIn_of (kV_is ry) hd dd.mapOf ?_
    rw [← (rel.val k).isSome_eq, ← l]
    exact h _ (I.tok _)
  · subst ey
    cases (show u = Value.ref b from ry)
    obtain ⟨z, hd, xs, rel, dd⟩ := dt_rd I.hok e
    refine wpAny_notIn_heap (tupleKind_room_in1 hu) (key_of I.hok eb) hd dd ?_
    have q := (rel.val k).isSome_eq
    rw [Option.isSome_map] at q
    rw [← q, ← l]
    exact h _ (I.tok _)
theorem d_write {h' : Heap} {t' : Nat} {ob : HO} (I : Inv X pins σ H s) (mu : Mut (H a)) (hs : Heap.SameBut a s.heap h') (he : ∃ q, h'.get? a = some q) (new : ObjOk X.prog X.w (upd H a ob) h' a ob) :
    Inv X pins σ (upd H a ob) { s with heap := h', toks := t' } :=
  I.write (x := a) (e := a) mu (.inl rfl) (fun b q hb z => (hs.2 b hb).trans z) he new
theorem dk_new {P : Program} {w : World} {H' : Hp} {h' : Heap} {kvs : List (Key × V)} {vs : List (Key × Value)} (z : kvs.length ≤ sizeLine) (hd : (a == sysModules) = false) (rel : KV kvs vs) (dd : h'.DictOf (mixKind P w) a vs) :
    ObjOk P w H' h' a (.dK kvs) := ⟨z, hd, vs, rel, dd⟩
theorem d_setItem {H' : Hp} {Q : Unit → Shared → Prop} (hu : A.units + 1 < cLine) (I : Inv X pins σ H s) (g : DPut H a y v H') (ry : RelV y u) (rv : RelV v r) (h : ∀ s', Inv X pins σ H' s' → Q () s') :
    wpAny (model X.prog X.w) A (setItem (.ref a) u r) Q E s := by
  rcases g with ⟨kvs, k, e, ey, l, eH⟩ | ⟨kvs, k, b, e, ey, eb, l, eH⟩
  · subst ey eH
    obtain ⟨z, hd, vs, rel, dd⟩ := dk_of I.hok e
    have hz : vs.length ≤ sizeLine := by rw [← rel.length]; exact z
    have hl : (putK kvs k v).length ≤ sizeLine := by have := length_putK kvs k v; omega
    refine wpAny_setItem_pairs (hsz := hz) (kV_is ry) dd fun h' dd' hs => h _ ?_
    have he : ∃ q, h'.get? a = some q := let ⟨q, _, _, hq, _⟩ := dd'; ⟨q, hq⟩
    exact d_write I (by rw [e]; exact True.intro) hs he (dk_new hl hd (rel.put k rv) dd')
  · subst ey eH
    cases (show u = Value.ref b from ry)
    obtain ⟨z, hd, xs, rel, dd⟩ := dt_of I.hok e
    have hz : xs.length ≤ sizeLine := by rw [← Paired.length rel]; exact z
    have hl : (putK kvs k v).length ≤ sizeLine := by have := length_putK kvs k v; omega
    refine wpAny_setItem_heap (hsz := hz) (tupleKind_room_in1 hu) (key_of I.hok eb) dd fun h' dd' hs => h _ ?_
    obtain ⟨q, es, ep, hq, h2, h3, h4, _, h5⟩ := dd'
    refine d_write I (by rw [e]; exact True.intro) hs ⟨q, hq⟩ ⟨hl, hd, _, (rel.put k eb rv).keeps fun c ys ec => ?_, q, es, ep, hq, h2, h3, h4, h5⟩
    rw [upd_ne (ne_of ec e (fun z => nomatch z))]
    exact ec
end

section
variable {X : Cx} {pins : List (Addr × Obj)} {σ : St} {H : Hp} {s : Shared} {a : Addr} {kvs : List (Key × V)} {k : Key} {u : Value} {A : Around} {E : Value → Shared → Prop}
end


def NoSl (i : Expr) : Prop := ∀ ov iv, subscripted i false ov iv = operate [ov, iv] (getItem ov iv)
theorem subD_of {prog : Program} {w : World} {A : Around} {E : Value → Shared → Prop} {s : Shared} {env : Env} {value slice : Expr} {pos : Pos} {T id : String} {Q : Value → Shared → Prop}
    (hl : typeLookup (.type T) "__getitem__" = pure (some (.builtin id))) (hs : NoSl slice)
    (h : wpAny (model prog w) A (eval value env) (fun o s₁ => wpAny (model prog w) A (eval slice env) (fun i s₂ => s₂.TypeIs o T ∧ wpAny (model prog w) A (getItem o i) Q E s₂) E s₁) E s) :
    wpAny (model prog w) A (eval (.Subscript value slice pos) env) Q E s := by
  refine Subscript_ (wpAny_mono h (fun o s₁ h₁ => wpAny_mono h₁ (fun i s₂ h₂ => ?_) fun _ _ x => x) fun _ _ x => x)
  obtain ⟨hT, h₂⟩ := h₂
  unfold subscriptTail
  refine wpAny_bind ?_
  rw [getitemInPython_of_ne hT.not_modules]
  refine wpAny_bind (wpAny_specialOf hT hl ?_)
  have fin : wpAny (model prog w) A (subscripted slice false o i) (fun r s₃ => wpAny (model prog w) A (letTemporaryGo value o r >>= fun _ => pure r) Q E s₃) E s₂ := by
    rw [hs o i]
    exact wpAny_operating (wpAny_mono h₂ (fun r s₃ h₃ => wpAny_bind (wpAny_letTemporaryGo (wpAny_pure h₃))) fun _ _ x => x)
  first
    | exact wpAny_pure (wpAny_bind fin)
    | exact wpAny_bind (wpAny_pure (wpAny_bind fin))
    | exact wpAny_bind fin

theorem dict_typeIs {X : Cx} {pins : List (Addr × Obj)} {σ : St} {H : Hp} {s : Shared} {a : Addr} {y : V} {o : Option V} (I : Inv X pins σ H s) (g : DGet H a y o) : s.TypeIs (.ref a) "dict" := by
  rcases g with ⟨kvs, k, e, _, _⟩ | ⟨kvs, k, b, e, _, _, _⟩
  · obtain ⟨_, _, vs, _, dd⟩ := dk_rd I.hok e
    exact dd.typeIs
  · obtain ⟨_, _, xs, _, dd⟩ := dt_rd I.hok e
    exact dd.typeIs
def tDGet (td ty : TE) : TE := fun σ H Q => td σ H fun x H1 => ty σ H1 fun y H2 => ∃ a v, x = .ref a ∧ DGet H2 a y (some v) ∧ Q v H2
def tDIn (ty td : TE) : TE := fun σ H Q => ty σ H fun y H1 => td σ H1 fun x H2 => ∃ a o, x = .ref a ∧ DGet H2 a y o ∧ Q (.bl o.isSome) H2
def tDNotIn (ty td : TE) : TE := fun σ H Q => ty σ H fun y H1 => td σ H1 fun x H2 => ∃ a o, x = .ref a ∧ DGet H2 a y o ∧ Q (.bl (!o.isSome)) H2
def sDPut (td ty tv : TE) : TS := fun D σ H => tv σ H fun v H1 => td σ H1 fun x H2 => ty σ H2 fun y H3 => ∃ a H4, x = .ref a ∧ DPut H3 a y v H4 ∧ D.nx σ H4
section
variable {X : Cx} {o i e value : Expr} {pos pos' tpos : Pos} {td ty tv : TE}
theorem pe_dget (hu : X.A.units + 1 < cLine) (ho : PE X o td) (hi : PE X i ty) (hs : NoSl i) : PE X (.Subscript o i pos) (tDGet td ty) := by
  intro pins s σ H Q I h
  refine subD_of PySem.F.slot_dict_getitem.lookup hs (thn (ho pins s σ H _ I h) fun u s1 ⟨x, H1, I1, rx, q1⟩ => thn (hi pins s1 σ H1 _ I1 q1) fun iv s2 ⟨y, H2, I2, ry, a, v, ex, g, q2⟩ => ?_)
  subst ex
  obtain rfl : u = Value.ref a := rx
  exact ⟨dict_typeIs I2 g, d_getItem hu I2 g ry fun w' s3 I3 rw' => ⟨v, H2, I3, rw', q2⟩⟩
theorem pc_din (hu : X.A.units + 1 < cLine) (hi : PE X i ty) (ho : PE X o td) : PC X .In i o (tDIn ty td) := by
  intro pins s σ H Q I h
  refine thn (hi pins s σ H _ I h) fun iv s1 ⟨y, H1, I1, ry, q1⟩ => thn (ho pins s1 σ H1 _ I1 q1) fun u s2 ⟨x, H2, I2, rx, a, ov, ex, g, q2⟩ => ?_
  subst ex
  obtain rfl : u = Value.ref a := rx
  exact d_in hu I2 g ry fun s3 I3 => ⟨.bl ov.isSome, H2, I3, rfl, q2⟩
theorem pc_dnotin (hu : X.A.units + 1 < cLine) (hi : PE X i ty) (ho : PE X o td) : PC X .NotIn i o (tDNotIn ty td) := by
  intro pins s σ H Q I h
  refine thn (hi pins s σ H _ I h) fun iv s1 ⟨y, H1, I1, ry, q1⟩ => thn (ho pins s1 σ H1 _ I1 q1) fun u s2 ⟨x, H2, I2, rx, a, ov, ex, g, q2⟩ => ?_
  subst ex
  obtain rfl : u = Value.ref a := rx
  exact d_notIn hu I2 g ry fun s3 I3 => ⟨.bl (!ov.isSome), H2, I3, rfl, q2⟩
theorem ps_dput (hu : X.A.units + 1 < cLine) (ho : PE X o td) (hi : PE X i ty) (hv : PE X value tv) (hs : swapsWith value (some (.Subscript o i pos')) pos.line X.env = pure false) :
    PS X (.Assign [.Subscript o i pos'] value pos) (sDPut td ty tv) := by
  intro pins s σ H D I h
  refine wpAny_Assign_Subscript (thn (hv pins s σ H _ I h) fun r s1 ⟨v, H1, I1, rv, q1⟩ => thn (ho pins s1 σ H1 _ I1 q1) fun u s2 ⟨x, H2, I2, rx, q2⟩ => thn (hi pins s2 σ H2 _ I2 q2) fun iv s3 ⟨y, H3, I3, ry, a, H4, ex, g, q3⟩ => ?_) hs
  subst ex
  obtain rfl : u = Value.ref a := rx
  exact d_setItem hu I3 g ry rv fun s4 I4 => ⟨σ, H4, I4, q3⟩
end


theorem dk_empty {P : Program} {w : World} {H : Hp} (h : Heap) (hb : sysModules < h.objs.size) : ObjOk P w H (h.push { cls := .type "dict", data := .dict #[] }) h.objs.size (.dK []) :=
  ⟨Nat.zero_le _, beq_eq_false_iff_ne.mpr (Ne.symm (Nat.ne_of_lt hb)), [], .nil, Heap.DictOf.new h⟩
theorem dt_empty {P : Program} {w : World} {H : Hp} (h : Heap) (hb : sysModules < h.objs.size) : ObjOk P w H (h.push { cls := .type "dict", data := .dict #[] }) h.objs.size (.dT []) :=
  ⟨Nat.zero_le _, beq_eq_false_iff_ne.mpr (Ne.symm (Nat.ne_of_lt hb)), [], .nil, _, #[], 0, Heap.get?_push_size _ rfl, ⟨rfl, rfl, rfl⟩, rfl, rfl, List.nodup_nil⟩
def tDNewK : TE := fun _ H Q => ∀ p, H p = none → Q (.ref p) (upd H p (.dK []))
def tDNewT : TE := fun _ H Q => ∀ p, H p = none → Q (.ref p) (upd H p (.dT []))
section
variable {X : Cx} {pos : Pos}
theorem pe_dnewK : PE X (.Dict [] [] pos) tDNewK := fun pins s σ H Q I h =>
  wpAny_Dict_empty ⟨.ref s.heap.objs.size, _, I.laid (a := s.heap.objs.size) (o := .dK []) (t' := s.toks) (fun _ _ q => Heap.get?_push_of_some _ q) (Nat.le_refl _) (dk_empty s.heap I.big), rfl, h _ (I.hok.fresh (Nat.le_refl _))⟩
theorem pe_dnewT : PE X (.Dict [] [] pos) tDNewT := fun pins s σ H Q I h =>
  wpAny_Dict_empty ⟨.ref s.heap.objs.size, _, I.laid (a := s.heap.objs.size) (o := .dT []) (t' := s.toks) (fun _ _ q => Heap.get?_push_of_some _ q) (Nat.le_refl _) (dt_empty s.heap I.big), rfl, h _ (I.hok.fresh (Nat.le_refl _))⟩
end

structure M1 (X : Cx) (o : Expr) (m : Str) (apos : Pos) (e : Expr) (cpos : Pos) : Prop where
  base : attributeBase o m X.env (eval o X.env) = eval o X.env
  few : ((backTo cpos (starEach [e] X.env)).all (fun x => !x.1) && (backToKw cpos (keywordEach [] X.env)).all (fun x => x.1.isSome)
    && decide (([e] : List Expr).length + ([] : List Keyword).length + (if ([] : List Keyword).isEmpty then 0 else 1) < 30)) = true
  line : (apos.endLine == cpos.line) = true
  trees : backTo cpos (starEach [e] X.env) = [(false, eval e X.env)]
structure M2 (X : Cx) (o : Expr) (m : Str) (apos : Pos) (e f : Expr) (cpos : Pos) : Prop where
  base : attributeBase o m X.env (eval o X.env) = eval o X.env
  few : ((backTo cpos (starEach [e, f] X.env)).all (fun x => !x.1) && (backToKw cpos (keywordEach [] X.env)).all (fun x => x.1.isSome)
    && decide (([e, f] : List Expr).length + ([] : List Keyword).length + (if ([] : List Keyword).isEmpty then 0 else 1) < 30)) = true
  line : (apos.endLine == cpos.line) = true
  trees : backTo cpos (starEach [e, f] X.env) = [(false, eval e X.env), (false, eval f X.env)]

section
variable {X : Cx} {pins : List (Addr × Obj)} {σ : St} {H : Hp} {s : Shared} {a : Addr} {y d : V} {u r : Value} {o : Option V} {A : Around} {E : Value → Shared → Prop}
end

section
variable {X : Cx} {o e f : Expr} {apos cpos : Pos} {td ty tx : TE}
end

section
variable {X : Cx} {pins : List (Addr × Obj)} {σ : St} {H : Hp} {s : Shared} {a : Addr} {kvs : List (Key × V)} {A : Around} {E : Value → Shared → Prop}
end


section
variable {X : Cx} {pins : List (Addr × Obj)} {σ : St} {H : Hp} {s : Shared} {a : Addr} {y : V} {u : Value} {A : Around} {E : Value → Shared → Prop}
end
end L2

namespace L2
open PySem PySem.Spec PyProof.Rows

section
variable {prog : Program} {w : World} {A : Around} {E : Value → Shared → Prop}
end

section
variable {X : Cx}
end
end L2

namespace L2
open PySem PySem.Spec PyProof.Rows

section
variable {X : Cx} {pins : List (Addr × Obj)} {σ : St} {H : Hp} {s : Shared} {h' : Heap}
theorem Inv.turnedL {t' : Nat} {ch : List Addr} (I : Inv X pins σ H s) (k : ∀ b o, b ∉ ch → s.heap.get? b = some o → h'.get? b = some o) (hf : ∀ b ∈ ch, FpOk X pins H b) : Inv X pins σ H { s with heap := h', toks := t' } := by
  have nit : ∀ b u, H b = some u → b ∉ ch := fun b u e z => by
    have q := (hf b z).1
    rw [q] at e; cases e
  refine I.step (g' := s.gens) (d' := s.drawn) (ch := ch) (fun b hb => ⟨(hf b hb).2.2.2.1, (hf b hb).2.1, (hf b hb).2.2.2.2.1, (hf b hb).2.2.2.2.2⟩) (fun b o _ _ hc e _ => k b o hc e) (fun b o _ _ hc e _ => ⟨o.slots, k b o hc e⟩)
    (fun _ _ _ _ n => n) (fun b o hc e => ⟨o, k b o hc e⟩) (fun _ _ e => e) (fun _ _ _ e => e) (fun b ps e => ⟨#[], by rw [e]; simp⟩) (fun m hm => ?_) (fun b u e => ?_) I.bare
  · obtain ⟨o, es, ep, ho, r⟩ := hm
    exact ⟨o, es, ep, k _ o (fun z => (hf _ z).2.1 rfl) ho, r⟩
  · refine (I.hok b u e).stay (fun c v hc q => k c v ?_ q) (fun _ q => q) fun _ _ q => q
    rcases hc with z | z
    · rw [z]; exact nit b u e
    · exact nit c _ z
theorem Inv.turnedNew {t' : Nat} {ch : List Addr} {T : Addr} {ob : HO} (I : Inv X pins σ H s) (k : ∀ b o, b ∉ ch → s.heap.get? b = some o → h'.get? b = some o) (hf : ∀ b ∈ ch, FpOk X pins H b) (hT : s.heap.objs.size ≤ T)
    (new : ObjOk X.prog X.w (upd H T ob) h' T ob) : Inv X pins σ (upd H T ob) { s with heap := h', toks := t' } := by
  have hn : H T = none := I.hok.fresh hT
  have nit : ∀ b u, H b = some u → b ∉ ch := fun b u e z => by
    have q := (hf b z).1
    rw [q] at e; cases e
  refine I.step (g' := s.gens) (d' := s.drawn) (ch := ch) (fun b hb => ⟨(hf b hb).2.2.2.1, (hf b hb).2.1, (hf b hb).2.2.2.2.1, (hf b hb).2.2.2.2.2⟩) (fun b o _ _ hc e _ => k b o hc e) (fun b o _ _ hc e _ => ⟨o.slots, k b o hc e⟩)
    (fun b o _ e n => ?_) (fun b o hc e => ⟨o, k b o hc e⟩) (fun b xs e => ?_) (fun b o u e => ?_) (fun b ps e => ⟨#[], ?_⟩) (fun m hm => ?_) (fun b u e => ?_) I.bare
  · rw [upd_ne (Nat.ne_of_lt (Nat.lt_of_lt_of_le (Heap.lt_size e) hT))]; exact n
  · rw [upd_ne (ne_of_none e hn)]; exact e
  · rw [upd_ne (ne_of_none e hn)]; exact e
  · rw [upd_ne (ne_of_none e hn), e]; simp
  · obtain ⟨o, es, ep, ho, r⟩ := hm
    exact ⟨o, es, ep, k _ o (fun z => (hf _ z).2.1 rfl) ho, r⟩
  · by_cases hb : b = T
    · subst hb
      rw [upd_same] at e
      cases e
      exact new
    · rw [upd_ne hb] at e
      refine (I.hok b u e).stay (fun c v hc q => k c v ?_ q) (fun c q => by rw [upd_ne (ne_of_none q hn)]; exact q) fun c xs q => by rw [upd_ne (ne_of_none q hn)]; exact q
      rcases hc with z | z
      · rw [z]; exact nit b u e
      · exact nit c _ z

end
section
variable {X : Cx}
theorem pi_one {tg : Expr} {pins : List (Addr × Obj)} {σ : St} {H : Hp} {s : Shared} {R : It → Hp → Prop} {J : It} {tn : Nat → Heap → Prop} {tk : Nat} (I : Inv X pins σ H s) (o : Obj)
    (T : Turn X.prog X.w X.K tg J [s.heap.objs.size] s.heap.objs.size tn) (st : tn 0 (s.heap.push o)) (q : R J H) : PIE X pins σ tg R (.ref s.heap.objs.size) { s with heap := s.heap.push o, toks := tk } := by
  refine ⟨s.heap.objs.size, [s.heap.objs.size], tn, J, H, rfl, I.kept fun b ob e => Heap.get?_push_of_some _ e, T, st, fun b hb => ?_, q⟩
  have e : b = s.heap.objs.size := by simpa using hb
  subst e
  exact I.fpOk (Nat.le_refl _) (I.hok.fresh (Nat.le_refl _))
end

def Itc (lo c : Int) (n : Nat) : It := ⟨fun i _ => i < n, fun i H x H' => H' = H ∧ x = .int (lo + (i : Nat) * c), fun i _ => n ≤ i⟩
theorem turn_rangeC {P : Program} {w : World} {K : PySem.W.Frag} {tg : Expr} (it : Addr) (lo c : Int) (n : Nat) : Turn P w K tg (Itc lo c n) [it] it (fun i h => IsRangeIter h it (lo + (i : Nat) * c) ((n : Int) - (i : Nat)) c) where
  mem := by simp
  obj := fun i h st b hb => by
    have e : b = it := by simpa using hb
    subst e
    exact ⟨_, st, fun v z => nomatch z⟩
  keep := fun i h h' st k => k it (by simp) _ st
  item := by
    intro X hP hw hK hc i pins s σ H E I hf st hg
    subst hP hw hK
    obtain ⟨f0, f1, f2, f3, f4, f5⟩ := hf it (by simp)
    have W := Walks.range (prog := X.prog) (w := X.w) (I.ok.hd hc) it lo c n
    refine W.item i s _ _ hg st fun v h' tk hv st' kk => ?_
    obtain ⟨t, rfl⟩ := hv
    have I1 : Inv X pins σ H { s with heap := h', toks := tk } := I.turned (fun b o hb e => kk b o (by simpa using hb) e) f0 f1 f3 f4 f5
    exact ⟨_, rfl, go_of (s := { s with heap := h', toks := tk }) (n := "range_iterator") st' rfl rfl (by decide) ⟨.int (lo + (i : Nat) * c), H, I1, ⟨t, rfl⟩, ⟨rfl, rfl⟩, st', fun b hb => (hf b hb).1⟩⟩
  done := by
    intro X hP hw hK hc i pins s σ H E I hf st hg
    subst hP hw hK
    obtain ⟨f0, f1, f2, f3, f4, f5⟩ := hf it (by simp)
    exact wpAny_pyNext_range_end (I.ok.hd hc) st (by have : n ≤ i := hg; omega) fun h' eb => ⟨rfl, I.turned (t' := s.toks) (fun b o hb e => eb b o hb e) f0 f1 f3 f4 f5⟩
  self := fun A i s Q E st h => wpAny_pyIter_rangeiter st h
def RgC (i j c : Int) (n : Nat) : Prop := c ≠ 0 ∧ c.natAbs < 1073741824 ∧ Builtin.Range.small i j c = true ∧ Builtin.Range.rangeSize i j c = n
def iRng3 (ta : TA) : TI := fun σ H R => ta σ H fun vs H1 => ∃ (i j c : Int) (n : Nat), vs = [.int i, .int j, .int c] ∧ RgC i j c n ∧ R (Itc i c n) H1
section
variable {X : Cx} {tg : Expr}
theorem pi_range3 {a b c : Expr} {ta : TA} {p pos : Pos} (hg : Gl X "range") (hm : X.mg "range" = none) (ha : PA X [a, b, c] ta)
    (hs : starEach [a, b, c] X.env = (false, eval a X.env) :: starEach [b, c] X.env := by rfl) (hpl : (backTo pos (starEach [b, c] X.env)).any (·.1) = false := by rfl) :
    PI X tg (.Call (.Name "range" p) [a, b, c] [] pos) (iRng3 ta) := by
  intro pins s σ H R I h
  refine Call_ (ld_blt I hg hm boot_range (PyProof.Rows.callWith_type1 (thn (ha pos pins s σ H _ I h) fun us s1 ⟨vs, H1, I1, r1, q1⟩ => ?_) hs hpl))
  obtain ⟨i, j, k, n, e, ⟨c0, c1, c2, c3⟩, q⟩ := q1
  subst e
  cases r1 with
  | cons r rr =>
    cases rr with
    | cons r' rr =>
      cases rr with
      | cons r'' rr =>
        cases rr
        obtain ⟨t, rfl⟩ := r
        obtain ⟨t', rfl⟩ := r'
        obtain ⟨t'', rfl⟩ := r''
        refine call_range_3 c0 ?_ (.inl (PyProof.noPylong_small c1))
        refine wpAny_pyIter_range (IsRange.new ..) c2 ?_
        have I2 : Inv X pins σ H1 { s1 with heap := s1.heap.push { cls := .type "range", data := .fields #[.int i t, .int j t', .int k t''] } } := I1.kept (t' := s1.toks) fun b o e => Heap.get?_push_of_some _ e
        refine pi_one (tk := s1.toks) I2 _ (turn_rangeC _ i k n) ?_ q
        have e1 : i + ((0 : Nat) : Int) * k = i := by simp
        have e2 : (n : Int) - ((0 : Nat) : Int) = Builtin.Range.rangeSize i j k := by rw [c3]; simp
        show IsRangeIter _ _ (i + ((0 : Nat) : Int) * k) ((n : Int) - ((0 : Nat) : Int)) k
        rw [e1, e2]
        exact Heap.get?_push_size _ rfl
end
section
variable {X : Cx} {tg : Expr}
end

section
variable {prog : Program} {w : World} {A : Around} {E : Value → Shared → Prop} {s : Shared}
end

section
variable {X : Cx} {pins : List (Addr × Obj)} {σ : St} {H : Hp} {s : Shared} {d : Addr} {o : Obj}
end

section
variable {P : Program} {w : World} {K : PySem.W.Frag} {tg : Expr} {d : Addr} {o : Obj} {es : Array DictEntry} {ep : Nat}
end

section
variable {X : Cx} {tg e : Expr} {td : TE} {apos cpos : Pos}
end

def Ite (K : PySem.W.Frag) (a : Addr) : It :=
  ⟨fun i H => ∃ (xs : List V) (x : V), SqL K H a xs ∧ xs[i]? = some x, fun i H v H' => ∃ T x, v = .ref T ∧ H T = none ∧ H' = upd H T (.tup [.int (i : Nat), x]) ∧ ∀ xs, SqL K H a xs → xs[i]? = some x, fun i H => ∃ xs : List V, SqL K H a xs ∧ xs.length ≤ i⟩
theorem turn_enum {P : Program} {w : World} {K : PySem.W.Frag} {elts : List Expr} {kk : Nat} {tpos : Pos} (a e it : Addr) :
    Turn P w K (.Tuple elts kk tpos) (Ite K a) [e, it] e (fun i h => (∃ old, IsEnum h e it ((i : Nat) : Int) old) ∧ h.IsListIter it a i ∧ e ≠ it) where
  mem := by simp
  obj := fun i h st b hb => by
    obtain ⟨⟨old, he⟩, ⟨o, ho, hc, hd⟩, _⟩ := st
    have e' : b = e ∨ b = it := by simpa using hb
    rcases e' with z | z
    · rw [z]; exact ⟨_, he, fun v q => nomatch q⟩
    · rw [z]; exact ⟨o, ho, fun v q => by rw [hd] at q; cases q⟩
  keep := fun i h h' st k => let ⟨⟨old, he⟩, hi, hne⟩ := st; ⟨⟨old, k e (by simp) _ he⟩, hi.at fun o q => k it (by simp) o q, hne⟩
  item := by
    intro X hP hw hK hc i pins s σ H E I hf st hg
    subst hP hw hK
    obtain ⟨⟨old, he⟩, hit, hne⟩ := st
    obtain ⟨xs, x, hq, hx⟩ := hg
    obtain ⟨its, rv, p, hz⟩ := I.list hq
    obtain ⟨u, hu, ru⟩ := rv.get hx
    have hel : e < s.heap.objs.size := Heap.lt_size he
    have hil : it < s.heap.objs.size := by obtain ⟨_, q, _⟩ := hit; exact Heap.lt_size q
    refine wpAny_pyNext_enum_item he hit p.isList (x := u) (by simpa using hu) hne fun h' ho hit' hT hsz hk => ?_
    refine ⟨_, rfl, wpAny_letOwnedTupleGo_enum (s := { s with heap := h', toks := s.toks + 1 }) ho fun h'' he' sb => ?_⟩
    have hT2 : h''.get? s.heap.objs.size = some { cls := .type "tuple", data := .seq #[.int i s.toks, u] } := (sb.2 _ (Nat.ne_of_gt hel)).trans hT
    have new : ObjOk X.prog X.w (upd H s.heap.objs.size (.tup [.int (i : Nat), x])) h'' s.heap.objs.size (.tup [.int (i : Nat), x]) :=
      ⟨by show 2 ≤ sizeLine; decide, [.int i s.toks, u], .cons ⟨_, rfl⟩ (.cons ru .nil), ⟨_, hT2, rfl, _, rfl⟩⟩
    have I1 : Inv X pins σ (upd H s.heap.objs.size (.tup [.int (i : Nat), x])) { s with heap := h'', toks := s.toks + 1 } :=
      I.turnedNew (ch := [e, it]) (fun b ob hb q => (sb.2 b (fun z => hb (by simp [z]))).trans (hk b ob (fun z => hb (by simp [z])) (fun z => hb (by simp [z])) q)) hf (Nat.le_refl _) new
    refine ⟨.ref s.heap.objs.size, _, I1, rfl, ⟨_, x, rfl, I.hok.fresh (Nat.le_refl _), rfl, fun ys hy => by rw [I.list_inj hy hq]; exact hx⟩, ⟨⟨u, ?_⟩, hit'.at fun o q => (sb.2 it (Ne.symm hne)).trans q, hne⟩, fun b hb => ?_⟩
    · have e1 : ((i + 1 : Nat) : Int) = (i : Int) + 1 := by omega
      rw [e1]; exact he'
    · have hb' : b < s.heap.objs.size := by
        have e' : b = e ∨ b = it := by simpa using hb
        rcases e' with z | z
        · rw [z]; exact hel
        · rw [z]; exact hil
      rw [upd_ne (Nat.ne_of_lt hb')]
      exact (hf b hb).1
  done := by
    intro X hP hw hK hc i pins s σ H E I hf st hg
    subst hP hw hK
    obtain ⟨⟨old, he⟩, hit, hne⟩ := st
    obtain ⟨xs, hq, hx⟩ := hg
    obtain ⟨its, rv, p, hz⟩ := I.list hq
    obtain ⟨f0, f1, f2, f3, f4, f5⟩ := hf it (by simp)
    have hl := rv.length
    exact wpAny_pyNext_enum_end (I.ok.hd hc) he hit p.isList (by simp; omega) fun h' eb => ⟨rfl, I.turned (t' := s.toks) (fun b o hb q => eb b o hb q) f0 f1 f3 f4 f5⟩
  self := fun A i s Q E st h => let ⟨⟨_, he⟩, _⟩ := st; wpAny_pyIter_enum he h
def iEnum (K : PySem.W.Frag) (ta : TA) : TI := fun σ H R => ta σ H fun vs H1 => ∃ a xs, vs = [.ref a] ∧ SqL K H1 a xs ∧ R (Ite K a) H1
theorem pi_enum {X : Cx} {e : Expr} {ta : TA} {p pos tpos : Pos} {elts : List Expr} {kk : Nat} (hg : Gl X "enumerate") (hm : X.mg "enumerate" = none) (ha : PA X [e] ta) (hs : starEach [e] X.env = [(false, eval e X.env)] := by rfl) :
    PI X (.Tuple elts kk tpos) (.Call (.Name "enumerate" p) [e] [] pos) (iEnum X.K ta) := by
  intro pins s σ H R I h
  refine Call_ (ld_blt I hg hm boot_enumerate (PyProof.Rows.callWith_type1 (thn (ha pos pins s σ H _ I h) fun us s1 ⟨vs, H1, I1, r1, q1⟩ => ?_) hs rfl))
  obtain ⟨a, xs, ex, hq, q⟩ := q1
  subst ex
  cases r1 with
  | cons r rr =>
    cases rr
    cases r
    obtain ⟨its, rv, p', hz⟩ := I1.list hq
    refine call_enumerate_list p'.isList fun h' he hit hsz hk => wpAny_pyIter_enum he ?_
    have I2 : Inv X pins σ H1 { s1 with heap := h' } := I1.kept (t' := s1.toks) hk
    refine ⟨s1.heap.objs.size + 1, [s1.heap.objs.size + 1, s1.heap.objs.size], _, _, H1, rfl, I2, turn_enum a (s1.heap.objs.size + 1) s1.heap.objs.size, ⟨⟨.none, he⟩, hit, Nat.succ_ne_self _⟩, fun b hb => ?_, q⟩
    have e' : b = s1.heap.objs.size + 1 ∨ b = s1.heap.objs.size := by simpa using hb
    have hle : s1.heap.objs.size ≤ b := by
      rcases e' with z | z
      · rw [z]; exact Nat.le_add_right _ _
      · rw [z]; exact Nat.le_refl _
    exact I1.fpOk hle (I1.hok.fresh hle)
theorem boot_zip5 : bootBuiltins "zip" = some (.type "zip") := by decide +kernel
def Itz (K : PySem.W.Frag) (a b : Addr) : It :=
  ⟨fun i H => ∃ (xs ys : List V) (x y : V), SqL K H a xs ∧ SqL K H b ys ∧ xs[i]? = some x ∧ ys[i]? = some y,
    fun i H v H' => ∃ T x y, v = .ref T ∧ H T = none ∧ H' = upd H T (.tup [x, y]) ∧ (∀ xs, SqL K H a xs → xs[i]? = some x) ∧ ∀ ys, SqL K H b ys → ys[i]? = some y,
    fun i H => ∃ xs ys : List V, SqL K H a xs ∧ SqL K H b ys ∧ (xs.length ≤ i ∨ ys.length ≤ i)⟩
theorem turn_zip {P : Program} {w : World} {K : PySem.W.Frag} {elts : List Expr} {kk : Nat} {tpos : Pos} {a b z TI TO i1 i2 : Addr} (D : ZipApart z TI TO i1 i2 a b) :
    Turn P w K (.Tuple elts kk tpos) (Itz K a b) [z, TI, TO, i1, i2] z (fun i h => IsZip h z TI TO .none ∧ IsPair h TI (.ref i1) (.ref i2) ∧ (∃ x y, IsPair h TO x y) ∧ h.IsListIter i1 a i ∧ h.IsListIter i2 b i) where
  mem := by simp
  obj := fun i h st c hc => by
    obtain ⟨hz, hTI, ⟨x, y, hTO⟩, ⟨o1, e1, _, d1⟩, ⟨o2, e2, _, d2⟩⟩ := st
    have e' : c = z ∨ c = TI ∨ c = TO ∨ c = i1 ∨ c = i2 := by simpa using hc
    rcases e' with q | q | q | q | q
    · rw [q]; exact ⟨_, hz, fun v q => nomatch q⟩
    · rw [q]; exact ⟨_, hTI, fun v q => nomatch q⟩
    · rw [q]; exact ⟨_, hTO, fun v q => nomatch q⟩
    · rw [q]; exact ⟨o1, e1, fun v q => by rw [d1] at q; cases q⟩
    · rw [q]; exact ⟨o2, e2, fun v q => by rw [d2] at q; cases q⟩
  keep := fun i h h' st k => by
    obtain ⟨hz, hTI, ⟨x, y, hTO⟩, h1, h2⟩ := st
    exact ⟨k z (by simp) _ hz, k TI (by simp) _ hTI, ⟨x, y, k TO (by simp) _ hTO⟩, h1.at fun o q => k i1 (by simp) o q, h2.at fun o q => k i2 (by simp) o q⟩
  item := by
    intro X hP hw hK hc i pins s σ H E I hf st hg
    subst hP hw hK
    obtain ⟨hz, hTI, ⟨x0, y0, hTO⟩, h1, h2⟩ := st
    obtain ⟨xs, ys, x, y, hqx, hqy, hx, hy⟩ := hg
    obtain ⟨its, rv, p, _⟩ := I.list hqx
    obtain ⟨its2, rv2, p2, _⟩ := I.list hqy
    obtain ⟨u, hu, ru⟩ := rv.get hx
    obtain ⟨u2, hu2, ru2⟩ := rv2.get hy
    have hzl : z < s.heap.objs.size := Heap.lt_size hz
    refine wpAny_pyNext_zip_item D hz hTI hTO h1 h2 p.isList p2.isList (x := u) (y := u2) (by simpa using hu) (by simpa using hu2) fun h' z' TO' h1' h2' hT hsz hk => ?_
    refine ⟨_, rfl, wpAny_letOwnedTupleGo_zip (s := { s with heap := h' }) z' fun h'' z'' sb => ?_⟩
    have hT2 : h''.get? s.heap.objs.size = some { cls := .type "tuple", data := .seq #[u, u2] } := (sb.2 _ (Nat.ne_of_gt hzl)).trans hT
    have new : ObjOk X.prog X.w (upd H s.heap.objs.size (.tup [x, y])) h'' s.heap.objs.size (.tup [x, y]) :=
      ⟨by show 2 ≤ sizeLine; decide, [u, u2], .cons ru (.cons ru2 .nil), ⟨_, hT2, rfl, _, rfl⟩⟩
    have I1 : Inv X pins σ (upd H s.heap.objs.size (.tup [x, y])) { s with heap := h'' } :=
      I.turnedNew (t' := s.toks) (ch := [z, TI, TO, i1, i2]) (fun c o hb q => (sb.2 c (fun q' => hb (by simp [q']))).trans (hk c o (fun q' => hb (by simp [q'])) (fun q' => hb (by simp [q'])) (fun q' => hb (by simp [q'])) (fun q' => hb (by simp [q'])) q)) hf (Nat.le_refl _) new
    refine ⟨.ref s.heap.objs.size, _, I1, rfl, ⟨_, x, y, rfl, I.hok.fresh (Nat.le_refl _), rfl, fun l hl => by rw [I.list_inj hl hqx]; exact hx, fun l hl => by rw [I.list_inj hl hqy]; exact hy⟩, ⟨z'', ?_, ⟨u, u2, ?_⟩, ?_, ?_⟩, fun c hcm => ?_⟩
    · exact (sb.2 _ D.TIz).trans (hk _ _ D.TIz D.TITO D.TIi1 D.TIi2 hTI)
    · exact (sb.2 _ D.TOz).trans TO'
    · exact h1'.at fun o q => (sb.2 _ D.i1z).trans q
    · exact h2'.at fun o q => (sb.2 _ D.i2z).trans q
    · have hlt : c < s.heap.objs.size := by
        have e' : c = z ∨ c = TI ∨ c = TO ∨ c = i1 ∨ c = i2 := by simpa using hcm
        rcases e' with q | q | q | q | q
        · rw [q]; exact hzl
        · rw [q]; exact Heap.lt_size hTI
        · rw [q]; exact Heap.lt_size hTO
        · rw [q]; obtain ⟨_, e1, _⟩ := h1; exact Heap.lt_size e1
        · rw [q]; obtain ⟨_, e2, _⟩ := h2; exact Heap.lt_size e2
      rw [upd_ne (Nat.ne_of_lt hlt)]
      exact (hf c hcm).1
  done := by
    intro X hP hw hK hc i pins s σ H E I hf st hg
    subst hP hw hK
    obtain ⟨hz, hTI, ⟨x0, y0, hTO⟩, h1, h2⟩ := st
    obtain ⟨xs, ys, hqx, hqy, hend⟩ := hg
    obtain ⟨its, rv, p, _⟩ := I.list hqx
    obtain ⟨its2, rv2, p2, _⟩ := I.list hqy
    have l1 := rv.length
    have l2 := rv2.length
    have he : its.toArray[i]? = none ∨ its2.toArray[i]? = none := by
      rcases hend with q | q
      · exact .inl (by simp; omega)
      · exact .inr (by simp; omega)
    exact wpAny_pyNext_zip_end (I.ok.hd hc) D hz hTI hTO h1 h2 p.isList p2.isList he fun h' hk => ⟨rfl, I.turnedL (t' := s.toks) (ch := [z, TI, TO, i1, i2]) (fun c o hb q =>
      hk c o (fun q' => hb (by simp [q'])) (fun q' => hb (by simp [q'])) (fun q' => hb (by simp [q'])) (fun q' => hb (by simp [q'])) q) hf⟩
  self := fun A i s Q E st h => wpAny_pyIter_zip st.1 h
def iZip (K : PySem.W.Frag) (ta : TA) : TI := fun σ H R => ta σ H fun vs H1 => ∃ a b xs ys, vs = [.ref a, .ref b] ∧ SqL K H1 a xs ∧ SqL K H1 b ys ∧ R (Itz K a b) H1
theorem pi_zip {X : Cx} {e e2 : Expr} {ta : TA} {p pos tpos : Pos} {elts : List Expr} {kk : Nat} (hg : Gl X "zip") (hm : X.mg "zip" = none) (ha : PA X [e, e2] ta)
    (hs : starEach [e, e2] X.env = (false, eval e X.env) :: starEach [e2] X.env := by rfl) (hpl : (backTo pos (starEach [e2] X.env)).any (·.1) = false := by rfl) :
    PI X (.Tuple elts kk tpos) (.Call (.Name "zip" p) [e, e2] [] pos) (iZip X.K ta) := by
  intro pins s σ H R I h
  refine Call_ (ld_blt I hg hm boot_zip5 (PyProof.Rows.callWith_type1 (thn (ha pos pins s σ H _ I h) fun us s1 ⟨vs, H1, I1, r1, q1⟩ => ?_) hs hpl))
  obtain ⟨a, b, xs, ys, ex, hqx, hqy, q⟩ := q1
  subst ex
  cases r1 with
  | cons r rr =>
    cases rr with
    | cons r' rr =>
      cases rr
      cases r
      cases r'
      obtain ⟨its, rv, p1, _⟩ := I1.list hqx
      obtain ⟨its2, rv2, p2, _⟩ := I1.list hqy
      have la : a < s1.heap.objs.size := p1.lt
      have lb : b < s1.heap.objs.size := p2.lt
      refine call_zip_2 p1.isList p2.isList fun h' hz hTI hTO h1 h2 hsz hk => wpAny_pyIter_zip hz ?_
      have I2 : Inv X pins σ H1 { s1 with heap := h' } := I1.kept (t' := s1.toks) hk
      refine ⟨s1.heap.objs.size + 4, [s1.heap.objs.size + 4, s1.heap.objs.size + 2, s1.heap.objs.size + 3, s1.heap.objs.size, s1.heap.objs.size + 1], _, _, H1, rfl, I2, turn_zip (PySem.W.ktu_apart s1.heap.objs.size a b la lb), ⟨hz, hTI, ⟨_, _, hTO⟩, h1, h2⟩, fun c hcm => ?_, q⟩
      have e' : c = s1.heap.objs.size + 4 ∨ c = s1.heap.objs.size + 2 ∨ c = s1.heap.objs.size + 3 ∨ c = s1.heap.objs.size ∨ c = s1.heap.objs.size + 1 := by simpa using hcm
      have hle : s1.heap.objs.size ≤ c := by
        rcases e' with z | z | z | z | z
        · rw [z]; exact Nat.le_add_right _ _
        · rw [z]; exact Nat.le_add_right _ _
        · rw [z]; exact Nat.le_add_right _ _
        · rw [z]; exact Nat.le_refl _
        · rw [z]; exact Nat.le_add_right _ _
      exact I1.fpOk hle (I1.hok.fresh hle)
end L2

section 
namespace Bits
open PySem PyProof.Rows

end Bits
end 

section 
namespace TL
open PySem PySem.Builtin PySem.Builtin.Str PySem.StrLaws

abbrev tl (x : Str) : List Nat := x.cps.toList
theorem len_tl (x : Str) : x.length = (tl x).length := by simp [tl, Str.length]
def pre (S l : List Nat) : Bool := l.take S.length == S
def par (S : List Nat) : List Nat → List Nat → Option (List Nat × List Nat)
  | _, [] => none
  | acc, c :: r => if pre S (c :: r) = true then some (acc, (c :: r).drop S.length) else par S (acc ++ [c]) r

def numL (n : Nat) : List Nat := (Nat.toDigits 10 n).map Char.toNat
theorem tl_num (n : Nat) : tl (Str.ofString (toString ((n : Nat) : Int))) = numL n := PySem.W.KIN.signs_num n
theorem numL_len {n k : Nat} (hk : 0 < k) (h : n < 10 ^ k) : (numL n).length ≤ k := by
  have z := PyProof.Rows.toString_length_le (v := (n : Int)) (by omega) hk (by
    have e : ((10 : Int) ^ k) = ((10 ^ k : Nat) : Int) := by
      first
        | exact (Int.natCast_pow 10 k).symm
        | simp
    rw [e]
    first | exact Int.ofNat_lt.mpr h | omega)
  rw [len_tl, tl_num] at z
  exact z
end TL
end 

namespace L2
open PySem PySem.Spec PyProof.Rows

section
variable {X : Cx} {pins : List (Addr × Obj)} {σ : St} {H : Hp} {s : Shared} {Q : VK}
end

section
variable {X : Cx}

end

section
variable {X : Cx} {o e : Expr} {to te : TE}
end
end L2

namespace L2
open PySem PySem.Spec PyProof.Rows

section
variable {X : Cx}
end

end L2

namespace Att
open PySem PySem.W PySem.Calls PyProof.Rows

section
variable {prog : Program} {w : World} {A : Around} {E : Value → Shared → Prop} {s : Shared} {K : Frag}

end
end Att

namespace L2
open PySem PySem.Spec PyProof.Rows

end L2

namespace L2
open PySem PySem.Spec PyProof.Rows

end L2


namespace L2
open PySem PySem.Spec PyProof.Rows

def inClass (s : Stmt) (j : Nat) : Stmt := match s with
  | .ClassDef _ _ _ body _ _ _ _ _ _ _ => body.getD j (.Pass ⟨0, 0, 0, 0⟩)
  | _ => .Pass ⟨0, 0, 0, 0⟩
def defArgs (s : Stmt) : Arguments := match s with
  | .FunctionDef _ a _ _ _ _ _ _ _ _ => a
  | _ => { posonlyargs := [], args := [], vararg := none, kwonlyargs := [], kw_defaults := [], kwarg := none, defaults := [] }
def defBody (s : Stmt) : List Stmt := match s with
  | .FunctionDef _ _ b _ _ _ _ _ _ _ => b
  | _ => []
def defScope (s : Stmt) : Scope := match s with
  | .FunctionDef _ _ _ _ _ _ sc _ _ _ => sc
  | _ => { kind := .function, names := [], isGenerator := false, isCoroutine := false }

abbrev CX0 : CXT := fun _ _ _ _ _ _ => False
abbrev E0 : XK := fun _ _ _ => False
theorem pass0 {X : Cx} : Passes CX0 X E0 := fun _ _ _ _ _ _ _ h => h.elim

structure Fun (K : PySem.W.Frag) (x qual : Str) (st : Stmt) (f : Addr) (fd : FuncData) : Prop where
  ex : ∃ (oc : Value) (od : Option Addr) (kV doc pm : Value) (an : Option Addr) (cdv ct : Value) (osl : Array (Option Value)),
    fd = PySem.W.fnOf x qual (defArgs st) (defBody st) (defScope st) .none kV doc pm an cdv ct ∧ K.lookup f = some ⟨oc, od, .func fd, osl⟩ ∧ PySem.W.codeIn K cdv qual = true
  kp : PySem.W.keepIn K (.ref f) = true
section
variable {P : Program} {w : World} {K : PySem.W.Frag} {mg : Str → Option Value} {base : Heap}
theorem Fun.ok {x qual : Str} {st : Stmt} {f : Addr} {fd : FuncData} {N ps : List Str} {k : Nat} {sp : Sp} (F : Fun K x qual st f fd) (S : FnScope N ps (defScope st)) (len : ∀ vs H Q E, sp vs H Q E → vs.length = ps.length)
    (hbody : ∀ (cdv : Value) (A : Around) (outer : List Env) (s : Shared) (H : Hp) (vs : List V) (Q : VK) (E : XK), Room k (A.deeper (envOfC qual (defScope st) s.heap.objs.size f cdv)) → sp vs H Q E →
      ∃ t, PSs (cxOf CX0 P w K mg base N qual (defScope st) f cdv A outer s H E).nox (defBody st) t ∧ t { nx := fun _ H' => Q .non H', rt := Q } (start N vs) H) : FnOk P w K mg base CX0 (k + 1) f fd ps sp := by
  obtain ⟨oc, od, kV, doc, pm, an, cdv, ct, osl, rfl, lk, hcd⟩ := F.ex
  refine fn_of lk hcd S len fun A outer s H vs Q E hr hsp => ?_
  obtain ⟨t, h, q⟩ := hbody cdv A outer s H vs Q E hr hsp
  exact ⟨t, h.nox, q⟩
theorem Fun.binds {x qual : Str} {st : Stmt} {f : Addr} {fd : FuncData} {ps : List Str} (F : Fun K x qual st f fd)
    (h : ∀ (kV doc pm : Value) (an : Option Addr) (cdv ct : Value) (us : List Value), us.length = ps.length → bindArgs (PySem.W.fnOf x qual (defArgs st) (defBody st) (defScope st) .none kV doc pm an cdv ct) ⟨us, []⟩ = pure (ps.zip us)) : Binds K fd ps [] := by
  obtain ⟨oc, od, kV, doc, pm, an, cdv, ct, osl, rfl, lk, hcd⟩ := F.ex
  exact .all (h kV doc pm an cdv ct)
theorem fun_mk {x qual : Str} {st : Stmt} {f : Addr} {oc : Value} {od an : Option Addr} {osl : Array (Option Value)} {kV doc pm cdv ct : Value} (l : K.lookup f = some ⟨oc, od, .func (PySem.W.fnOf x qual (defArgs st) (defBody st) (defScope st) .none kV doc pm an cdv ct), osl⟩)
    (c : PySem.W.codeIn K cdv qual = true) (k : PySem.W.keepIn K (.ref f) = true) : Fun K x qual st f (PySem.W.fnOf x qual (defArgs st) (defBody st) (defScope st) .none kV doc pm an cdv ct) := ⟨⟨oc, od, kV, doc, pm, an, cdv, ct, osl, rfl, l, c⟩, k⟩
end
theorem hu_of {A : Around} {k : Nat} (hr : Room k A) : A.units + 1 < cLine := Nat.lt_of_le_of_lt (Nat.add_le_add_left (by decide : 1 ≤ 64) _) hr.units
theorem small1000 {n : Nat} (h : n ≤ 1000) : n < sizeLine := Nat.lt_of_le_of_lt h (by decide)

section
variable {X : Cx}
theorem pv (i : Nat) {x : Str} {pos : Pos} (hN : X.N[i]? = some x := by rfl) (hv : Vis X.env.scope x := by first | exact Or.inl rfl | exact Or.inr (Or.inl rfl) | exact Or.inr (Or.inr rfl)) (hd : (x == ("__debug__" : Str)) = false := by decide)
    (hcd : (x == ("__classdict__" : Str)) = false := by decide) : PE X (.Name x pos) (tVar i) := pe_var hN hv hd hcd
end

theorem iteF {A B : Prop} (h : B) : if false = true then A else B := by
  rw [if_neg Bool.false_ne_true]
  exact h
theorem iteT {A B : Prop} (h : A) : if true = true then A else B := by
  rw [if_pos rfl]
  exact h
def Same (H H' : Hp) : Prop := ∀ b o, H b = some o → H' b = some o
theorem Same.refl (H : Hp) : Same H H := fun _ _ h => h
theorem Same.trans {H H1 H2 : Hp} (a : Same H H1) (b : Same H1 H2) : Same H H2 := fun c o h => b c o (a c o h)
theorem Same.free {H H' : Hp} (e : Same H H') {l : Addr} (h : H' l = Option.none) : H l = Option.none := by
  cases q : H l with
  | none => rfl
  | some o =>
    rw [e l o q] at h
    cases h
section
variable {κ : Type} [DecidableEq κ]
end
theorem at_of {xs : List V} {z : Int} {j : Nat} {v : V} (e : z = (j : Int)) (h : xs[j]? = some v) : atI xs z = some v := by
  rw [e]
  exact atI_nat h
theorem Same.made {H H1 : Hp} {x dx C : Addr} (nx : H x = Option.none) (nd : H dx = Option.none) (k : ∀ b o, (upd (upd H dx (.own x)) x (.ins C dx [])) b = some o → b ≠ x → H1 b = some o) : Same H H1 := fun b o e =>
  k b o (by rw [upd_ne (ne_of_none e nx), upd_ne (ne_of_none e nd)]; exact e) (ne_of_none e nx)
end L2

namespace L2
open PySem PySem.Spec PyProof.Rows
open PySem.W (WData Codec OpenSpec Well WellAll ReadsW ReadsAllW)
mutual
inductive Dw (K : PySem.W.Frag) (H : Hp) : V → WData → Prop
  | non : Dw K H .non .none
  | bl (b : Bool) : Dw K H (.bl b) (.bool b)
  | int (i : Int) : Dw K H (.int i) (.int i)
  | str (x : Str) : Dw K H (.str x) (.str x)
  | byt (b : Array UInt8) : Dw K H (.byt b) (.bytes b.toList)
  | lst {a : Addr} {xs : List V} {ds : List WData} : SqL K H a xs → DwAll K H xs ds → Dw K H (.ref a) (.list ds)
  | tup {a : Addr} {xs : List V} {ds : List WData} : SqT K H a xs → DwAll K H xs ds → Dw K H (.ref a) (.tuple ds)
inductive DwAll (K : PySem.W.Frag) (H : Hp) : List V → List WData → Prop
  | nil : DwAll K H [] []
  | cons {v : V} {vs : List V} {d : WData} {ds : List WData} : Dw K H v d → DwAll K H vs ds → DwAll K H (v :: vs) (d :: ds)
end
theorem dw_ints {K : PySem.W.Frag} {H : Hp} : ∀ ns : List Int, DwAll K H (ns.map V.int) (ns.map WData.int)
  | [] => .nil
  | n :: r => .cons (.int n) (dw_ints r)
theorem ints_dw {K : PySem.W.Frag} {H : Hp} : ∀ (ns : List Int) (xs : List V), DwAll K H xs (ns.map WData.int) → xs = ns.map V.int
  | [], xs, h => by
    cases h
    rfl
  | n :: r, xs, h => by
    cases h with
    | cons h1 h2 =>
      cases h1
      rw [ints_dw r _ h2] <;> rfl
section
variable {P : Program} {w : World} {K : PySem.W.Frag} {H : Hp} {h : Heap} {R : PySem.W.WRecords} {cl : Str → Option Addr}
theorem sqL_at {a : Addr} {xs : List V} (hok : HOk P w H h) (KX : K.In h) (q : SqL K H a xs) : ∃ (its : List Value) (o : Obj) (n : Nat), Vals xs its ∧ h.get? a = some o ∧ o.cls = .type "list" ∧ o.data = .seq its.toArray n := by
  rcases q with q | ⟨o, its, n, e, hc, _, hd, _, hv⟩
  · obtain ⟨_, its, n, hv, e⟩ := (show ObjOk P w H h a (.lst xs) from q.ok hok)
    exact ⟨its, _, n, hv, e, rfl, rfl⟩
  · exact ⟨its.toList, o, n, hv, KX _ _ e, hc, by simp [hd]⟩
theorem sqT_at {a : Addr} {xs : List V} (hok : HOk P w H h) (KX : K.In h) (q : SqT K H a xs) : ∃ (its : List Value) (o : Obj) (n : Nat), Vals xs its ∧ h.get? a = some o ∧ o.cls = .type "tuple" ∧ o.data = .seq its.toArray n := by
  rcases q with q | ⟨o, its, n, e, hc, hd, _, hv⟩
  · obtain ⟨_, its, hv, o, e, hc, n, hd⟩ := (show ObjOk P w H h a (.tup xs) from q.ok hok)
    exact ⟨its, o, n, hv, e, hc, hd⟩
  · exact ⟨its.toList, o, n, hv, KX _ _ e, hc, by simp [hd]⟩
mutual
theorem Dw.reads (hok : HOk P w H h) (KX : K.In h) : ∀ (d : WData) (v : V) (u : Value), Dw K H v d → RelV v u → ∃ as, ReadsW R cl h u d as
  | .none, _, _, x, r => by
    cases x
    cases r
    exact ⟨_, ReadsW.none⟩
  | .bool b, _, _, x, r => by
    cases x
    cases r
    exact ⟨_, ReadsW.bool b⟩
  | .int i, _, _, x, r => by
    cases x
    obtain ⟨t, rfl⟩ := r
    exact ⟨_, ReadsW.int i t⟩
  | .str s, _, _, x, r => by
    cases x
    obtain ⟨t, rfl⟩ := r
    exact ⟨_, ReadsW.str s t⟩
  | .bytes b, _, _, x, r => by
    cases x
    obtain ⟨t, rfl⟩ := r
    exact ⟨_, ReadsW.bytes _ t⟩
  | .list ds, _, _, x, r => by
    cases x with
    | lst hs ha =>
      cases r
      obtain ⟨its, o, n, rv, ho, hc, hd⟩ := sqL_at hok KX hs
      obtain ⟨as, hr⟩ := Dw.readsAll hok KX ds _ its ha rv
      exact ⟨_, ReadsW.list ho hc hd hr⟩
  | .tuple ds, _, _, x, r => by
    cases x with
    | tup hs ha =>
      cases r
      obtain ⟨its, o, n, rv, ho, hc, hd⟩ := sqT_at hok KX hs
      obtain ⟨as, hr⟩ := Dw.readsAll hok KX ds _ its ha rv
      exact ⟨_, ReadsW.tuple ho hc hd hr⟩
  | .float _, _, _, x, _ => by cases x
  | .dict _, _, _, x, _ => by cases x
  | .bytearray _, _, _, x, _ => by cases x
  | .set _, _, _, x, _ => by cases x
  | .frozenset _, _, _, x, _ => by cases x
  | .obj _ _, _, _, x, _ => by cases x
theorem Dw.readsAll (hok : HOk P w H h) (KX : K.In h) : ∀ (ds : List WData) (vs : List V) (us : List Value), DwAll K H vs ds → Vals vs us → ∃ as, ReadsAllW R cl h us ds as
  | [], _, _, x, r => by
    cases x
    cases r
    exact ⟨_, ReadsAllW.nil⟩
  | d :: ds, _, _, x, r => by
    cases x with
    | cons h1 h2 =>
      cases r with
      | cons r1 r2 =>
        obtain ⟨as, q1⟩ := Dw.reads hok KX d _ _ h1 r1
        obtain ⟨bs, q2⟩ := Dw.readsAll hok KX ds _ _ h2 r2
        exact ⟨_, ReadsAllW.cons q1 q2⟩
end
end
mutual
def plW : WData → Bool
  | .none => true
  | .bool _ => true
  | .int _ => true
  | .str _ => true
  | .bytes _ => true
  | .list xs => plWs xs
  | .tuple xs => plWs xs
  | _ => false
def plWs : List WData → Bool
  | [] => true
  | x :: r => plW x && plWs r
end
theorem plWs_map {α : Type} {f : α → WData} (h : ∀ a, plW (f a) = true) : ∀ l : List α, plWs (l.map f) = true
  | [] => rfl
  | x :: r => by
    show (plW (f x) && plWs (r.map f)) = true
    rw [h x, plWs_map h r] <;> rfl
theorem pl_enc : ∀ (c : Codec) (a : c.denote), plW (c.enc a) = true
  | .unit, _ => rfl
  | .bool, _ => rfl
  | .int _ _, _ => rfl
  | .nat _ _, _ => rfl
  | .u8, _ => rfl
  | .bytes _ _, _ => rfl
  | .text _ _ _ _, _ => rfl
  | .list _ _ c, a => plWs_map (fun x => pl_enc c x) a
  | .pair c d, a => by
    show (plW (c.enc a.1) && (plW (d.enc a.2) && true)) = true
    rw [pl_enc c a.1, pl_enc d a.2] <;> rfl
  | .triple c d e, a => by
    show (plW (c.enc a.1) && (plW (d.enc a.2.1) && (plW (e.enc a.2.2) && true))) = true
    rw [pl_enc c a.1, pl_enc d a.2.1, pl_enc e a.2.2] <;> rfl
  | .option c, none => rfl
  | .option c, some x => pl_enc c x
theorem pl_encAll : ∀ (cs : List Codec) (a : Codec.denoteAll cs), plWs (Codec.encAll cs a) = true
  | [], _ => rfl
  | c :: cs, a => by
    show (plW (c.enc a.1) && plWs (Codec.encAll cs a.2)) = true
    rw [pl_enc c a.1, pl_encAll cs a.2] <;> rfl
theorem weight_mem : ∀ {xs : List WData} {d : WData}, d ∈ xs → d.weight ≤ WData.weightAll xs
  | [], d, h => absurd h (by simp)
  | x :: r, d, h => by
    show d.weight ≤ x.weight + 1 + WData.weightAll r
    rcases List.mem_cons.mp h with e | m
    · rw [e]
      omega
    · have z := weight_mem m
      omega
def toV : Value → V
  | .none => .non
  | .bool b => .bl b
  | .int i _ => .int i
  | .str x _ => .str x
  | .bytes b _ => .byt b
  | .ref a => .ref a
  | _ => .non
def OkU (A : List Addr) : Value → Prop
  | .none => True
  | .bool _ => True
  | .int _ _ => True
  | .str _ _ => True
  | .bytes _ _ => True
  | .ref a => a ∈ A
  | _ => False
theorem OkU.mono {A B : List Addr} (h : ∀ a ∈ A, a ∈ B) : ∀ {u : Value}, OkU A u → OkU B u := fun {u} x => by
  cases u with
  | ref a => exact h a x
  | none => trivial
  | bool b => trivial
  | int i t => trivial
  | str s t => trivial
  | bytes b t => trivial
  | _ => exact False.elim x
theorem relV_toV {A : List Addr} {u : Value} (x : OkU A u) : RelV (toV u) u := by
  cases u with
  | ref a => rfl
  | none => rfl
  | bool b => rfl
  | int i t => exact ⟨t, rfl⟩
  | str s t => exact ⟨t, rfl⟩
  | bytes b t => exact ⟨t, rfl⟩
  | _ => exact False.elim x
theorem vals_toV {A : List Addr} : ∀ {vs : List Value}, (∀ u ∈ vs, OkU A u) → Vals (vs.map toV) vs
  | [], _ => .nil
  | u :: r, h => .cons (relV_toV (h u (List.mem_cons_self ..))) (vals_toV fun x hx => h x (List.mem_cons_of_mem _ hx))
def ArgOb (h : Heap) (A : List Addr) (a : Addr) : Prop := ∃ vs : List Value, vs.length ≤ sizeLine ∧ (∀ u ∈ vs, OkU A u) ∧
  (h.get? a = some { cls := .type "list", data := .seq vs.toArray } ∨ h.get? a = some { cls := .type "tuple", data := .seq vs.toArray })
theorem ArgOb.mono {h : Heap} {A B : List Addr} {a : Addr} (k : ∀ a ∈ A, a ∈ B) (x : ArgOb h A a) : ArgOb h B a := by
  obtain ⟨vs, h1, h2, h3⟩ := x
  exact ⟨vs, h1, fun u hu => (h2 u hu).mono k, h3⟩
theorem wellAll_len {P : Params} {h : Heap} : ∀ {vs : List Value} {ds : List WData}, WellAll P h vs ds → vs.length = ds.length
  | _, _, .nil => rfl
  | _, _, .cons _ b => by
    show _ + 1 = _ + 1
    rw [wellAll_len b]
theorem well_list {P : Params} {h : Heap} {v : Value} {ds : List WData} (x : Well P h v (.list ds)) : ∃ (a : Addr) (vs : List Value), v = .ref a ∧ h.get? a = some { cls := .type "list", data := .seq vs.toArray } ∧ WellAll P h vs ds := by
  cases x with
  | list ho hall => exact ⟨_, _, rfl, ho, hall⟩
theorem well_tuple {P : Params} {h : Heap} {v : Value} {ds : List WData} (x : Well P h v (.tuple ds)) : ∃ (a : Addr) (vs : List Value), v = .ref a ∧ h.get? a = some { cls := .type "tuple", data := .seq vs.toArray } ∧ WellAll P h vs ds := by
  cases x with
  | tuple ho hall => exact ⟨_, _, rfl, ho, hall⟩
theorem well_cons {P : Params} {h : Heap} {us : List Value} {d : WData} {ds : List WData} (x : WellAll P h us (d :: ds)) : ∃ (v : Value) (vs : List Value), us = v :: vs ∧ Well P h v d ∧ WellAll P h vs ds := by
  cases x with
  | cons a b => exact ⟨_, _, rfl, a, b⟩
theorem line_of {n : Nat} (h : n ≤ 1048576) : n ≤ sizeLine := Nat.le_trans h (by decide)
section
variable {P : Params} {h : Heap}
mutual
theorem area_one : ∀ (d : WData) (v : Value), Well P h v d → plW d = true → d.weight ≤ 1048576 → ∃ A : List Addr, OkU A v ∧ ∀ a ∈ A, ArgOb h A a
  | .none, _, x, _, _ => by
    cases x
    exact ⟨[], trivial, fun a m => absurd m (by simp)⟩
  | .bool b, _, x, _, _ => by
    cases x
    exact ⟨[], trivial, fun a m => absurd m (by simp)⟩
  | .int i, _, x, _, _ => by
    cases x
    exact ⟨[], trivial, fun a m => absurd m (by simp)⟩
  | .str s, _, x, _, _ => by
    cases x
    exact ⟨[], trivial, fun a m => absurd m (by simp)⟩
  | .bytes b, _, x, _, _ => by
    cases x
    exact ⟨[], trivial, fun a m => absurd m (by simp)⟩
  | .list ds, _, x, p, z => by
    obtain ⟨a, vs, rfl, ho, hall⟩ := well_list x
    have z2 : WData.weightAll ds ≤ 1048576 := z
    obtain ⟨A, h1, h2⟩ := area_all ds _ hall p fun d hd => Nat.le_trans (weight_mem hd) z2
    have k : ∀ b ∈ A, b ∈ a :: A := fun b hb => List.mem_cons_of_mem _ hb
    refine ⟨a :: A, List.mem_cons_self .., fun b hb => ?_⟩
    rcases List.mem_cons.mp hb with e | m
    · rw [e]
      exact ⟨vs, line_of (by rw [wellAll_len hall]; exact Nat.le_trans (PySem.W.length_le_weightAllW ds) z2), fun u hu => (h1 u hu).mono k, .inl ho⟩
    · exact (h2 b m).mono k
  | .tuple ds, _, x, p, z => by
    obtain ⟨a, vs, rfl, ho, hall⟩ := well_tuple x
    have z2 : WData.weightAll ds ≤ 1048576 := z
    obtain ⟨A, h1, h2⟩ := area_all ds _ hall p fun d hd => Nat.le_trans (weight_mem hd) z2
    have k : ∀ b ∈ A, b ∈ a :: A := fun b hb => List.mem_cons_of_mem _ hb
    refine ⟨a :: A, List.mem_cons_self .., fun b hb => ?_⟩
    rcases List.mem_cons.mp hb with e | m
    · rw [e]
      exact ⟨vs, line_of (by rw [wellAll_len hall]; exact Nat.le_trans (PySem.W.length_le_weightAllW ds) z2), fun u hu => (h1 u hu).mono k, .inr ho⟩
    · exact (h2 b m).mono k
  | .float _, _, _, p, _ => Bool.noConfusion (show false = true from p)
  | .dict _, _, _, p, _ => Bool.noConfusion (show false = true from p)
  | .bytearray _, _, _, p, _ => Bool.noConfusion (show false = true from p)
  | .set _, _, _, p, _ => Bool.noConfusion (show false = true from p)
  | .frozenset _, _, _, p, _ => Bool.noConfusion (show false = true from p)
  | .obj _ _, _, _, p, _ => Bool.noConfusion (show false = true from p)
theorem area_all : ∀ (ds : List WData) (vs : List Value), WellAll P h vs ds → plWs ds = true → (∀ d ∈ ds, d.weight ≤ 1048576) → ∃ A : List Addr, (∀ u ∈ vs, OkU A u) ∧ ∀ a ∈ A, ArgOb h A a
  | [], _, x, _, _ => by
    cases x
    exact ⟨[], fun u m => absurd m (by simp), fun a m => absurd m (by simp)⟩
  | d :: ds, _, x, p, z => by
    obtain ⟨v, vs, rfl, x1, x2⟩ := well_cons x
    have q : plW d = true ∧ plWs ds = true := Bool.and_eq_true_iff.mp p
    obtain ⟨A, a1, a2⟩ := area_one d v x1 q.1 (z d (List.mem_cons_self ..))
    obtain ⟨B, b1, b2⟩ := area_all ds vs x2 q.2 fun e he => z e (List.mem_cons_of_mem _ he)
    have kA : ∀ b ∈ A, b ∈ A ++ B := fun b hb => List.mem_append.mpr (.inl hb)
    have kB : ∀ b ∈ B, b ∈ A ++ B := fun b hb => List.mem_append.mpr (.inr hb)
    refine ⟨A ++ B, fun u hu => ?_, fun b hb => ?_⟩
    · rcases List.mem_cons.mp hu with e | m
      · rw [e]
        exact a1.mono kA
      · exact (b1 u m).mono kB
    · rcases List.mem_append.mp hb with m | m
      · exact (a2 b m).mono kA
      · exact (b2 b m).mono kB
end
end
def hoOf (o : Obj) : Option HO := match o.data with
  | .seq vs _ => if (o.cls == Value.type "list") = true then some (.frz o (.lst (vs.toList.map toV))) else some (.frz o (.tup (vs.toList.map toV)))
  | _ => none
def argH (K : PySem.W.Frag) (h : Heap) (A : List Addr) : Hp := fun b => if b ∈ A then (if (K.lookup b).isNone = true then (h.get? b).bind hoOf else none) else none
def OnlyF (H : Hp) : Prop := ∀ b, H b = none ∨ ∃ o u, H b = some (.frz o u)
theorem hoOf_lst (vs : List Value) : hoOf { cls := .type "list", data := .seq vs.toArray } = some (.frz { cls := .type "list", data := .seq vs.toArray } (.lst (vs.map toV))) := by
  show (if (Value.type "list" == Value.type "list") = true then some (HO.frz { cls := .type "list", data := .seq vs.toArray } (.lst (vs.toArray.toList.map toV))) else some (HO.frz { cls := .type "list", data := .seq vs.toArray } (.tup (vs.toArray.toList.map toV)))) = _
  rw [if_pos (beq_self_eq_true _)]
theorem hoOf_tup (vs : List Value) : hoOf { cls := .type "tuple", data := .seq vs.toArray } = some (.frz { cls := .type "tuple", data := .seq vs.toArray } (.tup (vs.map toV))) := by
  show (if (Value.type "tuple" == Value.type "list") = true then some (HO.frz { cls := .type "tuple", data := .seq vs.toArray } (.lst (vs.toArray.toList.map toV))) else some (HO.frz { cls := .type "tuple", data := .seq vs.toArray } (.tup (vs.toArray.toList.map toV)))) = _
  rw [if_neg (by decide)]
section
variable {P : Program} {w : World} {K : PySem.W.Frag} {h : Heap} {A : List Addr}
theorem argH_at {b : Addr} {o : Obj} (hb : b ∈ A) (hk : K.lookup b = none) (e : h.get? b = some o) : argH K h A b = hoOf o := by
  unfold argH
  rw [if_pos hb, hk, if_pos (show (none : Option Obj).isNone = true from rfl), e] <;> rfl
theorem of_argH {b : Addr} {u : HO} (q : argH K h A b = some u) : b ∈ A ∧ K.lookup b = none := by
  unfold argH at q
  by_cases hb : b ∈ A
  · rw [if_pos hb] at q
    cases hk : K.lookup b with
    | none => exact ⟨hb, rfl⟩
    | some o =>
      rw [hk, if_neg (by simp)] at q
      cases q
  · rw [if_neg hb] at q
    cases q
theorem argH_is (ar : ∀ a ∈ A, ArgOb h A a) {b : Addr} {u : HO} (q : argH K h A b = some u) : K.lookup b = none ∧ ∃ vs : List Value, vs.length ≤ sizeLine ∧ (∀ u ∈ vs, OkU A u) ∧
    ((h.get? b = some { cls := .type "list", data := .seq vs.toArray } ∧ u = .frz { cls := .type "list", data := .seq vs.toArray } (.lst (vs.map toV))) ∨
     (h.get? b = some { cls := .type "tuple", data := .seq vs.toArray } ∧ u = .frz { cls := .type "tuple", data := .seq vs.toArray } (.tup (vs.map toV)))) := by
  obtain ⟨hb, hk⟩ := of_argH q
  obtain ⟨vs, h1, h2, h3⟩ := ar b hb
  refine ⟨hk, vs, h1, h2, ?_⟩
  rcases h3 with e | e
  · rw [argH_at hb hk e, hoOf_lst] at q
    exact .inl ⟨e, (Option.some.inj q).symm⟩
  · rw [argH_at hb hk e, hoOf_tup] at q
    exact .inr ⟨e, (Option.some.inj q).symm⟩
theorem argH_only (ar : ∀ a ∈ A, ArgOb h A a) : OnlyF (argH K h A) := fun b => by
  cases q : argH K h A b with
  | none => exact .inl rfl
  | some u =>
    obtain ⟨_, vs, _, _, ⟨_, e⟩ | ⟨_, e⟩⟩ := argH_is ar q
    · exact .inr ⟨_, _, by rw [e]⟩
    · exact .inr ⟨_, _, by rw [e]⟩
theorem argH_ok (ar : ∀ a ∈ A, ArgOb h A a) : HOk P w (argH K h A) h := fun b u q => by
  obtain ⟨_, vs, h1, h2, ⟨e, rfl⟩ | ⟨e, rfl⟩⟩ := argH_is ar q
  · exact ⟨e, by rw [List.length_map]; exact h1, vs, _, vals_toV h2, e⟩
  · exact ⟨e, by rw [List.length_map]; exact h1, vs, vals_toV h2, _, e, rfl, _, rfl⟩
theorem seq_inj {c c' : Value} {vs us : List Value} (e : (some { cls := c, data := .seq vs.toArray } : Option Obj) = some { cls := c', data := .seq us.toArray }) : c = c' ∧ vs = us := by
  have e1 := Option.some.inj e
  have e2 : c = c' := congrArg Obj.cls e1
  have e3 : Data.seq vs.toArray = Data.seq us.toArray := congrArg Obj.data e1
  injection e3 with e4
  refine ⟨e2, ?_⟩
  have e5 := congrArg Array.toList e4
  simpa using e5
theorem argL (KX : K.In h) (ar : ∀ a ∈ A, ArgOb h A a) {a : Addr} {vs : List Value} (ha : a ∈ A) (e : h.get? a = some { cls := .type "list", data := .seq vs.toArray }) : (∀ u ∈ vs, OkU A u) ∧ SqL K (argH K h A) a (vs.map toV) := by
  obtain ⟨us, h1, h2, h3⟩ := ar a ha
  have hu : us = vs := by
    rcases h3 with q | q
    · rw [e] at q
      exact (seq_inj q).2.symm
    · rw [e] at q
      exact absurd (Value.type.inj (seq_inj q).1) (by decide)
  subst hu
  refine ⟨h2, ?_⟩
  cases hk : K.lookup a with
  | none => exact .inl (.inr ⟨_, by rw [argH_at ha hk e, hoOf_lst]⟩)
  | some o =>
    have e2 := KX a o hk
    rw [e] at e2
    obtain rfl := Option.some.inj e2
    exact .inr ⟨_, us.toArray, _, hk, rfl, rfl, rfl, by rw [List.size_toArray]; exact h1, by simpa using vals_toV h2⟩
theorem argT (KX : K.In h) (ar : ∀ a ∈ A, ArgOb h A a) {a : Addr} {vs : List Value} (ha : a ∈ A) (e : h.get? a = some { cls := .type "tuple", data := .seq vs.toArray }) : (∀ u ∈ vs, OkU A u) ∧ SqT K (argH K h A) a (vs.map toV) := by
  obtain ⟨us, h1, h2, h3⟩ := ar a ha
  have hu : us = vs := by
    rcases h3 with q | q
    · rw [e] at q
      exact absurd (Value.type.inj (seq_inj q).1) (by decide)
    · rw [e] at q
      exact (seq_inj q).2.symm
  subst hu
  refine ⟨h2, ?_⟩
  cases hk : K.lookup a with
  | none => exact .inl (.inr ⟨_, by rw [argH_at ha hk e, hoOf_tup]⟩)
  | some o =>
    have e2 := KX a o hk
    rw [e] at e2
    obtain rfl := Option.some.inj e2
    exact .inr ⟨_, us.toArray, _, hk, rfl, rfl, by rw [List.size_toArray]; exact h1, by simpa using vals_toV h2⟩
mutual
theorem dw_one {Pm : Params} (KX : K.In h) (ar : ∀ a ∈ A, ArgOb h A a) : ∀ (d : WData) (v : Value), Well Pm h v d → plW d = true → OkU A v → Dw K (argH K h A) (toV v) d
  | .none, _, x, _, _ => by
    cases x
    exact .non
  | .bool b, _, x, _, _ => by
    cases x
    exact .bl b
  | .int i, _, x, _, _ => by
    cases x
    exact .int i
  | .str s, _, x, _, _ => by
    cases x
    exact .str s
  | .bytes b, _, x, _, _ => by
    cases x
    have z := Dw.byt (K := K) (H := argH K h A) b.toArray
    exact z
  | .list ds, _, x, p, hu => by
    obtain ⟨a, vs, rfl, ho, hall⟩ := well_list x
    obtain ⟨h2, hs⟩ := argL KX ar hu ho
    exact .lst hs (dw_all KX ar ds _ hall p h2)
  | .tuple ds, _, x, p, hu => by
    obtain ⟨a, vs, rfl, ho, hall⟩ := well_tuple x
    obtain ⟨h2, hs⟩ := argT KX ar hu ho
    exact .tup hs (dw_all KX ar ds _ hall p h2)
  | .float _, _, _, p, _ => Bool.noConfusion (show false = true from p)
  | .dict _, _, _, p, _ => Bool.noConfusion (show false = true from p)
  | .bytearray _, _, _, p, _ => Bool.noConfusion (show false = true from p)
  | .set _, _, _, p, _ => Bool.noConfusion (show false = true from p)
  | .frozenset _, _, _, p, _ => Bool.noConfusion (show false = true from p)
  | .obj _ _, _, _, p, _ => Bool.noConfusion (show false = true from p)
theorem dw_all {Pm : Params} (KX : K.In h) (ar : ∀ a ∈ A, ArgOb h A a) : ∀ (ds : List WData) (vs : List Value), WellAll Pm h vs ds → plWs ds = true → (∀ u ∈ vs, OkU A u) → DwAll K (argH K h A) (vs.map toV) ds
  | [], _, x, _, _ => by
    cases x
    exact .nil
  | d :: ds, _, x, p, hu => by
    obtain ⟨v, vs, rfl, x1, x2⟩ := well_cons x
    have q : plW d = true ∧ plWs ds = true := Bool.and_eq_true_iff.mp p
    exact .cons (dw_one KX ar d v x1 q.1 (hu _ (List.mem_cons_self ..))) (dw_all KX ar ds vs x2 q.2 fun u m => hu u (List.mem_cons_of_mem _ m))
end
end
theorem layable_weight {ds : List WData} (h : WData.layableAll ds = true) : ∀ d ∈ ds, d.weight ≤ 1048576 := fun d hd =>
  (PySem.W.layableW_iff.mp (List.all_eq_true.mp h d hd)).2.2
theorem encAll_len : ∀ (cs : List Codec) (a : Codec.denoteAll cs), (Codec.encAll cs a).length = cs.length
  | [], _ => rfl
  | c :: cs, a => by
    show (Codec.encAll cs a.2).length + 1 = cs.length + 1
    rw [encAll_len cs a.2]
end L2


set_option Elab.async false
set_option linter.all false
set_option maxRecDepth 100000
namespace Tr
open PySem PySem.Spec PyProof.Rows L2
section
variable {X : Cx}
def GInt (mg : Str → Option Value) (x : Str) (z : Int) : Prop := ∃ t, mg x = some (Value.int z t)
theorem pe_gint {x : Str} {z : Int} {pos : Pos} (h : GInt X.mg x z) (hg : Gl X x := by rfl) (hd : (x == ("__debug__" : Str)) = false := by decide) : PE X (.Name x pos) (tC (.int z)) := by
  obtain ⟨t, e⟩ := h
  exact pe_glob hg e ⟨t, rfl⟩ hd
def Fn (P : Program) (w : World) (K : PySem.W.Frag) (mg : Str → Option Value) (base : Heap) (k : Nat) (x : Str) (ps : List Str) (sp : Sp) : Prop :=
  ∃ (f : Addr) (fd : FuncData), FnOk P w K mg base CX0 k f fd ps sp ∧ mg x = some (.ref f) ∧ PySem.W.keepIn K (.ref f) = true ∧ Binds K fd ps []
def Mkr (P : Program) (w : World) (K : PySem.W.Frag) (mg : Str → Option Value) (base : Heap) (k : Nat) (x : Str) (C : Addr) (ps : List Str) (sp : Sp) : Prop :=
  ∃ (f : Addr) (fd : FuncData), Mk K C f ∧ FnOk P w K mg base CX0 k f fd ps sp ∧ mg x = some (.ref C) ∧ Binds K fd ps []
def Mth (P : Program) (w : World) (K : PySem.W.Frag) (mg : Str → Option Value) (base : Heap) (k : Nat) (C : Addr) (m : Str) (ps : List Str) (sp : Sp) : Prop :=
  ∃ (f : Addr) (fd : FuncData), Meth K C m f ∧ FnOk P w K mg base CX0 k f fd ps sp ∧ Binds K fd ps []
variable {k : Nat} {x m : Str} {C : Addr} {ps : List Str} {sp : Sp} {e o : Expr} {es : List Expr} {t : TA} {ta : TE} {p pos apos : Pos}
theorem pe_fn (F : Fn X.prog X.w X.K X.mg X.base k x ps sp) (hr : Room k X.A) (ha : PA X (e :: es) t) (hg : Gl X x := by rfl) (hdb : (x == ("__debug__" : Str)) = false := by decide)
    (he : starEach (e :: es) X.env = (false, eval e X.env) :: starEach es X.env := by rfl) (hpl : (backTo pos (starEach es X.env)).any (·.1) = false := by rfl) :
    PE X (.Call (.Name x p) (e :: es) [] pos) (tCall sp [] E0 t) := by
  obtain ⟨f, fd, F, hm, hk, hb⟩ := F
  exact pe_call F hr hg hm hk hb .nil pass0 ha hdb he hpl
theorem pe_fn0 (F : Fn X.prog X.w X.K X.mg X.base k x ps sp) (hr : Room k X.A) (hg : Gl X x := by rfl) (hdb : (x == ("__debug__" : Str)) = false := by decide) :
    PE X (.Call (.Name x p) [] [] pos) (tCall sp [] E0 tNil) := by
  obtain ⟨f, fd, F, hm, hk, hb⟩ := F
  exact pe_call0 F hr hg hm hk hb .nil pass0 hdb
theorem pe_mkr (F : Mkr X.prog X.w X.K X.mg X.base k x C ps sp) (hr : Room (k + 1) X.A) (ha : PA X (e :: es) t) (hg : Gl X x := by rfl) (hdb : (x == ("__debug__" : Str)) = false := by decide)
    (he : starEach (e :: es) X.env = (false, eval e X.env) :: starEach es X.env := by rfl) (hpl : (backTo pos (starEach es X.env)).any (·.1) = false := by rfl) :
    PE X (.Call (.Name x p) (e :: es) [] pos) (tMake C sp [] E0 t) := by
  obtain ⟨f, fd, M, F, hm, hb⟩ := F
  exact pe_make M F hr hg hm hb .nil pass0 ha hdb he hpl
theorem pe_mth {pl : Sem Bool} (he : PE X o ta) (c : Cls X.K C) (M : Mth X.prog X.w X.K X.mg X.base k C m ps sp) (hr : Room k X.A) (ha : PA X (e :: es) t)
    (hst : starEach (e :: es) X.env = (false, eval e X.env) :: starEach es X.env := by rfl) (hpl : (backTo pos (starEach es X.env)).any (·.1) = false := by rfl)
    (ht : eval (.Call (.Attribute o m apos) (e :: es) [] pos) X.env = (do
      let ov ← eval o X.env
      standAt apos.atName
      let (f, first) ← holding [ov] (getMethod ov m pl)
      callWith pos f first (backTo pos (starEach (e :: es) X.env)) (backToKw pos (keywordEach [] X.env))) := by rfl) :
    PE X (.Call (.Attribute o m apos) (e :: es) [] pos) (tMeth C m sp [] E0 ta t) := by
  obtain ⟨f, fd, M, F, hb⟩ := M
  exact pe_meth he c M F hr hb .nil pass0 ha hst hpl ht
theorem pe_mth0 {pl : Sem Bool} (he : PE X o ta) (c : Cls X.K C) (M : Mth X.prog X.w X.K X.mg X.base k C m ps sp) (hr : Room k X.A)
    (ht : eval (.Call (.Attribute o m apos) [] [] pos) X.env = (do
      let ov ← eval o X.env
      standAt apos.atName
      let (f, first) ← holding [ov] (getMethod ov m pl)
      callWith pos f first (backTo pos (starEach [] X.env)) (backToKw pos (keywordEach [] X.env))) := by rfl) :
    PE X (.Call (.Attribute o m apos) [] [] pos) (tMeth C m sp [] E0 ta tNil) := by
  obtain ⟨f, fd, M, F, hb⟩ := M
  exact pe_meth0 he c M F hr hb .nil pass0 ht
theorem call_setL (hc : X.calm = true) : CallR X (.type "set") (fun xs H Q => ∃ (a : Addr) (ns : List Int), xs = [.ref a] ∧ SqL X.K H a (ns.map V.int) ∧ ns.length + 1 < 4096 ∧
    ∀ p, H p = none → Q (.ref p) (upd H p (.set (fun k' => (firstMet (fun i => ns.getD i 0) ns.length).any (· == k')) (firstMet (fun i => ns.getD i 0) ns.length).length))) := by
  intro pins s σ H xs us Q I r h
  obtain ⟨a, ns, rfl, hS, hl, q⟩ := h
  obtain ⟨u, rfl, ru⟩ := vals1 r
  cases ru
  obtain ⟨its, rv, pl, hz⟩ := I.list hS
  have hlen : its.length = ns.length := by rw [← rv.length, List.length_map]
  refine call_set_list (I.ok.hd hc) pl.isList (by simpa using intsAre_of rv) (by rw [List.size_toArray, hlen]; exact hl) fun h' tk hS' kp => ?_
  rw [show its.toArray.size = ns.length by rw [List.size_toArray, hlen]] at hS'
  refine ⟨.ref s.heap.objs.size, _, I.laid (t' := tk) (fun b ob e => kp b ob (Heap.lt_size e) e) (Nat.le_refl _) (show ObjOk X.prog X.w _ h' s.heap.objs.size (.set _ _) from hS'), rfl, q _ (I.hok.fresh (Nat.le_refl _))⟩
theorem call_lenS : CallR X (.builtin "len") (fun xs H Q => ∃ (a : Addr) (S : Int → Bool) (n : Nat), xs = [.ref a] ∧ H a = some (.set S n) ∧ Q (.int n) H) := by
  intro pins s σ H xs us Q I r h
  obtain ⟨a, S, n, rfl, ha, q⟩ := h
  obtain ⟨u, rfl, ru⟩ := vals1 r
  cases ru
  obtain ⟨o, es, ep, tb, ho, hex, hd, _, _, hlt, hf, hn⟩ := (show ObjOk X.prog X.w H s.heap a (.set S n) from I.hok a _ ha)
  refine call_len_set ho hex hd hf (by have : scanBound = 4096 := rfl; omega) ⟨.int n, H, I.tok _, ⟨_, by rw [hn]⟩, q⟩
end
theorem for_enum {K : PySem.W.Frag} {a : Addr} {xs : List V} {g : TG} {tb : TS} {D : Ends} {σ : L2.St} {H : Hp} (Pv : Nat → L2.St → Hp → Prop) (h0 : Pv 0 σ H) (hl : ∀ i σ H, i ≤ xs.length → Pv i σ H → SqL K H a xs)
    (hs : ∀ i x σ H T, xs[i]? = some x → Pv i σ H → H T = none → g (.ref T) σ (upd H T (.tup [.int (i : Nat), x])) fun σ2 H2 => tb { D with nx := Pv (i + 1), ct := Pv (i + 1), bk := D.nx } σ2 H2) (hd : ∀ σ H, Pv xs.length σ H → D.nx σ H) :
    ∃ W : Nat → Nat → L2.St → Hp → Prop, (∃ m, W 0 m σ H) ∧ ∀ i m σ H, W i m σ H →
      ((Ite K a).stop i H ∧ D.nx σ H) ∨ ((Ite K a).go i H ∧ ∃ N : L2.St → Hp → Prop, (∀ σ' H', N σ' H' → ∃ m', m' < m ∧ W (i + 1) m' σ' H') ∧ ∀ x H', (Ite K a).yld i H x H' → g x σ H' fun σ2 H2 => tb { D with nx := N, ct := N, bk := D.nx } σ2 H2) := by
  refine ⟨fun i m σ H => m = xs.length - i ∧ i ≤ xs.length ∧ Pv i σ H, ⟨xs.length, by simp, Nat.zero_le _, h0⟩, ?_⟩
  rintro i m σ H ⟨rfl, hi, p⟩
  have q := hl i σ H hi p
  by_cases hlt : i < xs.length
  · refine .inr ⟨⟨xs, xs[i], q, by simp [hlt]⟩, Pv (i + 1), fun σ' H' p' => ⟨xs.length - (i + 1), by omega, rfl, hlt, p'⟩, fun x H' y => ?_⟩
    obtain ⟨T, z, rfl, hT, rfl, hz⟩ := y
    exact hs i z σ H T (hz xs q) p hT
  · have e : i = xs.length := by omega
    subst e
    exact .inl ⟨⟨xs, q, Nat.le_refl _⟩, hd σ H p⟩
theorem for_zip {K : PySem.W.Frag} {a b : Addr} {xs ys : List V} {g : TG} {tb : TS} {D : Ends} {σ : L2.St} {H : Hp} (Pv : Nat → L2.St → Hp → Prop) (hlen : xs.length ≤ ys.length) (h0 : Pv 0 σ H) (hl : ∀ i σ H, i ≤ xs.length → Pv i σ H → SqL K H a xs ∧ SqL K H b ys)
    (hs : ∀ i x y σ H T, xs[i]? = some x → ys[i]? = some y → Pv i σ H → H T = none → g (.ref T) σ (upd H T (.tup [x, y])) fun σ2 H2 => tb { D with nx := Pv (i + 1), ct := Pv (i + 1), bk := D.nx } σ2 H2) (hd : ∀ σ H, Pv xs.length σ H → D.nx σ H) :
    ∃ W : Nat → Nat → L2.St → Hp → Prop, (∃ m, W 0 m σ H) ∧ ∀ i m σ H, W i m σ H →
      ((Itz K a b).stop i H ∧ D.nx σ H) ∨ ((Itz K a b).go i H ∧ ∃ N : L2.St → Hp → Prop, (∀ σ' H', N σ' H' → ∃ m', m' < m ∧ W (i + 1) m' σ' H') ∧ ∀ x H', (Itz K a b).yld i H x H' → g x σ H' fun σ2 H2 => tb { D with nx := N, ct := N, bk := D.nx } σ2 H2) := by
  refine ⟨fun i m σ H => m = xs.length - i ∧ i ≤ xs.length ∧ Pv i σ H, ⟨xs.length, by simp, Nat.zero_le _, h0⟩, ?_⟩
  rintro i m σ H ⟨rfl, hi, p⟩
  obtain ⟨q1, q2⟩ := hl i σ H hi p
  by_cases hlt : i < xs.length
  · have hlt2 : i < ys.length := by omega
    refine .inr ⟨⟨xs, ys, xs[i], ys[i], q1, q2, by simp [hlt], by simp [hlt2]⟩, Pv (i + 1), fun σ' H' p' => ⟨xs.length - (i + 1), by omega, rfl, hlt, p'⟩, fun x H' y => ?_⟩
    obtain ⟨T, z, z2, rfl, hT, rfl, hz, hz2⟩ := y
    exact hs i z z2 σ H T (hz xs q1) (hz2 ys q2) p hT
  · have e : i = xs.length := by omega
    subst e
    exact .inl ⟨⟨xs, ys, q1, q2, .inl (Nat.le_refl _)⟩, hd σ H p⟩
theorem lc_rangeC {lo c : Int} {n : Nat} {g : TG} {tt : TT} {te : TE} {vs : List Nat} {σ : L2.St} {H1 : Hp} {D : Addr} {Qd : Hp → Prop} (Pv : Nat → Hp → Prop) (h0 : Pv 0 (upd H1 D (.lst [])))
    (hs : ∀ i H, i < n → Pv i H → g (.int (lo + (i : Nat) * c)) (wipe σ vs) H fun σ2 H2 => wipe σ2 vs = wipe σ vs ∧ tt σ2 H2 fun b H3 =>
      if b = true then te σ2 H3 fun y H4 => ∃ acc, H4 D = some (.lst acc) ∧ acc.length < sizeLine ∧ Pv (i + 1) (upd H4 D (.lst (acc ++ [y]))) else Pv (i + 1) H3) (hd : ∀ H, Pv n H → Qd H) :
    ∃ W : Nat → Nat → Hp → Prop, (∃ m, W 0 m (upd H1 D (.lst []))) ∧ ∀ i m H, W i m H →
      ((Itc lo c n).stop i H ∧ Qd H) ∨ ((Itc lo c n).go i H ∧ ∃ Nx : Hp → Prop, (∀ H', Nx H' → ∃ m', m' < m ∧ W (i + 1) m' H') ∧ ∀ x H', (Itc lo c n).yld i H x H' → g x (wipe σ vs) H' fun σ2 H2 => wipe σ2 vs = wipe σ vs ∧ tt σ2 H2 fun b H3 =>
        if b = true then te σ2 H3 fun y H4 => ∃ acc, H4 D = some (.lst acc) ∧ acc.length < sizeLine ∧ Nx (upd H4 D (.lst (acc ++ [y]))) else Nx H3) := by
  refine ⟨fun i m H => m = n - i ∧ i ≤ n ∧ Pv i H, ⟨n, by simp, Nat.zero_le _, h0⟩, ?_⟩
  rintro i m H ⟨rfl, hi, p⟩
  by_cases hlt : i < n
  · refine .inr ⟨hlt, Pv (i + 1), fun H' p' => ⟨n - (i + 1), by omega, rfl, hlt, p'⟩, fun x H' y => ?_⟩
    obtain ⟨e, y⟩ := y
    subst e y
    exact hs i _ hlt p
  · have e : i = n := by omega
    subst e
    exact .inl ⟨Nat.le_refl _, hd H p⟩
def Few (n : Nat) (fs : List (Str × V)) : Prop := fs.length ≤ n ∧ n < 1000
theorem few0 : Few 0 [] := ⟨Nat.le_refl _, by decide⟩
theorem fewS {n : Nat} {fs : List (Str × V)} {f : Str} {v : V} (h : Few n fs) (hn : n + 1 < 1000 := by decide) : Few (n + 1) (putF f v fs) := ⟨Nat.le_trans (length_putF f v fs) (Nat.succ_le_succ h.1), hn⟩
theorem fewL {n : Nat} {fs : List (Str × V)} (h : Few n fs) : fs.length < 1000 := Nat.lt_of_le_of_lt h.1 h.2
theorem _root_.L2.Same.new {H H1 : Hp} {p : Addr} {o : HO} (s : Same H H1) (h : H1 p = none) : Same H (upd H1 p o) := fun b u e => by
  rw [upd_ne (ne_of_none (s b u e) h)]
  exact s b u e
theorem _root_.L2.Same.put {H H1 : Hp} {p : Addr} {o : HO} (s : Same H H1) (h : H p = none) : Same H (upd H1 p o) := fun b u e => by
  rw [upd_ne (ne_of_none e h)]
  exact s b u e
theorem ne_ins {H : Hp} {a b C D dx dy : Addr} {fs gs : List (Str × V)} (h : H a = some (.ins C dx fs)) (h' : H b = some (.ins D dy gs)) (d : fs ≠ gs) : a ≠ b := ne_of h h' fun e => by
  injection e with _ _ e
  exact d e
end Tr

set_option Elab.async false
set_option linter.all false
set_option maxRecDepth 100000
set_option maxHeartbeats 4000000
namespace Tr
open PySem PySem.Spec PyProof.Rows L2
theorem vals_of_get : ∀ {xs : List V} {us : List Value}, xs.length = us.length → (∀ (j : Nat) (x : V) (u : Value), xs[j]? = some x → us[j]? = some u → RelV x u) → Vals xs us
  | [], [], _, _ => .nil
  | [], _ :: _, h, _ => by cases h
  | _ :: _, [], h, _ => by cases h
  | x :: xs, u :: us, h, k => .cons (k 0 x u rfl rfl) (vals_of_get (Nat.succ.inj h) fun j y v h1 h2 => k (j + 1) y v h1 h2)
theorem kv_get : ∀ {kvs : List (Key × V)} {vs : List (Key × Value)} {j : Nat} {p : Key × V} {q : Key × Value}, KV kvs vs → kvs[j]? = some p → vs[j]? = some q → p.1 = q.1
  | _, _, _, _, _, .nil, e, _ => by cases e
  | _, _, 0, _, _, .cons r _, e1, e2 => by cases e1; cases e2; exact r.1
  | _, _, j + 1, p, q, .cons _ t, e1, e2 => kv_get (j := j) (p := p) (q := q) t e1 e2
theorem key_rel {k : Key} {v : Value} (h : keyIs k v = true) : RelV (kV k) v := by
  rcases keyIs_shape h with ⟨i, t, rfl, rfl⟩ | ⟨x, t, rfl, rfl⟩
  · exact ⟨t, rfl⟩
  · exact ⟨t, rfl⟩
section
variable {X : Cx}
theorem call_list_dict (hc : X.calm = true) : CallR X (.type "list") (fun xs H Q => ∃ (a : Addr) (kvs : List (Key × V)), xs = [.ref a] ∧ H a = some (.dK kvs) ∧ ∀ l, H l = none → Q (.ref l) (upd H l (.lst (kvs.map fun kv => kV kv.1)))) := by
  intro pins s σ H xs us Q I r h
  obtain ⟨a, kvs, rfl, ha, q⟩ := h
  obtain ⟨u, rfl, rx⟩ := vals1 r
  cases rx
  obtain ⟨hz, lo, vs, hkv, hd⟩ := (show ObjOk X.prog X.w H s.heap a (.dK kvs) from I.hok a _ ha)
  obtain ⟨ep, hat⟩ := hd.dictAt
  have hlen : kvs.length = vs.length := Paired.length hkv
  refine PySem.W.kdl_call (PySem.W.kdl_dict (knd := mixKind X.prog X.w) (kvs := vs) (ep := ep) lo) (I.ok.hd hc) hat (by rw [← hlen]; exact hz) fun h' tk acc' c' hk hD hacc => ?_
  refine ⟨.ref s.heap.objs.size, _, I.laid (t' := tk) hk (Nat.le_refl _) (show ObjOk X.prog X.w _ h' _ (.lst (kvs.map fun kv => kV kv.1)) from ⟨by rw [List.length_map]; exact hz, acc'.toList, c', ?_, by simpa using hD⟩), rfl, q _ (I.hok.fresh (Nat.le_refl _))⟩
  refine vals_of_get (by rw [List.length_map]; exact hlen.trans (hacc.1.symm.trans (Array.length_toList ..).symm)) fun j x u h1 h2 => ?_
  obtain ⟨k, y, e, hk2⟩ := hacc.2 j u (by rw [← Array.getElem?_toList]; exact h2)
  rw [List.getElem?_map] at h1
  cases e3 : kvs[j]? with
  | none => rw [e3] at h1; cases h1
  | some p =>
    rw [e3] at h1
    have h1 : kV p.1 = x := Option.some.inj h1
    have e4 : p.1 = k := kv_get hkv e3 e
    rw [← h1, e4]
    exact key_rel hk2
end
theorem lc_enum {K : PySem.W.Frag} {a : Addr} {xs : List V} {g : TG} {tt : TT} {te : TE} {vs : List Nat} {σ : L2.St} {H1 : Hp} {D : Addr} {Qd : Hp → Prop} (Pv : Nat → Hp → Prop) (h0 : Pv 0 (upd H1 D (.lst []))) (hl : ∀ i H, i ≤ xs.length → Pv i H → SqL K H a xs)
    (hs : ∀ i x H T, xs[i]? = some x → Pv i H → H T = none → g (.ref T) (wipe σ vs) (upd H T (.tup [.int (i : Nat), x])) fun σ2 H2 => wipe σ2 vs = wipe σ vs ∧ tt σ2 H2 fun b H3 =>
      if b = true then te σ2 H3 fun y H4 => ∃ acc, H4 D = some (.lst acc) ∧ acc.length < sizeLine ∧ Pv (i + 1) (upd H4 D (.lst (acc ++ [y]))) else Pv (i + 1) H3) (hd : ∀ H, Pv xs.length H → Qd H) :
    ∃ W : Nat → Nat → Hp → Prop, (∃ m, W 0 m (upd H1 D (.lst []))) ∧ ∀ i m H, W i m H →
      ((Ite K a).stop i H ∧ Qd H) ∨ ((Ite K a).go i H ∧ ∃ Nx : Hp → Prop, (∀ H', Nx H' → ∃ m', m' < m ∧ W (i + 1) m' H') ∧ ∀ x H', (Ite K a).yld i H x H' → g x (wipe σ vs) H' fun σ2 H2 => wipe σ2 vs = wipe σ vs ∧ tt σ2 H2 fun b H3 =>
        if b = true then te σ2 H3 fun y H4 => ∃ acc, H4 D = some (.lst acc) ∧ acc.length < sizeLine ∧ Nx (upd H4 D (.lst (acc ++ [y]))) else Nx H3) := by
  refine ⟨fun i m H => m = xs.length - i ∧ i ≤ xs.length ∧ Pv i H, ⟨xs.length, by simp, Nat.zero_le _, h0⟩, ?_⟩
  rintro i m H ⟨rfl, hi, p⟩
  have q := hl i H hi p
  by_cases hlt : i < xs.length
  · refine .inr ⟨⟨xs, xs[i], q, by simp [hlt]⟩, Pv (i + 1), fun H' p' => ⟨xs.length - (i + 1), by omega, rfl, hlt, p'⟩, fun x H' y => ?_⟩
    obtain ⟨T, z, rfl, hT, rfl, hz⟩ := y
    exact hs i z H T (hz xs q) p hT
  · have e : i = xs.length := by omega
    subst e
    exact .inl ⟨⟨xs, q, Nat.le_refl _⟩, hd H p⟩
section
variable {X : Cx} {x : Str} {p pos : Pos} {e : Expr} {es : List Expr} {t tk : TA} {id : String} {ks : List Str} {kws : List Keyword} {r : List V → List V → Hp → VK → Prop}
def CallRK (X : Cx) (id : String) (ks : List Str) (r : List V → List V → Hp → VK → Prop) : Prop :=
  ∀ (pins : List (Addr × Obj)) (s : Shared) (σ : L2.St) (H : Hp) (vs zs : List V) (us ws : List Value) (Q : VK), Inv X pins σ H s → Vals vs us → Vals zs ws → r vs zs H Q → wpAny (model X.prog X.w) X.A (call (.builtin id) us (ks.zip ws)) (EP X pins σ Q) X.xe s
def tCBK (r : List V → List V → Hp → VK → Prop) (t tk : TA) : TE := fun σ H Q => t σ H fun vs H1 => tk σ H1 fun zs H2 => r vs zs H2 Q
theorem pe_callBK (hc : CallRK X id ks r) (hg : Gl X x) (hm : X.mg x = none) (hv : bootBuiltins x = some (.builtin id)) (ha : PA X (e :: es) t) (hkw : PK X kws tk) (hn : x ≠ "__name__" := by decide) (hdb : (x == ("__debug__" : Str)) = false := by decide)
    (hks : (backToKw pos (keywordEach kws X.env)).filterMap (·.1) = ks := by rfl) (he : backTo pos (starEach (e :: es) X.env) = (false, eval e X.env) :: backTo pos (starEach es X.env) := by rfl) (hpl : (backTo pos (starEach (e :: es) X.env)).any (·.1) = false := by rfl)
    (hall : (backToKw pos (keywordEach kws X.env)).all (·.1.isSome) = true := by rfl) (hno : (backToKw pos (keywordEach kws X.env)).any (·.1.isNone) = false := by rfl) : PE X (.Call (.Name x p) (e :: es) kws pos) (tCBK r t tk) := by
  intro pins s σ H Q I h
  refine wpAny_Call_Name_kw (ld_blt I hg hm hv ?_ hn hdb)
  refine callWith_kw (thn (ha pos pins s σ H _ I h) fun us s1 ⟨vs, H1, I1, r1, q1⟩ => thn (hkw pos pins s1 σ H1 _ I1 q1) fun ws s2 ⟨zs, H2, I2, r2, q2⟩ => ?_) he hpl hall hno
  rw [hks]
  exact hc pins s2 σ H2 vs zs us ws Q I2 r1 r2 q2
end
theorem args_maxD (a v : Value) : argsOk "max" ⟨[a], [(Str.ofString "default", v)]⟩ := by unfold argsOk; kernel_rfl
abbrev bestObj (vs : Array Value) (c : Nat) : Obj := { cls := .type "list", dict := none, data := .seq vs c, slots := #[] }
section
variable {prog : Program} {w : World} {A : Around} {E : Value → Shared → Prop} {R : Result → Shared → Prop} {l I S : Addr} {its : List Value} {ns : List Int} {dv : Value}
theorem maxD_loop (hh : A.handled = none) (hi : IntsAre its ns) (hSI : S ≠ I) (hlI : l ≠ I) (hlS : l ≠ S) : ∀ (k j : Nat) (s : Shared) (M : Int) (tb : Tok) (c : Nat), ns.length - j = k → j ≤ ns.length → M ∈ ns.take j → (∀ y ∈ ns.take j, y ≤ M) →
    s.heap.IsList l its.toArray → s.heap.IsListIter I l j → s.heap.get? S = some (bestObj #[.int M tb, .int M tb] c) →
    (∀ h' tk M t', (∀ b o, b ≠ I → b ≠ S → s.heap.get? b = some o → h'.get? b = some o) → M ∈ ns → (∀ y ∈ ns, y ≤ M) → R (.ok (.ret (.int M t'))) { s with heap := h', toks := tk }) →
    codeAny (model prog w) A (.builtin "max.loop" ⟨[.ref I, .none, .ref S], [(Str.ofString "default", dv)]⟩) R s := by
  have hname : (toString "max" ++ toString ".loop" : String) = "max.loop" := by decide
  have hlen := hi.length
  intro k
  induction k with
  | zero =>
    intro j s M tb c hk hj hM hg hl hit hS hR
    have hin : j = ns.length := by omega
    refine codeAny_builtin PySem.F.entry_max_loop ?_
    rw [Around.under_plainId PySem.F.plain_max_loop _]
    show wpAny _ A.in1 (seqItems? (.ref S) >>= _) _ (fun e s' => R (.error e) s') s
    refine wpAny_bind (wpAny_seqItems hS rfl ?_)
    show wpAny _ A.in1 (tryCatch (pyNext (.ref I)) _ >>= _) _ (fun e s' => R (.error e) s') s
    refine wpAny_bind (wpAny_tryCatch (wpAny_pyNext_list_end hh hit hl (by simp; omega) fun h' eb => ?_))
    have hS' := eb S _ hSI hS
    show wpAny _ A.in1 (updateSeq S (fun _ => #[]) >>= _) _ (fun e s' => R (.error e) s') _
    refine wpAny_bind ?_
    refine wpAny_updateSeq hS' rfl (wpAny_bind (wpAny_letGo (wpAny_pure ?_)))
    rw [hin, List.take_length] at hM hg
    exact hR _ _ M tb (fun b o h1 h2 e => (Heap.get?_update_other _ _ (Ne.symm h2)).trans (eb b o h1 e)) hM hg
  | succ k ih =>
    intro j s M tb c hk hj hM hg hl hit hS hR
    have hlt : j < its.length := by omega
    obtain ⟨u, hu⟩ : ∃ u, its[j]? = some u := ⟨_, List.getElem?_eq_getElem hlt⟩
    obtain ⟨n, hn⟩ : ∃ n, ns[j]? = some n := ⟨_, List.getElem?_eq_getElem (by omega)⟩
    obtain ⟨t, rfl⟩ : ∃ t, u = .int n t := by
      obtain ⟨u', h1, t, h2⟩ := (vals_of_ints hi).get (i := j) (x := .int n) (by rw [List.getElem?_map, hn]; rfl)
      rw [hu] at h1; cases h1
      exact ⟨t, h2⟩
    refine codeAny_builtin PySem.F.entry_max_loop ?_
    rw [Around.under_plainId PySem.F.plain_max_loop _]
    show wpAny _ A.in1 (seqItems? (.ref S) >>= _) _ (fun e s' => R (.error e) s') s
    refine wpAny_bind (wpAny_seqItems hS rfl ?_)
    show wpAny _ A.in1 (tryCatch (pyNext (.ref I)) _ >>= _) _ (fun e s' => R (.error e) s') s
    refine wpAny_bind (wpAny_tryCatch (wpAny_pyNext_list_item hit hl (x := .int n t) (by simpa using hu) fun h' st' sb => ?_))
    have hS' := (sb.2 S hSI).trans hS
    have hl' : h'.IsList l its.toArray := by obtain ⟨o, e, r⟩ := hl; exact ⟨o, (sb.2 l hlI).trans e, r⟩
    have tk1 : ns.take (j + 1) = ns.take j ++ [n] := by
      rw [List.take_succ, hn]; rfl
    show wpAny _ A.in1 (tryCatch (holding [.int n t, .int n t] (richCompare .Gt (.int n t) (.int M tb) >>= _)) _ >>= _) _ (fun e s' => R (.error e) s') _
    refine wpAny_bind (wpAny_tryCatch (wpAny_holding (wpAny_bind (show wpAny (model prog w) A.in1 (compareOp .Gt (.int n t) (.int M tb)) _ _ _ from gt_int ?_))))
    refine wpAny_bind (wpAny_holding (wpAny_truthy_bool ?_))
    refine wpAny_bind (wpAny_letGo (wpAny_pure ?_))
    by_cases hb : M < n
    · rw [decide_eq_true hb]
      simp only [if_true]
      refine wpAny_bind ?_
      refine wpAny_updateSeq hS' rfl (wpAny_bind (wpAny_letGo ?_))
      rw [hname]
      have hSI' : I ≠ S := Ne.symm hSI
      refine wpAny_pure ⟨plainId_quiet PySem.F.plain_max_loop _, ih (j + 1) _ n t _ (by omega) (by omega) (by rw [tk1]; simp) (fun y hy => ?_) ?_ ?_ (Heap.get?_update_self _ hS' rfl) fun h'' tk'' M' t' hk'' => ?_⟩
      · rw [tk1] at hy
        rcases List.mem_append.mp hy with hy | hy
        · have := hg y hy; omega
        · have : y = n := by simpa using hy
          omega
      · obtain ⟨o, e, r⟩ := hl'; exact ⟨o, (Heap.get?_update_other _ _ (Ne.symm hlS)).trans e, r⟩
      · obtain ⟨o, e, r⟩ := st'; exact ⟨o, (Heap.get?_update_other _ _ hSI).trans e, r⟩
      · exact hR h'' tk'' M' t' fun b o h1 h2 e => hk'' b o h1 h2 ((Heap.get?_update_other _ _ (Ne.symm h2)).trans ((sb.2 b h1).trans e))
    · rw [decide_eq_false hb]
      simp only [Bool.false_eq_true, if_false]
      refine wpAny_bind (wpAny_letGo ?_)
      rw [hname]
      refine wpAny_pure ⟨plainId_quiet PySem.F.plain_max_loop _, ih (j + 1) _ M tb c (by omega) (by omega) (by rw [tk1]; exact List.mem_append_left _ hM) (fun y hy => ?_) hl' st' hS' fun h'' tk'' M' t' hk'' => ?_⟩
      · rw [tk1] at hy
        rcases List.mem_append.mp hy with hy | hy
        · exact hg y hy
        · have : y = n := by simpa using hy
          omega
      · exact hR h'' tk'' M' t' fun b o h1 h2 e => hk'' b o h1 h2 ((sb.2 b h1).trans e)
theorem maxD_raw {s : Shared} {Q : Value → Shared → Prop} (hh : A.handled = none) (hi : IntsAre its ns) (hl : s.heap.IsList l its.toArray) (h0 : ns = [] → ∀ h' tk, (∀ b o, s.heap.get? b = some o → h'.get? b = some o) → Q dv { s with heap := h', toks := tk })
    (h1 : ∀ h' tk M t', (∀ b o, s.heap.get? b = some o → h'.get? b = some o) → M ∈ ns → (∀ y ∈ ns, y ≤ M) → Q (.int M t') { s with heap := h', toks := tk }) :
    wpAny (model prog w) A (call (.builtin "max") [.ref l] [(Str.ofString "default", dv)]) Q E s := by
  have hname : (toString "max" ++ toString ".loop" : String) = "max.loop" := by decide
  have hlen := hi.length
  obtain ⟨ol, hol, rl⟩ := id hl
  have hll : l < s.heap.objs.size := Heap.lt_size hol
  refine kmk_tree PySem.F.kind_max PySem.F.plain_max PySem.F.entry_max (args_maxD _ _) ?_
  show wpAny _ A.in1 (Builtin.Builtins.bindParams "max" ["key", "default"] 0 ⟨[], [(Str.ofString "default", dv)]⟩ >>= _) _ _ s
  refine wpAny_bind (wpAny_of_eq (show Builtin.Builtins.bindParams "max" ["key", "default"] 0 ⟨[], [(Str.ofString "default", dv)]⟩ = pure [none, some dv] from rfl) ?_)
  refine wpAny_bind (wpAny_pure ?_)
  refine wpAny_bind (wpAny_pyIter_list hl ?_)
  refine wpAny_bind (wpAny_newList ?_ (Nat.zero_le _))
  rw [hname]
  refine wpAny_pure ⟨plainId_quiet PySem.F.plain_max_loop _, ?_⟩
  generalize hH : ((s.heap.push { cls := .type "list_iterator", data := .fields #[.ref l, .int 0 0] }).push { cls := .type "list", data := .seq ([] : List Value).toArray }) = h2
  have hS : (s.heap.push { cls := .type "list_iterator", data := .fields #[.ref l, .int 0 0] }).objs.size = s.heap.objs.size + 1 := size_push' ..
  generalize hSa : (s.heap.push { cls := .type "list_iterator", data := .fields #[.ref l, .int 0 0] }).objs.size = S at hS
  generalize hIa : s.heap.objs.size = I at hS hll
  have gS : h2.get? S = some (bestObj #[] 0) := by rw [← hH, ← hSa]; exact Heap.get?_push_size _ rfl
  have gI : h2.IsListIter I l 0 := ⟨_, by rw [← hH, ← hIa]; exact Heap.get?_push_of_some _ (Heap.get?_push_size _ rfl), rfl, rfl⟩
  have kp : ∀ b o, s.heap.get? b = some o → h2.get? b = some o := fun b o e => by rw [← hH]; exact Heap.get?_push_of_some _ (Heap.get?_push_of_some _ e)
  have hl2 : h2.IsList l its.toArray := ⟨ol, kp _ _ hol, rl⟩
  have hIS : I < S := by rw [hS]; exact Nat.lt_succ_self I
  have hSI : S ≠ I := Nat.ne_of_gt hIS
  have hlI : l ≠ I := Nat.ne_of_lt hll
  have hlS : l ≠ S := Nat.ne_of_lt (Nat.lt_trans hll hIS)
  have old : ∀ b o, s.heap.get? b = some o → b ≠ I ∧ b ≠ S := fun b o e => by
    have hlt : b < I := by rw [← hIa]; exact Heap.lt_size e
    exact ⟨Nat.ne_of_lt hlt, Nat.ne_of_lt (Nat.lt_trans hlt hIS)⟩
  refine codeAny_builtin PySem.F.entry_max_loop ?_
  rw [Around.under_plainId PySem.F.plain_max_loop _]
  show wpAny _ A.in1 (seqItems? (.ref S) >>= _) _ _ _
  refine wpAny_bind (wpAny_seqItems gS rfl ?_)
  cases hns : ns with
  | nil =>
    rw [hns] at hlen
    have hits : its = [] := List.length_eq_zero_iff.mp (by rw [hlen]; rfl)
    show wpAny _ A.in1 (tryCatch (pyNext (.ref I)) _ >>= _) _ _ _
    refine wpAny_bind (wpAny_tryCatch (wpAny_pyNext_list_end hh gI hl2 (by rw [hits]; rfl) fun h' eb => ?_))
    refine wpAny_bind (wpAny_rule (wpAny_pure ?_))
    exact h0 hns _ _ fun b o e => eb b o (old b o e).1 (kp b o e)
  | cons n rest =>
    obtain ⟨u, hu⟩ : ∃ u, its[0]? = some u := ⟨_, List.getElem?_eq_getElem (by rw [hlen, hns]; exact Nat.zero_lt_succ _)⟩
    obtain ⟨t, rfl⟩ : ∃ t, u = .int n t := by
      obtain ⟨u', e1, t, e2⟩ := (vals_of_ints hi).get (i := 0) (x := .int n) (by rw [hns]; rfl)
      rw [hu] at e1; cases e1
      exact ⟨t, e2⟩
    show wpAny _ A.in1 (tryCatch (pyNext (.ref I)) _ >>= _) _ _ _
    refine wpAny_bind (wpAny_tryCatch (wpAny_pyNext_list_item gI hl2 (x := .int n t) (by simpa using hu) fun h' st' sb => ?_))
    have gS' := (sb.2 S hSI).trans gS
    show wpAny _ A.in1 (updateSeq S (fun _ => #[.int n t, .int n t]) >>= _) _ _ _
    refine wpAny_bind ?_
    refine wpAny_updateSeq gS' rfl ?_
    rw [hname]
    refine wpAny_pure ⟨plainId_quiet PySem.F.plain_max_loop _, maxD_loop (l := l) (I := I) (S := S) hh hi hSI hlI hlS _ 1 _ n t _ rfl (by rw [hns]; simp) (by rw [hns]; simp) (fun y hy => ?_) ?_ ?_ (Heap.get?_update_self _ gS' rfl) fun h'' tk'' M' t' hk'' => ?_⟩
    · rw [hns] at hy
      have : y = n := by simpa using hy
      omega
    · obtain ⟨o, e, r⟩ := hl2
      exact ⟨o, (Heap.get?_update_other _ _ (Ne.symm hlS)).trans ((sb.2 l hlI).trans e), r⟩
    · obtain ⟨o, e, r⟩ := st'; exact ⟨o, (Heap.get?_update_other _ _ hSI).trans e, r⟩
    · exact h1 h'' tk'' M' t' fun b o e => hk'' b o (old b o e).1 (old b o e).2 ((Heap.get?_update_other _ _ (Ne.symm (old b o e).2)).trans ((sb.2 b (old b o e).1).trans (kp b o e)))
end
section
variable {X : Cx}
def rMaxD (K : PySem.W.Frag) : List V → List V → Hp → VK → Prop := fun vs zs H Q => ∃ (a : Addr) (ns : List Int) (d m : Int), vs = [V.ref a] ∧ zs = [V.int d] ∧ SqL K H a (ns.map V.int) ∧ ((ns = [] ∧ m = d) ∨ (m ∈ ns ∧ ∀ y, y ∈ ns → y ≤ m)) ∧ Q (.int m) H
theorem cr_maxD (hc : X.calm = true) : CallRK X "max" [Str.ofString "default"] (rMaxD X.K) := by
  intro pins s σ H vs zs us ws Q I r rz h
  obtain ⟨a, ns, d, m, rfl, rfl, hs, hm, q⟩ := h
  obtain ⟨its, rv, hl, _⟩ := I.list hs
  obtain ⟨u, rfl, t, rfl⟩ := vals1 rz
  rw [Vals.ref1 r]
  show wpAny _ _ (call (.builtin "max") [.ref a] [(Str.ofString "default", .int d t)]) _ _ _
  refine maxD_raw (I.ok.hd hc) rv.ints hl.isList (fun e h' tk hk => ?_) fun h' tk M t' hk h1 h2 => ?_
  · rcases hm with ⟨_, e2⟩ | ⟨e2, _⟩
    · rw [← e2]; exact ⟨.int m, H, I.kept hk, ⟨t, rfl⟩, q⟩
    · rw [e] at e2; cases e2
  · rcases hm with ⟨e2, _⟩ | ⟨e2, e3⟩
    · rw [e2] at h1; cases h1
    · have e4 : M = m := Int.le_antisymm (e3 M h1) (h2 m e2)
      rw [e4]
      exact ⟨.int m, H, I.kept hk, ⟨t', rfl⟩, q⟩
end
end Tr

set_option Elab.async false
set_option linter.all false
set_option maxRecDepth 100000
set_option maxHeartbeats 4000000
namespace Tr
open PySem PySem.Spec PyProof.Rows L2
open PySem.SeqAt (EqAt)
open PySem.AutoSeq1 (wpAny_loadPart')
open PySem.MeetsSeq PySem.MeetsSeq2 PySem.MeetsSeq3
def LtAt (A : Around) (s : Shared) (y x : Value) (b : Bool) : Prop :=
  ∀ (prog : Program) (w : World) (E : Value → Shared → Prop) (Q : Value → Shared → Prop), Q (.bool b) s → wpAny (model prog w) A (richCompare .Lt y x) Q E s
theorem ints_at : ∀ {vs : List Value} {ns : List Int} {i : Nat}, IntsAre vs ns → (h : i < vs.length) → ∃ t, vs[i] = .int (ns.getD i 0) t
  | _, _, _, .nil, h => by cases h
  | _, _, 0, .cons n t _, _ => ⟨t, rfl⟩
  | _, _, i + 1, .cons n t r, h => ints_at (i := i) r (Nat.lt_of_succ_lt_succ h)
theorem lex_drop {ns ms : List Int} {i : Nat} (h1 : i < ns.length) (h2 : i < ms.length) : HT.lexLt (ns.drop i) (ms.drop i) = if ns.getD i 0 = ms.getD i 0 then HT.lexLt (ns.drop (i + 1)) (ms.drop (i + 1)) else decide (ns.getD i 0 < ms.getD i 0) := by
  rw [List.drop_eq_getElem_cons h1, List.drop_eq_getElem_cons h2, HT.lexLt_cons]
  simp [List.getD_eq_getElem?_getD, h1, h2]
theorem list_lt_loop (l b : Addr) (its its2 : Array Value) (n n2 : Nat) (dd dd2 : Option Addr) (sl sl2 : Array (Option Value)) (ns ms : List Int) (hi : IntsAre its.toList ns) (hj : IntsAre its2.toList ms) (hsz : its.size = its2.size) (k : Nat) :
    ∀ i : Nat, its.size - i = k → Meets (Builtin.«list.__eq__.loop» ⟨[.ref l, .ref b, rawInt i, rawInt 0], []⟩)
      (fun A R s => s.heap.get? l = some { cls := .type "list", dict := dd, data := .seq its n, slots := sl } ∧ s.heap.get? b = some { cls := .type "list", dict := dd2, data := .seq its2 n2, slots := sl2 } ∧
        R (.ok (.ret (.bool (HT.lexLt (ns.drop i) (ms.drop i))))) s) := by
  have z1 : its.size = ns.length := by rw [← hi.length]; simp
  have z2 : its2.size = ms.length := by rw [← hj.length]; simp
  induction k with
  | zero =>
    intro i hk prog w A R s h
    obtain ⟨hp, g, d, tk, os⟩ := s; obtain ⟨hl, hb, h⟩ := h
    wp_walk using wpAny_loadPart' hl, wpAny_loadPart' hb
    have o1 : its[((i : Nat) : Int).toNat]? = none := by simp; omega
    have o2 : its2[((i : Nat) : Int).toNat]? = none := by simp; omega
    rw [List.drop_eq_nil_of_le (by omega), List.drop_eq_nil_of_le (by omega), HT.lexLt_nil_nil] at h
    rw [o1, o2]
    wp_walk using wpAny_loadPart' hl, wpAny_loadPart' hb
    show R (.ok (.ret (.bool (decide (its.size < its2.size))))) _
    rw [decide_eq_false (by omega)]
    exact h
  | succ k ih =>
    intro i hk prog w A R s h
    obtain ⟨hp, g, d, tk, os⟩ := s; obtain ⟨hl, hb, h⟩ := h
    wp_walk using wpAny_loadPart' hl, wpAny_loadPart' hb
    have l1 : i < its.size := by omega
    have l2 : i < its2.size := by omega
    obtain ⟨t, e1⟩ := ints_at hi (i := i) (by simpa using l1)
    obtain ⟨u, e2⟩ := ints_at hj (i := i) (by simpa using l2)
    have o1 : its[((i : Nat) : Int).toNat]? = some (.int (ns.getD i 0) t) := by rw [← e1]; simp [l1]
    have o2 : its2[((i : Nat) : Int).toNat]? = some (.int (ms.getD i 0) u) := by rw [← e2]; simp [l2]
    have hc : ((i : Int) + 1) = ((i + 1 : Nat) : Int) := by omega
    rw [lex_drop (by omega) (by omega)] at h
    rw [o1, o2]
    obtain ⟨q, hq, hiff⟩ := HT.eqAt_int A.in1 ⟨hp, g, d, tk, os⟩ (ns.getD i 0) t (ms.getD i 0) u
    refine wpAny_bind (hq prog w _ _ ?_)
    cases q with
    | true =>
      rw [if_pos (hiff.mp rfl)] at h
      wp_walk
      rw [hc]
      exact ⟨plainId_quiet plain_eq_loop _, codeAny_builtin entry_eq_loop (by
        rw [Around.under_plainId plain_eq_loop _]
        exact ih (i + 1) (by omega) prog w A R _ ⟨hl, hb, h⟩)⟩
    | false =>
      rw [if_neg (fun z => absurd (hiff.mpr z) Bool.false_ne_true)] at h
      wp_walk using wpAny_loadPart' hl, wpAny_loadPart' hb
      rw [o1, o2]
      have hri := HT.rcLt_int A.in1 ⟨hp, g, d, tk, os⟩ (ns.getD i 0) t (ms.getD i 0) u prog w
      wp_walk using hri
      exact h
theorem list_lt_ints (l b : Addr) (its its2 : Array Value) (n n2 : Nat) (dd dd2 : Option Addr) (sl sl2 : Array (Option Value)) (ns ms : List Int) (hi : IntsAre its.toList ns) (hj : IntsAre its2.toList ms) (hsz : its.size = its2.size) :
    Meets (Builtin.«list.__lt__» ⟨[.ref l, .ref b], []⟩)
      (fun _ R s => s.heap.get? l = some { cls := .type "list", dict := dd, data := .seq its n, slots := sl } ∧ s.heap.get? b = some { cls := .type "list", dict := dd2, data := .seq its2 n2, slots := sl2 } ∧
        R (.ok (.ret (.bool (HT.lexLt ns ms)))) s) := by
  intro prog w A R s h
  obtain ⟨hp, g, d, tk, os⟩ := s; obtain ⟨hl, hb, h⟩ := h
  have f3 := AutoSeq1.sub_list_list
  wp_walk using wpAny_loadPart' hl, wpAny_loadPart' hb
  exact ⟨plainId_quiet plain_eq_loop _, codeAny_builtin entry_eq_loop (by
    rw [Around.under_plainId plain_eq_loop _]
    exact list_lt_loop l b its its2 n n2 dd dd2 sl sl2 ns ms hi hj hsz _ 0 rfl prog w A R _ ⟨hl, hb, h⟩)⟩
theorem LtAt.lists {A : Around} {s : Shared} {l b : Addr} {its its2 : Array Value} {ns ms : List Int} (hl : s.heap.IsList l its) (hb : s.heap.IsList b its2) (hi : IntsAre its.toList ns) (hj : IntsAre its2.toList ms) (hsz : its.size = its2.size) (hu : A.units < cLine) :
    LtAt A s (.ref l) (.ref b) (HT.lexLt ns ms) := fun prog w E Q h => by
  obtain ⟨⟨cls, dd, data, sl⟩, ho, hc, n, hd⟩ := id hl
  obtain ⟨⟨cls2, dd2, data2, sl2⟩, ho2, hc2, n2, hd2⟩ := id hb
  simp only at hc hd hc2 hd2
  subst hc hd hc2 hd2
  exact richCompare_meets_room (op := .Lt) ⟨_, ho, rfl⟩ ⟨_, ho2, rfl⟩ PySem.F.slot_list_lt PySem.F.entry_list_lt (PySem.F.args_list_lt_2 _ _) (list_lt_ints l b its its2 n n2 dd dd2 sl sl2 ns ms hi hj hsz)
    ⟨ho, ho2, show Value.bool (HT.lexLt ns ms) ≠ Value.notImplemented ∧ Q (.bool (HT.lexLt ns ms)) s from ⟨(fun x => nomatch x), h⟩⟩ hu
def firstOff (e r : Nat → Bool) : Nat → Nat → Bool
  | 0, _ => false
  | k + 1, i => if e i = true then firstOff e r k (i + 1) else r i
theorem firstOff_succ (e r : Nat → Bool) (k i : Nat) : firstOff e r (k + 1) i = if e i = true then firstOff e r k (i + 1) else r i := rfl
theorem tuple_lt_at (l b : Addr) (its its2 : Array Value) (n n2 : Nat) (dd dd2 : Option Addr) (sl sl2 : Array (Option Value)) (e r : Nat → Bool) (hsz : its.size = its2.size) :
    Meets (Builtin.«tuple.__lt__» ⟨[.ref l, .ref b], []⟩)
      (fun A R s => s.heap.get? l = some { cls := .type "tuple", dict := dd, data := .seq its n, slots := sl } ∧ s.heap.get? b = some { cls := .type "tuple", dict := dd2, data := .seq its2 n2, slots := sl2 } ∧
        (∀ j (h1 : j < its.size) (h2 : j < its2.size), EqAt A.in1 s its[j] its2[j] (e j) ∧ LtAt A.in1 s its[j] its2[j] (r j)) ∧ R (.ok (.ret (.bool (firstOff e r its.size 0)))) s) :=
  .of_wp fun prog w A R s h => by
    obtain ⟨hp, g, d, tk, os⟩ := s; obtain ⟨hl, hb, he, h⟩ := h
    have f2 := AutoSeq1.sub_tuple_tuple
    have hZ : (its.toList.zip its2.toList).length = its.size := by simp; omega
    wp_walk using wpAny_loadPart' hl, wpAny_loadPart' hb, wpAny_forIn_list _ (fun rest b s' => b.1 = none ∧ s' = ⟨hp, g, d, tk, os⟩ ∧ ∃ i, rest = (its.toList.zip its2.toList).drop i ∧ i ≤ its.size ∧
      R (.ok (.ret (.bool (firstOff e r (its.size - i) i)))) ⟨hp, g, d, tk, os⟩) _
    case turn =>
      rintro ⟨y, x⟩ rest b s' ⟨hb', rfl, i, hz, hle, hR⟩
      have hlt : i < (its.toList.zip its2.toList).length := by
        rcases Nat.lt_or_ge i (its.toList.zip its2.toList).length with h' | h'
        · exact h'
        · rw [List.drop_of_length_le h'] at hz; cases hz
      have h1 : i < its.size := by omega
      have h2 : i < its2.size := by omega
      rw [List.drop_eq_getElem_cons hlt] at hz
      injection hz with hyx hrest
      have hy : y = its[i] := by have := congrArg Prod.fst hyx; simpa using this
      have hx : x = its2[i] := by have := congrArg Prod.snd hyx; simpa using this
      subst hy hx
      obtain ⟨m, hm⟩ : ∃ m, its.size - i = m + 1 := ⟨its.size - i - 1, by omega⟩
      rw [hm, firstOff_succ] at hR
      have hm2 : its.size - (i + 1) = m := by omega
      refine wpAny_bind ((he i h1 h2).1 prog w _ _ ?_)
      cases hy : e i with
      | true =>
        rw [hy, if_pos rfl] at hR
        wp_walk
        exact ⟨rfl, rfl, i + 1, hrest, by omega, by rw [hm2]; exact hR⟩
      | false =>
        rw [hy, if_neg Bool.false_ne_true] at hR
        have hri := (he i h1 h2).2 prog w
        wp_walk using hri
        exact ⟨_, rfl, by simpa using hR⟩
    case fin =>
      rintro ⟨b1, b2⟩ s' ⟨hb', rfl, i, hz, hle, hR⟩
      simp only at hb'
      subst hb'
      have hge : its.size ≤ i := by
        rcases Nat.lt_or_ge i (its.toList.zip its2.toList).length with h' | h'
        · rw [List.drop_eq_getElem_cons h'] at hz; cases hz
        · omega
      rw [show its.size - i = 0 by omega] at hR
      wp_walk
      refine ⟨_, rfl, ?_⟩
      have hv : decide (its.size < its2.size) = false := decide_eq_false (by omega)
      simpa [Builtin.Tuple.tupleCompareSizes, hv, firstOff, hsz] using hR
    case h =>
      exact ⟨rfl, rfl, 0, rfl, Nat.zero_le _, by simpa using h⟩
theorem LtAt.tuples {A : Around} {s : Shared} {l b : Addr} {its its2 : Array Value} {e r : Nat → Bool} (hl : IsTup s.heap l its) (hb : IsTup s.heap b its2) (hsz : its.size = its2.size) (hu : A.units < cLine)
    (he : ∀ j (h1 : j < its.size) (h2 : j < its2.size), EqAt A.in1 s its[j] its2[j] (e j) ∧ LtAt A.in1 s its[j] its2[j] (r j)) : LtAt A s (.ref l) (.ref b) (firstOff e r its.size 0) := fun prog w E Q h => by
  obtain ⟨⟨cls, dd, data, sl⟩, ho, hc, n, hd⟩ := id hl
  obtain ⟨⟨cls2, dd2, data2, sl2⟩, ho2, hc2, n2, hd2⟩ := id hb
  simp only at hc hd hc2 hd2
  subst hc hd hc2 hd2
  exact richCompare_meets_room (op := .Lt) ⟨_, ho, rfl⟩ ⟨_, ho2, rfl⟩ PySem.F.slot_tuple_lt PySem.F.entry_tuple_lt (PySem.F.args_tuple_lt_2 _ _) (tuple_lt_at l b its its2 n n2 dd dd2 sl sl2 e r hsz)
    ⟨ho, ho2, he, show Value.bool (firstOff e r its.size 0) ≠ Value.notImplemented ∧ Q (.bool (firstOff e r its.size 0)) s from ⟨(fun x => nomatch x), h⟩⟩ hu
theorem ints_reads {h : Heap} {l : Addr} {its : List Value} {ns : List Int} (hl : h.IsList l its.toArray) (hi : IntsAre its ns) : ∃ as, Reads h (.ref l) (.list (ns.map PyData.int)) as := by
  have all : ∀ {vs : List Value} {ms : List Int}, IntsAre vs ms → ∃ as, ReadsAll h vs (ms.map PyData.int) as := by
    intro vs ms x
    induction x with
    | nil => exact ⟨_, ReadsAll.nil⟩
    | cons n t _ ih =>
      obtain ⟨as, r⟩ := ih
      exact ⟨_, ReadsAll.cons (Reads.int n t) r⟩
  obtain ⟨o, ho, hc, n, hd⟩ := hl
  obtain ⟨as, r⟩ := all hi
  exact ⟨_, Reads.list ho hc hd r⟩
theorem eqv_ints (ns ms : List Int) : PyData.eqv (.list (ns.map PyData.int)) (.list (ms.map PyData.int)) = decide (ns = ms) := by
  rw [PyData.eqv]
  exact PySem.W.ked_eqvAll ns ms
theorem eqAt_lists {A : Around} {s : Shared} {l b : Addr} {its its2 : List Value} {ns ms : List Int} (hl : s.heap.IsList l its.toArray) (hb : s.heap.IsList b its2.toArray) (hi : IntsAre its ns) (hj : IntsAre its2 ms) (hu : A.units + 64 < cLine) :
    EqAt A s (.ref l) (.ref b) (decide (ns = ms)) := by
  obtain ⟨as, r1⟩ := ints_reads hl hi
  obtain ⟨bs, r2⟩ := ints_reads hb hj
  rw [← eqv_ints]
  exact SeqAt.eqAt_reads _ _ A s _ _ as bs r1 r2 (SeqAt.canLay_of_shaped (PySem.W.ke_shaped_ints ns)) (SeqAt.canLay_of_shaped (PySem.W.ke_shaped_ints ms)) (SeqAt.room_of_shaped (PySem.W.ke_shaped_ints ns) hu)
theorem lt_pairs {A : Around} {s : Shared} {l b p x q y : Addr} {pi xi qi yi : List Value} {pn xn qn yn : List Int} (hl : IsTup s.heap l #[.ref p, .ref x]) (hb : IsTup s.heap b #[.ref q, .ref y]) (h1 : s.heap.IsList p pi.toArray) (h2 : s.heap.IsList x xi.toArray) (h3 : s.heap.IsList q qi.toArray) (h4 : s.heap.IsList y yi.toArray)
    (i1 : IntsAre pi pn) (i2 : IntsAre xi xn) (i3 : IntsAre qi qn) (i4 : IntsAre yi yn) (z1 : pn.length = qn.length) (z2 : xn.length = yn.length) (hu : A.units + 65 < cLine) :
    LtAt A s (.ref l) (.ref b) (if pn = qn then HT.lexLt xn yn else HT.lexLt pn qn) := by
  have hu1 : A.in1.units + 64 < cLine := by show A.units + 1 + 64 < cLine; omega
  have e1 := eqAt_lists (A := A.in1) h1 h3 i1 i3 hu1
  have e2 := eqAt_lists (A := A.in1) h2 h4 i2 i4 hu1
  have r1 := LtAt.lists (A := A.in1) h1 h3 (by simpa using i1) (by simpa using i3) (by simp; rw [i1.length, i3.length]; exact z1) (Nat.lt_of_le_of_lt (Nat.le_add_right _ 64) hu1)
  have r2 := LtAt.lists (A := A.in1) h2 h4 (by simpa using i2) (by simpa using i4) (by simp; rw [i2.length, i4.length]; exact z2) (Nat.lt_of_le_of_lt (Nat.le_add_right _ 64) hu1)
  have lex_self : ∀ l : List Int, HT.lexLt l l = false := by
    intro l
    induction l with
    | nil => rfl
    | cons a l ih => rw [HT.lexLt_cons, if_pos rfl, ih]
  have k := LtAt.tuples (e := fun j => if j = 0 then decide (pn = qn) else decide (xn = yn)) (r := fun j => if j = 0 then HT.lexLt pn qn else HT.lexLt xn yn) hl hb rfl (Nat.lt_of_le_of_lt (Nat.le_add_right _ 65) hu) (fun j h1 h2 => by
    match j, h1 with
    | 0, _ => exact ⟨e1, r1⟩
    | 1, _ => exact ⟨e2, r2⟩)
  have v : firstOff (fun j => if j = 0 then decide (pn = qn) else decide (xn = yn)) (fun j => if j = 0 then HT.lexLt pn qn else HT.lexLt xn yn) (#[Value.ref p, Value.ref x] : Array Value).size 0 = (if pn = qn then HT.lexLt xn yn else HT.lexLt pn qn) := by
    show (if decide (pn = qn) = true then (if decide (xn = yn) = true then false else HT.lexLt xn yn) else HT.lexLt pn qn) = _
    by_cases h : pn = qn
    · rw [if_pos h, if_pos (decide_eq_true h)]
      by_cases h' : xn = yn
      · rw [if_pos (decide_eq_true h'), h', lex_self]
      · rw [if_neg (by rw [decide_eq_false h']; exact Bool.false_ne_true)]
    · rw [if_neg h, if_neg (by rw [decide_eq_false h]; exact Bool.false_ne_true)]
  rw [v] at k
  exact k
end Tr

set_option Elab.async false
set_option linter.all false
set_option maxRecDepth 100000
set_option maxHeartbeats 4000000
namespace Tr
open PySem PySem.Spec PyProof.Rows L2
def lamHO (f : Addr) (o : Obj) : HO := .ext fun h => h.get? f = some o
def codeHO (c : Addr) (q : Str) : HO := .ext fun h => h.CodeRec (.ref c) q
theorem lam_ok {P : Program} {w : World} {H : Hp} {h : Heap} {f : Addr} {o : Obj} (e : h.get? f = some o) : ObjOk P w H h f (lamHO f o) := ⟨e, ⟨o, e⟩, fun h1 h2 e1 k => k o e1⟩
theorem code_ok {P : Program} {w : World} {H : Hp} {h : Heap} {c : Addr} {q : Str} (e : h.CodeRec (.ref c) q) : ObjOk P w H h c (codeHO c q) := by
  obtain ⟨c', oc, vs, t, e1, e2, e3, e4⟩ := e
  cases e1
  refine ⟨⟨c, oc, vs, t, rfl, e2, e3, e4⟩, ⟨oc, e2⟩, fun h1 h2 x k => ?_⟩
  obtain ⟨c', o', vs', t', a1, a2, a3, a4⟩ := x
  cases a1
  exact ⟨c, o', vs', t', rfl, k o' a2, a3, a4⟩
def TabHit (H : Hp) (P c' : Addr) (pos : Pos) (q : Str) : Prop := H P = some (.tbl #[rawInt pos.line, rawInt pos.col, .ref c']) ∧ H c' = some (codeHO c' q)
def TabOk (H : Hp) (P : Addr) (pos : Pos) (q : Str) : Prop := H P = some (.tbl #[]) ∨ ∃ c', TabHit H P c' pos q
theorem TabHit.same {H H' : Hp} {P c' : Addr} {pos : Pos} {q : Str} (h : TabHit H P c' pos q) (s : Same H H') : TabHit H' P c' pos q := ⟨s _ _ h.1, s _ _ h.2⟩
theorem TabOk.same {H H' : Hp} {P : Addr} {pos : Pos} {q : Str} (h : TabOk H P pos q) (s : Same H H') : TabOk H' P pos q := h.elim (fun e => .inl (s _ _ e)) fun ⟨c', e⟩ => .inr ⟨c', e.same s⟩
theorem TabOk.keep {H H' : Hp} {P : Addr} {pos : Pos} {q : Str} (h : TabOk H P pos q) (k1 : ∀ a ps, H a = some (.tbl ps) → H' a = some (.tbl ps)) (k2 : ∀ a φ, H a = some (.ext φ) → H' a = some (.ext φ)) : TabOk H' P pos q := h.elim (fun e => .inl (k1 _ _ e)) fun ⟨c', e1, e2⟩ => .inr ⟨c', k1 _ _ e1, k2 _ _ e2⟩
theorem TabOk.some {H : Hp} {P : Addr} {pos : Pos} {q : Str} (h : TabOk H P pos q) : ∃ ps, H P = Option.some (.tbl ps) := h.elim (fun e => ⟨_, e⟩) fun ⟨_, e, _⟩ => ⟨_, e⟩
def tLam (P : Addr) (pos : Pos) (q : Str) (mk : Value → Addr → Value → Obj) : TE := fun σ H Q => TabOk H P pos q ∧ ∀ (H' : Hp) (f c' : Addr) (pm ctv : Value), H f = none → H' f = some (lamHO f (mk pm c' ctv)) → TabHit H' P c' pos q → (∀ a o, H a = some o → a ≠ P → H' a = some o) → (∀ a, H' a = none → H a = none) → Q (.ref f) H'
section
variable {X : Cx}
theorem pe_lam {params : Arguments} {body : Expr} {scope : Scope} {pos : Pos} (c P : Addr) (hC : PySem.W.CodeHd X.base c P) (hB : X.base.BuiltinsAt X.mg P) (hcode : X.env.code = .ref c := by rfl) (hcl : closureFor scope X.env = pure [] := by rfl) (hdef : defaultsOf params X.env = ([], []) := by rfl) :
    PE X (.Lambda params body scope pos) (tLam P pos (X.env.qual ++ "<lambda>") fun pm c' ctv => PySem.W.kla_obj "<lambda>" (X.env.qual ++ "<lambda>") params body scope [] pm c' ctv) := by
  intro pins s σ H Q I h
  obtain ⟨ht, q⟩ := h
  refine PySem.W.kla_eval hdef ?_
  have hg : s.heap.Ns mainGlobals X.mg := I.mod.glob.keeps I.bk
  have hC' := hC.keeps I.bk
  obtain ⟨bm, ob, b1, b2, b3, b4, b5, b6⟩ := hB
  have hB' : s.heap.BuiltinsAt X.mg P := ⟨bm, ob, b1, b2, b3, b4, I.bk _ _ b5, b6⟩
  rcases ht with hN | ⟨c', hT, hc⟩
  · have hP : s.heap.get? P = some (PySem.W.tabObj #[]) := I.hok P _ hN
    have hgP : mainGlobals ≠ P := fun z => by
      obtain ⟨o, es, ep, e, hd, _⟩ := hg
      rw [z, hP] at e; cases e; cases hd
    refine PySem.W.kla_makeFunction (mg := X.mg) hcl I.ok.glob hg hcode hC' hP trivial rfl hgP hB' fun c' ctv h' tk hx hge hlt hrec htb => ?_
    have nPc : P ≠ c' := Nat.ne_of_lt (Nat.lt_of_lt_of_le (Heap.lt_size hP) hge)
    have hc0 : H c' = none := I.hok.fresh hge
    have htb : h'.get? P = some (PySem.W.tabObj #[rawInt pos.line, rawInt pos.col, .ref c']) := htb
    have e1 : (upd (upd H P (.tbl #[rawInt pos.line, rawInt pos.col, .ref c'])) c' (codeHO c' (X.env.qual ++ "<lambda>"))) P = some (.tbl #[rawInt pos.line, rawInt pos.col, .ref c']) := by rw [upd_ne nPc, upd_same]
    have ne : ∀ b u, H b = some u → b ≠ P → (upd (upd H P (.tbl #[rawInt pos.line, rawInt pos.col, .ref c'])) c' (codeHO c' (X.env.qual ++ "<lambda>"))) b = some u := fun b u e h => by rw [upd_ne (ne_of_none e hc0), upd_ne h]; exact e
    have nt : ∀ b u, H b = some u → (∀ ps, u ≠ .tbl ps) → b ≠ P := fun b u e h z => by rw [z, hN] at e; cases e; exact h _ rfl
    have un : Un X.fs [] H (upd (upd H P (.tbl #[rawInt pos.line, rawInt pos.col, .ref c'])) c' (codeHO c' (X.env.qual ++ "<lambda>"))) s.heap h' := by
      have np : ∀ b, H b = none → b ≠ P := fun b n z => by rw [z, hN] at n; cases n
      refine ⟨fun b o e n _ _ => hx b o (np b n) e, fun b o e n _ _ => ⟨o.slots, hx b o (np b n) e⟩, fun b o e n _ => ?_, fun b o e _ => ?_, fun b xs e => ne _ _ e (nt _ _ e fun _ z => by cases z), fun b o u e => ne _ _ e (nt _ _ e fun _ z => by cases z), fun b ps e => ?_⟩
      · rw [upd_ne (Nat.ne_of_lt (Nat.lt_of_lt_of_le (Heap.lt_size e) hge)), upd_ne (np b n)]; exact n
      · by_cases z : b = P
        · exact ⟨_, by rw [z]; exact htb⟩
        · exact ⟨o, hx b o z e⟩
      · by_cases z : b = P
        · subst z
          rw [hN] at e; cases e
          exact ⟨#[rawInt pos.line, rawInt pos.col, .ref c'], e1⟩
        · exact ⟨#[], by rw [ne _ _ e z]; simp⟩
    have hok : HOk X.prog X.w (upd (upd H P (.tbl #[rawInt pos.line, rawInt pos.col, .ref c'])) c' (codeHO c' (X.env.qual ++ "<lambda>"))) h' := by
      intro b u e
      by_cases z1 : b = c'
      · subst z1; rw [upd_same] at e; cases e; exact code_ok hrec
      · rw [upd_ne z1] at e
        by_cases z2 : b = P
        · subst z2; rw [upd_same] at e; cases e; exact htb
        · rw [upd_ne z2] at e
          refine (I.hok b u e).stay (fun d v hd ed => hx d v ?_ ed) (fun d ed => ne _ _ ed (nt _ _ ed fun _ z => by cases z)) fun d xs ed => ne _ _ ed (nt _ _ ed fun _ z => by cases z)
          rcases hd with hd | hd
          · rw [hd]; exact z2
          · exact nt _ _ hd fun _ z => by cases z
    have I1 := I.un (t' := tk) un hok
    have hf0 : (upd (upd H P (.tbl #[rawInt pos.line, rawInt pos.col, .ref c'])) c' (codeHO c' (X.env.qual ++ "<lambda>"))) h'.objs.size = none := I1.hok.fresh (Nat.le_refl _)
    have I2 := I1.laid (a := h'.objs.size) (o := lamHO h'.objs.size (PySem.W.kla_obj "<lambda>" (X.env.qual ++ "<lambda>") params body scope [] ((X.mg "__name__").getD .none) c' ctv)) (t' := tk) (h' := h'.push (PySem.W.kla_obj "<lambda>" (X.env.qual ++ "<lambda>") params body scope [] ((X.mg "__name__").getD .none) c' ctv))
      (fun b o e => Heap.get?_push_of_some _ e) (Nat.le_refl _) (lam_ok (Heap.get?_push_size _ rfl))
    have hP1 : P ≠ h'.objs.size := ne_of_none e1 hf0
    have hc1 : c' ≠ h'.objs.size := ne_of_none upd_same hf0
    refine ⟨.ref h'.objs.size, _, I2, rfl, q _ h'.objs.size c' _ ctv ?_ upd_same ⟨?_, ?_⟩ (fun a o e h => ?_) fun a e => ?_⟩
    · cases z : H h'.objs.size with
      | none => rfl
      | some u =>
        by_cases z1 : h'.objs.size = P
        · rw [z1, e1] at hf0; cases hf0
        · rw [ne _ _ z z1] at hf0; cases hf0
    · rw [upd_ne hP1]; exact e1
    · rw [upd_ne hc1, upd_same]
    · have z := ne _ _ e h
      rw [upd_ne (ne_of_none z hf0)]; exact z
    · cases z : H a with
      | none => rfl
      | some u =>
        by_cases z1 : a = h'.objs.size
        · rw [z1, upd_same] at e; cases e
        · rw [upd_ne z1] at e
          by_cases z2 : a = P
          · rw [z2, e1] at e; cases e
          · rw [ne _ _ z z2] at e; cases e
  · have hP : s.heap.get? P = some (PySem.W.tabObj #[rawInt pos.line, rawInt pos.col, .ref c']) := I.hok P _ hT
    refine PySem.W.kla_makeFunctionHit (mg := X.mg) (cv := .ref c') hcl I.ok.glob hg hcode hC' hP trivial (by simp [codeAmong, rawInt]) hB' fun ctv h' tk hk hsz => ?_
    have I1 : Inv X pins σ H { s with heap := h', toks := tk } := I.kept hk
    have hf0 : H h'.objs.size = none := I1.hok.fresh (Nat.le_refl _)
    have I2 := I1.laid (a := h'.objs.size) (o := lamHO h'.objs.size (PySem.W.kla_obj "<lambda>" (X.env.qual ++ "<lambda>") params body scope [] ((X.mg "__name__").getD .none) c' ctv)) (t' := tk) (h' := h'.push (PySem.W.kla_obj "<lambda>" (X.env.qual ++ "<lambda>") params body scope [] ((X.mg "__name__").getD .none) c' ctv))
      (fun b o e => Heap.get?_push_of_some _ e) (Nat.le_refl _) (lam_ok (Heap.get?_push_size _ rfl))
    have sm : Same H (upd H h'.objs.size (lamHO h'.objs.size (PySem.W.kla_obj "<lambda>" (X.env.qual ++ "<lambda>") params body scope [] ((X.mg "__name__").getD .none) c' ctv))) := (Same.refl H).new hf0
    exact ⟨.ref h'.objs.size, _, I2, rfl, q _ h'.objs.size c' _ ctv hf0 upd_same ⟨sm _ _ hT, sm _ _ hc⟩ (fun a o e _ => sm _ _ e) fun a e => sm.free e⟩
end
theorem lam_fn {P : Program} {w : World} {K : PySem.W.Frag} {mg : Str → Option Value} {base : Heap} {k : Nat} {f c : Addr} {name qual : Str} {params : Arguments} {body : Expr} {scope : Scope} {pm ctv : Value} {N ps : List Str} {sp : Sp} (S : FnScope N ps scope) (len : ∀ vs H Q E, sp vs H Q E → vs.length = ps.length)
    (trk : ∀ vs H Q E, sp vs H Q E → H f = some (lamHO f (PySem.W.kla_obj name qual params body scope [] pm c ctv)) ∧ H c = some (codeHO c qual))
    (hbody : ∀ (A : Around) (outer : List Env) (s : Shared) (H : Hp) (vs : List V) (Q : VK) (E : XK), Room k (A.deeper (envOfC qual scope s.heap.objs.size f (.ref c))) → sp vs H Q E →
      ∃ t, PE (cxOf CX0 P w K mg base N qual scope f (.ref c) A outer s H E).nox body t ∧ t (start N vs) H Q) :
    FnOk P w K mg base CX0 (k + 1) f (PySem.W.kla_fn name qual params body scope [] pm (.ref c) ctv) ps sp := by
  refine ⟨len, fun A outer s H args us vs Q E hr e0 hb r hsp => ?_⟩
  have hl := len _ _ _ _ hsp
  have lim : s.heap.NoLimit := e0.mod.nolimit.keeps fun b o e => (e0.bs b o e).1
  obtain ⟨hf, hc⟩ := trk _ _ _ _ hsp
  have of : s.heap.get? f = some (PySem.W.kla_obj name qual params body scope [] pm c ctv) := (e0.hok f _ hf).1
  have oc : s.heap.CodeRec (.ref c) qual := (e0.hok c _ hc).1
  have hkind : ∀ y ∈ ps.zip us, scope.names.lookup y.1 = some .local ∨ (scope.names.lookup y.1 = some .cell ∧ ((cellsFrom (s.heap.objs.size + 1) scope.names []).lookup y.1).isSome = true) := fun ⟨n, v⟩ hy => by
    rcases S.par n (List.of_mem_zip hy).1 with z | z
    · exact .inl z
    · exact .inr ⟨z, PySem.W.cellsFrom_some _ _ _ (.inl z)⟩
  refine PySem.W.kla_callFunE hr.depth of rfl S.co S.gen rfl oc (hb _ _ _ _ ?_)
  refine wpAny_newFunctionEnv_cells S.kind hkind fun env he s1 x => ?_
  subst he
  refine ⟨lim.keeps x.toInCall.keep, PySem.W.kla_codeExpr ?_⟩
  obtain ⟨t, ht, hq⟩ := hbody A outer s H vs Q E (hr.deeper _) hsp
  have I : Inv (cxOf CX0 P w K mg base N qual scope f (.ref c) A outer s H E) [] (start N vs) H s1 := inv_start S hr.hd e0 hl r x
  refine wpAny_mono (ht [] s1 (start N vs) H _ (I.wish _) hq) (fun u s' hs => ?_) fun e s' hs => hs.elim
  obtain ⟨v, H', J, rv, z⟩ := hs
  exact ⟨v, H', J.os, J.bare, J.base, J.hok, rv, z⟩
def rMinK (K : PySem.W.Frag) (sp : Addr → V → Hp → VK → Prop) (lt : V → V → Hp → Bool → Prop) : List V → List V → Hp → VK → Prop := fun vs zs H Q => ∃ (l f : Addr) (xs : List V) (Jv : Nat → Hp → V → V → Prop), vs = [.ref l] ∧ zs = [.ref f] ∧ SqL K H l xs ∧ 0 < xs.length ∧
  (∀ x, xs[0]? = some x → sp f x H fun k H' => Jv 0 H' x k) ∧ (∀ i x H b kb, xs[i + 1]? = some x → Jv i H b kb → sp f x H fun k H' => ∃ c, lt k kb H' c ∧ if c = true then Jv (i + 1) H' x k else Jv (i + 1) H' b kb) ∧
  (∀ i H b kb, Jv i H b kb → SqL K H l xs) ∧ ∀ H b kb, Jv (xs.length - 1) H b kb → Q b H
section
variable {X : Cx} {sp : Addr → V → Hp → VK → Prop} {lt : V → V → Hp → Bool → Prop}
abbrev RetTo (X : Cx) (pins : List (Addr × Obj)) (σ : L2.St) (Q : VK) : Result → Shared → Prop := fun r s' => match r with
  | .ok (.ret v) => EP X pins σ Q v s'
  | .ok _ => False
  | .error e => X.xe e s'
theorem fp_at {pins : List (Addr × Obj)} {H H' : Hp} {b : Addr} (h : FpOk X pins H b) (n : H' b = none) : FpOk X pins H' b := ⟨n, h.2⟩
theorem Inv.turn1 {pins : List (Addr × Obj)} {σ : L2.St} {H : Hp} {s : Shared} {h' : Heap} {b : Addr} {tk : Nat} (I : Inv X pins σ H s) (f : FpOk X pins H b) (k : ∀ a o, a ≠ b → s.heap.get? a = some o → h'.get? a = some o) : Inv X pins σ H { s with heap := h', toks := tk } :=
  I.turned k f.1 f.2.1 f.2.2.2.1 f.2.2.2.2.1 f.2.2.2.2.2
theorem minK_loop (hc : X.calm = true) (hkey : ∀ (pins : List (Addr × Obj)) (s : Shared) (σ : L2.St) (H : Hp) (f : Addr) (x : V) (u : Value) (Q : VK), Inv X pins σ H s → RelV x u → sp f x H Q → wpAny (model X.prog X.w) X.A.in1 (call (.ref f) [u]) (EP X pins σ Q) (fun _ _ => False) s)
    (hlt : ∀ (pins : List (Addr × Obj)) (s : Shared) (σ : L2.St) (H : Hp) (k kb : V) (u v : Value) (c : Bool), Inv X pins σ H s → RelV k u → RelV kb v → lt k kb H c → LtAt X.A.in1 s u v c)
    {pins : List (Addr × Obj)} {σ : L2.St} {Q : VK} {l f I S : Addr} {xs : List V} {Jv : Nat → Hp → V → V → Prop} (hIS : S ≠ I)
    (step : ∀ i x H b kb, xs[i + 1]? = some x → Jv i H b kb → sp f x H fun k H' => ∃ c, lt k kb H' c ∧ if c = true then Jv (i + 1) H' x k else Jv (i + 1) H' b kb) (stay : ∀ i H b kb, Jv i H b kb → SqL X.K H l xs) (fin : ∀ H b kb, Jv (xs.length - 1) H b kb → Q b H) :
    ∀ (r j : Nat) (s : Shared) (H : Hp) (b kb : V) (vb vk : Value) (c : Nat), xs.length - (j + 1) = r → j + 1 ≤ xs.length → Inv X pins σ H s → FpOk X pins H I → FpOk X pins H S → s.heap.IsListIter I l (j + 1) → s.heap.get? S = some (bestObj #[vb, vk] c) → RelV b vb → RelV kb vk → Jv j H b kb →
      codeAny (model X.prog X.w) X.A (.builtin "min.loop" ⟨[.ref I, .ref f, .ref S], []⟩) (RetTo X pins σ Q) s := by
  have hname : (toString "min" ++ toString ".loop" : String) = "min.loop" := by decide
  intro r
  induction r with
  | zero =>
    intro j s H b kb vb vk c hr hj Iv fI fS hit hS rb rk J
    have hin : j = xs.length - 1 := by omega
    obtain ⟨its, rv, p, hz⟩ := Iv.list (stay _ _ _ _ J)
    have hl := rv.length
    refine codeAny_builtin PySem.F.entry_min_loop ?_
    rw [Around.under_plainId PySem.F.plain_min_loop _]
    show wpAny _ X.A.in1 (seqItems? (.ref S) >>= _) _ (fun e s' => X.xe e s') s
    refine wpAny_bind (wpAny_seqItems hS rfl ?_)
    show wpAny _ X.A.in1 (tryCatch (pyNext (.ref I)) _ >>= _) _ (fun e s' => X.xe e s') s
    refine wpAny_bind (wpAny_tryCatch (wpAny_pyNext_list_end (Iv.ok.hd hc) hit p.isList (by simp; omega) fun h' eb => ?_))
    have I1 : Inv X pins σ H { s with heap := h' } := Inv.turn1 (tk := s.toks) Iv fI fun a o h e => eb a o h e
    have hS' := eb S _ hIS hS
    show wpAny _ X.A.in1 (updateSeq S (fun _ => #[]) >>= _) _ (fun e s' => X.xe e s') _
    refine wpAny_bind ?_
    refine wpAny_updateSeq hS' rfl (wpAny_bind (wpAny_letGo (wpAny_pure ?_)))
    rw [hin] at J
    exact ⟨b, H, Inv.turn1 (tk := s.toks) I1 fS fun a o h e => (Heap.get?_update_other _ _ (Ne.symm h)).trans e, rb, fin H b kb J⟩
  | succ r ih =>
    intro j s H b kb vb vk c hr hj Iv fI fS hit hS rb rk J
    have hlt' : j + 1 < xs.length := by omega
    obtain ⟨x, hx⟩ : ∃ x, xs[j + 1]? = some x := ⟨_, List.getElem?_eq_getElem hlt'⟩
    obtain ⟨its, rv, p, hz⟩ := Iv.list (stay _ _ _ _ J)
    obtain ⟨u, hu, ru⟩ := rv.get hx
    refine codeAny_builtin PySem.F.entry_min_loop ?_
    rw [Around.under_plainId PySem.F.plain_min_loop _]
    show wpAny _ X.A.in1 (seqItems? (.ref S) >>= _) _ (fun e s' => X.xe e s') s
    refine wpAny_bind (wpAny_seqItems hS rfl ?_)
    show wpAny _ X.A.in1 (tryCatch (pyNext (.ref I)) _ >>= _) _ (fun e s' => X.xe e s') s
    refine wpAny_bind (wpAny_tryCatch (wpAny_pyNext_list_item hit p.isList (x := u) (by simpa using hu) fun h' st' sb => ?_))
    have I1 : Inv X pins σ H { s with heap := h' } := Inv.turn1 (tk := s.toks) Iv fI fun a o h e => (sb.2 a h).trans e
    have hS' := (sb.2 S hIS).trans hS
    obtain ⟨oI, hoI, hcI, hdI⟩ := id st'
    have I1p := I1.pinned (fp := [I, S]) (fun d hd => by
      rcases List.mem_cons.mp hd with z | z
      · rw [z]; exact fI
      · rw [List.mem_singleton.mp z]; exact fS) (fun d hd => by
      rcases List.mem_cons.mp hd with z | z
      · rw [z]; exact ⟨oI, hoI, fun v z => by rw [hdI] at z; cases z⟩
      · rw [List.mem_singleton.mp z]; exact ⟨_, hS', fun v z => by cases z⟩)
    show wpAny _ X.A.in1 (tryCatch (holding [u] (call (.ref f) [u])) _ >>= _) _ (fun e s' => X.xe e s') _
    refine wpAny_bind (wpAny_tryCatch (wpAny_holding (wpAny_mono (hkey _ _ σ H f x u _ I1p ru (step j x H b kb hx J)) (fun uk s2 he => ?_) fun _ _ z => z.elim)))
    obtain ⟨k, H2, I2, rk2, d, hd, hJ⟩ := he
    have pI := I2.pin (I, oI) (List.mem_append_right _ (List.mem_append_right _ (mem_pinsAt (List.mem_cons_self ..) hoI)))
    have pS := I2.pin (S, bestObj #[vb, vk] c) (List.mem_append_right _ (List.mem_append_right _ (mem_pinsAt (List.mem_cons_of_mem _ (List.mem_singleton.mpr rfl)) hS')))
    have I2u := I2.unpinned
    have fI2 := fp_at fI pI.2.1
    have fS2 := fp_at fS pS.2.1
    have it2 : s2.heap.IsListIter I l (j + 1 + 1) := ⟨oI, pI.1, hcI, hdI⟩
    have S2 : s2.heap.get? S = some (bestObj #[vb, vk] c) := pS.1
    show wpAny _ X.A.in1 (tryCatch (holding [u, uk] (richCompare .Lt uk vk >>= _)) _ >>= _) _ (fun e s' => X.xe e s') _
    refine wpAny_bind (wpAny_tryCatch (wpAny_holding (wpAny_bind (hlt _ _ σ H2 k kb uk vk d I2 rk2 rk hd _ _ _ _ ?_))))
    refine wpAny_bind (wpAny_holding (wpAny_truthy_bool ?_))
    refine wpAny_bind (wpAny_letGo (wpAny_pure ?_))
    cases d with
    | true =>
      rw [if_pos rfl] at hJ
      simp only [if_true]
      refine wpAny_bind ?_
      refine wpAny_updateSeq S2 rfl (wpAny_bind (wpAny_letGo ?_))
      rw [hname]
      refine wpAny_pure ⟨plainId_quiet PySem.F.plain_min_loop _, ih (j + 1) _ H2 x k u uk _ (by omega) (by omega) (Inv.turn1 (tk := s2.toks) I2u fS2 fun a o h e => (Heap.get?_update_other _ _ (Ne.symm h)).trans e) fI2 fS2 ⟨oI, (Heap.get?_update_other _ _ hIS).trans pI.1, hcI, hdI⟩ (Heap.get?_update_self _ S2 rfl) ru rk2 hJ⟩
    | false =>
      rw [if_neg Bool.false_ne_true] at hJ
      simp only [Bool.false_eq_true, if_false]
      refine wpAny_bind (wpAny_letGo ?_)
      rw [hname]
      exact wpAny_pure ⟨plainId_quiet PySem.F.plain_min_loop _, ih (j + 1) _ H2 b kb vb vk c (by omega) (by omega) I2u fI2 fS2 it2 S2 rb rk hJ⟩
theorem cr_minK (hc : X.calm = true) (hkey : ∀ (pins : List (Addr × Obj)) (s : Shared) (σ : L2.St) (H : Hp) (f : Addr) (x : V) (u : Value) (Q : VK), Inv X pins σ H s → RelV x u → sp f x H Q → wpAny (model X.prog X.w) X.A.in1 (call (.ref f) [u]) (EP X pins σ Q) (fun _ _ => False) s)
    (hlt : ∀ (pins : List (Addr × Obj)) (s : Shared) (σ : L2.St) (H : Hp) (k kb : V) (u v : Value) (c : Bool), Inv X pins σ H s → RelV k u → RelV kb v → lt k kb H c → LtAt X.A.in1 s u v c) : CallRK X "min" [Str.ofString "key"] (rMinK X.K sp lt) := by
  have hname : (toString "min" ++ toString ".loop" : String) = "min.loop" := by decide
  intro pins s σ H vs zs us ws Q Iv r rz h
  obtain ⟨l, f, xs, Jv, rfl, rfl, hs, h0, first, step, stay, fin⟩ := h
  rw [Vals.ref1 r, Vals.ref1 rz]
  show wpAny _ _ (call (.builtin "min") [.ref l] [(Str.ofString "key", .ref f)]) _ _ _
  obtain ⟨its, rv, p, hz⟩ := Iv.list hs
  obtain ⟨x, hx⟩ : ∃ x, xs[0]? = some x := ⟨_, List.getElem?_eq_getElem h0⟩
  obtain ⟨u, hu, ru⟩ := rv.get hx
  refine kmk_tree PySem.F.kind_min PySem.F.plain_min PySem.F.entry_min (kmk_min_key _ _) ?_
  show wpAny _ X.A.in1 (Builtin.Builtins.bindParams "min" ["key", "default"] 0 ⟨[], [(Str.ofString "key", .ref f)]⟩ >>= _) _ X.xe s
  refine wpAny_bind (wpAny_of_eq (show Builtin.Builtins.bindParams "min" ["key", "default"] 0 ⟨[], [(Str.ofString "key", .ref f)]⟩ = pure [some (.ref f), none] from rfl) ?_)
  refine wpAny_bind (wpAny_pure ?_)
  refine wpAny_bind (wpAny_pyIter_list p.isList ?_)
  refine wpAny_bind (wpAny_newList ?_ (Nat.zero_le _))
  rw [hname]
  refine wpAny_pure ⟨plainId_quiet PySem.F.plain_min_loop _, ?_⟩
  have kp : ∀ b o, s.heap.get? b = some o → ((s.heap.push { cls := .type "list_iterator", data := .fields #[.ref l, .int 0 0] }).push { cls := .type "list", data := .seq ([] : List Value).toArray }).get? b = some o := fun b o e => Heap.get?_push_of_some _ (Heap.get?_push_of_some _ e)
  have I0 : Inv X pins σ H { s with heap := ((s.heap.push { cls := .type "list_iterator", data := .fields #[.ref l, .int 0 0] }).push { cls := .type "list", data := .seq ([] : List Value).toArray }) } := Iv.kept (t' := s.toks) kp
  have hS : (s.heap.push { cls := .type "list_iterator", data := .fields #[.ref l, .int 0 0] }).objs.size = s.heap.objs.size + 1 := size_push' ..
  have fI : FpOk X pins H s.heap.objs.size := Iv.fpOk (Nat.le_refl _) (Iv.hok.fresh (Nat.le_refl _))
  have fS : FpOk X pins H (s.heap.push { cls := .type "list_iterator", data := .fields #[.ref l, .int 0 0] }).objs.size := Iv.fpOk (by rw [hS]; exact Nat.le_succ _) (Iv.hok.fresh (by rw [hS]; exact Nat.le_succ _))
  have gS : ((s.heap.push { cls := .type "list_iterator", data := .fields #[.ref l, .int 0 0] }).push { cls := .type "list", data := .seq ([] : List Value).toArray }).get? (s.heap.push { cls := .type "list_iterator", data := .fields #[.ref l, .int 0 0] }).objs.size = some (bestObj #[] 0) := Heap.get?_push_size _ rfl
  have gI : ((s.heap.push { cls := .type "list_iterator", data := .fields #[.ref l, .int 0 0] }).push { cls := .type "list", data := .seq ([] : List Value).toArray }).IsListIter s.heap.objs.size l 0 := ⟨_, Heap.get?_push_of_some _ (Heap.get?_push_size _ rfl), rfl, rfl⟩
  have hIS : (s.heap.push { cls := .type "list_iterator", data := .fields #[.ref l, .int 0 0] }).objs.size ≠ s.heap.objs.size := by rw [hS]; exact Nat.succ_ne_self _
  generalize ((s.heap.push { cls := .type "list_iterator", data := .fields #[.ref l, .int 0 0] }).push { cls := .type "list", data := .seq ([] : List Value).toArray }) = h2 at I0 gS gI
  generalize (s.heap.push { cls := .type "list_iterator", data := .fields #[.ref l, .int 0 0] }).objs.size = S at fS gS hIS
  generalize s.heap.objs.size = I at fI gI hIS
  obtain ⟨its2, rv2, p2, hz2⟩ := I0.list hs
  obtain ⟨u, hu, ru⟩ := rv2.get hx
  refine codeAny_builtin PySem.F.entry_min_loop ?_
  rw [Around.under_plainId PySem.F.plain_min_loop _]
  show wpAny _ X.A.in1 (seqItems? (.ref S) >>= _) _ (fun e s' => X.xe e s') _
  refine wpAny_bind (wpAny_seqItems gS rfl ?_)
  show wpAny _ X.A.in1 (tryCatch (pyNext (.ref I)) _ >>= _) _ (fun e s' => X.xe e s') _
  refine wpAny_bind (wpAny_tryCatch (wpAny_pyNext_list_item gI p2.isList (x := u) (by simpa using hu) fun h' st' sb => ?_))
  have I1 : Inv X pins σ H { s with heap := h' } := Inv.turn1 (s := { s with heap := h2 }) (tk := s.toks) I0 fI fun a o h e => (sb.2 a h).trans e
  have hS' := (sb.2 S hIS).trans gS
  obtain ⟨oI, hoI, hcI, hdI⟩ := id st'
  have I1p := I1.pinned (fp := [I, S]) (fun d hd => by
    rcases List.mem_cons.mp hd with z | z
    · rw [z]; exact fI
    · rw [List.mem_singleton.mp z]; exact fS) (fun d hd => by
    rcases List.mem_cons.mp hd with z | z
    · rw [z]; exact ⟨oI, hoI, fun v z => by rw [hdI] at z; cases z⟩
    · rw [List.mem_singleton.mp z]; exact ⟨_, hS', fun v z => by cases z⟩)
  show wpAny _ X.A.in1 (tryCatch (holding [u] (call (.ref f) [u])) _ >>= _) _ (fun e s' => X.xe e s') _
  refine wpAny_bind (wpAny_tryCatch (wpAny_holding (wpAny_mono (hkey _ _ σ H f x u _ I1p ru (first x hx)) (fun uk s2 he => ?_) fun _ _ z => z.elim)))
  obtain ⟨k, H2, I2, rk2, hJ⟩ := he
  have pI := I2.pin (I, oI) (List.mem_append_right _ (List.mem_append_right _ (mem_pinsAt (List.mem_cons_self ..) hoI)))
  have pS := I2.pin (S, bestObj #[] 0) (List.mem_append_right _ (List.mem_append_right _ (mem_pinsAt (List.mem_cons_of_mem _ (List.mem_singleton.mpr rfl)) hS')))
  have fI2 := fp_at fI pI.2.1
  have fS2 := fp_at fS pS.2.1
  have S2 : s2.heap.get? S = some (bestObj #[] 0) := pS.1
  show wpAny _ X.A.in1 (updateSeq S (fun _ => #[u, uk]) >>= _) _ (fun e s' => X.xe e s') _
  refine wpAny_bind ?_
  refine wpAny_updateSeq S2 rfl ?_
  rw [hname]
  exact wpAny_pure ⟨plainId_quiet PySem.F.plain_min_loop _, minK_loop hc hkey hlt hIS step stay fin _ 0 _ H2 x k u uk _ rfl h0 (Inv.turn1 (tk := s2.toks) I2.unpinned fS2 fun a o h e => (Heap.get?_update_other _ _ (Ne.symm h)).trans e) fI2 fS2 ⟨oI, (Heap.get?_update_other _ _ hIS).trans pI.1, hcI, hdI⟩ (Heap.get?_update_self _ S2 rfl) ru rk2 hJ⟩
end
end Tr

set_option Elab.async false
set_option linter.all false
set_option maxRecDepth 100000
set_option maxHeartbeats 4000000
namespace Tr
open PySem PySem.Spec PyProof.Rows L2
open PySem.W (WData Codec OpenSpec Well WellAll ReadsW ReadsAllW)
def OnlyT (P : Addr) (H : Hp) : Prop := H P = some (.tbl #[]) ∧ ∀ b, b ≠ P → H b = none ∨ ∃ o u, H b = some (.frz o u)
theorem sqL_up {K : PySem.W.Frag} {H H' : Hp} {a : Addr} {xs : List V} (s : Same H H') (h : SqL K H a xs) : SqL K H' a xs := by
  rcases h with (h | ⟨o, h⟩) | h
  · exact .inl (.inl (s _ _ h))
  · exact .inl (.inr ⟨o, s _ _ h⟩)
  · exact .inr h
theorem sqT_up {K : PySem.W.Frag} {H H' : Hp} {a : Addr} {xs : List V} (s : Same H H') (h : SqT K H a xs) : SqT K H' a xs := by
  rcases h with (h | ⟨o, h⟩) | h
  · exact .inl (.inl (s _ _ h))
  · exact .inl (.inr ⟨o, s _ _ h⟩)
  · exact .inr h
mutual
theorem dw_up {K : PySem.W.Frag} {H H' : Hp} (s : Same H H') : ∀ {v : V} {d : WData}, Dw K H v d → Dw K H' v d
  | _, _, .non => .non
  | _, _, .bl b => .bl b
  | _, _, .int i => .int i
  | _, _, .str x => .str x
  | _, _, .byt b => .byt b
  | _, _, .lst h1 h2 => .lst (sqL_up s h1) (dw_upAll s h2)
  | _, _, .tup h1 h2 => .tup (sqT_up s h1) (dw_upAll s h2)
theorem dw_upAll {K : PySem.W.Frag} {H H' : Hp} (s : Same H H') : ∀ {vs : List V} {ds : List WData}, DwAll K H vs ds → DwAll K H' vs ds
  | _, _, .nil => .nil
  | _, _, .cons h1 h2 => .cons (dw_up s h1) (dw_upAll s h2)
end
theorem spec_callT {P : Program} {w : World} {K : PySem.W.Frag} {mg mb : Str → Option Value} {CX : CXT} {k : Nat} {fa cc tb : Addr} {fd : FuncData} {ps : List Str} {sp : Sp} {s₁ : Shared} {vals : List Value} {ds : List WData} {R : PySem.W.WRecords} {cl : Str → Option Addr} {d0 : WData}
    (KX : K.In s₁.heap) (hns : s₁.heap.Ns mainGlobals mg) (hb : s₁.heap.Ns builtinsNs mb) (hbb : ∀ x : Str, x ≠ "__name__" → mb x = bootBuiltins x) (hlim : s₁.heap.NoLimit) (hg : s₁.gens = #[])
    (hC : PySem.W.CodeHd s₁.heap cc tb) (hP : s₁.heap.get? tb = some (PySem.W.tabObj #[])) (hKt : K.lookup tb = none) (hB : s₁.heap.BuiltinsAt mg tb)
    (hwl : WellAll w.params s₁.heap vals ds) (hpl : plWs ds = true) (hwt : ∀ d ∈ ds, d.weight ≤ 1048576) (hr : Room k callerA)
    (F : ∀ base : Heap, K.In base → base.Ns mainGlobals mg → base.BuiltinsAt mg tb → FnOk P w K mg base CX k fa fd ps sp) (hbind : ∀ (s : Shared) (us : List Value), us.length = ps.length → BindsTo s fd ⟨us, []⟩ (ps.zip us)) (hlen : ds.length = ps.length)
    (hsp : ∀ (H : Hp) (xs : List V), OnlyT tb H → DwAll K H xs ds → sp xs H (fun v H' => Dw K H' v d0) fun _ _ _ => False)
    (hCX : ∀ H e s', CX [] H s₁ (fun _ _ _ => False) e s' → False) :
    codeAny (model P w) callerA (.call (.ref fa) ⟨vals, []⟩) (fun r s' => ∃ u as, r = .ok (.ret u) ∧ ReadsW R cl s'.heap u d0 as ∧ OldK s₁.heap s'.heap ∧ s'.os = s₁.os ∧ AllBare s'.gens) s₁ := by
  obtain ⟨A, ho, ar⟩ := area_all ds vals hwl hpl hwt
  have hO : OnlyF (argH K s₁.heap A) := argH_only ar
  have hok0 : HOk P w (argH K s₁.heap A) s₁.heap := argH_ok ar
  have hS0 := dw_all KX ar ds vals hwl hpl ho
  have hV := vals_toV ho
  have hK0 : ∀ b u, argH K s₁.heap A b = some u → K.lookup b = none := fun b u q => (argH_is ar q).1
  have seq0 : ∀ b u, argH K s₁.heap A b = some u → ∃ (o : Obj) (vs : Array Value) (n : Nat), s₁.heap.get? b = some o ∧ o.data = .seq vs n := fun b u q => by
    obtain ⟨_, vs, _, _, ⟨e2, _⟩ | ⟨e2, _⟩⟩ := argH_is ar q
    · exact ⟨_, vs.toArray, _, e2, rfl⟩
    · exact ⟨_, vs.toArray, _, e2, rfl⟩
  generalize argH K s₁.heap A = H0 at hO hok0 hS0 hK0 seq0
  have h0 : H0 tb = none := by
    cases q : H0 tb with
    | none => rfl
    | some u =>
      obtain ⟨o, vs, n, e, d⟩ := seq0 tb u q
      rw [hP] at e
      cases e
      cases d
  have sm : Same H0 (upd H0 tb (.tbl #[])) := (Same.refl H0).new h0
  have only : OnlyT tb (upd H0 tb (.tbl #[])) := ⟨upd_same, fun b hne => by rw [upd_ne hne]; exact hO b⟩
  have hok : HOk P w (upd H0 tb (.tbl #[])) s₁.heap := by
    intro b u e
    by_cases z : b = tb
    · subst z
      rw [upd_same] at e
      cases e
      exact hP
    · rw [upd_ne z] at e
      exact (hok0 b u e).stay (fun _ _ _ q => q) (fun c q => sm _ _ q) fun c xs q => sm _ _ q
  have hS := dw_upAll sm hS0
  have tr : ∀ b u, (upd H0 tb (.tbl #[])) b = some u → ∃ (o : Obj), s₁.heap.get? b = some o ∧ (∀ es ep, o.data ≠ .dict es ep) ∧ o.data ≠ .plain := fun b u e => by
    by_cases z : b = tb
    · rw [z]
      exact ⟨_, hP, (fun es ep q => by cases q), fun q => by cases q⟩
    · rw [upd_ne z] at e
      obtain ⟨o, vs, n, e1, d⟩ := seq0 b u e
      exact ⟨o, e1, (fun es ep q => by rw [d] at q; cases q), fun q => by rw [d] at q; cases q⟩
  have hK : ∀ b u, (upd H0 tb (.tbl #[])) b = some u → K.lookup b = none := fun b u e => by
    by_cases z : b = tb
    · rw [z]; exact hKt
    · rw [upd_ne z] at e
      exact hK0 b u e
  have noA : ∀ {b : Addr} {o : Obj} {es : Array DictEntry} {ep : Nat}, s₁.heap.get? b = some o → o.data = .dict es ep → (upd H0 tb (.tbl #[])) b = none := fun {b o es ep} e d => by
    cases q : (upd H0 tb (.tbl #[])) b with
    | none => rfl
    | some u =>
      obtain ⟨o', e1, n1, _⟩ := tr b u q
      rw [e] at e1
      cases e1
      exact absurd d (n1 es ep)
  have noP : ∀ {b : Addr} {o : Obj}, s₁.heap.get? b = some o → o.data = .plain → (upd H0 tb (.tbl #[])) b = none := fun {b o} e d => by
    cases q : (upd H0 tb (.tbl #[])) b with
    | none => rfl
    | some u =>
      obtain ⟨o', e1, _, n1⟩ := tr b u q
      rw [e] at e1
      cases e1
      exact absurd d n1
  generalize upd H0 tb (.tbl #[]) = H at only hok hS hK noA noP
  have base_of : ∀ {b : Addr} {o : Obj}, s₁.heap.get? b = some o → H b = none → (hidT s₁.heap H).get? b = some o := fun e n => hidT_get e n
  have nsK : ∀ {b : Addr} {m : Str → Option Value}, s₁.heap.Ns b m → (hidT s₁.heap H).Ns b m := fun {b m} ⟨o, es, ep, e, d, r⟩ => ⟨o, es, ep, base_of e (noA e d), d, r⟩
  have nK : ∀ b o, K.lookup b = some o → H b = none := fun b o e => by
    cases q : H b with
    | none => rfl
    | some u =>
      rw [hK b u q] at e
      cases e
  have hKb : K.In (hidT s₁.heap H) := fun b o e => base_of (KX b o e) (nK b o e)
  have hM : Mod K mg (hidT s₁.heap H) := ⟨hKb, nsK hns, ⟨mb, nsK hb, hbb⟩, let ⟨mc, h1, h2⟩ := hlim; ⟨mc, nsK h1, h2⟩⟩
  have hBb : (hidT s₁.heap H).BuiltinsAt mg tb := by
    obtain ⟨bm, ob, b1, b2, b3, b4, b5, b6, b7, b8⟩ := hB
    exact ⟨bm, ob, b1, b2, b3, b4, base_of b5 (noP b5 b8), b6, b7, b8⟩
  have e0 : Env0 P w K mg (hidT s₁.heap H) callerA [] s₁ H := ⟨rfl, hM, fun b o e => of_hidT e, Nat.le_of_eq (hidT_size _ _), trivial, fun b hb => absurd (show b ∈ ([] : List Addr) from hb) (by simp), hok, .of_eq hg⟩
  have hl : vals.length = ps.length := by rw [wellAll_len hwl]; exact hlen
  refine codeAny_mono ((F _ hKb (nsK hns) hBb).run callerA [] s₁ H ⟨vals, []⟩ vals (vals.map toV) _ _ hr e0 (hbind s₁ vals hl) hV (hsp H _ only hS)) fun r s' x => ?_
  cases r with
  | error e => exact (hCX H e s' x).elim
  | ok fl =>
    cases fl with
    | next => exact False.elim x
    | brk => exact False.elim x
    | cont => exact False.elim x
    | ret u =>
      obtain ⟨v, H', os, bare, un, hok', r', q⟩ := x
      have kept : ∀ b o, b ≠ tb → s₁.heap.get? b = some o → s'.heap.get? b = some o := fun b o hne e => by
        rcases only.2 b hne with z | ⟨ob, u3, z⟩
        · exact un.keep b o e z (by intro z; exact absurd (show b ∈ ([] : List Addr) from z) (by simp)) (by simp)
        · have z2 := un.frzs b ob _ z
          obtain ⟨e1, _⟩ := hok b _ z
          obtain ⟨e2, _⟩ := hok' b _ z2
          rw [e] at e1
          cases e1
          exact e2
      have KX' : K.In s'.heap := fun b o e => kept b o (fun z => by rw [z, hKt] at e; cases e) (KX b o e)
      obtain ⟨more, hm⟩ := un.tbls tb _ only.1
      have hP' : s'.heap.get? tb = some (PySem.W.tabObj ((#[] : Array Value) ++ more)) := hok' tb _ hm
      obtain ⟨as, hrd⟩ := Dw.reads (R := R) (cl := cl) hok' KX' d0 v u q r'
      refine ⟨u, as, rfl, hrd, ⟨fun b o e => ?_, fun b o e => ?_⟩, os, bare⟩
      · by_cases z : b = tb
        · subst z
          rw [hP] at e
          cases e
          exact .inr (.inl ⟨(hC.tab hP).isCodeTable, rfl, #[], more, rfl, hP'⟩)
        · exact .inl (kept b o z e)
      · by_cases z : b = tb
        · rw [z]; exact ⟨_, hP'⟩
        · exact ⟨o, kept b o z e⟩
theorem walk_specT {r : OpenSpec} {k : Nat} {q : Program} {loose : List Str} {XP : (Str → Option Value) → Heap → Prop} {YP : World → Heap → Prop} {d dx : DefRec} {K : Params → PySem.W.Frag} {CX : CXT} {ps : List Str} {sp : PySem.W.Frag → Addr → Sp} {x : Str}
    (hwell : r.wellSaid = true) (hdf : d.params.defaults = []) (hlen : r.args.length = ps.length) (hr : Room k callerA)
    (hrec : (recsOf q).find? (fun e => e.name == x) = some dx) (hY : ∀ (w : World) (h : Heap), YP w h → (K w.params).In h)
    (F : ∀ (w : World) (mg : Str → Option Value) (fa : Addr) (h : Heap), YP w h → (K w.params).In h → h.Ns mainGlobals mg → mg d.name = some (.ref fa) →
      ∃ (fd : FuncData) (cc tb : Addr), PySem.W.tabIn (K w.params) x = some (cc, tb) ∧ (K w.params).lookup tb = none ∧ (∀ (s : Shared) (us : List Value), us.length = ps.length → BindsTo s fd ⟨us, []⟩ (ps.zip us)) ∧
        ∀ base : Heap, (K w.params).In base → base.Ns mainGlobals mg → base.BuiltinsAt mg tb → FnOk r.prog w (K w.params) mg base CX k fa fd ps (sp (K w.params) tb))
    (hsp : ∀ (K : PySem.W.Frag) (tb : Addr) (H : Hp) (xs : List V) (a : Codec.denoteAll r.args), OnlyT tb H → Codec.withinAll r.args a = true → Codec.app r.args r.asked a = true → DwAll K H xs (Codec.encAll r.args a) →
      sp K tb xs H (fun v H' => Dw K H' v (r.ret.enc (Codec.app r.args r.f a))) fun _ _ _ => False)
    (hCX : ∀ (H : Hp) (s : Shared) (e : Value) (s' : Shared), CX [] H s (fun _ _ _ => False) e s' → False) :
    PySem.W.WalkOS q loose XP YP r d [] (fun f vs => PySem.call f vs) := by
  intro w s_0 s₁ mg mb G Y fa o pm cd doc dV kV ho hd hcd hD hmg hg args vals as hpre hlay hrd hwl hlo
  obtain ⟨a, e1, e2⟩ := PySem.W.os_pre_some hpre
  obtain ⟨e3, hwi⟩ := Codec.encAll_of_decAll r.args args a e1
  subst e3
  have KX := hY w _ Y
  obtain ⟨fd, cc, tb, ht, hKt, hb, hF⟩ := F w mg fa _ Y KX G.T.g hmg
  obtain ⟨hC, hP⟩ := PySem.W.tab_of G.T KX hrec ht
  have hB : s₁.heap.BuiltinsAt mg tb := by
    obtain ⟨bm, ob, b1, b2, b3, b4, b5, b6⟩ := G.T.bmain
    refine ⟨bm, ob, b1, b2, fun z => ?_, fun z => ?_, b3, b4, b5, b6⟩
    · obtain ⟨o', es, ep, e, hd', _⟩ := G.T.g
      rw [z, e] at b3; cases b3; rw [hd'] at b6; cases b6
    · rw [z, hP] at b3; cases b3; cases b4
  refine PySem.W.enter_call (codeAny_mono (spec_callT (R := []) (cl := classAt s_0.heap) (d0 := r.ret.enc (Codec.app r.args r.f a)) KX G.T.g G.T.b G.T.builtins G.T.nolimit hg hC hP hKt hB hwl (pl_encAll _ _) (layable_weight hlay) hr hF hb (by rw [encAll_len]; exact hlen)
    (fun H xs hO hS => hsp (K w.params) tb H xs a hO hwi e2 hS) fun H e s' => hCX H s₁ e s') fun r' s' hq => ?_)
  obtain ⟨u, as', rfl, h1, h2, h3, h4⟩ := hq
  exact ⟨.inl ⟨u, _, as', rfl, fun _ => rfl, h1, (OpenSpec.post_iff hwell hwi _ _).mpr rfl, fun z => Bool.noConfusion (show false = true from z)⟩, h2, h3, h4⟩
end Tr

namespace Tr
open Si37
theorem drop_cons {A : Type} : ∀ {l : List A} {i : Nat} {x : A}, l[i]? = some x → l.drop i = x :: l.drop (i + 1)
  | [], i, x, h => by simp at h
  | a :: l, 0, x, h => by
    have e : a = x := Option.some.inj h
    subst e; rfl
  | a :: l, i + 1, x, h => by
    show l.drop i = x :: l.drop (i + 1)
    exact drop_cons (by simpa using h)
theorem take_snoc {A : Type} : ∀ {l : List A} {i : Nat} {x : A}, l[i]? = some x → l.take (i + 1) = l.take i ++ [x]
  | [], i, x, h => by simp at h
  | a :: l, 0, x, h => by
    have e : a = x := Option.some.inj h
    subst e; rfl
  | a :: l, i + 1, x, h => by
    show a :: l.take (i + 1) = a :: l.take i ++ [x]
    rw [take_snoc (l := l) (i := i) (x := x) h]; rfl
theorem longs_length (b : Book) (s : Setting) : (longs b s).length = b.words.length := by
  unfold longs; rw [List.length_map, List.length_zipIdx]
theorem longs_get {b : Book} {s : Setting} {i : Nat} {w : Word} (h : b.words[i]? = some w) : (longs b s)[i]? = some (long b s i w) := by
  unfold longs
  rw [List.getElem?_map, List.getElem?_zipIdx, h]
  simp
def flags (ps : List Para) : List (Option Bool) := ps.flatMap fun p => some p.page :: List.replicate (p.words.length - 1) none
def flatFrom (f : Frame) : Nat → Nat → List (Option Bool × Nat) → List Nat
  | _, _, [] => []
  | l, c, (o, n) :: r => match o with
    | some pg => (if pg = true then upTo f.high l else l) :: flatFrom f ((if pg = true then upTo f.high l else l) + 1) n r
    | none => if c + 1 + n ≤ f.wide then (l - 1) :: flatFrom f l (c + 1 + n) r else l :: flatFrom f (l + 1) n r
theorem flat_none (f : Frame) (l c n : Nat) (r : List (Option Bool × Nat)) : flatFrom f l c ((none, n) :: r) = if c + 1 + n ≤ f.wide then (l - 1) :: flatFrom f l (c + 1 + n) r else l :: flatFrom f (l + 1) n r := rfl
theorem flat_some (f : Frame) (l c n : Nat) (pg : Bool) (r : List (Option Bool × Nat)) : flatFrom f l c ((some pg, n) :: r) = (if pg = true then upTo f.high l else l) :: flatFrom f ((if pg = true then upTo f.high l else l) + 1) n r := rfl
theorem linesFrom_cons (wide l c n : Nat) (r : List Nat) : linesFrom wide l c (n :: r) = if c + 1 + n ≤ wide then l :: linesFrom wide l (c + 1 + n) r else (l + 1) :: linesFrom wide (l + 1) n r := rfl
theorem bookFrom_cons (f : Frame) (l : Nat) (p : Bool × List Nat) (r : List (Bool × List Nat)) : bookFrom f l (p :: r) = linesOf f.wide (if p.1 = true then upTo f.high l else l) p.2 ++ bookFrom f ((linesOf f.wide (if p.1 = true then upTo f.high l else l) p.2).getLastD l + 1) r := rfl
theorem ringFrom_cons (b : Book) (f : Nat) (s : Setting) (l : List Setting) : ringFrom b (f + 1) (s :: l) = match (s :: l).findIdx? fun x => x == pass b s with
  | some i => some ((s :: l).length - 1 - i, i + 1)
  | none => ringFrom b f (pass b s :: s :: l) := rfl
theorem flags_length {ps : List Para} (h : ∀ p ∈ ps, p.words ≠ []) : (flags ps).length = (ps.flatMap fun p => p.words).length := by
  induction ps with
  | nil => rfl
  | cons p r ih =>
    have h1 : p.words ≠ [] := h p List.mem_cons_self
    have h2 := ih fun q hq => h q (List.mem_cons_of_mem _ hq)
    have h3 : 0 < p.words.length := List.length_pos_iff.mpr h1
    unfold flags at h2 ⊢
    rw [List.flatMap_cons, List.flatMap_cons, List.length_append, List.length_append, h2]
    simp
    omega
theorem flat_tail (f : Frame) : ∀ (t : List Nat) (l c : Nat) (rest : List (Option Bool × Nat)),
    ∃ c', flatFrom f (l + 1) c ((List.replicate t.length none).zip t ++ rest) = linesFrom f.wide l c t ++ flatFrom f ((linesFrom f.wide l c t).getLastD l + 1) c' rest
  | [], l, c, rest => ⟨c, by simp [linesFrom]⟩
  | n :: t, l, c, rest => by
    by_cases h : c + 1 + n ≤ f.wide
    · obtain ⟨c', e⟩ := flat_tail f t l (c + 1 + n) rest
      refine ⟨c', ?_⟩
      show flatFrom f (l + 1) c ((none, n) :: ((List.replicate t.length none).zip t ++ rest)) = _
      rw [flat_none, linesFrom_cons, if_pos h, if_pos h, e]
      simp only [List.cons_append, Nat.add_sub_cancel, List.getLastD_cons]
    · obtain ⟨c', e⟩ := flat_tail f t (l + 1) n rest
      refine ⟨c', ?_⟩
      show flatFrom f (l + 1) c ((none, n) :: ((List.replicate t.length none).zip t ++ rest)) = _
      rw [flat_none, linesFrom_cons, if_neg h, if_neg h, e]
      simp only [List.cons_append, List.getLastD_cons]
theorem flat_nil (f : Frame) (l c : Nat) : flatFrom f l c [] = [] := rfl
theorem book_flat (f : Frame) : ∀ (ps : List Para) (L : List Nat) (l c : Nat), (∀ p ∈ ps, p.words ≠ []) → L.length = (ps.flatMap fun p => p.words).length →
    bookFrom f l ((ps.zip (cut (ps.map fun p => p.words.length) L)).map fun x => (x.1.page, x.2)) = flatFrom f l c ((flags ps).zip L)
  | [], L, l, c, _, hL => by
    have : L = [] := List.eq_nil_of_length_eq_zero (by simpa using hL)
    subst this
    rfl
  | p :: r, L, l, c, h, hL => by
    have h1 : p.words ≠ [] := h p List.mem_cons_self
    have h3 : 0 < p.words.length := List.length_pos_iff.mpr h1
    rw [List.flatMap_cons, List.length_append] at hL
    obtain ⟨k, hk⟩ : ∃ k, p.words.length = k + 1 := ⟨p.words.length - 1, by omega⟩
    have hne : L ≠ [] := by intro e; rw [e] at hL; simp at hL; omega
    obtain ⟨n, T, rfl⟩ := List.exists_cons_of_ne_nil hne
    have hT : T.length = k + (r.flatMap fun p => p.words).length := by rw [List.length_cons] at hL; omega
    have ih := fun l' c' => book_flat f r (T.drop k) l' c' (fun q hq => h q (List.mem_cons_of_mem _ hq)) (by rw [List.length_drop]; omega)
    have e1 : (flags (p :: r)).zip (n :: T) = (some p.page, n) :: ((List.replicate (T.take k).length none).zip (T.take k) ++ (flags r).zip (T.drop k)) := by
      unfold flags
      rw [List.flatMap_cons, List.cons_append, List.zip_cons_cons, hk]
      congr 1
      have : (T.take k).length = k := by rw [List.length_take]; omega
      rw [this, ← List.zip_append (by simp [this])]
      rw [List.take_append_drop]
      rfl
    have e2 : ((p :: r).zip (cut ((p :: r).map fun p => p.words.length) (n :: T))).map (fun x => (x.1.page, x.2)) = (p.page, n :: T.take k) :: ((r.zip (cut (r.map fun p => p.words.length) (T.drop k))).map fun x => (x.1.page, x.2)) := by
      rw [List.map_cons, hk]
      rfl
    rw [e1, e2, bookFrom_cons, flat_some]
    simp only
    generalize (if p.page = true then upTo f.high l else l) = x0
    obtain ⟨c', e3⟩ := flat_tail f (T.take k) x0 n ((flags r).zip (T.drop k))
    rw [e3]
    unfold linesOf
    simp only [List.getLastD_cons, List.cons_append]
    rw [ih _ c']
theorem lines_flat {b : Book} (h : ∀ p ∈ b.paras, p.words ≠ []) (s : Setting) : lines b s = flatFrom b.frame 0 0 ((flags b.paras).zip (longs b s)) :=
  book_flat b.frame b.paras (longs b s) 0 0 h (longs_length b s)
theorem flat_length (f : Frame) : ∀ (l c : Nat) (xs : List (Option Bool × Nat)), (flatFrom f l c xs).length = xs.length
  | _, _, [] => rfl
  | l, c, (some pg, n) :: r => by
    show (_ :: flatFrom f _ _ r).length = _
    rw [List.length_cons, flat_length f _ _ r, List.length_cons]
  | l, c, (none, n) :: r => by
    show (if c + 1 + n ≤ f.wide then (l - 1) :: flatFrom f l (c + 1 + n) r else l :: flatFrom f (l + 1) n r).length = _
    split <;> rw [List.length_cons, flat_length f _ _ r, List.length_cons]
theorem lines_length {b : Book} (h : ∀ p ∈ b.paras, p.words ≠ []) (s : Setting) : (lines b s).length = b.words.length := by
  rw [lines_flat h, flat_length, List.length_zip, flags_length h, longs_length]
  exact Nat.min_self _
theorem pass_length {b : Book} (h : ∀ p ∈ b.paras, p.words ≠ []) (s : Setting) : (pass b s).length = b.words.length := by
  unfold pass; rw [List.length_map, lines_length h]
theorem passes_length {b : Book} (h : ∀ p ∈ b.paras, p.words ≠ []) : ∀ n, (passes b n).length = b.words.length
  | 0 => by show (List.replicate _ _).length = _; rw [List.length_replicate]
  | n + 1 => pass_length h _
def revs (b : Book) (k : Nat) : List Setting := ((List.range k).map (passes b)).reverse
theorem revs_succ (b : Book) (k : Nat) : revs b (k + 1) = passes b k :: revs b k := by
  unfold revs
  rw [List.range_succ, List.map_append, List.reverse_append]
  rfl
def Apart (b : Book) (k : Nat) : Prop := ∀ i j, i < j → j < k → passes b i ≠ passes b j
theorem revs_find_none {b : Book} {k : Nat} {t : Setting} (h : ∀ i, i < k → passes b i ≠ t) : (revs b k).findIdx? (fun x => x == t) = none := by
  rw [List.findIdx?_eq_none_iff]
  intro x hx
  unfold revs at hx
  rw [List.mem_reverse, List.mem_map] at hx
  obtain ⟨i, hi, rfl⟩ := hx
  exact beq_eq_false_iff_ne.mpr (h i (List.mem_range.mp hi))
theorem revs_find_some {b : Book} {t : Setting} {j : Nat} : ∀ {k : Nat}, Apart b k → j < k → passes b j = t → (revs b k).findIdx? (fun x => x == t) = some (k - 1 - j)
  | 0, _, h, _ => absurd h (Nat.not_lt_zero _)
  | k + 1, ha, h, e => by
    rw [revs_succ, List.findIdx?_cons]
    by_cases hj : j = k
    · subst hj
      rw [if_pos (beq_iff_eq.mpr e)]
      congr 1
      omega
    · have hlt : j < k := by omega
      rw [if_neg (by
        intro q
        exact ha j k hlt (Nat.lt_succ_self k) (e.trans (beq_iff_eq.mp q).symm))]
      rw [revs_find_some (k := k) (fun i j h1 h2 => ha i j h1 (by omega)) hlt e]
      simp
      omega
theorem ring_step {b : Book} {f k : Nat} (hk : 1 ≤ k) (h : ∀ i, i < k → passes b i ≠ passes b k) : ringFrom b (f + 1) (revs b k) = ringFrom b f (revs b (k + 1)) := by
  obtain ⟨m, rfl⟩ : ∃ m, k = m + 1 := ⟨k - 1, by omega⟩
  have e := revs_find_none (k := m + 1) h
  rw [revs_succ b (m + 1)]
  rw [revs_succ b m] at e ⊢
  have e' : List.findIdx? (fun x => x == pass b (passes b m)) (passes b m :: revs b m) = none := e
  rw [ringFrom_cons, e']
  rfl
theorem ring_hit {b : Book} {f k j : Nat} (ha : Apart b k) (hj : j < k) (h : passes b k = passes b j) : ringFrom b (f + 1) (revs b k) = some (j, k - j) := by
  obtain ⟨m, rfl⟩ : ∃ m, k = m + 1 := ⟨k - 1, by omega⟩
  have e := revs_find_some ha hj h.symm
  have el : (revs b (m + 1)).length = m + 1 := by unfold revs; simp
  rw [revs_succ b m] at e el ⊢
  have e' : List.findIdx? (fun x => x == pass b (passes b m)) (passes b m :: revs b m) = some (m + 1 - 1 - j) := e
  rw [ringFrom_cons, e', el]
  simp only
  congr 2 <;> omega
theorem ring_at {b : Book} : ∀ {k : Nat}, 1 ≤ k → k ≤ 401 → Apart b k → ring b = ringFrom b (401 - k) (revs b k)
  | 0, h, _, _ => absurd h (by decide)
  | 1, _, _, _ => rfl
  | k + 2, _, h, ha => by
    rw [ring_at (k := k + 1) (by omega) (by omega) fun i j h1 h2 => ha i j h1 (by omega)]
    have e : 401 - (k + 1) = (401 - (k + 2)) + 1 := by omega
    rw [e, ring_step (by omega) fun i hi => ha i (k + 1) hi (by omega)]
theorem ring_some {b : Book} {k j : Nat} (ha : Apart b k) (hj : j < k) (hk : k ≤ 400) (h : passes b k = passes b j) : ring b = some (j, k - j) := by
  rw [ring_at (k := k) (by omega) (by omega) ha]
  have e : 401 - k = (400 - k) + 1 := by omega
  rw [e, ring_hit ha hj h]
theorem ring_none {b : Book} (ha : Apart b 401) : ring b = none := by
  rw [ring_at (k := 401) (by decide) (by decide) ha]
  rfl
theorem passes_shift {b : Book} {m j : Nat} (h : passes b m = passes b j) : ∀ t, passes b (m + t) = passes b (j + t)
  | 0 => h
  | t + 1 => by
    show pass b (passes b (m + t)) = pass b (passes b (j + t))
    rw [passes_shift h t]
theorem passes_ring {b : Book} {m j : Nat} (hj : j < m) (h : passes b m = passes b j) : ∀ n, m ≤ n → passes b n = passes b (j + (n - j) % (m - j)) := by
  intro n
  induction n using Nat.strongRecOn with
  | _ n ih =>
    intro hn
    have e : passes b n = passes b (n - (m - j)) := by
      have := passes_shift h (n - m)
      rw [show m + (n - m) = n by omega, show j + (n - m) = n - (m - j) by omega] at this
      exact this
    rw [e]
    have e2 : (n - j) % (m - j) = (n - (m - j) - j) % (m - j) := by
      rw [Nat.mod_eq_sub_mod (by omega)]
      congr 1
      omega
    rw [e2]
    by_cases hn2 : m ≤ n - (m - j)
    · exact ih (n - (m - j)) (by omega) hn2
    · rw [Nat.mod_eq_of_lt (by omega)]
      congr 1
      omega
end Tr

namespace Tr
open Si37
def rtail (r : Nat) : Nat := romanDigit (r / 100 % 10) + (romanDigit (r / 10 % 10) + romanDigit (r % 10))
theorem rtail_zero : rtail 0 = 0 := rfl
theorem rtail_step {r : Nat} (h : r < 1000) : rtail r = romanDigit (r % 10) + rtail (r / 10) := by
  unfold rtail
  have e1 : r / 10 / 100 % 10 = 0 := by omega
  have e2 : r / 10 / 10 % 10 = r / 100 % 10 := by omega
  rw [e1, e2, show romanDigit 0 = 0 from rfl]
  omega
theorem roman_start {n : Nat} (h : n ≠ 0) : romanIn n = n / 1000 + rtail (n % 1000) := by
  unfold romanIn rtail
  rw [if_neg h]
  have e1 : n % 1000 / 100 % 10 = n / 100 % 10 := by omega
  have e2 : n % 1000 / 10 % 10 = n / 10 % 10 := by omega
  have e3 : n % 1000 % 10 = n % 10 := by omega
  rw [e1, e2, e3]
theorem romanDigit_get {d : Nat} (h : d < 10) : ([0, 1, 2, 3, 2, 1, 2, 3, 4, 2] : List Nat)[d]? = some (romanDigit d) := by
  match d, h with
  | 0, _ => rfl
  | 1, _ => rfl
  | 2, _ => rfl
  | 3, _ => rfl
  | 4, _ => rfl
  | 5, _ => rfl
  | 6, _ => rfl
  | 7, _ => rfl
  | 8, _ => rfl
  | 9, _ => rfl
  | d + 10, h => omega
def markIx (ws : List Word) (k : Nat) : Option Nat := ws.findIdx? fun w => w.mark == k
theorem pageOf_eq (b : Book) (s : Setting) (k : Nat) : pageOf b s k = match markIx b.words k with
  | some i => s.getD i 0
  | none => 0 := rfl
theorem markIx_snoc (ws : List Word) (w : Word) (k : Nat) : markIx (ws ++ [w]) k = match markIx ws k with
  | some i => some i
  | none => if w.mark == k then some ws.length else none := by
  unfold markIx
  rw [List.findIdx?_append]
  cases e : List.findIdx? (fun w => w.mark == k) ws with
  | some i => simp
  | none =>
    simp only [Option.none_or]
    rw [List.findIdx?_cons]
    by_cases h : (w.mark == k) = true
    · simp [h]
    · simp [h]
theorem markIx_some {ws : List Word} {k i : Nat} (h : markIx ws k = some i) : ∃ w, ws[i]? = some w ∧ w.mark = k := by
  unfold markIx at h
  rw [List.findIdx?_eq_some_iff_getElem] at h
  obtain ⟨hl, h1, _⟩ := h
  exact ⟨ws[i], by simp [hl], beq_iff_eq.mp h1⟩
theorem markIx_lt {ws : List Word} {k i : Nat} (h : markIx ws k = some i) : i < ws.length := by
  obtain ⟨w, e, _⟩ := markIx_some h
  exact (List.getElem?_eq_some_iff.mp e).1
theorem markIx_none {ws : List Word} {k : Nat} : markIx ws k = none ↔ (ws.any fun w => w.mark == k) = false := by
  unfold markIx
  rw [List.findIdx?_eq_none_iff, List.any_eq_false]
  constructor
  · intro h x hx; rw [h x hx]; exact Bool.false_ne_true
  · intro h x hx; exact Bool.eq_false_iff.mpr (h x hx)
theorem eraseDups_len {A : Type} [BEq A] [LawfulBEq A] : ∀ (n : Nat) (l : List A), l.length ≤ n → l.eraseDups.length ≤ l.length ∧ (l.eraseDups.length = l.length ↔ l.Nodup)
  | _, [], _ => by simp
  | 0, a :: l, h => by simp at h
  | n + 1, a :: l, h => by
    have hl : l.length ≤ n := by simpa using h
    rw [List.eraseDups_cons]
    have h1 : (l.filter fun b => !b == a).length ≤ l.length := List.length_filter_le _ _
    obtain ⟨h2, h3⟩ := eraseDups_len n (l.filter fun b => !b == a) (by omega)
    rw [List.length_cons, List.length_cons, List.nodup_cons]
    refine ⟨by omega, fun e => ?_, fun e => ?_⟩
    · have e1 : (l.filter fun b => !b == a).length = l.length := by omega
      have e2 : l.filter (fun b => !b == a) = l := List.filter_eq_self.mpr fun x hx => by
        have := List.length_filter_eq_length_iff.mp e1 x hx
        exact this
      rw [e2] at h3
      refine ⟨fun m => ?_, h3.mp (by rw [e2] at e; omega)⟩
      have := List.length_filter_eq_length_iff.mp e1 a m
      simp at this
    · have e2 : l.filter (fun b => !b == a) = l := List.filter_eq_self.mpr fun x hx => by
        have : x ≠ a := fun q => e.1 (q ▸ hx)
        simp [this]
      rw [e2] at h3 ⊢
      rw [h3.mpr e.2]
theorem eraseDups_nodup {A : Type} [BEq A] [LawfulBEq A] (l : List A) : (l.eraseDups.length == l.length) = true ↔ l.Nodup := by
  rw [beq_iff_eq]
  exact (eraseDups_len l.length l (Nat.le_refl _)).2
def met (acc : List Int) (x : Int) : List Int := if acc.any (· == x) = true then acc else acc ++ [x]
theorem met_len : ∀ (l acc : List Int), acc.Nodup → (l.foldl met acc).length ≤ acc.length + l.length ∧ ((l.foldl met acc).length = acc.length + l.length ↔ (acc ++ l).Nodup)
  | [], acc, h => by simp [h]
  | x :: l, acc, h => by
    rw [List.foldl_cons]
    by_cases hx : acc.any (· == x) = true
    · have e : met acc x = acc := by unfold met; rw [if_pos hx]
      rw [e]
      obtain ⟨h1, _⟩ := met_len l acc h
      rw [List.length_cons]
      refine ⟨by omega, fun q => by omega, fun q => ?_⟩
      obtain ⟨y, hy, ey⟩ := List.any_eq_true.mp hx
      have ey : y = x := beq_iff_eq.mp ey
      subst ey
      have := (List.nodup_append.mp q).2.2 y hy y List.mem_cons_self
      exact absurd rfl this
    · have e : met acc x = acc ++ [x] := by unfold met; rw [if_neg hx]
      have hx' : x ∉ acc := fun m => hx (List.any_eq_true.mpr ⟨x, m, beq_self_eq_true x⟩)
      have hn : (acc ++ [x]).Nodup := by
        rw [List.nodup_append]
        refine ⟨h, by simp, fun a ha b hb => ?_⟩
        rw [List.mem_singleton] at hb
        subst hb
        exact fun q => hx' (q ▸ ha)
      rw [e]
      obtain ⟨h1, h2⟩ := met_len l (acc ++ [x]) hn
      rw [List.length_append, List.length_singleton] at h1 h2
      rw [List.length_cons, show acc ++ x :: l = acc ++ [x] ++ l by simp]
      refine ⟨by omega, ?_⟩
      rw [← h2]
      omega
theorem met_lt {l : List Int} : decide ((l.foldl met []).length < l.length) = !decide l.Nodup := by
  obtain ⟨h1, h2⟩ := met_len l [] List.nodup_nil
  simp only [List.length_nil, Nat.zero_add, List.nil_append] at h1 h2
  by_cases h : l.Nodup
  · rw [decide_eq_true h, decide_eq_false (by have := h2.mpr h; omega)]; rfl
  · have h3 : ¬ (l.foldl met []).length = l.length := fun q => h (h2.mp q)
    rw [decide_eq_false h, decide_eq_true (show (l.foldl met []).length < l.length by omega)]; rfl
theorem nodup_ints {l : List Nat} : (l.map fun (n : Nat) => (n : Int)).Nodup ↔ l.Nodup := by
  induction l with
  | nil => simp
  | cons a l ih =>
    rw [List.map_cons, List.nodup_cons, List.nodup_cons, ih]
    have : ((a : Int) ∈ l.map fun (n : Nat) => (n : Int)) ↔ a ∈ l := by
      rw [List.mem_map]
      constructor
      · rintro ⟨x, hx, e⟩
        have : x = a := by omega
        exact this ▸ hx
      · intro h; exact ⟨a, h, rfl⟩
    rw [this]
def encC : List (List Int) → List Int
  | [p :: ns] => p :: (ns.length : Int) :: (ns ++ [0])
  | _ => []
theorem rows_len : ∀ {k : Nat} {r : List Int} {xs : List (List Int)} {t : List Int}, PyFlat.rows k r = some (xs, t) → xs.length = k ∧ (k = 0 → t = r)
  | 0, r, xs, t, h => by
    have h : some (([] : List (List Int)), r) = some (xs, t) := h
    cases h
    exact ⟨rfl, fun _ => rfl⟩
  | k + 1, r, xs, t, h => by
    unfold PyFlat.rows at h
    split at h
    · cases h
    · next x s e =>
      split at h
      · cases h
      · next ys u e2 =>
        cases h
        obtain ⟨h1, _⟩ := rows_len e2
        exact ⟨by rw [List.length_cons, h1], fun q => by omega⟩
theorem wide_call (p : Int) (r : List Int) : PyWide.call (p :: r) = match PyFlat.row r with
    | none => none
    | some (_, []) => none
    | some (ns, k :: t) => if 0 ≤ k then (match PyFlat.rows k.toNat t with
      | none => none
      | some (xs, u) => some ((p :: ns) :: xs, u)) else none := rfl
theorem call_enc {l : List Int} {c : List (List Int)} {t : List Int} (h : PyWide.call l = some (c, t)) (hc : c.length = 1) : l = encC c ++ t ∧ ∃ p ns, c = [p :: ns] := by
  cases l with
  | nil => cases h
  | cons p r =>
    rw [wide_call] at h
    cases e : PyFlat.row r with
    | none => rw [e] at h; cases h
    | some x =>
      obtain ⟨ns, y⟩ := x
      cases y with
      | nil => rw [e] at h; cases h
      | cons k u =>
        rw [e] at h
        simp only at h
        by_cases hk : 0 ≤ k
        · rw [if_pos hk] at h
          cases e2 : PyFlat.rows k.toNat u with
          | none => rw [e2] at h; cases h
          | some z =>
            obtain ⟨xs, v⟩ := z
            rw [e2] at h
            cases h
            rw [List.length_cons] at hc
            obtain ⟨h1, h2⟩ := rows_len e2
            have hk0 : k.toNat = 0 := by omega
            have hv : t = u := h2 hk0
            subst hv
            have hkz : k = 0 := by omega
            subst hkz
            have hxs : xs = [] := List.eq_nil_of_length_eq_zero (by omega)
            subst hxs
            refine ⟨?_, p, ns, rfl⟩
            cases r with
            | nil => cases e
            | cons n r' =>
              have e : (if 0 ≤ n ∧ n.toNat ≤ r'.length then some (r'.take n.toNat, r'.drop n.toNat) else none) = some (ns, 0 :: _) := e
              by_cases hn : 0 ≤ n ∧ n.toNat ≤ r'.length
              · rw [if_pos hn] at e
                have e := Option.some.inj e
                have e3 : r'.take n.toNat = ns := congrArg Prod.fst e
                have e4 : r'.drop n.toNat = 0 :: t := congrArg Prod.snd e
                have e5 : r' = ns ++ 0 :: t := by rw [← e3, ← e4, List.take_append_drop]
                have e6 : ns.length = n.toNat := by rw [← e3, List.length_take]; omega
                show p :: n :: r' = p :: (ns.length : Int) :: (ns ++ [0]) ++ t
                rw [e5, e6, show ((n.toNat : Nat) : Int) = n by omega]
                simp
              · rw [if_neg hn] at e; cases e
        · rw [if_neg hk] at h; cases h
theorem calls_enc : ∀ {f : Nat} {l : List Int} {cs : List (List (List Int))}, PyWide.calls f l = some cs → (∀ c ∈ cs, c.length = 1) → l = cs.flatMap encC ∧ ∀ c ∈ cs, ∃ p ns, c = [p :: ns]
  | f, [], cs, h, _ => by
    have h : some ([] : List (List (List Int))) = some cs := by
      cases f <;> exact h
    cases h
    exact ⟨rfl, fun c hc => absurd hc (by simp)⟩
  | 0, _ :: _, cs, h, _ => by cases h
  | f + 1, p :: r, cs, h, hc => by
    unfold PyWide.calls at h
    split at h
    · cases h
    · next c t e =>
      split at h
      · cases h
      · next ds e2 =>
        cases h
        obtain ⟨h1, h2⟩ := call_enc e (hc c List.mem_cons_self)
        obtain ⟨h3, h4⟩ := calls_enc e2 fun d hd => hc d (List.mem_cons_of_mem _ hd)
        refine ⟨by rw [List.flatMap_cons, ← h3]; exact h1, fun d hd => ?_⟩
        rcases List.mem_cons.mp hd with q | q
        · rw [q]; exact h2
        · exact h4 d q
structure Wf (b : Book) : Prop where
  fr : frameOk b.frame = true
  ne : ∀ p ∈ b.paras, p.words ≠ []
  wo : ∀ w ∈ b.words, wordOk w = true
  nd : ((b.words.map fun w => w.mark).filter fun k => k != 0).Nodup
  len : b.words.length ≤ 200
theorem wf_init : Wf init := ⟨by decide, fun p h => absurd h (by simp [init]), fun w h => absurd h (by simp [init, Book.words]), by simp [init, Book.words], by simp [init, Book.words]⟩
theorem words_add (b : Book) (p : Para) : ({ b with paras := b.paras ++ [p] } : Book).words = b.words ++ p.words := by
  unfold Book.words
  rw [List.flatMap_append]
  simp
theorem wf_begins {f : Frame} (h : frameOk f = true) : Wf ⟨f, []⟩ := ⟨h, fun p h => absurd h (by simp), fun w h => absurd h (by simp [Book.words]), by simp [Book.words], by simp [Book.words]⟩
theorem marks_ok {b : Book} {p : Para} : marksOk b p = true ↔ ((p.words.map fun w => w.mark).filter fun k => k != 0).Nodup ∧ ∀ k ∈ (p.words.map fun w => w.mark).filter (fun k => k != 0), markIx b.words k = none := by
  unfold marksOk
  simp only [Bool.and_eq_true, eraseDups_nodup, List.all_eq_true]
  constructor
  · rintro ⟨h1, h2⟩
    refine ⟨h1, fun k hk => markIx_none.mpr ?_⟩
    have := h2 k hk
    simpa using this
  · rintro ⟨h1, h2⟩
    refine ⟨h1, fun k hk => ?_⟩
    have := markIx_none.mp (h2 k hk)
    simp [this]
theorem wf_para {b : Book} {p : Para} (h : Wf b) (h1 : p.words ≠ []) (h2 : ∀ w ∈ p.words, wordOk w = true) (h3 : marksOk b p = true) (h4 : b.words.length + p.words.length ≤ 200) : Wf { b with paras := b.paras ++ [p] } := by
  refine ⟨h.fr, fun q hq => ?_, fun w hw => ?_, ?_, ?_⟩
  · rcases List.mem_append.mp hq with z | z
    · exact h.ne q z
    · rw [List.mem_singleton.mp z]; exact h1
  · rw [words_add] at hw
    rcases List.mem_append.mp hw with z | z
    · exact h.wo w z
    · exact h2 w z
  · rw [words_add, List.map_append, List.filter_append, List.nodup_append]
    obtain ⟨m1, m2⟩ := marks_ok.mp h3
    refine ⟨h.nd, m1, fun a ha c hc e => ?_⟩
    subst e
    have := markIx_none.mp (m2 a hc)
    rw [List.any_eq_false] at this
    obtain ⟨ha1, _⟩ := List.mem_filter.mp ha
    obtain ⟨w, hw, ew⟩ := List.mem_map.mp ha1
    exact this w hw (beq_iff_eq.mpr ew)
  · rw [words_add, List.length_append]; exact h4
theorem step_begins (b : Book) (f : Frame) : step b (.begins f) = if frameOk f = false then (b, ok (-1)) else (⟨f, []⟩, ok 0) := rfl
theorem step_para (b : Book) (p : Para) : step b (.para p) = if (decide (1 ≤ p.words.length) && p.words.all wordOk) = false then (b, ok (-1)) else if marksOk b p = false then (b, ok (-3)) else if WORDS < b.words.length + p.words.length then (b, ok (-5)) else ({ b with paras := b.paras ++ [p] }, ok ((b.words.length + p.words.length : Nat) : Int)) := rfl
theorem wf_step {b : Book} (h : Wf b) (c : Call) : Wf (step b c).1 := by
  cases c with
  | begins f =>
    rw [step_begins]
    by_cases q : frameOk f = false
    · rw [if_pos q]; exact h
    · rw [if_neg q]; exact wf_begins (by simpa using q)
  | para p =>
    rw [step_para]
    by_cases q : (decide (1 ≤ p.words.length) && p.words.all wordOk) = false
    · rw [if_pos q]; exact h
    · rw [if_neg q]
      by_cases q2 : marksOk b p = false
      · rw [if_pos q2]; exact h
      · rw [if_neg q2]
        by_cases q3 : WORDS < b.words.length + p.words.length
        · rw [if_pos q3]; exact h
        · rw [if_neg q3]
          have q' : (decide (1 ≤ p.words.length) && p.words.all wordOk) = true := (Bool.not_eq_false _).mp q
          rw [Bool.and_eq_true, decide_eq_true_eq, List.all_eq_true] at q'
          exact wf_para h (List.length_pos_iff.mp q'.1) q'.2 ((Bool.not_eq_false _).mp q2) (by unfold WORDS at q3; omega)
  | pass n => exact h
  | settles => exact h
  | lines n => exact h
  | shown n => exact h
  | trues => exact h
  | open_ => exact h
theorem flags_add (ps : List Para) (p : Para) : flags (ps ++ [p]) = flags ps ++ (some p.page :: List.replicate (p.words.length - 1) none) := by
  unfold flags
  rw [List.flatMap_append]
  simp
end Tr

namespace Tr
open Si37
def farLen (f : Frame) (own mk : Nat) : Nat := if own = 0 then 1 else if mk = own then f.here else if mk = own + 1 then f.next else f.far + digitsIn mk
def refLen (f : Frame) (kd own mk : Nat) : Nat := if mk = 0 then 1 else if kd = 1 then digitsIn mk else if kd = 2 then romanIn mk else farLen f own mk
def kindOf : What → Nat
  | .plain _ => 0
  | .digits _ => 1
  | .roman _ => 2
  | .near _ => 3
def toldOf : What → Nat
  | .plain n => n
  | .digits k => k
  | .roman k => k
  | .near k => k
theorem long_plain {b : Book} {s : Setting} {i : Nat} {w : Word} (h : kindOf w.what = 0) : long b s i w = toldOf w.what := by
  unfold long
  cases e : w.what <;> rw [e] at h <;> first | rfl | cases h
theorem refLen_1 (f : Frame) (own mk : Nat) : refLen f 1 own mk = if mk = 0 then 1 else digitsIn mk := rfl
theorem refLen_2 (f : Frame) (own mk : Nat) : refLen f 2 own mk = if mk = 0 then 1 else romanIn mk := rfl
theorem refLen_3 (f : Frame) (own mk : Nat) : refLen f 3 own mk = if mk = 0 then 1 else farLen f own mk := rfl
theorem long_d {b : Book} {s : Setting} {i k m : Nat} : long b s i ⟨.digits k, m⟩ = digitsIn (pageOf b s k) := rfl
theorem long_r {b : Book} {s : Setting} {i k m : Nat} : long b s i ⟨.roman k, m⟩ = romanIn (pageOf b s k) := rfl
theorem long_n {b : Book} {s : Setting} {i k m : Nat} : long b s i ⟨.near k, m⟩ = if pageOf b s k = 0 ∨ s.getD i 0 = 0 then 1 else if pageOf b s k = s.getD i 0 then b.frame.here else if pageOf b s k = s.getD i 0 + 1 then b.frame.next else b.frame.far + digitsIn (pageOf b s k) := rfl
theorem long_ref {b : Book} {s : Setting} {i : Nat} {w : Word} (h : kindOf w.what ≠ 0) : long b s i w = refLen b.frame (kindOf w.what) (s.getD i 0) (pageOf b s (toldOf w.what)) := by
  obtain ⟨wt, m⟩ := w
  cases wt with
  | plain n => exact absurd rfl h
  | digits k =>
    show _ = refLen b.frame 1 (s.getD i 0) (pageOf b s k)
    rw [long_d, refLen_1]
    by_cases hp : pageOf b s k = 0
    · rw [if_pos hp, hp]; rfl
    · rw [if_neg hp]
  | roman k =>
    show _ = refLen b.frame 2 (s.getD i 0) (pageOf b s k)
    rw [long_r, refLen_2]
    by_cases hp : pageOf b s k = 0
    · rw [if_pos hp, hp]; rfl
    · rw [if_neg hp]
  | near k =>
    show _ = refLen b.frame 3 (s.getD i 0) (pageOf b s k)
    rw [long_n, refLen_3]
    unfold farLen
    by_cases hp : pageOf b s k = 0
    · rw [if_pos (Or.inl hp), if_pos hp]
    · by_cases hq : s.getD i 0 = 0
      · rw [if_pos (Or.inr hq), if_neg hp, if_pos hq]
      · rw [if_neg (show ¬ (pageOf b s k = 0 ∨ s.getD i 0 = 0) from fun z => z.elim hp hq), if_neg hp, if_neg hq]
def Bd (s : List Nat) : Prop := ∀ n ∈ s, n < 1000000
theorem upTo_le (high l : Nat) : upTo high l ≤ l + high := by
  unfold upTo
  have h := Nat.div_mul_le_self (l + high - 1) high
  omega
theorem flat_le (f : Frame) : ∀ (xs : List (Option Bool × Nat)) (l c : Nat), ∀ x ∈ flatFrom f l c xs, x ≤ l + xs.length * (f.high + 1)
  | [], l, c, x, h => by simp [flat_nil] at h
  | (some pg, n) :: r, l, c, x, h => by
    rw [flat_some] at h
    have hx : (if pg = true then upTo f.high l else l) ≤ l + f.high := by
      split
      · exact upTo_le _ _
      · omega
    generalize (if pg = true then upTo f.high l else l) = x0 at h hx
    rw [List.length_cons, Nat.add_mul, Nat.one_mul]
    rcases List.mem_cons.mp h with e | e
    · omega
    · have := flat_le f r _ _ x e
      omega
  | (none, n) :: r, l, c, x, h => by
    rw [flat_none] at h
    rw [List.length_cons, Nat.add_mul, Nat.one_mul]
    by_cases q : c + 1 + n ≤ f.wide
    · rw [if_pos q] at h
      rcases List.mem_cons.mp h with e | e
      · omega
      · have := flat_le f r _ _ x e
        omega
    · rw [if_neg q] at h
      rcases List.mem_cons.mp h with e | e
      · omega
      · have := flat_le f r _ _ x e
        omega
structure FOk (f : Frame) : Prop where
  w1 : 1 ≤ f.wide
  w2 : f.wide ≤ 200
  h1 : 1 ≤ f.high
  h2 : f.high ≤ 100
  p1 : 1 ≤ f.first
  p2 : f.first ≤ 3000
  a1 : 1 ≤ f.here
  a2 : f.here ≤ 50
  n1 : 1 ≤ f.next
  n2 : f.next ≤ 50
  b2 : f.far ≤ 50
theorem frame_ok {f : Frame} : frameOk f = true ↔ FOk f := by
  unfold frameOk
  simp only [Bool.and_eq_true, decide_eq_true_eq]
  constructor
  · rintro ⟨h1, h2, h3, h4, h5, h6, h7, h8, h9, h10, h11⟩
    exact ⟨h1, h2, h3, h4, h5, h6, h7, h8, h9, h10, h11⟩
  · rintro ⟨h1, h2, h3, h4, h5, h6, h7, h8, h9, h10, h11⟩
    exact ⟨h1, h2, h3, h4, h5, h6, h7, h8, h9, h10, h11⟩
theorem lines_le {b : Book} (h : Wf b) (s : Setting) : ∀ l ∈ lines b s, l ≤ 20200 := by
  intro l hl
  rw [lines_flat h.ne] at hl
  have h1 := flat_le b.frame _ 0 0 l hl
  have h2 : ((flags b.paras).zip (longs b s)).length ≤ 200 := by
    rw [List.length_zip, longs_length]
    have := h.len
    omega
  have h3 := (frame_ok.mp h.fr).h2
  have h4 : ((flags b.paras).zip (longs b s)).length * (b.frame.high + 1) ≤ 200 * 101 := Nat.mul_le_mul h2 (by omega)
  omega
theorem pass_bd {b : Book} (h : Wf b) (s : Setting) : Bd (pass b s) := by
  intro n hn
  unfold pass at hn
  obtain ⟨l, hl, rfl⟩ := List.mem_map.mp hn
  have h1 := lines_le h s l hl
  have h2 := (frame_ok.mp h.fr).p2
  have h3 : l / b.frame.high ≤ l := Nat.div_le_self _ _
  omega
theorem passes_bd {b : Book} (h : Wf b) : ∀ n, Bd (passes b n)
  | 0 => fun n hn => by
    have hn : n ∈ List.replicate b.words.length 0 := hn
    rw [List.mem_replicate] at hn
    omega
  | n + 1 => pass_bd h _
theorem flags_head {ps : List Para} {o : Option Bool} (h : (flags ps)[0]? = some o) : ∃ pg, o = some pg := by
  cases ps with
  | nil => simp [flags] at h
  | cons p r =>
    unfold flags at h
    rw [List.flatMap_cons, List.cons_append] at h
    exact ⟨p.page, (Option.some.inj h).symm⟩
theorem pageOf_bd {b : Book} {s : Setting} (h : Bd s) (k : Nat) : pageOf b s k < 1000000 := by
  rw [pageOf_eq]
  cases markIx b.words k with
  | none => exact (by decide : 0 < 1000000)
  | some i =>
    show s.getD i 0 < _
    rw [List.getD_eq_getElem?_getD]
    cases e : s[i]? with
    | none => exact (by decide : 0 < 1000000)
    | some n => exact h n (List.mem_of_getElem? e)
theorem getD_of {s : List Nat} {i n : Nat} (h : s[i]? = some n) : s.getD i 0 = n := by
  rw [List.getD_eq_getElem?_getD, h]; rfl
theorem map_take {A B : Type} {f : A → B} (l : List A) (i : Nat) : (l.take i).map f = (l.map f).take i := List.map_take
end Tr

namespace Tr
open Si37
def encW (ws : List Word) : List Nat := ws.flatMap fun w => [kindOf w.what, toldOf w.what, w.mark]
theorem whatOf_enc {k n : Nat} {x : What} (h : Si37Neutral.whatOf k n = some x) : k = kindOf x ∧ n = toldOf x := by
  unfold Si37Neutral.whatOf at h
  by_cases h0 : k = 0
  · rw [if_pos h0] at h; cases h; exact ⟨h0, rfl⟩
  · rw [if_neg h0] at h
    by_cases h1 : k = 1
    · rw [if_pos h1] at h; cases h; exact ⟨h1, rfl⟩
    · rw [if_neg h1] at h
      by_cases h2 : k = 2
      · rw [if_pos h2] at h; cases h; exact ⟨h2, rfl⟩
      · rw [if_neg h2] at h
        by_cases h3 : k = 3
        · rw [if_pos h3] at h; cases h; exact ⟨h3, rfl⟩
        · rw [if_neg h3] at h; cases h
theorem wordsOf_enc : ∀ {f : Nat} {r : List Nat} {ws : List Word}, Si37Neutral.wordsOf f r = some ws → r = encW ws ∧ ws.length ≤ f
  | f, [], ws, h => by
    have h : some ([] : List Word) = some ws := by
      cases f <;> exact h
    cases h
    exact ⟨rfl, Nat.zero_le _⟩
  | 0, [_], ws, h => absurd (show (none : Option (List Word)) = some ws from h) (by simp)
  | 0, [_, _], ws, h => absurd (show (none : Option (List Word)) = some ws from h) (by simp)
  | 0, _ :: _ :: _ :: _, ws, h => absurd (show (none : Option (List Word)) = some ws from h) (by simp)
  | f + 1, [_], ws, h => absurd (show (none : Option (List Word)) = some ws from h) (by simp)
  | f + 1, [_, _], ws, h => absurd (show (none : Option (List Word)) = some ws from h) (by simp)
  | f + 1, k :: n :: m :: r, ws, h => by
    have h : ((Si37Neutral.whatOf k n).bind fun w => (Si37Neutral.wordsOf f r).map fun l => (⟨w, m⟩ : Word) :: l) = some ws := h
    cases e1 : Si37Neutral.whatOf k n with
    | none => rw [e1] at h; cases h
    | some x =>
      cases e2 : Si37Neutral.wordsOf f r with
      | none => rw [e1, e2] at h; cases h
      | some l =>
        rw [e1, e2] at h
        cases h
        obtain ⟨h1, h2⟩ := whatOf_enc e1
        obtain ⟨h3, h4⟩ := wordsOf_enc e2
        refine ⟨?_, by rw [List.length_cons]; omega⟩
        show k :: n :: m :: r = [kindOf x, toldOf x, m] ++ encW l
        rw [h1, h2, h3]
        rfl
theorem encW_length (ws : List Word) : (encW ws).length = 3 * ws.length := by
  induction ws with
  | nil => rfl
  | cons w r ih =>
    show ([kindOf w.what, toldOf w.what, w.mark] ++ encW r).length = _
    rw [List.length_append, ih, List.length_cons]
    simp
    omega
theorem encW_get {ws : List Word} {i : Nat} {w : Word} (h : ws[i]? = some w) : (encW ws)[3 * i]? = some (kindOf w.what) ∧ (encW ws)[3 * i + 1]? = some (toldOf w.what) ∧ (encW ws)[3 * i + 2]? = some w.mark := by
  induction ws generalizing i with
  | nil => simp at h
  | cons x r ih =>
    have e : encW (x :: r) = kindOf x.what :: toldOf x.what :: x.mark :: encW r := rfl
    rw [e]
    cases i with
    | zero =>
      have h : x = w := by simpa using h
      subst h
      exact ⟨rfl, rfl, rfl⟩
    | succ i =>
      have h' : r[i]? = some w := by simpa using h
      obtain ⟨h1, h2, h3⟩ := ih h'
      have e1 : 3 * (i + 1) = 3 * i + 1 + 1 + 1 := by omega
      rw [e1]
      refine ⟨by simpa using h1, ?_, ?_⟩
      · rw [show 3 * i + 1 + 1 + 1 + 1 = (3 * i + 1) + 1 + 1 + 1 by omega]; simpa using h2
      · rw [show 3 * i + 1 + 1 + 1 + 2 = (3 * i + 2) + 1 + 1 + 1 by omega]; simpa using h3
def numsOf : Call → List Nat
  | .begins f => [f.wide, f.high, f.first, f.here, f.next, f.far]
  | .para p => (if p.page = true then 1 else 0) :: encW p.words
  | .pass n => [n]
  | .settles => []
  | .lines n => [n]
  | .shown n => [n]
  | .trues => []
  | .open_ => []
def numOf : Call → Nat
  | .begins _ => 0
  | .para _ => 1
  | .pass _ => 2
  | .settles => 3
  | .lines _ => 4
  | .shown _ => 5
  | .trues => 6
  | .open_ => 7
def fewW : Call → Prop
  | .para p => p.words.length ≤ 250
  | _ => True
theorem callOf_enc {l : List Int} {c : Call} (h : Si37Neutral.callOf l = some c) : l.map Int.toNat = numOf c :: numsOf c ∧ fewW c := by
  unfold Si37Neutral.callOf at h
  split at h
  · next e => cases h; exact ⟨e, trivial⟩
  · next p r e =>
    by_cases hp : p ≤ 1
    · rw [if_pos hp] at h
      cases e2 : Si37Neutral.wordsOf 250 r with
      | none => rw [e2] at h; cases h
      | some ws =>
        rw [e2] at h
        cases h
        obtain ⟨h1, h2⟩ := wordsOf_enc e2
        refine ⟨?_, h2⟩
        rw [e, h1]
        show 1 :: p :: encW ws = 1 :: (if (p == 1) = true then 1 else 0) :: encW ws
        have : p = 0 ∨ p = 1 := by omega
        rcases this with q | q <;> subst q <;> rfl
    · rw [if_neg hp] at h; cases h
  · next e => cases h; exact ⟨e, trivial⟩
  · next e => cases h; exact ⟨e, trivial⟩
  · next e => cases h; exact ⟨e, trivial⟩
  · next e => cases h; exact ⟨e, trivial⟩
  · next e => cases h; exact ⟨e, trivial⟩
  · next e => cases h; exact ⟨e, trivial⟩
  · cases h
theorem ints_of {l : List Int} {m : List Nat} (h : l.map Int.toNat = m) (hn : ∀ z ∈ l, 0 ≤ z) : l = m.map fun (n : Nat) => (n : Int) := by
  subst h
  rw [List.map_map]
  induction l with
  | nil => rfl
  | cons a r ih =>
    rw [List.map_cons, ← ih fun z hz => hn z (List.mem_cons_of_mem _ hz)]
    congr 1
    have := hn a List.mem_cons_self
    show a = ((a.toNat : Nat) : Int)
    omega
def encQ (c : Call) : List Nat := numOf c :: (numsOf c).length :: (numsOf c ++ [0])
def toldQ : Book → List Call → List Int
  | _, [] => []
  | b, q :: r => (((step b q).2.l.length + 1 : Nat) : Int) :: (step b q).2.v :: ((step b q).2.l ++ toldQ (step b q).1 r)
def isTrues : Call → Bool
  | .trues => true
  | _ => false
theorem asked_one {c : List (List Int)} (h : Si37Neutral.asked1 c = true) : ∃ q, encC c = (encQ q).map (fun (n : Nat) => (n : Int)) ∧ fewW q ∧ ∀ b, Si37Neutral.step b c = ((step b q).1, (step b q).2.v :: (step b q).2.l) := by
  unfold Si37Neutral.asked1 at h
  rw [Bool.and_eq_true, Bool.and_eq_true, List.all_eq_true, beq_iff_eq] at h
  obtain ⟨h1, h2, h3⟩ := h
  obtain ⟨x, rfl⟩ : ∃ x, c = [x] := by
    match c, h1 with
    | [x], _ => exact ⟨x, rfl⟩
  cases e : Si37Neutral.callOf x with
  | none =>
    have h3 : (Si37Neutral.callOf x).isSome = true := h3
    rw [e] at h3; cases h3
  | some q =>
    obtain ⟨h4, h5⟩ := callOf_enc e
    have hn : ∀ z ∈ x, 0 ≤ z := fun z hz => by
      have := h2 z hz
      unfold Si37Neutral.natural at this
      rw [Bool.and_eq_true, decide_eq_true_eq] at this
      exact this.1
    have h6 := ints_of h4 hn
    refine ⟨q, ?_, h5, fun b => ?_⟩
    · rw [h6]
      show (numOf q : Int) :: (((numsOf q).map fun (n : Nat) => (n : Int)).length : Int) :: ((numsOf q).map (fun (n : Nat) => (n : Int)) ++ [0]) = _
      unfold encQ
      rw [List.map_cons, List.map_cons, List.map_append, List.length_map]
      rfl
    · show (match Si37Neutral.callOf x with
        | none => (b, [])
        | some q => ((step b q).1, (step b q).2.v :: (step b q).2.l)) = _
      rw [e]
theorem asked_all : ∀ (cs : List (List (List Int))) (b : Book) (n : Nat), (∀ c ∈ cs, Si37Neutral.asked1 c = true) → Si37Neutral.short b n cs = true →
    ∃ qs, cs.flatMap encC = (qs.flatMap encQ).map (fun (n : Nat) => (n : Int)) ∧ (∀ q ∈ qs, fewW q) ∧ qs.length = cs.length ∧ PyFlat.told (PyFlat.played Si37Neutral.step b cs) = toldQ b qs ∧ (toldQ b qs).length ≤ n + cs.length
  | [], b, n, _, _ => ⟨[], rfl, fun q h => absurd h (by simp), rfl, rfl, Nat.zero_le _⟩
  | c :: r, b, n, h, hs => by
    obtain ⟨q, h1, h2, h3⟩ := asked_one (h c List.mem_cons_self)
    have hs : (decide ((Si37Neutral.step b c).2.length ≤ n) && Si37Neutral.short (Si37Neutral.step b c).1 (n - (Si37Neutral.step b c).2.length) r) = true := hs
    rw [Bool.and_eq_true, decide_eq_true_eq, h3] at hs
    obtain ⟨hs1, hs2⟩ := hs
    obtain ⟨qs, h4, h5, h6, h7, h8⟩ := asked_all r (step b q).1 _ (fun d hd => h d (List.mem_cons_of_mem _ hd)) hs2
    refine ⟨q :: qs, ?_, fun x hx => ?_, by rw [List.length_cons, List.length_cons, h6], ?_, ?_⟩
    · rw [List.flatMap_cons, List.flatMap_cons, List.map_append, h1, h4]
    · rcases List.mem_cons.mp hx with e | e
      · rw [e]; exact h2
      · exact h5 x e
    · show PyFlat.told ((Si37Neutral.step b c).2 :: PyFlat.played Si37Neutral.step (Si37Neutral.step b c).1 r) = _
      rw [h3]
      unfold PyFlat.told at h7 ⊢
      rw [List.flatMap_cons, h7]
      rfl
    · have hs1 : (step b q).2.l.length + 1 ≤ n := hs1
      have h8 : (toldQ (step b q).1 qs).length ≤ n - ((step b q).2.l.length + 1) + r.length := h8
      show ((step b q).2.l ++ toldQ (step b q).1 qs).length + 1 + 1 ≤ _
      rw [List.length_append, List.length_cons]
      omega
theorem asked_line {l : List Int} (h : PySi37.answers_asked l = true) : ∃ qs : List Call, l = (qs.flatMap encQ).map (fun (n : Nat) => (n : Int)) ∧ (∀ q ∈ qs, fewW q) ∧ qs.length ≤ 60 ∧ PySi37.answers l = toldQ init qs ∧ (toldQ init qs).length ≤ 1000059 := by
  unfold PySi37.answers_asked at h
  unfold PySi37.answers
  cases e : PySi37.calls l with
  | none => rw [e] at h; cases h
  | some cs =>
    rw [e] at h
    simp only [Bool.and_eq_true] at h
    obtain ⟨h1, h2⟩ := h
    unfold PyFlat.atMost at h1
    rw [decide_eq_true_eq] at h1
    unfold Si37Neutral.asked at h2
    simp only [Bool.and_eq_true, List.all_eq_true] at h2
    obtain ⟨h3, _, _, _, h4⟩ := h2
    have h5 : ∀ c ∈ cs, c.length = 1 := fun c hc => by
      have := h3 c hc
      unfold Si37Neutral.asked1 at this
      rw [Bool.and_eq_true, beq_iff_eq] at this
      exact this.1
    obtain ⟨h6, _⟩ := calls_enc e h5
    obtain ⟨qs, h7, h8, h9, h10, h11⟩ := asked_all cs Si37Neutral.start 999999 h3 h4
    refine ⟨qs, by rw [h6, h7], h8, by omega, h10, ?_⟩
    have : (toldQ init qs).length ≤ 999999 + cs.length := h11
    omega
end Tr

namespace Tr
open Si37
def tellsOf (b : Book) (k : Nat) : Bool := b.words.any fun w => decide (kindOf w.what ≠ 0) && toldOf w.what == k
def countsW (b : Book) (w : Word) : Bool := decide (kindOf w.what = 3) || (w.mark != 0 && tellsOf b w.mark)
theorem tells_fun (k : Nat) : (fun (w : Word) => match w.what with
    | .plain _ => false
    | .digits j => j == k
    | .roman j => j == k
    | .near j => j == k) = fun (w : Word) => decide (kindOf w.what ≠ 0) && toldOf w.what == k := by
  funext w
  cases h : w.what <;> simp [kindOf, toldOf]
theorem counts_eq (b : Book) : counts b = (b.words.zipIdx.filter fun x => countsW b x.1).map fun x => x.2 := by
  have e : (fun (x : Word × Nat) => (match x.1.what with
    | .near _ => true
    | _ => false) || (x.1.mark != 0 && b.words.any fun w => match w.what with
      | .plain _ => false
      | .digits k => k == x.1.mark
      | .roman k => k == x.1.mark
      | .near k => k == x.1.mark)) = fun x => countsW b x.1 := by
    funext x
    unfold countsW tellsOf
    rw [← tells_fun]
    congr 1
    cases h : x.1.what <;> simp [kindOf]
  unfold counts
  exact congrArg (fun g => (b.words.zipIdx.filter g).map fun x => x.2) e
theorem mem_counts {b : Book} {i : Nat} : i ∈ counts b ↔ ∃ w, b.words[i]? = some w ∧ countsW b w = true := by
  rw [counts_eq]
  simp only [List.mem_map, List.mem_filter]
  constructor
  · rintro ⟨x, ⟨h1, h2⟩, rfl⟩
    exact ⟨x.1, List.mem_zipIdx_iff_getElem?.1 h1, h2⟩
  · rintro ⟨w, h1, h2⟩
    exact ⟨(w, i), ⟨List.mem_zipIdx_iff_getElem?.2 h1, h2⟩, rfl⟩
theorem counts_up (b : Book) : (counts b).Pairwise (· < ·) := by
  rw [counts_eq]
  have h : ((b.words.zipIdx.filter fun x => countsW b x.1).map fun x => x.2).Sublist (b.words.zipIdx.map Prod.snd) := List.Sublist.map Prod.snd List.filter_sublist
  rw [List.zipIdx_map_snd] at h
  exact List.Pairwise.sublist h List.pairwise_lt_range'
theorem counts_nodup (b : Book) : (counts b).Nodup := (counts_up b).imp fun h => Nat.ne_of_lt h
theorem counts_lt {b : Book} {i : Nat} (h : i ∈ counts b) : i < b.words.length := by
  obtain ⟨w, h1, _⟩ := mem_counts.1 h
  exact (List.getElem?_eq_some_iff.1 h1).1
theorem told_pos {b : Book} (hw : Wf b) {w : Word} (h : w ∈ b.words) (hk : kindOf w.what ≠ 0) : toldOf w.what ≠ 0 := by
  have h2 := hw.wo w h
  unfold wordOk at h2
  cases e : w.what <;> simp [e, kindOf, toldOf, whatOk] at h2 hk ⊢ <;> omega
theorem pageOf_congr {b : Book} (hw : Wf b) {s t : Setting} (h : ∀ i ∈ counts b, s.getD i 0 = t.getD i 0) {w : Word} (hm : w ∈ b.words) (hk : kindOf w.what ≠ 0) : pageOf b s (toldOf w.what) = pageOf b t (toldOf w.what) := by
  rw [pageOf_eq, pageOf_eq]
  cases e : markIx b.words (toldOf w.what) with
  | none => rfl
  | some j =>
    refine h j (mem_counts.2 ?_)
    obtain ⟨v, h1, h2⟩ := markIx_some e
    refine ⟨v, h1, ?_⟩
    unfold countsW tellsOf
    rw [h2]
    have h0 := told_pos hw hm hk
    have : (b.words.any fun u => decide (kindOf u.what ≠ 0) && toldOf u.what == toldOf w.what) = true := List.any_eq_true.2 ⟨w, hm, by simp [hk]⟩
    rw [this]
    simp [h0]
theorem refLen_own {f : Frame} {kd o p m : Nat} (h : kd ≠ 0) (h3 : kd ≠ 3) (h4 : kd ≤ 3) : refLen f kd o m = refLen f kd p m := by
  unfold refLen
  by_cases h1 : kd = 1
  · rw [if_pos h1, if_pos h1]
  · have h2 : kd = 2 := by omega
    rw [if_neg h1, if_neg h1, if_pos h2, if_pos h2]
theorem kind_le (x : What) : kindOf x ≤ 3 := by cases x <;> simp [kindOf]
theorem long_congr {b : Book} (hw : Wf b) {s t : Setting} (h : ∀ i ∈ counts b, s.getD i 0 = t.getD i 0) {i : Nat} {w : Word} (hi : b.words[i]? = some w) : long b s i w = long b t i w := by
  have hm : w ∈ b.words := List.mem_of_getElem? hi
  by_cases h0 : kindOf w.what = 0
  · rw [long_plain h0, long_plain h0]
  · rw [long_ref h0, long_ref h0, pageOf_congr hw h hm h0]
    by_cases h3 : kindOf w.what = 3
    · rw [h i (mem_counts.2 ⟨w, hi, by simp [countsW, h3]⟩)]
    · exact refLen_own h0 h3 (kind_le _)
theorem longs_congr {b : Book} (hw : Wf b) {s t : Setting} (h : ∀ i ∈ counts b, s.getD i 0 = t.getD i 0) : longs b s = longs b t := by
  apply List.ext_getElem?
  intro i
  cases e : b.words[i]? with
  | none =>
    have h1 := List.getElem?_eq_none_iff.1 e
    rw [List.getElem?_eq_none (by rw [longs_length]; exact h1), List.getElem?_eq_none (by rw [longs_length]; exact h1)]
  | some w => rw [longs_get e, longs_get e, long_congr hw h e]
theorem pass_congr {b : Book} (hw : Wf b) {s t : Setting} (h : ∀ i ∈ counts b, s.getD i 0 = t.getD i 0) : pass b s = pass b t := by
  unfold pass lines
  rw [longs_congr hw h]
def atOf (s : Setting) (l : List Nat) : List Nat := l.map fun i => s.getD i 0
theorem setAt_length : ∀ (l r : List Nat) (s : Setting), (setAt s l r).length = s.length
  | [], [], s => rfl
  | [], _ :: _, s => rfl
  | _ :: _, [], s => rfl
  | i :: l, p :: r, s => by
    show (setAt (s.set i p) l r).length = _
    rw [setAt_length l r]; simp
theorem setAt_out : ∀ (l r : List Nat) (s : Setting) {i : Nat}, i ∉ l → (setAt s l r)[i]? = s[i]?
  | [], [], s, i, _ => rfl
  | [], _ :: _, s, i, _ => rfl
  | _ :: _, [], s, i, _ => rfl
  | j :: l, p :: r, s, i, h => by
    show (setAt (s.set j p) l r)[i]? = _
    rw [setAt_out l r _ (fun hh => h (List.mem_cons_of_mem _ hh))]
    exact List.getElem?_set_ne (fun hh => h (by rw [hh]; exact List.mem_cons_self))
theorem at_setAt : ∀ (l r : List Nat) (s : Setting), l.Nodup → (∀ i ∈ l, i < s.length) → r.length = l.length → atOf (setAt s l r) l = r
  | [], [], s, _, _, _ => rfl
  | [], _ :: _, s, _, _, h => by simp at h
  | _ :: _, [], s, _, _, h => by simp at h
  | i :: l, p :: r, s, hn, hl, h => by
    rw [List.nodup_cons] at hn
    have e1 : (setAt (s.set i p) l r)[i]? = some p := by
      rw [setAt_out l r _ hn.1, List.getElem?_set_self (hl i List.mem_cons_self)]
    have e2 := at_setAt l r (s.set i p) hn.2 (fun j hj => by rw [List.length_set]; exact hl j (List.mem_cons_of_mem _ hj)) (by simpa using h)
    show (setAt (s.set i p) l r).getD i 0 :: atOf (setAt (s.set i p) l r) l = p :: r
    rw [e2, List.getD_eq_getElem?_getD, e1]
    rfl
theorem at_eq {s t : Setting} {l : List Nat} (h : atOf s l = atOf t l) : ∀ i ∈ l, s.getD i 0 = t.getD i 0 := by
  intro i hi
  have := List.map_inj_left.1 h
  exact this i hi
theorem unset_length (b : Book) : (unset b).length = b.words.length := by simp [unset]
def rowPass (b : Book) (r : List Nat) : Setting := pass b (setAt (unset b) (counts b) r)
theorem rowPass_at {b : Book} (hw : Wf b) (s : Setting) : rowPass b (atOf s (counts b)) = pass b s := by
  refine pass_congr hw (at_eq (at_setAt _ _ _ (counts_nodup b) (fun i hi => ?_) ?_))
  · rw [unset_length]; exact counts_lt hi
  · simp [atOf]
theorem rowPass_of {b : Book} (hw : Wf b) {r : List Nat} {s : Setting} (h : atOf s (counts b) = r) : rowPass b r = pass b s := by
  rw [← h]; exact rowPass_at hw s
def ceil (h n : Nat) : Nat := (n + h - 1) / h
theorem ceil_mul {h n : Nat} (hp : 1 ≤ h) : n ≤ ceil h n * h := by
  unfold ceil
  have h1 := Nat.div_add_mod (n + h - 1) h
  have h2 := Nat.mod_lt (n + h - 1) (show h > 0 by omega)
  rw [Nat.mul_comm] at h1
  omega
theorem ceil_le {h n k : Nat} (hp : 1 ≤ h) (hn : n ≤ k * h) : ceil h n ≤ k := by
  unfold ceil
  have : n + h - 1 < h * (k + 1) := by
    rw [Nat.mul_add, Nat.mul_one, Nat.mul_comm h k]; omega
  exact Nat.le_of_lt_succ (Nat.div_lt_of_lt_mul this)
theorem ceil_add {h a c : Nat} (hp : 1 ≤ h) : ceil h (a + c) ≤ ceil h a + ceil h c := by
  apply ceil_le hp
  rw [Nat.add_mul]
  exact Nat.add_le_add (ceil_mul hp) (ceil_mul hp)
theorem ceil_mono {h a c : Nat} (hp : 1 ≤ h) (hh : a ≤ c) : ceil h a ≤ ceil h c := ceil_le hp (Nat.le_trans hh (ceil_mul hp))
theorem ceil_up {h a : Nat} (hp : 1 ≤ h) : ceil h (upTo h a) = ceil h a := by
  apply Nat.le_antisymm
  · apply ceil_le hp; exact Nat.le_refl _
  · exact ceil_mono hp (ceil_mul hp)
theorem div_ceil {h n : Nat} (hp : 1 ≤ h) : n / h ≤ ceil h n := by
  unfold ceil
  exact Nat.div_le_div_right (by omega)
theorem linesFrom_le (wide : Nat) : ∀ (ns : List Nat) (l c : Nat), ∀ x ∈ linesFrom wide l c ns, x ≤ l + ns.length
  | [], l, c, x, h => by cases h
  | n :: r, l, c, x, h => by
    rw [linesFrom_cons] at h
    simp only [List.length_cons]
    split at h
    · rcases List.mem_cons.1 h with rfl | h
      · omega
      · have := linesFrom_le wide r _ _ x h; omega
    · rcases List.mem_cons.1 h with rfl | h
      · omega
      · have := linesFrom_le wide r _ _ x h; omega
theorem linesOf_lt (wide : Nat) {ns : List Nat} {l : Nat} : ∀ x ∈ linesOf wide l ns, x < l + ns.length := by
  intro x h
  cases ns with
  | nil => cases h
  | cons n r =>
    simp only [List.length_cons]
    rcases List.mem_cons.1 h with rfl | h
    · omega
    · have := linesFrom_le wide r _ _ x h; omega
def pagesFor (h : Nat) (n : Nat) : Nat := ceil h n + 1
theorem last_lt (wide : Nat) {ns : List Nat} {l k : Nat} (hn : ns ≠ []) : (linesOf wide l ns).getLastD k + 1 ≤ l + ns.length := by
  cases ns with
  | nil => exact absurd rfl hn
  | cons n r =>
    have h : (linesOf wide l (n :: r)) ≠ [] := by simp [linesOf]
    have e : (linesOf wide l (n :: r)).getLastD k = (linesOf wide l (n :: r)).getLast h := by
      rw [List.getLastD_eq_getLast?, List.getLast?_eq_some_getLast h]; rfl
    rw [e]
    exact linesOf_lt wide _ (List.getLast_mem h)
theorem bookFrom_le {f : Frame} (hp : 1 ≤ f.high) : ∀ (ps : List (Bool × List Nat)) (l : Nat), (∀ p ∈ ps, p.2 ≠ []) → ∀ x ∈ bookFrom f l ps, ceil f.high (x + 1) ≤ ceil f.high l + (ps.map fun p => pagesFor f.high p.2.length).sum
  | [], l, _, x, h => by cases h
  | p :: r, l, hn, x, h => by
    rw [bookFrom_cons] at h
    have ha : ceil f.high (if p.1 = true then upTo f.high l else l) = ceil f.high l := by
      split
      · exact ceil_up hp
      · rfl
    have hb := ceil_add (h := f.high) (a := if p.1 = true then upTo f.high l else l) (c := p.2.length) hp
    simp only [List.map_cons, List.sum_cons, pagesFor]
    rcases List.mem_append.1 h with h | h
    · have h1 := linesOf_lt f.wide x h
      have h2 := ceil_mono (h := f.high) hp h1
      have e : x.succ = x + 1 := rfl
      rw [e] at h2
      omega
    · have h1 := bookFrom_le hp r _ (fun q hq => hn q (List.mem_cons_of_mem _ hq)) x h
      have h2 := ceil_mono (h := f.high) hp (last_lt f.wide (l := if p.1 = true then upTo f.high l else l) (k := l) (hn p List.mem_cons_self))
      simp only [pagesFor] at h1
      omega
theorem cut_map {A B : Type} : ∀ (ps : List A) (g : A → Nat) (L : List B) (k : Nat → Nat), L.length = (ps.map g).sum → ((ps.zip (cut (ps.map g) L)).map fun x => k x.2.length) = ps.map fun p => k (g p)
  | [], g, L, k, _ => rfl
  | p :: r, g, L, k, h => by
    simp only [List.map_cons, List.sum_cons] at h
    simp only [List.map_cons, cut, List.zip_cons_cons]
    rw [List.length_take, Nat.min_eq_left (by omega), cut_map r g (L.drop (g p)) k (by rw [List.length_drop]; omega)]
theorem cut_ne {A B : Type} : ∀ (ps : List A) (g : A → Nat) (L : List B), L.length = (ps.map g).sum → (∀ p ∈ ps, g p ≠ 0) → ∀ x ∈ ps.zip (cut (ps.map g) L), x.2 ≠ []
  | [], g, L, _, _, x, hx => by cases hx
  | p :: r, g, L, h, hg, x, hx => by
    simp only [List.map_cons, List.sum_cons] at h
    simp only [List.map_cons, cut, List.zip_cons_cons] at hx
    have h0 := hg p List.mem_cons_self
    rcases List.mem_cons.1 hx with rfl | hx
    · intro hh
      have h1 := congrArg List.length hh
      simp only [List.length_take, List.length_nil] at h1
      omega
    · exact cut_ne r g (L.drop (g p)) (by rw [List.length_drop]; omega) (fun q hq => hg q (List.mem_cons_of_mem _ hq)) x hx
theorem foldl_sum {A : Type} (g : A → Nat) : ∀ (l : List A) (a : Nat), l.foldl (fun n p => n + g p) a = a + (l.map g).sum
  | [], a => rfl
  | p :: l, a => by
    rw [List.foldl_cons, foldl_sum g l, List.map_cons, List.sum_cons]; omega
theorem words_sum (b : Book) : b.words.length = (b.paras.map fun p => p.words.length).sum := by
  unfold Book.words
  rw [List.length_flatMap]
theorem lastPage_eq (b : Book) : lastPage b = b.frame.first + (b.paras.map fun p => pagesFor b.frame.high p.words.length).sum := by
  unfold lastPage
  rw [foldl_sum (fun (p : Para) => (p.words.length + b.frame.high - 1) / b.frame.high + 1), Nat.zero_add]
  rfl
theorem pass_le {b : Book} (hw : Wf b) (s : Setting) : ∀ p ∈ pass b s, b.frame.first ≤ p ∧ p ≤ lastPage b := by
  intro p hp
  have fo := frame_ok.1 hw.fr
  unfold pass at hp
  obtain ⟨l, hl, rfl⟩ := List.mem_map.1 hp
  refine ⟨Nat.le_add_right _ _, ?_⟩
  have hlen : (longs b s).length = (b.paras.map fun p => p.words.length).sum := by rw [longs_length, words_sum]
  have h1 := bookFrom_le (f := b.frame) fo.h1 _ 0 (fun q hq => ?_) l hl
  · rw [List.map_map] at h1
    have h2 := cut_map b.paras (fun p => p.words.length) (longs b s) (pagesFor b.frame.high) hlen
    have h3 : ((fun p : Bool × List Nat => pagesFor b.frame.high p.2.length) ∘ fun x : Para × List Nat => (x.1.page, x.2)) = fun x => pagesFor b.frame.high x.2.length := rfl
    rw [h3, h2, show ceil b.frame.high 0 = 0 by unfold ceil; exact Nat.div_eq_of_lt (by have := fo.h1; omega)] at h1
    rw [lastPage_eq]
    have h4 := div_ceil (h := b.frame.high) (n := l) fo.h1
    have h5 := ceil_mono (h := b.frame.high) (a := l) (c := l + 1) fo.h1 (by omega)
    omega
  · obtain ⟨x, hx, rfl⟩ := List.mem_map.1 hq
    exact cut_ne b.paras (fun p => p.words.length) (longs b s) hlen (fun p hp => by have := hw.ne p hp; exact fun h => this (List.eq_nil_of_length_eq_zero h)) x hx
theorem mem_rowsOf : ∀ {n : Nat} {l r : List Nat}, r ∈ rowsOf n l ↔ r.length = n ∧ ∀ p ∈ r, p ∈ l
  | 0, l, r => by
    show r ∈ [[]] ↔ _
    rw [List.mem_singleton]
    constructor
    · rintro rfl; exact ⟨rfl, fun p h => by cases h⟩
    · rintro ⟨h, _⟩; exact List.eq_nil_of_length_eq_zero h
  | n + 1, l, r => by
    show r ∈ l.flatMap (fun p => (rowsOf n l).map fun r => p :: r) ↔ _
    rw [List.mem_flatMap]
    constructor
    · rintro ⟨p, hp, h⟩
      obtain ⟨q, hq, rfl⟩ := List.mem_map.1 h
      obtain ⟨h1, h2⟩ := mem_rowsOf.1 hq
      refine ⟨by simp [h1], fun x hx => ?_⟩
      rcases List.mem_cons.1 hx with rfl | hx
      · exact hp
      · exact h2 x hx
    · rintro ⟨h1, h2⟩
      cases r with
      | nil => simp at h1
      | cons p q => exact ⟨p, h2 p List.mem_cons_self, List.mem_map.2 ⟨q, mem_rowsOf.2 ⟨by simpa using h1, fun x hx => h2 x (List.mem_cons_of_mem _ hx)⟩, rfl⟩⟩
theorem rowsOf_nodup {l : List Nat} (h : l.Nodup) : ∀ n, (rowsOf n l).Nodup
  | 0 => by show ([[]] : List (List Nat)).Nodup; simp
  | n + 1 => by
    show (l.flatMap (fun p => (rowsOf n l).map fun r => p :: r)).Nodup
    unfold List.Nodup
    rw [List.pairwise_flatMap]
    refine ⟨fun p _ => ?_, h.imp ?_⟩
    · rw [List.pairwise_map]
      exact (rowsOf_nodup h n).imp fun hne he => hne (List.cons.inj he).2
    · intro a c hac x hx y hy
      obtain ⟨q, _, rfl⟩ := List.mem_map.1 hx
      obtain ⟨q2, _, rfl⟩ := List.mem_map.1 hy
      exact fun he => hac (List.cons.inj he).1
theorem rowsOf_zero (l : List Nat) : rowsOf 0 l = [[]] := rfl
theorem rowsOf_succ (n : Nat) (l : List Nat) : rowsOf (n + 1) l = l.flatMap fun p => (rowsOf n l).map fun r => p :: r := rfl
theorem rowsOf_snoc (l : List Nat) : ∀ n, rowsOf (n + 1) l = (rowsOf n l).flatMap fun r => l.map fun p => r ++ [p]
  | 0 => by
    rw [rowsOf_succ, rowsOf_zero]
    simp [List.flatMap_cons]
    rw [List.flatMap_def]
    induction l with
    | nil => rfl
    | cons a l ih => simp [ih]
  | n + 1 => by
    rw [rowsOf_succ (n + 1), rowsOf_snoc l n]
    conv => rhs; rw [← rowsOf_snoc l n, rowsOf_succ n l]
    simp only [List.map_flatMap, List.flatMap_assoc, List.flatMap_map, List.map_map]
    rfl
def pagesOf (b : Book) : List Nat := (List.range (lastPage b + 1 - b.frame.first)).map fun i => b.frame.first + i
theorem mem_pagesOf {b : Book} {p : Nat} : p ∈ pagesOf b ↔ b.frame.first ≤ p ∧ p ≤ lastPage b := by
  unfold pagesOf
  rw [List.mem_map]
  constructor
  · rintro ⟨i, hi, rfl⟩
    have := List.mem_range.1 hi
    omega
  · rintro ⟨h1, h2⟩
    exact ⟨p - b.frame.first, List.mem_range.2 (by omega), by omega⟩
theorem pagesOf_nodup (b : Book) : (pagesOf b).Nodup := by
  unfold pagesOf List.Nodup
  rw [List.pairwise_map]
  exact List.nodup_range.imp fun h => by omega
end Tr

namespace Tr
open Si37
theorem rowLess_cons (a c : Nat) (l m : List Nat) : rowLess (a :: l) (c :: m) = (decide (a < c) || (a == c && rowLess l m)) := rfl
theorem sooner_eq (s t : Setting) : sooner s t = rowLess (s.getLastD 0 :: s) (t.getLastD 0 :: t) := rfl
theorem rowLess_self : ∀ l : List Nat, rowLess l l = false
  | [] => rfl
  | a :: l => by rw [rowLess_cons, rowLess_self l]; simp
theorem rowLess_trans : ∀ {a c d : List Nat}, rowLess a c = true → rowLess c d = true → rowLess a d = true
  | [], [], _, h, _ => by cases h
  | [], _ :: _, [], _, h => by cases h
  | [], _ :: _, _ :: _, _, _ => rfl
  | _ :: _, [], _, h, _ => by cases h
  | _ :: _, _ :: _, [], _, h => by cases h
  | x :: a, y :: c, z :: d, h, k => by
    rw [rowLess_cons] at h k ⊢
    simp only [Bool.or_eq_true, Bool.and_eq_true, decide_eq_true_eq, beq_iff_eq] at h k ⊢
    rcases h with h | ⟨h, h'⟩
    · rcases k with k | ⟨k, _⟩
      · left; omega
      · left; omega
    · rcases k with k | ⟨k, k'⟩
      · left; omega
      · right; exact ⟨by omega, rowLess_trans h' k'⟩
theorem rowLess_total : ∀ {a c : List Nat}, rowLess a c = false → rowLess c a = false → a = c
  | [], [], _, _ => rfl
  | [], _ :: _, h, _ => by cases h
  | _ :: _, [], _, h => by cases h
  | x :: a, y :: c, h, k => by
    rw [rowLess_cons] at h k
    simp only [Bool.or_eq_false_iff, decide_eq_false_iff_not] at h k
    have e : x = y := by omega
    subst e
    have h2 := h.2
    have k2 := k.2
    simp at h2 k2
    rw [rowLess_total h2 k2]
theorem sooner_self (s : Setting) : sooner s s = false := by rw [sooner_eq]; exact rowLess_self _
theorem sooner_trans {s t u : Setting} (h : sooner s t = true) (k : sooner t u = true) : sooner s u = true := by
  rw [sooner_eq] at *; exact rowLess_trans h k
theorem sooner_total {s t : Setting} (h : sooner s t = false) (k : sooner t s = false) : s = t := by
  rw [sooner_eq] at *; exact (List.cons.inj (rowLess_total h k)).2
def pick (o : Option Setting) (s : Setting) : Option Setting := match o with
  | none => some s
  | some t => if sooner s t = true then some s else some t
theorem pick_some (t s : Setting) : pick (some t) s = if sooner s t = true then some s else some t := rfl
theorem putIn_cons (s t : Setting) (l : List Setting) : putIn s (t :: l) = if sooner s t = true then s :: t :: l else t :: putIn s l := rfl
theorem head_putIn (s : Setting) (l : List Setting) : (putIn s l).head? = pick l.head? s := by
  cases l with
  | nil => rfl
  | cons t l =>
    rw [putIn_cons]
    show _ = if sooner s t = true then some s else some t
    split <;> rfl
theorem len_putIn (s : Setting) : ∀ l, (putIn s l).length = l.length + 1
  | [] => rfl
  | t :: l => by
    rw [putIn_cons]
    split
    · rfl
    · rw [List.length_cons, len_putIn s l]; rfl
theorem head_fold : ∀ (L l : List Setting), (L.foldl (fun l s => putIn s l) l).head? = L.foldl pick l.head?
  | [], l => rfl
  | s :: L, l => by
    rw [List.foldl_cons, head_fold L, head_putIn]; rfl
theorem len_fold : ∀ (L l : List Setting), (L.foldl (fun l s => putIn s l) l).length = l.length + L.length
  | [], l => rfl
  | s :: L, l => by
    rw [List.foldl_cons, len_fold L, len_putIn, List.length_cons]; omega
theorem pick_spec : ∀ (L : List Setting) (o : Option Setting), (L = [] ∧ o = none) ∨ ∃ m, L.foldl pick o = some m ∧ (m ∈ L ∨ o = some m) ∧ (∀ s ∈ L, sooner s m = false) ∧ ∀ t, o = some t → sooner t m = false
  | [], none => Or.inl ⟨rfl, rfl⟩
  | [], some t => Or.inr ⟨t, rfl, Or.inr rfl, (fun s h => by cases h), (fun u hu => by cases hu; exact sooner_self _)⟩
  | s :: L, o => by
    right
    rw [List.foldl_cons]
    rcases pick_spec L (pick o s) with ⟨_, h⟩ | ⟨m, h1, h2, h3, h4⟩
    · exfalso
      cases o with
      | none => cases h
      | some t => rw [pick_some] at h; split at h <;> exact absurd h (by simp)
    · refine ⟨m, h1, ?_⟩
      cases o with
      | none =>
        have h5 := h4 s rfl
        refine ⟨Or.inl ?_, ?_, fun t ht => by cases ht⟩
        · rcases h2 with h2 | h2
          · exact List.mem_cons_of_mem _ h2
          · cases h2; exact List.mem_cons_self
        · intro x hx
          rcases List.mem_cons.1 hx with rfl | hx
          · exact h5
          · exact h3 x hx
      | some t =>
        by_cases hst : sooner s t = true
        · have e : pick (some t) s = some s := by rw [pick_some, if_pos hst]
          rw [e] at h2 h4
          have h5 := h4 s rfl
          refine ⟨Or.inl ?_, ?_, ?_⟩
          · rcases h2 with h2 | h2
            · exact List.mem_cons_of_mem _ h2
            · cases h2; exact List.mem_cons_self
          · intro x hx
            rcases List.mem_cons.1 hx with rfl | hx
            · exact h5
            · exact h3 x hx
          · intro u hu
            cases hu
            cases e2 : sooner t m with
            | false => rfl
            | true => rw [sooner_trans hst e2] at h5; cases h5
        · have e : pick (some t) s = some t := by rw [pick_some, if_neg hst]
          rw [e] at h2 h4
          have h5 := h4 t rfl
          refine ⟨?_, ?_, fun u hu => by cases hu; exact h5⟩
          · rcases h2 with h2 | h2
            · exact Or.inl (List.mem_cons_of_mem _ h2)
            · exact Or.inr h2
          · intro x hx
            rcases List.mem_cons.1 hx with rfl | hx
            · cases e2 : sooner x m with
              | false => rfl
              | true =>
                exfalso
                cases e3 : sooner m t with
                | true => exact hst (sooner_trans e2 e3)
                | false =>
                  have := sooner_total e3 h5
                  rw [this] at e2
                  exact hst e2
            · exact h3 x hx
theorem pick_same {F G : List Setting} (h : ∀ s, s ∈ F ↔ s ∈ G) : F.foldl pick none = G.foldl pick none := by
  rcases pick_spec F none with ⟨hF, _⟩ | ⟨m, h1, h2, h3, _⟩
  · have hG : G = [] := by
      cases G with
      | nil => rfl
      | cons g G =>
        have := (h g).2 List.mem_cons_self
        rw [hF] at this
        cases this
    rw [hF, hG]
  · rcases pick_spec G none with ⟨hG, _⟩ | ⟨k, k1, k2, k3, _⟩
    · exfalso
      rcases h2 with h2 | h2
      · have := (h m).1 h2
        rw [hG] at this
        cases this
      · cases h2
    · rw [h1, k1]
      have hm : m ∈ F := h2.resolve_right (by simp)
      have hk : k ∈ G := k2.resolve_right (by simp)
      rw [sooner_total (k3 m ((h m).1 hm)) (h3 k ((h k).2 hk))]
theorem nodup_eraseDups : ∀ (n : Nat) (l : List Setting), l.length ≤ n → l.eraseDups.Nodup
  | _, [], _ => by simp
  | 0, _ :: _, h => by simp at h
  | n + 1, a :: l, h => by
    rw [List.eraseDups_cons, List.nodup_cons]
    refine ⟨?_, nodup_eraseDups n _ (Nat.le_trans (List.length_filter_le _ _) (by simpa using h))⟩
    rw [List.mem_eraseDups, List.mem_filter]
    rintro ⟨_, h2⟩
    simp at h2
theorem isTrue_iff {b : Book} {s : Setting} : Si37.isTrue b s = true ↔ pass b s = s := by
  unfold Si37.isTrue; exact beq_iff_eq
def trueSet (b : Book) : List Setting := ((rowsOf (counts b).length (pagesOf b)).map (rowPass b)).eraseDups.filter (Si37.isTrue b)
theorem trues_eq (b : Book) : trues b = (trueSet b).foldl (fun l s => putIn s l) [] := rfl
theorem row_mem {b : Book} (hw : Wf b) {s : Setting} (h : pass b s = s) : atOf s (counts b) ∈ rowsOf (counts b).length (pagesOf b) := by
  refine mem_rowsOf.2 ⟨by simp [atOf], fun p hp => ?_⟩
  obtain ⟨i, hi, rfl⟩ := List.mem_map.1 hp
  have hl : i < s.length := by rw [← h, pass_length hw.ne]; exact counts_lt hi
  rw [List.getD_eq_getElem?_getD, List.getElem?_eq_getElem hl]
  have hm : s[i] ∈ pass b s := by rw [h]; exact List.getElem_mem hl
  exact mem_pagesOf.2 (pass_le hw s _ hm)
theorem mem_trueSet {b : Book} (hw : Wf b) {s : Setting} : s ∈ trueSet b ↔ pass b s = s := by
  unfold trueSet
  rw [List.mem_filter, List.mem_eraseDups, isTrue_iff]
  refine ⟨fun h => h.2, fun h => ⟨List.mem_map.2 ⟨_, row_mem hw h, ?_⟩, h⟩⟩
  rw [rowPass_at hw, h]
theorem trueSet_nodup (b : Book) : (trueSet b).Nodup := List.Nodup.sublist List.filter_sublist (nodup_eraseDups _ _ (Nat.le_refl _))
theorem trues_of {b : Book} (hw : Wf b) {F : List Setting} (hn : F.Nodup) (hm : ∀ s, s ∈ F ↔ pass b s = s) : (trues b).length = F.length ∧ (trues b).headD [] = (F.foldl pick none).getD [] := by
  have hs : ∀ s, s ∈ trueSet b ↔ s ∈ F := fun s => by rw [mem_trueSet hw, hm]
  refine ⟨?_, ?_⟩
  · rw [trues_eq, len_fold, List.length_nil, Nat.zero_add]
    exact Nat.le_antisymm ((trueSet_nodup b).length_le_of_subset fun s h => (hs s).1 h) (hn.length_le_of_subset fun s h => (hs s).2 h)
  · rw [← pick_same hs, List.headD_eq_head?_getD, trues_eq, head_fold]; rfl
def fixRows (b : Book) (R : List (List Nat)) : List Setting := (R.filter fun r => atOf (rowPass b r) (counts b) == r).map (rowPass b)
theorem fixRows_mem {b : Book} (hw : Wf b) {R : List (List Nat)} (hR : ∀ r, r ∈ R ↔ r ∈ rowsOf (counts b).length (pagesOf b)) (s : Setting) : s ∈ fixRows b R ↔ pass b s = s := by
  unfold fixRows
  rw [List.mem_map]
  constructor
  · rintro ⟨r, hr, rfl⟩
    have h := beq_iff_eq.1 (List.mem_filter.1 hr).2
    exact (rowPass_of hw h).symm
  · intro h
    refine ⟨atOf s (counts b), List.mem_filter.2 ⟨(hR _).2 (row_mem hw h), ?_⟩, ?_⟩
    · rw [rowPass_at hw, h]; exact beq_iff_eq.2 rfl
    · rw [rowPass_at hw, h]
theorem fixRows_nodup {b : Book} {R : List (List Nat)} (h : R.Nodup) : (fixRows b R).Nodup := by
  unfold fixRows List.Nodup
  rw [List.pairwise_map]
  have h2 : (R.filter fun r => atOf (rowPass b r) (counts b) == r).Nodup := List.Nodup.sublist List.filter_sublist h
  refine List.Pairwise.imp_of_mem (fun {r q} hr hq hne he => hne ?_) h2
  have h3 := beq_iff_eq.1 (List.mem_filter.1 hr).2
  have h4 := beq_iff_eq.1 (List.mem_filter.1 hq).2
  rw [← h3, ← h4, he]
theorem trues_rows {b : Book} (hw : Wf b) {R : List (List Nat)} (hn : R.Nodup) (hR : ∀ r, r ∈ R ↔ r ∈ rowsOf (counts b).length (pagesOf b)) : (trues b).length = (fixRows b R).length ∧ (trues b).headD [] = ((fixRows b R).foldl pick none).getD [] :=
  trues_of hw (fixRows_nodup hn) (fixRows_mem hw hR)
def lastLine : Option Nat → List (Nat × Nat) → Option Nat
  | o, [] => o
  | _, x :: l => lastLine (some x.1) l
theorem firsts_cons (o : Option Nat) (x : Nat × Nat) (l : List (Nat × Nat)) : firsts o (x :: l) = if o = some x.1 then firsts o l else (x.2, x.1) :: firsts (some x.1) l := rfl
theorem firsts_snoc : ∀ (l : List (Nat × Nat)) (o : Option Nat) (x : Nat × Nat), firsts o (l ++ [x]) = firsts o l ++ (if lastLine o l = some x.1 then [] else [(x.2, x.1)])
  | [], o, x => by
    show firsts o [x] = [] ++ _
    rw [firsts_cons]; rfl
  | y :: l, o, x => by
    rw [List.cons_append, firsts_cons, firsts_cons]
    show _ = _ ++ (if lastLine (some y.1) l = some x.1 then [] else [(x.2, x.1)])
    by_cases h : o = some y.1
    · rw [if_pos h, if_pos h, h, firsts_snoc l]
    · rw [if_neg h, if_neg h, firsts_snoc l]; rfl
theorem lastLine_snoc : ∀ (l : List (Nat × Nat)) (o : Option Nat) (x : Nat × Nat), lastLine o (l ++ [x]) = some x.1
  | [], o, x => rfl
  | y :: l, o, x => lastLine_snoc l (some y.1) x
def firstsTo (L : List Nat) (i : Nat) : List (Nat × Nat) := firsts none (L.zipIdx.take i)
def lineBefore (L : List Nat) (i : Nat) : Option Nat := lastLine none (L.zipIdx.take i)
theorem zipIdx_at {L : List Nat} {i x : Nat} (h : L[i]? = some x) : L.zipIdx[i]? = some (x, i) := by
  rw [List.getElem?_zipIdx, h]; simp
theorem firstsTo_succ {L : List Nat} {i x : Nat} (h : L[i]? = some x) : firstsTo L (i + 1) = firstsTo L i ++ if lineBefore L i = some x then [] else [(i, x)] := by
  unfold firstsTo lineBefore
  rw [take_snoc (zipIdx_at h), firsts_snoc]
theorem lineBefore_succ {L : List Nat} {i x : Nat} (h : L[i]? = some x) : lineBefore L (i + 1) = some x := by
  unfold lineBefore
  rw [take_snoc (zipIdx_at h), lastLine_snoc]
theorem lineBefore_zero (L : List Nat) : lineBefore L 0 = none := rfl
theorem firstsTo_all (L : List Nat) : firstsTo L L.length = firsts none L.zipIdx := by
  unfold firstsTo
  rw [List.take_of_length_le (by simp)]
theorem step_lines (b : Book) (n : Nat) : step b (.lines n) = (b, if TRIES < n then ok (-1) else ⟨((firsts none ((lines b (passes b n)).zipIdx)).length : Int), (firsts none ((lines b (passes b n)).zipIdx)).flatMap fun x => Si37.ints [x.1, b.frame.first + x.2 / b.frame.high, x.2 % b.frame.high]⟩) := rfl
def tellsRef (kd own mk : Nat) : List Nat := if mk = 0 then [0] else if kd = 3 then (if own = 0 then [0] else if mk = own then [2] else if mk = own + 1 then [3] else [1, mk]) else [1, mk]
theorem tellsRef_3 (own mk : Nat) : tellsRef 3 own mk = if mk = 0 then [0] else if own = 0 then [0] else if mk = own then [2] else if mk = own + 1 then [3] else [1, mk] := rfl
theorem tells_n {b : Book} {s : Setting} {i k m : Nat} : tells b s i ⟨.near k, m⟩ = if pageOf b s k = 0 ∨ s.getD i 0 = 0 then [0] else if pageOf b s k = s.getD i 0 then [2] else if pageOf b s k = s.getD i 0 + 1 then [3] else [1, pageOf b s k] := rfl
theorem tells_ref {b : Book} {s : Setting} {i : Nat} {w : Word} (h : kindOf w.what ≠ 0) : tells b s i w = tellsRef (kindOf w.what) (s.getD i 0) (pageOf b s (toldOf w.what)) := by
  obtain ⟨x, m⟩ := w
  cases x with
  | plain n => exact absurd rfl h
  | digits k => rfl
  | roman k => rfl
  | near k =>
    show _ = tellsRef 3 (s.getD i 0) (pageOf b s k)
    rw [tellsRef_3, tells_n]
    by_cases h0 : pageOf b s k = 0
    · rw [if_pos (Or.inl h0), if_pos h0]
    · by_cases h1 : s.getD i 0 = 0
      · rw [if_pos (Or.inr h1), if_neg h0, if_pos h1]
      · rw [if_neg (fun hh => hh.elim h0 h1), if_neg h0, if_neg h1]
theorem ref_some (x : What) : (refOf x).isSome = decide (kindOf x ≠ 0) := by cases x <;> simp [refOf, kindOf]
def shownTo (b : Book) (s : Setting) (i : Nat) : List (List Nat) := ((b.words.zipIdx.take i).filter fun x => decide (kindOf x.1.what ≠ 0)).map fun x => x.2 :: long b s x.2 x.1 :: tells b s x.2 x.1
theorem zipIdx_word {b : Book} {i : Nat} {w : Word} (h : b.words[i]? = some w) : b.words.zipIdx[i]? = some (w, i) := by
  rw [List.getElem?_zipIdx, h]; simp
theorem shownTo_succ {b : Book} {s : Setting} {i : Nat} {w : Word} (h : b.words[i]? = some w) : shownTo b s (i + 1) = shownTo b s i ++ if kindOf w.what = 0 then [] else [i :: long b s i w :: tells b s i w] := by
  unfold shownTo
  rw [take_snoc (zipIdx_word h), List.filter_append, List.map_append]
  by_cases h0 : kindOf w.what = 0
  · simp [h0]
  · simp [h0]
theorem flat_ints {A : Type} (l : List A) (g : A → List Nat) : (l.flatMap fun x => Si37.ints (g x)) = Si37.ints (l.map g).flatten := by
  unfold Si37.ints
  rw [List.map_flatten, List.flatMap_def, List.map_map]; rfl
theorem step_shown (b : Book) (n : Nat) : step b (.shown n) = (b, if TRIES < n then ok (-1) else ⟨((shownTo b (passes b n) b.words.length).length : Int), Si37.ints (shownTo b (passes b n) b.words.length).flatten⟩) := by
  have e : (fun (x : Word × Nat) => (refOf x.1.what).isSome) = fun x => decide (kindOf x.1.what ≠ 0) := funext fun x => ref_some _
  have e2 : b.words.zipIdx.take b.words.length = b.words.zipIdx := List.take_of_length_le (by simp)
  show (b, if TRIES < n then ok (-1) else _) = _
  unfold shownTo
  rw [e2, ← e, List.length_map, ← flat_ints]
theorem step_trues (b : Book) : step b .trues = (b, if 3 < (counts b).length ∨ b.frame.first + 30 < lastPage b then ok (-5) else ⟨((trues b).length : Int), Si37.ints ((trues b).headD [])⟩) := rfl
def openTo (b : Book) (ws : List Word) : List Nat := ((ws.filterMap fun w => (refOf w.what).map fun x => x.2).eraseDups).filter fun k => !(b.words.any fun w => w.mark == k)
theorem step_open (b : Book) : step b .open_ = (b, ⟨((openTo b b.words).length : Int), Si37.ints (openTo b b.words)⟩) := rfl
theorem ref_told (x : What) : ((refOf x).map fun y => y.2) = if kindOf x = 0 then none else some (toldOf x) := by cases x <;> rfl
theorem eraseDups_snoc (l : List Nat) (x : Nat) : (l ++ [x]).eraseDups = if x ∈ l then l.eraseDups else l.eraseDups ++ [x] := by
  rw [List.eraseDups_append]
  by_cases h : x ∈ l
  · rw [if_pos h]
    have : [x].removeAll l = [] := by simp [List.removeAll, h]
    rw [this]; simp
  · rw [if_neg h]
    have : [x].removeAll l = [x] := by simp [List.removeAll, h]
    rw [this]; simp [List.eraseDups_cons]
theorem openTo_snoc (b : Book) (ws : List Word) (w : Word) : openTo b (ws ++ [w]) = if kindOf w.what ≠ 0 ∧ markIx b.words (toldOf w.what) = none ∧ toldOf w.what ∉ openTo b ws then openTo b ws ++ [toldOf w.what] else openTo b ws := by
  unfold openTo
  rw [List.filterMap_append]
  by_cases h0 : kindOf w.what = 0
  · rw [if_neg (fun h => h.1 h0)]
    simp [ref_told, h0]
  · have e : [w].filterMap (fun w => (refOf w.what).map fun x => x.2) = [toldOf w.what] := by simp [ref_told, h0]
    have hx := markIx_none (ws := b.words) (k := toldOf w.what)
    rw [e, eraseDups_snoc]
    by_cases hm : toldOf w.what ∈ ws.filterMap (fun w => (refOf w.what).map fun x => x.2)
    · rw [if_pos hm]
      cases ha : b.words.any fun v => v.mark == toldOf w.what with
      | true => rw [if_neg (fun h => by have := hx.1 h.2.1; rw [ha] at this; cases this)]
      | false =>
        rw [if_neg (fun h => h.2.2 (List.mem_filter.2 ⟨List.mem_eraseDups.2 hm, by rw [ha]; rfl⟩))]
    · rw [if_neg hm, List.filter_append]
      cases ha : b.words.any fun v => v.mark == toldOf w.what with
      | true => rw [if_neg (fun h => by have := hx.1 h.2.1; rw [ha] at this; cases this)]; simp [ha]
      | false =>
        rw [if_pos ⟨h0, hx.2 ha, fun h => hm (List.mem_eraseDups.1 (List.mem_filter.1 h).1)⟩]
        simp [ha]
end Tr

namespace Tr
open Si37
def toldTo (ws : List Word) : List Nat := (ws.filterMap fun w => (refOf w.what).map fun x => x.2).eraseDups
theorem mem_toldTo {ws : List Word} {k : Nat} : k ∈ toldTo ws ↔ ∃ w ∈ ws, kindOf w.what ≠ 0 ∧ toldOf w.what = k := by
  unfold toldTo
  rw [List.mem_eraseDups, List.mem_filterMap]
  constructor
  · rintro ⟨w, hw, e⟩
    rw [ref_told] at e
    by_cases h : kindOf w.what = 0
    · rw [if_pos h] at e; cases e
    · rw [if_neg h] at e; exact ⟨w, hw, h, Option.some.inj e⟩
  · rintro ⟨w, hw, h, e⟩
    exact ⟨w, hw, by rw [ref_told, if_neg h, e]⟩
theorem toldTo_snoc (ws : List Word) (w : Word) : toldTo (ws ++ [w]) = if kindOf w.what = 0 then toldTo ws else if toldOf w.what ∈ toldTo ws then toldTo ws else toldTo ws ++ [toldOf w.what] := by
  unfold toldTo
  rw [List.filterMap_append]
  by_cases h0 : kindOf w.what = 0
  · rw [if_pos h0]
    simp [ref_told, h0]
  · have e : [w].filterMap (fun w => (refOf w.what).map fun x => x.2) = [toldOf w.what] := by simp [ref_told, h0]
    rw [if_neg h0, e, eraseDups_snoc]
    by_cases h : toldOf w.what ∈ ws.filterMap fun w => (refOf w.what).map fun x => x.2
    · rw [if_pos h, if_pos (List.mem_eraseDups.mpr h)]
    · rw [if_neg h, if_neg (fun z => h (List.mem_eraseDups.mp z))]
theorem toldTo_len (ws : List Word) : (toldTo ws).length ≤ ws.length := by
  unfold toldTo
  exact Nat.le_trans (eraseDups_len _ _ (Nat.le_refl _)).1 (List.length_filterMap_le _ _)
theorem toldTo_pos {b : Book} (hw : Wf b) {k : Nat} (h : k ∈ toldTo b.words) : 1 ≤ k := by
  obtain ⟨w, hm, h0, rfl⟩ := mem_toldTo.mp h
  have := told_pos hw hm h0
  omega
theorem openTo_told (b : Book) : openTo b b.words = (toldTo b.words).filter fun k => !(markIx b.words k).isSome := by
  unfold openTo
  show List.filter _ (toldTo b.words) = _
  congr 1
  funext k
  congr 1
  cases e : markIx b.words k with
  | none => rw [markIx_none.mp e]; rfl
  | some i =>
    rw [Option.isSome_some]
    cases e2 : b.words.any fun w => w.mark == k with
    | true => rfl
    | false => rw [markIx_none.mpr e2] at e; cases e
theorem tellsOf_told (b : Book) (k : Nat) : tellsOf b k = decide (k ∈ toldTo b.words) := by
  unfold tellsOf
  rw [Bool.eq_iff_iff, List.any_eq_true, decide_eq_true_eq, mem_toldTo]
  constructor
  · rintro ⟨w, hw, e⟩
    rw [Bool.and_eq_true, decide_eq_true_eq, beq_iff_eq] at e
    exact ⟨w, hw, e⟩
  · rintro ⟨w, hw, e⟩
    exact ⟨w, hw, by rw [Bool.and_eq_true, decide_eq_true_eq, beq_iff_eq]; exact e⟩
theorem countsW_told {b : Book} (hw : Wf b) (w : Word) : countsW b w = (decide (kindOf w.what = 3) || decide (w.mark ∈ toldTo b.words)) := by
  unfold countsW
  rw [tellsOf_told]
  congr 1
  by_cases h : w.mark = 0
  · have h2 : ¬ w.mark ∈ toldTo b.words := fun z => by have := toldTo_pos hw z; omega
    rw [decide_eq_false h2, Bool.and_false]
  · have : (w.mark != 0) = true := by simpa using h
    rw [this, Bool.true_and]
def countsTo (b : Book) (i : Nat) : List Nat := ((b.words.zipIdx.take i).filter fun x => countsW b x.1).map fun x => x.2
theorem countsTo_succ {b : Book} {i : Nat} {w : Word} (h : b.words[i]? = some w) : countsTo b (i + 1) = countsTo b i ++ if countsW b w = true then [i] else [] := by
  unfold countsTo
  rw [take_snoc (zipIdx_word h), List.filter_append, List.map_append]
  cases h0 : countsW b w <;> simp [h0]
theorem countsTo_all (b : Book) : countsTo b b.words.length = counts b := by
  unfold countsTo
  rw [List.take_of_length_le (by simp), counts_eq]
theorem countsTo_len (b : Book) (i : Nat) : (countsTo b i).length ≤ i := by
  unfold countsTo
  rw [List.length_map]
  exact Nat.le_trans (List.length_filter_le _ _) (by rw [List.length_take]; omega)
def starts : Nat → List Para → List Nat
  | _, [] => []
  | n, p :: r => n :: starts (n + p.words.length) r
theorem starts_cons (n : Nat) (p : Para) (r : List Para) : starts n (p :: r) = n :: starts (n + p.words.length) r := rfl
theorem starts_len : ∀ (ps : List Para) (n : Nat), (starts n ps).length = ps.length
  | [], _ => rfl
  | p :: r, n => by rw [starts_cons, List.length_cons, List.length_cons, starts_len r]
theorem starts_snoc : ∀ (ps : List Para) (n : Nat) (p : Para), starts n (ps ++ [p]) = starts n ps ++ [n + (ps.flatMap fun p => p.words).length]
  | [], n, p => rfl
  | q :: r, n, p => by
    rw [List.cons_append, starts_cons, starts_cons, starts_snoc r, List.flatMap_cons, List.length_append, List.cons_append]
    rw [Nat.add_assoc]
theorem starts_lt : ∀ (ps : List Para) (n : Nat), (∀ p ∈ ps, p.words ≠ []) → ∀ x ∈ starts n ps, x < n + (ps.flatMap fun p => p.words).length
  | [], _, _, x, h => by cases h
  | p :: r, n, hne, x, h => by
    rw [List.flatMap_cons, List.length_append]
    have hp := List.length_pos_iff.mpr (hne p List.mem_cons_self)
    rw [starts_cons] at h
    rcases List.mem_cons.mp h with rfl | h
    · omega
    · have := starts_lt r (n + p.words.length) (fun q hq => hne q (List.mem_cons_of_mem _ hq)) x h
      omega
theorem starts_ends : ∀ (ps : List Para) (n i : Nat) (p : Para), ps[i]? = some p → ∃ a, (starts n ps)[i]? = some a ∧ ((starts n ps).drop 1 ++ [n + (ps.flatMap fun p => p.words).length])[i]? = some (a + p.words.length)
  | [], n, i, p, h => by simp at h
  | q :: r, n, 0, p, h => by
    have e : q = p := by simpa using h
    subst e
    refine ⟨n, rfl, ?_⟩
    rw [starts_cons, List.flatMap_cons, List.length_append]
    cases r with
    | nil => simp [starts]
    | cons u r => rw [starts_cons]; rfl
  | q :: r, n, i + 1, p, h => by
    have h' : r[i]? = some p := by simpa using h
    obtain ⟨a, h1, h2⟩ := starts_ends r (n + q.words.length) i p h'
    refine ⟨a, by rw [starts_cons, List.getElem?_cons_succ]; exact h1, ?_⟩
    rw [starts_cons, List.flatMap_cons, List.length_append]
    cases r with
    | nil => simp at h'
    | cons u r =>
      rw [starts_cons] at h2 ⊢
      rw [List.drop_succ_cons, List.drop_zero, List.cons_append, List.getElem?_cons_succ, ← Nat.add_assoc]
      exact h2
theorem upTo_ge {h l : Nat} (hh : 1 ≤ h) : l ≤ upTo h l := by
  unfold upTo
  have := Nat.div_add_mod (l + h - 1) h
  have h2 := Nat.mod_lt (l + h - 1) (show 0 < h by omega)
  rw [Nat.mul_comm] at this
  omega
theorem flat_up (f : Frame) (hh : 1 ≤ f.high) : ∀ (xs : List (Option Bool × Nat)) (l c : Nat), (∀ x ∈ flatFrom f l c xs, l - 1 ≤ x) ∧ (flatFrom f l c xs).Pairwise (· ≤ ·)
  | [], l, c => by
    rw [flat_nil]
    exact ⟨fun x h => (nomatch h), List.Pairwise.nil⟩
  | (none, n) :: r, l, c => by
    rw [flat_none]
    by_cases h : c + 1 + n ≤ f.wide
    · rw [if_pos h]
      obtain ⟨h1, h2⟩ := flat_up f hh r l (c + 1 + n)
      refine ⟨fun x hx => ?_, List.pairwise_cons.mpr ⟨h1, h2⟩⟩
      rcases List.mem_cons.mp hx with rfl | hx
      · omega
      · exact h1 x hx
    · rw [if_neg h]
      obtain ⟨h1, h2⟩ := flat_up f hh r (l + 1) n
      refine ⟨fun x hx => ?_, List.pairwise_cons.mpr ⟨fun x hx => by have := h1 x hx; omega, h2⟩⟩
      rcases List.mem_cons.mp hx with rfl | hx
      · omega
      · have := h1 x hx; omega
  | (some pg, n) :: r, l, c => by
    rw [flat_some]
    have hge : l ≤ (if pg = true then upTo f.high l else l) := by
      cases pg with
      | true => exact upTo_ge hh
      | false => exact Nat.le_refl _
    generalize (if pg = true then upTo f.high l else l) = x0 at hge
    obtain ⟨h1, h2⟩ := flat_up f hh r (x0 + 1) n
    refine ⟨fun x hx => ?_, List.pairwise_cons.mpr ⟨fun x hx => by have := h1 x hx; omega, h2⟩⟩
    rcases List.mem_cons.mp hx with rfl | hx
    · omega
    · have := h1 x hx; omega
theorem pass_up {b : Book} (hw : Wf b) (s : Setting) : (pass b s).Pairwise (· ≤ ·) := by
  have hh := (frame_ok.mp hw.fr).h1
  unfold pass
  rw [List.pairwise_map, lines_flat hw.ne]
  exact (flat_up b.frame hh _ 0 0).2.imp fun {a c} h => Nat.add_le_add_left (Nat.div_le_div_right h) _
theorem at_up {s : List Nat} {l : List Nat} (hs : s.Pairwise (· ≤ ·)) (hl : l.Pairwise (· < ·)) (hb : ∀ i ∈ l, i < s.length) : (atOf s l).Pairwise (· ≤ ·) := by
  unfold atOf
  rw [List.pairwise_map]
  refine List.Pairwise.imp_of_mem (fun {a c} ha hc h => ?_) hl
  have h1 := hb a ha
  have h2 := hb c hc
  rw [List.getD_eq_getElem?_getD, List.getD_eq_getElem?_getD, List.getElem?_eq_getElem h1, List.getElem?_eq_getElem h2]
  exact List.pairwise_iff_getElem.mp hs a c h1 h2 h
def upFrom (lo z : Nat) : List Nat := (List.range (z + 1 - lo)).map fun i => lo + i
theorem mem_upFrom {lo z p : Nat} : p ∈ upFrom lo z ↔ lo ≤ p ∧ p ≤ z := by
  unfold upFrom
  rw [List.mem_map]
  constructor
  · rintro ⟨i, hi, rfl⟩
    have := List.mem_range.mp hi
    omega
  · rintro ⟨h1, h2⟩
    exact ⟨p - lo, List.mem_range.mpr (by omega), by omega⟩
theorem upFrom_nodup (lo z : Nat) : (upFrom lo z).Nodup := by
  unfold upFrom List.Nodup
  rw [List.pairwise_map]
  exact List.Pairwise.imp (fun {a c} h e => h (by omega)) List.nodup_range
theorem upFrom_len (lo z : Nat) : (upFrom lo z).length = z + 1 - lo := by unfold upFrom; rw [List.length_map, List.length_range]
def riseMore (a z : Nat) (R : List (List Nat)) : List (List Nat) := R.flatMap fun r => (upFrom (r.getLastD a) z).map fun p => r ++ [p]
def rise (a z : Nat) : Nat → List (List Nat)
  | 0 => [[]]
  | n + 1 => riseMore a z (rise a z n)
theorem rise_succ (a z n : Nat) : rise a z (n + 1) = riseMore a z (rise a z n) := rfl
theorem le_last {r : List Nat} (h : r.Pairwise (· ≤ ·)) (a : Nat) : ∀ x ∈ r, x ≤ r.getLastD a := by
  intro x hx
  obtain ⟨q, c, rfl⟩ : ∃ q c, r = q ++ [c] := ⟨r.dropLast, r.getLast (List.ne_nil_of_mem hx), (List.dropLast_concat_getLast _).symm⟩
  rw [List.getLastD_concat]
  rcases List.mem_append.mp hx with hx | hx
  · exact (List.pairwise_append.mp h).2.2 x hx c (by simp)
  · have : x = c := by simpa using hx
    omega
theorem mem_rise {a z : Nat} : ∀ {n : Nat} {r : List Nat}, r ∈ rise a z n ↔ r.length = n ∧ r.Pairwise (· ≤ ·) ∧ ∀ p ∈ r, a ≤ p ∧ p ≤ z
  | 0, r => by
    show r ∈ [[]] ↔ _
    rw [List.mem_singleton]
    constructor
    · rintro rfl; exact ⟨rfl, List.Pairwise.nil, fun p h => by cases h⟩
    · rintro ⟨h, _⟩; exact List.length_eq_zero_iff.mp h
  | n + 1, r => by
    rw [rise_succ]
    unfold riseMore
    rw [List.mem_flatMap]
    constructor
    · rintro ⟨q, hq, hr⟩
      obtain ⟨p, hp, rfl⟩ := List.mem_map.mp hr
      obtain ⟨h1, h2, h3⟩ := mem_rise.mp hq
      obtain ⟨hp1, hp2⟩ := mem_upFrom.mp hp
      refine ⟨by rw [List.length_append, h1]; rfl, List.pairwise_append.mpr ⟨h2, List.pairwise_singleton _ _, fun x hx y hy => ?_⟩, fun x hx => ?_⟩
      · have e : y = p := by simpa using hy
        have := le_last h2 a x hx
        omega
      · rcases List.mem_append.mp hx with hx | hx
        · exact h3 x hx
        · have e : x = p := by simpa using hx
          subst e
          refine ⟨?_, hp2⟩
          cases q with
          | nil => exact hp1
          | cons u q =>
            have h4 := (h3 u List.mem_cons_self).1
            have h5 := le_last h2 a u List.mem_cons_self
            omega
    · rintro ⟨h1, h2, h3⟩
      have hne : r ≠ [] := fun e => by rw [e] at h1; cases h1
      obtain ⟨q, p, rfl⟩ : ∃ q p, r = q ++ [p] := ⟨r.dropLast, r.getLast hne, (List.dropLast_concat_getLast _).symm⟩
      obtain ⟨g1, _, g3⟩ := List.pairwise_append.mp h2
      have hp := h3 p (by simp)
      refine ⟨q, mem_rise.mpr ⟨by rw [List.length_append] at h1; simpa using h1, g1, fun x hx => h3 x (List.mem_append_left _ hx)⟩, List.mem_map.mpr ⟨p, mem_upFrom.mpr ⟨?_, hp.2⟩, rfl⟩⟩
      by_cases e : q = []
      · rw [e]; exact hp.1
      · obtain ⟨q', c, rfl⟩ : ∃ q' c, q = q' ++ [c] := ⟨q.dropLast, q.getLast e, (List.dropLast_concat_getLast _).symm⟩
        rw [List.getLastD_concat]
        exact g3 c (by simp) p (by simp)
theorem rise_nodup (a z : Nat) : ∀ n, (rise a z n).Nodup
  | 0 => by show List.Nodup [[]]; simp
  | n + 1 => by
    rw [rise_succ]
    unfold riseMore List.Nodup
    rw [List.pairwise_flatMap]
    refine ⟨fun r _ => ?_, ?_⟩
    · rw [List.pairwise_map]
      exact List.Pairwise.imp (fun {p q} h e => h (by simpa using e)) (upFrom_nodup _ _)
    · refine List.Pairwise.imp (fun {r q} h x hx y hy e => h ?_) (rise_nodup a z n)
      obtain ⟨p, _, rfl⟩ := List.mem_map.mp hx
      obtain ⟨p', _, rfl⟩ := List.mem_map.mp hy
      exact (List.append_inj' e rfl).1
theorem riseMore_len {a z m : Nat} {R : List (List Nat)} (h : ∀ r ∈ R, z + 1 - r.getLastD a ≤ m) : (riseMore a z R).length ≤ R.length * m := by
  unfold riseMore
  induction R with
  | nil => simp
  | cons r R ih =>
    rw [List.flatMap_cons, List.length_append, List.length_map, upFrom_len, List.length_cons, Nat.add_mul, Nat.one_mul]
    have h1 := h r List.mem_cons_self
    have h2 := ih fun q hq => h q (List.mem_cons_of_mem _ hq)
    omega
theorem rise_last {a z n : Nat} {r : List Nat} (h : r ∈ rise a z n) : a ≤ r.getLastD a := by
  obtain ⟨_, h2, h3⟩ := mem_rise.mp h
  cases r with
  | nil => exact Nat.le_refl _
  | cons u r =>
    have h4 := (h3 u List.mem_cons_self).1
    have h5 := le_last h2 a u List.mem_cons_self
    omega
theorem rise_len {a z : Nat} (hz : z ≤ a + 30) : ∀ n, (rise a z n).length ≤ 31 ^ n
  | 0 => Nat.le_refl _
  | n + 1 => by
    rw [rise_succ, Nat.pow_succ]
    refine Nat.le_trans (riseMore_len (m := 31) fun r hr => ?_) (Nat.mul_le_mul_right _ (rise_len hz n))
    have := rise_last hr
    omega
theorem rise_max {a z n : Nat} {r : List Nat} (h : r ∈ rise a z n) {m : Nat} (hm : m ∈ r) (hg : ∀ y ∈ r, y ≤ m) : m = r.getLastD a := by
  obtain ⟨_, h2, _⟩ := mem_rise.mp h
  have h1 := le_last h2 a m hm
  have hne : r ≠ [] := List.ne_nil_of_mem hm
  have h3 : r.getLastD a ∈ r := by
    obtain ⟨q, c, rfl⟩ : ∃ q c, r = q ++ [c] := ⟨r.dropLast, r.getLast hne, (List.dropLast_concat_getLast _).symm⟩
    rw [List.getLastD_concat]
    simp
  have := hg _ h3
  omega
theorem fix_mem {b : Book} (hw : Wf b) {R : List (List Nat)} (hR : ∀ s, pass b s = s → atOf s (counts b) ∈ R) (s : Setting) : s ∈ fixRows b R ↔ pass b s = s := by
  unfold fixRows
  rw [List.mem_map]
  constructor
  · rintro ⟨r, hr, rfl⟩
    exact (rowPass_of hw (beq_iff_eq.1 (List.mem_filter.1 hr).2)).symm
  · intro h
    refine ⟨atOf s (counts b), List.mem_filter.2 ⟨hR s h, ?_⟩, ?_⟩
    · rw [rowPass_at hw, h]; exact beq_iff_eq.2 rfl
    · rw [rowPass_at hw, h]
theorem trues_rise {b : Book} (hw : Wf b) : (trues b).length = (fixRows b (rise b.frame.first (lastPage b) (counts b).length)).length ∧
    (trues b).headD [] = ((fixRows b (rise b.frame.first (lastPage b) (counts b).length)).foldl pick none).getD [] := by
  refine trues_of hw (fixRows_nodup (rise_nodup _ _ _)) (fix_mem hw fun s hs => ?_)
  have hl : s.length = b.words.length := by rw [← hs]; exact pass_length hw.ne s
  refine mem_rise.mpr ⟨by unfold atOf; rw [List.length_map], at_up (by rw [← hs]; exact pass_up hw s) (counts_up b) fun i hi => by rw [hl]; exact counts_lt hi, fun p hp => ?_⟩
  unfold atOf at hp
  obtain ⟨i, hi, rfl⟩ := List.mem_map.mp hp
  have hi2 := counts_lt hi
  have : s.getD i 0 ∈ pass b s := by
    rw [hs, List.getD_eq_getElem?_getD, List.getElem?_eq_getElem (by omega)]
    exact List.getElem_mem _
  exact pass_le hw s _ this
theorem fixRows_snoc (b : Book) (R : List (List Nat)) (r : List Nat) : fixRows b (R ++ [r]) = fixRows b R ++ if atOf (rowPass b r) (counts b) = r then [rowPass b r] else [] := by
  unfold fixRows
  rw [List.filter_append, List.map_append]
  by_cases h : atOf (rowPass b r) (counts b) = r
  · rw [if_pos h]; simp [h]
  · rw [if_neg h]; simp [h]
theorem fixRows_len (b : Book) (R : List (List Nat)) : (fixRows b R).length ≤ R.length := by
  unfold fixRows
  rw [List.length_map]
  exact List.length_filter_le _ _
theorem fixRows_word {b : Book} (hw : Wf b) {R : List (List Nat)} : ∀ s ∈ fixRows b R, s.length = b.words.length := by
  intro s hs
  unfold fixRows at hs
  obtain ⟨r, _, rfl⟩ := List.mem_map.mp hs
  exact pass_length hw.ne _
def lastPart (s : List Nat) : List Nat := s.drop (s.length - 1)
def tupLess (s t : List Nat) : Bool := if lastPart s = lastPart t then rowLess s t else rowLess (lastPart s) (lastPart t)
theorem lastPart_concat (q : List Nat) (c : Nat) : lastPart (q ++ [c]) = [c] := by
  unfold lastPart
  rw [List.length_append, List.length_singleton, Nat.add_sub_cancel, List.drop_append_of_le_length (Nat.le_refl _), List.drop_length, List.nil_append]
theorem tupLess_sooner {s t : List Nat} (h : s.length = t.length) : tupLess s t = sooner s t := by
  unfold tupLess
  by_cases hs : s = []
  · subst hs
    have ht : t = [] := List.length_eq_zero_iff.mp h.symm
    subst ht
    rfl
  · have ht : t ≠ [] := fun e => hs (List.length_eq_zero_iff.mp (by rw [h, e]; rfl))
    obtain ⟨q, a, rfl⟩ : ∃ q a, s = q ++ [a] := ⟨s.dropLast, s.getLast hs, (List.dropLast_concat_getLast _).symm⟩
    obtain ⟨u, c, rfl⟩ : ∃ u c, t = u ++ [c] := ⟨t.dropLast, t.getLast ht, (List.dropLast_concat_getLast _).symm⟩
    rw [lastPart_concat, lastPart_concat, sooner_eq, List.getLastD_concat, List.getLastD_concat, rowLess_cons a c (q ++ [a])]
    by_cases e : a = c
    · subst e
      rw [if_pos rfl]
      have e1 : (a == a) = true := beq_iff_eq.mpr rfl
      rw [e1, Bool.true_and, decide_eq_false (Nat.lt_irrefl a), Bool.false_or]
    · rw [if_neg (by intro z; exact e (by simpa using z)), rowLess_cons]
      have e1 : (a == c) = false := by simpa using e
      rw [e1, Bool.false_and, Bool.false_and]
def fw (L : List Nat) (i : Nat) : List Nat := (firstsTo L i).map fun x => x.1
theorem fw_succ {L : List Nat} {i x : Nat} (h : L[i]? = some x) : fw L (i + 1) = fw L i ++ if lineBefore L i = some x then [] else [i] := by
  unfold fw
  rw [firstsTo_succ h, List.map_append]
  by_cases e : lineBefore L i = some x
  · rw [if_pos e, if_pos e]; rfl
  · rw [if_neg e, if_neg e]; rfl
theorem fw_all (L : List Nat) : ∀ i, i ≤ L.length → firstsTo L i = (fw L i).map fun j => (j, L.getD j 0)
  | 0, _ => rfl
  | i + 1, h => by
    have hx : L[i]? = some L[i] := List.getElem?_eq_getElem h
    rw [firstsTo_succ hx, fw_succ hx, List.map_append, ← fw_all L i (by omega)]
    congr 1
    by_cases e : lineBefore L i = some L[i]
    · rw [if_pos e, if_pos e]; rfl
    · rw [if_neg e, if_neg e, List.map_singleton, List.getD_eq_getElem?_getD, hx]; rfl
theorem fw_lt (L : List Nat) : ∀ i, ∀ j ∈ fw L i, j < i
  | 0, j, h => by cases h
  | i + 1, j, h => by
    by_cases hi : i < L.length
    · rw [fw_succ (List.getElem?_eq_getElem hi)] at h
      rcases List.mem_append.mp h with h | h
      · have := fw_lt L i j h; omega
      · split at h
        · cases h
        · have : j = i := by simpa using h
          omega
    · have e : fw L (i + 1) = fw L i := by
        unfold fw firstsTo
        rw [List.take_of_length_le (by simp; omega), List.take_of_length_le (by simp; omega)]
      rw [e] at h
      have := fw_lt L i j h; omega
theorem fw_len (L : List Nat) : ∀ i, (fw L i).length ≤ i
  | 0 => Nat.le_refl _
  | i + 1 => by
    by_cases hi : i < L.length
    · rw [fw_succ (List.getElem?_eq_getElem hi), List.length_append]
      have := fw_len L i
      split
      · simp; omega
      · simp; omega
    · have e : fw L (i + 1) = fw L i := by
        unfold fw firstsTo
        rw [List.take_of_length_le (by simp; omega), List.take_of_length_le (by simp; omega)]
      rw [e]
      have := fw_len L i; omega
def lineRow (f : Frame) (L : List Nat) (j : Nat) : List Nat := [j, f.first + L.getD j 0 / f.high, L.getD j 0 % f.high]
theorem ans_lines (b : Book) (n : Nat) : step b (.lines n) = (b, if TRIES < n then ok (-1) else ⟨((fw (lines b (passes b n)) (lines b (passes b n)).length).length : Int), Si37.ints ((fw (lines b (passes b n)) (lines b (passes b n)).length).flatMap (lineRow b.frame (lines b (passes b n))))⟩) := by
  rw [step_lines, flat_ints, ← firstsTo_all, fw_all _ _ (Nat.le_refl _), List.length_map, List.map_map, List.flatMap_def]
  rfl
def refsTo (b : Book) (i : Nat) : List Nat := ((b.words.zipIdx.take i).filter fun x => decide (kindOf x.1.what ≠ 0)).map fun x => x.2
theorem refsTo_succ {b : Book} {i : Nat} {w : Word} (h : b.words[i]? = some w) : refsTo b (i + 1) = refsTo b i ++ if kindOf w.what = 0 then [] else [i] := by
  unfold refsTo
  rw [take_snoc (zipIdx_word h), List.filter_append, List.map_append]
  by_cases h0 : kindOf w.what = 0
  · simp [h0]
  · simp [h0]
def tellsAt (b : Book) (s : Setting) (j : Nat) : List Nat := match b.words[j]? with
  | some w => tellsRef (kindOf w.what) (s.getD j 0) (pageOf b s (toldOf w.what))
  | none => []
theorem tellsAt_of {b : Book} {s : Setting} {j : Nat} {w : Word} (h : b.words[j]? = some w) : tellsAt b s j = tellsRef (kindOf w.what) (s.getD j 0) (pageOf b s (toldOf w.what)) := by
  unfold tellsAt; rw [h]
def refRow (b : Book) (s : Setting) (j : Nat) : List Nat := j :: (longs b s).getD j 0 :: tellsAt b s j
theorem shown_refs (b : Book) (s : Setting) : ∀ i, i ≤ b.words.length → shownTo b s i = (refsTo b i).map (refRow b s)
  | 0, _ => rfl
  | i + 1, h => by
    have hx : b.words[i]? = some b.words[i] := List.getElem?_eq_getElem h
    rw [shownTo_succ hx, refsTo_succ hx, List.map_append, ← shown_refs b s i (by omega)]
    congr 1
    by_cases e : kindOf b.words[i].what = 0
    · rw [if_pos e, if_pos e]; rfl
    · rw [if_neg e, if_neg e, List.map_singleton]
      unfold refRow
      rw [tellsAt_of hx, tells_ref e, getD_of (longs_get hx)]
theorem refsTo_len (b : Book) (i : Nat) : (refsTo b i).length ≤ i := by
  unfold refsTo
  rw [List.length_map]
  exact Nat.le_trans (List.length_filter_le _ _) (by rw [List.length_take]; omega)
theorem refsTo_word {b : Book} {i j : Nat} (h : j ∈ refsTo b i) : ∃ w, b.words[j]? = some w ∧ kindOf w.what ≠ 0 := by
  unfold refsTo at h
  obtain ⟨⟨w, k⟩, hx, rfl⟩ := List.mem_map.mp h
  obtain ⟨h1, h2⟩ := List.mem_filter.mp hx
  have h3 := List.mem_of_mem_take h1
  rw [List.mem_zipIdx_iff_getElem?] at h3
  exact ⟨w, h3, of_decide_eq_true h2⟩
theorem ans_shown (b : Book) (n : Nat) : step b (.shown n) = (b, if TRIES < n then ok (-1) else ⟨((refsTo b b.words.length).length : Int), Si37.ints ((refsTo b b.words.length).flatMap (refRow b (passes b n)))⟩) := by
  rw [step_shown, shown_refs _ _ _ (Nat.le_refl _), List.length_map, List.flatMap_def]
theorem ans_open (b : Book) : step b .open_ = (b, ⟨(((toldTo b.words).filter fun k => !(markIx b.words k).isSome).length : Int), Si37.ints ((toldTo b.words).filter fun k => !(markIx b.words k).isSome)⟩) := by
  rw [step_open, openTo_told]
end Tr

set_option Elab.async false
set_option linter.all false
set_option maxRecDepth 100000
namespace Tr
open PySem PySem.Spec PyProof.Rows L2
def top (i : Nat) : Stmt := PySem.Challenge.pw_truerefs_s01_answers.main.body.getD i (.Pass ⟨0, 0, 0, 0⟩)
abbrev s_Frame_init : Stmt := inClass (top 5) 0
abbrev s_first_frame : Stmt := top 6
abbrev s_frame_of : Stmt := top 7
abbrev s_frame_is_allowed : Stmt := top 8
abbrev s_Word_init : Stmt := inClass (top 17) 0
abbrev s_words_told : Stmt := top 18
abbrev s_word_is_allowed : Stmt := top 19
abbrev s_has_mark_twice : Stmt := top 20
abbrev s_marks_told_of : Stmt := top 21
abbrev s_digits_length : Stmt := top 30
abbrev s_roman_length : Stmt := top 31
abbrev s_number_length : Stmt := top 32
abbrev s_what_is_told : Stmt := top 33
abbrev s_reference_length : Stmt := top 34
abbrev s_mark_page_in : Stmt := top 35
abbrev s_word_lengths : Stmt := top 36
abbrev s_paragraph_line : Stmt := top 39
abbrev s_word_lines : Stmt := top 40
abbrev s_page_of_line : Stmt := top 41
abbrev s_lines_by : Stmt := top 42
abbrev s_next_setting : Stmt := top 43
abbrev s_Course_init : Stmt := inClass (top 44) 0
abbrev s_Course_ring_length : Stmt := inClass (top 44) 1
abbrev s_Course_setting_behind : Stmt := inClass (top 44) 2
abbrev s_course_of : Stmt := top 45
abbrev s_words_that_count : Stmt := top 49
abbrev s_last_page_there_may_be : Stmt := top 50
abbrev s_has_too_many_tries : Stmt := top 51
abbrev s_rising_pages : Stmt := top 52
abbrev s_setting_with : Stmt := top 53
abbrev s_true_settings : Stmt := top 54
abbrev s_first_setting : Stmt := top 55
abbrev s_Book_init : Stmt := inClass (top 69) 0
abbrev s_Book_begin_again : Stmt := inClass (top 69) 1
abbrev s_Book_add_paragraph : Stmt := inClass (top 69) 2
abbrev s_Book_course : Stmt := inClass (top 69) 3
abbrev s_answer_begins : Stmt := top 70
abbrev s_answer_para : Stmt := top 71
abbrev s_last_page : Stmt := top 72
abbrev s_answer_settles : Stmt := top 73
abbrev s_pages_answered : Stmt := top 74
abbrev s_lines_answered : Stmt := top 75
abbrev s_what_reference_tells : Stmt := top 76
abbrev s_references_answered : Stmt := top 77
abbrev s_answer_behind_passes : Stmt := top 78
abbrev s_answer_trues : Stmt := top 79
abbrev s_answer_missing_marks : Stmt := top 80
abbrev s_answer_call : Stmt := top 81
abbrev s_answers : Stmt := top 82
def lamPos : Pos := ⟨202, 29, 202, 68⟩
def lamQual : Str := ("first_setting" : Str) ++ ".<locals>." ++ "<lambda>"
def nV (n : Nat) : V := .int (n : Int)
def nVs (s : List Nat) : List V := s.map nV
theorem nVs_get {s : List Nat} {i n : Nat} (h : s[i]? = some n) : (nVs s)[i]? = some (.int (n : Int)) := by
  unfold nVs
  rw [List.getElem?_map, h]
  rfl
theorem nVs_of {s : List Nat} {i : Nat} {v : V} (h : (nVs s)[i]? = some v) : ∃ n, s[i]? = some n ∧ v = .int (n : Int) := by
  unfold nVs at h
  rw [List.getElem?_map] at h
  cases e : s[i]? with
  | none => rw [e] at h; cases h
  | some n => rw [e] at h; exact ⟨n, rfl, (Option.some.inj h).symm⟩
theorem nVs_length (s : List Nat) : (nVs s).length = s.length := List.length_map ..
theorem nVs_snoc (s : List Nat) (n : Nat) : nVs s ++ [.int (n : Int)] = nVs (s ++ [n]) := by
  unfold nVs
  rw [List.map_append]
  rfl
theorem nVs_inj {s t : List Nat} (h : nVs s = nVs t) : s = t := by
  refine List.map_inj_right (f := nV) (fun a b e => ?_) |>.mp h
  have e : V.int (a : Int) = V.int (b : Int) := e
  injection e with e
  omega
def ffl (w h f a n b : Int) : List (Str × V) := [("wide", .int w), ("high", .int h), ("first_page", .int f), ("here", .int a), ("next_page", .int n), ("before", .int b)]
def wfl (k n m : Int) : List (Str × V) := [("kind", .int k), ("told", .int n), ("own_mark", .int m)]
def cfl (s : Addr) (b : V) : List (Str × V) := [("settings", .ref s), ("back", b)]
def bfl (f w o m : Addr) (c : V) : List (Str × V) := [("frame", .ref f), ("words", .ref w), ("openings", .ref o), ("marks", .ref m), ("known_course", c)]
section
variable {w h f a n b k m : Int} {x y z u : Addr} {c d : V}
theorem ffl_wide : (ffl w h f a n b).lookup ("wide" : Str) = some (.int w) := by kernel_rfl
theorem ffl_high : (ffl w h f a n b).lookup ("high" : Str) = some (.int h) := by kernel_rfl
theorem ffl_first : (ffl w h f a n b).lookup ("first_page" : Str) = some (.int f) := by kernel_rfl
theorem ffl_here : (ffl w h f a n b).lookup ("here" : Str) = some (.int a) := by kernel_rfl
theorem ffl_next : (ffl w h f a n b).lookup ("next_page" : Str) = some (.int n) := by kernel_rfl
theorem ffl_before : (ffl w h f a n b).lookup ("before" : Str) = some (.int b) := by kernel_rfl
theorem wfl_kind : (wfl k n m).lookup ("kind" : Str) = some (.int k) := by kernel_rfl
theorem wfl_told : (wfl k n m).lookup ("told" : Str) = some (.int n) := by kernel_rfl
theorem wfl_own : (wfl k n m).lookup ("own_mark" : Str) = some (.int m) := by kernel_rfl
theorem cfl_settings : (cfl x c).lookup ("settings" : Str) = some (.ref x) := by kernel_rfl
theorem cfl_back : (cfl x c).lookup ("back" : Str) = some c := by kernel_rfl
theorem bfl_frame : (bfl x y z u c).lookup ("frame" : Str) = some (.ref x) := by kernel_rfl
theorem bfl_words : (bfl x y z u c).lookup ("words" : Str) = some (.ref y) := by kernel_rfl
theorem bfl_openings : (bfl x y z u c).lookup ("openings" : Str) = some (.ref z) := by kernel_rfl
theorem bfl_marks : (bfl x y z u c).lookup ("marks" : Str) = some (.ref u) := by kernel_rfl
theorem bfl_course : (bfl x y z u c).lookup ("known_course" : Str) = some c := by kernel_rfl
theorem bfl_put : putF "known_course" d (bfl x y z u c) = bfl x y z u d := by kernel_rfl
theorem ffl_put : putF "before" (.int b) (putF "next_page" (.int n) (putF "here" (.int a) (putF "first_page" (.int f) (putF "high" (.int h) (putF "wide" (.int w) []))))) = ffl w h f a n b := by kernel_rfl
theorem wfl_put : putF "own_mark" (.int m) (putF "told" (.int n) (putF "kind" (.int k) [])) = wfl k n m := by kernel_rfl
theorem cfl_put : putF "back" c (putF "settings" (.ref x) []) = cfl x c := by kernel_rfl
end
def noneOf (fs : List (Str × V)) (m : Str) : Prop := fs.lookup m = none
def GTup (K : PySem.W.Frag) (mg : Str → Option Value) (x : Str) (s : List Nat) : Prop := ∃ a, mg x = some (.ref a) ∧ ∀ H : Hp, SqT K H a (nVs s)
structure Ad where
  CF : Addr
  CW : Addr
  CC : Addr
  CB : Addr
  FC : Addr
  FT : Addr
structure Txt (K : PySem.W.Frag) (mg : Str → Option Value) (t : Ad) : Prop where
  clF : Cls K t.CF
  nWide : NoAttr K t.CF "wide"
  nHigh : NoAttr K t.CF "high"
  nFirst : NoAttr K t.CF "first_page"
  nHere : NoAttr K t.CF "here"
  nNext : NoAttr K t.CF "next_page"
  nBefore : NoAttr K t.CF "before"
  clW : Cls K t.CW
  nKind : NoAttr K t.CW "kind"
  nTold : NoAttr K t.CW "told"
  nOwn : NoAttr K t.CW "own_mark"
  clC : Cls K t.CC
  nSettings : NoAttr K t.CC "settings"
  nBack : NoAttr K t.CC "back"
  clB : Cls K t.CB
  nFrame : NoAttr K t.CB "frame"
  nWords : NoAttr K t.CB "words"
  nOpenings : NoAttr K t.CB "openings"
  nMarks : NoAttr K t.CB "marks"
  nCourse : NoAttr K t.CB "known_course"
  cdFirst : PySem.W.codeHdIn K t.FC t.FT = true
  any : mg "any" = none
  list : mg "list" = none
  len : mg "len" = none
  zip : mg "zip" = none
  enumerate : mg "enumerate" = none
  min : mg "min" = none
  str : mg "str" = none
  tuple : mg "tuple" = none
  range : mg "range" = none
  set : mg "set" = none
  max : mg "max" = none
  all : mg "all" = none
  cMOST_WIDE : GInt mg "MOST_WIDE" 200
  cMOST_HIGH : GInt mg "MOST_HIGH" 100
  cMOST_FIRST_PAGE : GInt mg "MOST_FIRST_PAGE" 3000
  cMOST_PHRASE : GInt mg "MOST_PHRASE" 50
  cPLAIN : GInt mg "PLAIN" 0
  cDIGITS : GInt mg "DIGITS" 1
  cROMAN : GInt mg "ROMAN" 2
  cHOW_FAR : GInt mg "HOW_FAR" 3
  cMOST_LENGTH : GInt mg "MOST_LENGTH" 200
  cMOST_MARK : GInt mg "MOST_MARK" 20
  cNO_MARK : GInt mg "NO_MARK" 0
  cNOT_KNOWN : GInt mg "NOT_KNOWN" 0
  cLENGTH_NOT_KNOWN : GInt mg "LENGTH_NOT_KNOWN" 1
  cTELLS_NOTHING : GInt mg "TELLS_NOTHING" 0
  cTELLS_PAGE : GInt mg "TELLS_PAGE" 1
  cTELLS_HERE : GInt mg "TELLS_HERE" 2
  cTELLS_NEXT_PAGE : GInt mg "TELLS_NEXT_PAGE" 3
  cMOST_PASSES : GInt mg "MOST_PASSES" 400
  cMOST_COUNTING : GInt mg "MOST_COUNTING" 3
  cMOST_PAGES_ABOVE : GInt mg "MOST_PAGES_ABOVE" 30
  cBEGINS : GInt mg "BEGINS" 0
  cPARA : GInt mg "PARA" 1
  cPASS : GInt mg "PASS" 2
  cSETTLES : GInt mg "SETTLES" 3
  cLINES : GInt mg "LINES" 4
  cSHOWN : GInt mg "SHOWN" 5
  cTRUES : GInt mg "TRUES" 6
  cOUT_OF_RANGE : GInt mg "OUT_OF_RANGE" (-1)
  cMARK_TWICE : GInt mg "MARK_TWICE" (-3)
  cTOO_MANY : GInt mg "TOO_MANY" (-5)
  cNEVER_AGAIN : GInt mg "NEVER_AGAIN" (-7)
  cMOST_WORDS : GInt mg "MOST_WORDS" 200
  cROMAN_SIGNS : GTup K mg "ROMAN_SIGNS" [0, 1, 2, 3, 2, 1, 2, 3, 4, 2]
def FrameAt (t : Ad) (H : Hp) (a : Addr) (f : Si37.Frame) : Prop := ∃ dx, H a = some (.ins t.CF dx (ffl f.wide f.high f.first f.here f.next f.far))
def WordAt (t : Ad) (H : Hp) (a : Addr) (w : Si37.Word) : Prop := ∃ dx, H a = some (.ins t.CW dx (wfl (kindOf w.what) (toldOf w.what) w.mark))
structure WordsAt (t : Ad) (H : Hp) (as : List Addr) (ws : List Si37.Word) : Prop where
  len : as.length = ws.length
  at_ : ∀ (i : Nat) (a : Addr) (w : Si37.Word), as[i]? = some a → ws[i]? = some w → WordAt t H a w
def OpenOk (kvs : List (Key × V)) (ps : List Si37.Para) : Prop := ∀ i : Nat, valV kvs (Sum.inl (i : Int)) = match (flags ps)[i]? with
  | some (some pg) => some (.int (if pg = true then 1 else 0))
  | _ => none
def MarkOk (kvs : List (Key × V)) (ws : List Si37.Word) : Prop := ∀ k : Nat, 1 ≤ k → valV kvs (Sum.inl (k : Int)) = (markIx ws k).map nV
def KeysOk (kvs : List (Key × V)) (ps : List Si37.Para) : Prop := kvs.map (fun kv => kv.1) = (starts 0 ps).map fun (n : Nat) => (Sum.inl (n : Int) : Key)
def CourseOk (b : Si37.Book) (m : Nat) (o : Option Nat) : Prop := Apart b m ∧ match o with
  | some j => j < m ∧ m ≤ 400 ∧ Si37.passes b m = Si37.passes b j
  | none => m = 401
def backV : Option Nat → V
  | none => .non
  | some j => .int (j : Int)
def CourseAt (t : Ad) (H : Hp) (F : Addr → Prop) (c : Addr) (b : Si37.Book) : Prop := ∃ (dx sl : Addr) (as : List Addr) (o : Option Nat),
  H c = some (.ins t.CC dx (cfl sl (backV o))) ∧ H sl = some (.lst (as.map V.ref)) ∧ F sl ∧ (∀ a ∈ as, F a) ∧ (∀ (i : Nat) (a : Addr), as[i]? = some a → H a = some (.lst (nVs (Si37.passes b i)))) ∧ CourseOk b as.length o
structure BA where
  bk : Addr
  dx : Addr
  fr : Addr
  wl : Addr
  od : Addr
  md : Addr
  ws : List Addr
  kc : V
structure BookAt (t : Ad) (H : Hp) (F : Addr → Prop) (A : BA) (b : Si37.Book) : Prop where
  wf : Wf b
  ins : H A.bk = some (.ins t.CB A.dx (bfl A.fr A.wl A.od A.md A.kc))
  fr : FrameAt t H A.fr b.frame
  wl : H A.wl = some (.lst (A.ws.map V.ref))
  fwl : F A.wl
  ws : WordsAt t H A.ws b.words
  od : ∃ kvs, H A.od = some (.dK kvs) ∧ kvs.length ≤ b.words.length ∧ OpenOk kvs b.paras
  md : ∃ kvs, H A.md = some (.dK kvs) ∧ kvs.length ≤ b.words.length ∧ MarkOk kvs b.words
  ne : A.od ≠ A.md
  kc : A.kc = .non ∨ ∃ c, A.kc = .ref c ∧ CourseAt t H F c b
  ky : ∃ kvs, H A.od = some (.dK kvs) ∧ KeysOk kvs b.paras
  tb : TabOk H t.FT lamPos lamQual
theorem FrameAt.same {t : Ad} {H H' : Hp} {a : Addr} {f : Si37.Frame} (h : FrameAt t H a f) (s : Same H H') : FrameAt t H' a f := let ⟨dx, e⟩ := h; ⟨dx, s _ _ e⟩
theorem WordAt.same {t : Ad} {H H' : Hp} {a : Addr} {w : Si37.Word} (h : WordAt t H a w) (s : Same H H') : WordAt t H' a w := let ⟨dx, e⟩ := h; ⟨dx, s _ _ e⟩
theorem WordsAt.same {t : Ad} {H H' : Hp} {as : List Addr} {ws : List Si37.Word} (h : WordsAt t H as ws) (s : Same H H') : WordsAt t H' as ws := ⟨h.len, fun i a w h1 h2 => (h.at_ i a w h1 h2).same s⟩
theorem CourseAt.same {t : Ad} {H H' : Hp} {F : Addr → Prop} {c : Addr} {b : Si37.Book} (h : CourseAt t H F c b) (s : Same H H') : CourseAt t H' F c b := by
  obtain ⟨dx, sl, as, o, h1, h2, h3, h4, h5, h6⟩ := h
  exact ⟨dx, sl, as, o, s _ _ h1, s _ _ h2, h3, h4, fun i a e => s _ _ (h5 i a e), h6⟩
theorem CourseAt.mono {t : Ad} {H : Hp} {F G : Addr → Prop} {c : Addr} {b : Si37.Book} (h : CourseAt t H F c b) (s : ∀ a, F a → G a) : CourseAt t H G c b := by
  obtain ⟨dx, sl, as, o, h1, h2, h3, h4, h5, h6⟩ := h
  exact ⟨dx, sl, as, o, h1, h2, s _ h3, fun a ha => s _ (h4 a ha), h5, h6⟩
theorem BookAt.same {t : Ad} {H H' : Hp} {F : Addr → Prop} {A : BA} {b : Si37.Book} (h : BookAt t H F A b) (s : Same H H') : BookAt t H' F A b :=
  ⟨h.wf, s _ _ h.ins, h.fr.same s, s _ _ h.wl, h.fwl, h.ws.same s, let ⟨k, e, r⟩ := h.od; ⟨k, s _ _ e, r⟩, let ⟨k, e, r⟩ := h.md; ⟨k, s _ _ e, r⟩, h.ne,
    h.kc.elim .inl (fun ⟨c, e, q⟩ => .inr ⟨c, e, q.same s⟩), let ⟨k, e, r⟩ := h.ky; ⟨k, s _ _ e, r⟩, h.tb.same s⟩
theorem BookAt.keep {t : Ad} {H H' : Hp} {F : Addr → Prop} {A : BA} {b : Si37.Book} {x : Addr} {ys : List V} (h : BookAt t H F A b) (hx : H x = some (.lst ys)) (hF : ∀ a, F a → a ≠ x) (k : ∀ a o, H a = some o → a ≠ x → H' a = some o) : BookAt t H' F A b := by
  have ki : ∀ {a C dx fs}, H a = some (.ins C dx fs) → H' a = some (.ins C dx fs) := fun {a C dx fs} e => k _ _ e (ne_of e hx (by intro z; cases z))
  have kd : ∀ {a kvs}, H a = some (.dK kvs) → H' a = some (.dK kvs) := fun {a kvs} e => k _ _ e (ne_of e hx (by intro z; cases z))
  refine ⟨h.wf, ki h.ins, let ⟨dx, e⟩ := h.fr; ⟨dx, ki e⟩, k _ _ h.wl (hF _ h.fwl), h.fwl, ⟨h.ws.len, fun i a w h1 h2 => let ⟨dx, e⟩ := h.ws.at_ i a w h1 h2; ⟨dx, ki e⟩⟩,
    let ⟨q, e, r⟩ := h.od; ⟨q, kd e, r⟩, let ⟨q, e, r⟩ := h.md; ⟨q, kd e, r⟩, h.ne, h.kc.elim .inl (fun ⟨c, e, q⟩ => .inr ⟨c, e, ?_⟩), let ⟨q, e, r⟩ := h.ky; ⟨q, kd e, r⟩, h.tb.keep (fun a ps e => k _ _ e (ne_of e hx (by intro z; cases z))) fun a φ e => k _ _ e (ne_of e hx (by intro z; cases z))⟩
  obtain ⟨dx, sl, as, o, h1, h2, h3, h4, h5, h6⟩ := q
  exact ⟨dx, sl, as, o, ki h1, k _ _ h2 (hF _ h3), h3, h4, fun i a e => k _ _ (h5 i a e) (hF _ (h4 a (List.mem_of_getElem? e))), h6⟩
end Tr

set_option Elab.async false
set_option linter.all false
set_option maxRecDepth 100000
set_option maxHeartbeats 4000000
namespace Tr
open PySem PySem.Spec PyProof.Rows L2
theorem iteD {c : Prop} [Decidable c] {A B : Prop} (h1 : c → A) (h2 : ¬ c → B) : if decide c = true then A else B := by
  by_cases h : c
  · rw [if_pos (decide_eq_true h)]; exact h1 h
  · rw [if_neg (by rw [decide_eq_false h]; exact Bool.false_ne_true)]; exact h2 h
theorem iteI {a b : Int} {A B : Prop} (h1 : a = b → A) (h2 : ¬ a = b → B) : if decide (V.int a = V.int b) = true then A else B :=
  iteD (fun h => h1 (V.int.inj h)) fun h => h2 fun e => h (congrArg V.int e)
theorem log_small {n : Nat} (h : n < 1000000) : ((n : Int)).natAbs.log2 < 1920 := by
  rw [Int.natAbs_natCast]
  by_cases h0 : n = 0
  · subst h0; decide
  · exact (Nat.log2_lt h0).mpr (Nat.lt_of_lt_of_le h (Nat.le_trans (show 1000000 ≤ 2 ^ 20 by decide) (Nat.pow_le_pow_right (by decide) (by decide))))
theorem digits_str (n : Nat) : (Str.ofString (toString ((n : Nat) : Int))).length = Si37.digitsIn n := by
  have h := congrArg List.length (TL.tl_num n)
  unfold TL.tl TL.numL at h
  rw [Array.length_toList, List.length_map] at h
  exact h
theorem digits_le {n : Nat} (h : n < 1000000) : Si37.digitsIn n ≤ 6 := by
  have h1 := TL.numL_len (n := n) (k := 6) (by decide) h
  unfold TL.numL at h1
  rw [List.length_map] at h1
  exact h1
section
variable {P : Program} {w : World} {K : PySem.W.Frag} {mg : Str → Option Value} {base : Heap} {t : Ad}
def spDigits : Sp := fun vs H Q _ => ∃ n : Nat, vs = [.int (n : Int)] ∧ n < 1000000 ∧ Q (.int (Si37.digitsIn n : Nat)) H
theorem sc_digits : FnScope ["page"] ["page"] (defScope s_digits_length) := ⟨rfl, rfl, rfl, by decide +kernel, rfl, by decide +kernel, by decide +kernel⟩
theorem ok_digits {f : Addr} {fd : FuncData} (F : Fun K "digits_length" "digits_length" s_digits_length f fd) (T : Txt K mg t) : FnOk P w K mg base CX0 1 f fd ["page"] spDigits := by
  refine F.ok sc_digits (fun vs H Q E h => ?_) (fun cdv A outer s H vs Q E hr h => ?_)
  · obtain ⟨n, rfl, _⟩ := h
    rfl
  · obtain ⟨n, rfl, hn, k⟩ := h
    refine ⟨_, pss_one (ps_ret (pe_callB call_len_str (by rfl) T.len PySem.boot_len (pa_cons (pe_callTy call_str_int (by rfl) T.str (by decide +kernel) (pa_cons (pv 0) pa_nil)) pa_nil))), ?_⟩
    refine ⟨_, rfl, _, rfl, log_small hn, _, rfl, ?_, ?_⟩
    · rw [digits_str]
      exact Nat.le_trans (digits_le hn) (by decide)
    · rw [digits_str]
      exact k
def spRoman : Sp := fun vs H Q _ => ∃ n : Nat, vs = [.int (n : Int)] ∧ n ≠ 0 ∧ Q (.int (Si37.romanIn n : Nat)) H
theorem sc_roman : FnScope ["page", "length", "rest"] ["page"] (defScope s_roman_length) := ⟨rfl, rfl, rfl, by decide +kernel, rfl, by decide +kernel, by decide +kernel⟩
theorem ok_roman {f : Addr} {fd : FuncData} (F : Fun K "roman_length" "roman_length" s_roman_length f fd) (T : Txt K mg t) : FnOk P w K mg base CX0 1 f fd ["page"] spRoman := by
  refine F.ok sc_roman (fun vs H Q E h => ?_) (fun cdv A outer s H vs Q E hr h => ?_)
  · obtain ⟨n, rfl, _⟩ := h
    rfl
  · obtain ⟨n, rfl, hn, k⟩ := h
    obtain ⟨sg, hm, hsg⟩ := T.cROMAN_SIGNS
    refine ⟨_, pss_cons (ps_set (i := 1) sc_roman.nd rfl (Or.inl rfl) (pe_op op_fdiv (pv 0) pe_int))
      (pss_cons (ps_set (i := 2) sc_roman.nd rfl (Or.inl rfl) (pe_op op_mod (pv 0) pe_int))
      (pss_cons (ps_while PassesOwn.never (pt_cmpR op_gt (pv 2) pe_int (nomark _))
        (pss_cons (ps_aug (i := 1) sc_roman.nd rfl (Or.inl rfl) (pe_ix ix_tup (pe_glob (v := V.ref sg) rfl hm rfl) (pe_op op_mod (pv 2) pe_int) (fun _ _ => rfl)) ip_add)
        (pss_one (ps_set (i := 2) sc_roman.nd rfl (Or.inl rfl) (pe_op op_fdiv (pv 2) pe_int)))))
      (pss_one (ps_ret (pv 1))))), ?_⟩
    refine ⟨_, rfl, _, _, rfl, rfl, ⟨by decide, by decide⟩, _, rfl, _, _, rfl, rfl, (by show (0 : Int) < 1000; decide), ?_⟩
    refine while_by (fun σ H' => ∃ len rest : Nat, σ = [some (.int (n : Int)), some (.int (len : Int)), some (.int (rest : Int))] ∧ H' = H ∧ len + rtail rest = Si37.romanIn n ∧ rest < 1000)
      (fun σ _ => match σ with | [_, _, some (.int r)] => r.toNat | _ => 0) ?_ ?_ ?_
    · refine ⟨n / 1000, n % 1000, ?_, rfl, (roman_start hn).symm, Nat.mod_lt _ (by decide)⟩
      show [some (V.int (n : Int)), some (V.int ((n : Int) / 1000)), some (V.int ((n : Int) % 1000))] = _
      rw [show ((n : Int) / 1000) = ((n / 1000 : Nat) : Int) by omega, show ((n : Int) % 1000) = ((n % 1000 : Nat) : Int) by omega]
    · rintro σ H' ⟨len, rest, rfl, rfl, hsum, hlt⟩
      refine ⟨_, rfl, _, _, rfl, rfl, _, rfl, iteD (fun hpos => ?_) (fun hpos => ?_)⟩
      · have hpos : (0 : Int) < (rest : Int) := hpos
        refine ⟨_, rfl, _, rfl, _, _, rfl, rfl, (by show (0 : Int) < 10; decide), sg, _, _, _, rfl, rfl, hsg _, at_of (j := rest % 10) (by show ((rest : Int) % 10) = ((rest % 10 : Nat) : Int); omega) (nVs_get (romanDigit_get (Nat.mod_lt _ (by decide)))), _, _, rfl, rfl, ?_⟩
        refine ⟨_, rfl, _, _, rfl, rfl, ⟨by decide, by decide⟩, ?_⟩
        refine ⟨⟨len + Si37.romanDigit (rest % 10), rest / 10, ?_, rfl, ?_, by omega⟩, ?_⟩
        · show [some (V.int (n : Int)), some (V.int ((len : Int) + (Si37.romanDigit (rest % 10) : Nat))), some (V.int ((rest : Int) / 10))] = _
          rw [show ((rest : Int) / 10) = ((rest / 10 : Nat) : Int) by omega, Int.natCast_add]
        · rw [← hsum, rtail_step hlt]; omega
        · show ((rest : Int) / 10).toNat < ((rest : Int)).toNat
          omega
      · have hpos : ¬ (0 : Int) < (rest : Int) := hpos
        have e : rest = 0 := by omega
        subst e
        rw [rtail_zero] at hsum
        refine ⟨_, rfl, ?_⟩
        rw [← hsum] at k
        exact k
    · intro σ H' Q1 Q2 hq h
      obtain ⟨v, e, i, j, h1, h2, kk, h3, h4⟩ := h
      exact ⟨v, e, i, j, h1, h2, kk, h3, hq _ _ h4⟩
theorem iteN {a b : Int} {A B : Prop} (h1 : ¬ a = b → A) (h2 : a = b → B) : if (!decide (V.int a = V.int b)) = true then A else B := by
  by_cases h : a = b
  · subst h
    rw [if_neg (by simp)]
    exact h2 rfl
  · rw [if_pos (by rw [decide_eq_false fun e => h (V.int.inj e)]; rfl)]
    exact h1 h
def numLen (f : Si37.Frame) (kd p : Nat) : Nat := if kd = 1 then Si37.digitsIn p else if kd = 2 then Si37.romanIn p else f.far + Si37.digitsIn p
def spNumber (t : Ad) : Sp := fun vs H Q _ => ∃ (fr : Addr) (f : Si37.Frame) (kd p : Nat), vs = [.ref fr, .int (kd : Int), .int (p : Int)] ∧ FrameAt t H fr f ∧ p ≠ 0 ∧ p < 1000000 ∧ Q (.int (numLen f kd p : Nat)) H
theorem sc_number : FnScope ["frame", "kind", "page"] ["frame", "kind", "page"] (defScope s_number_length) := ⟨rfl, rfl, rfl, by decide +kernel, rfl, by decide +kernel, by decide +kernel⟩
theorem ok_number {f : Addr} {fd : FuncData} (F : Fun K "number_length" "number_length" s_number_length f fd) (T : Txt K mg t) (GD : Fn P w K mg base 1 "digits_length" ["page"] spDigits) (GR : Fn P w K mg base 1 "roman_length" ["page"] spRoman) :
    FnOk P w K mg base CX0 2 f fd ["frame", "kind", "page"] (spNumber t) := by
  refine F.ok sc_number (fun vs H Q E h => ?_) (fun cdv A outer s H vs Q E hr h => ?_)
  · obtain ⟨_, _, _, _, rfl, _⟩ := h
    rfl
  · obtain ⟨fr, fm, kd, p, rfl, ⟨dx, hF⟩, h0, hb, k⟩ := h
    refine ⟨_, pss_cons (ps_if (pt_cmpR op_eq (pv 1) (pe_gint T.cDIGITS) (nomark _)) (pss_one (ps_ret (pe_fn GD hr (pa_cons (pv 2) pa_nil)))) pss_nil)
      (pss_cons (ps_if (pt_cmpR op_eq (pv 1) (pe_gint T.cROMAN) (nomark _)) (pss_one (ps_ret (pe_fn GR hr (pa_cons (pv 2) pa_nil)))) pss_nil)
      (pss_one (ps_ret (pe_op op_add (pe_fld (pv 0) rfl) (pe_fn GD hr (pa_cons (pv 2) pa_nil)))))), ?_⟩
    unfold numLen at k
    refine ⟨_, rfl, rfl, _, rfl, iteI (fun h1 => ?_) (fun h1 => ?_)⟩
    · rw [if_pos (show kd = 1 by omega)] at k
      exact ⟨_, rfl, p, rfl, hb, k⟩
    · rw [if_neg (show ¬ kd = 1 by omega)] at k
      refine ⟨_, rfl, rfl, _, rfl, iteI (fun h2 => ?_) (fun h2 => ?_)⟩
      · rw [if_pos (show kd = 2 by omega)] at k
        exact ⟨_, rfl, p, rfl, h0, k⟩
      · rw [if_neg (show ¬ kd = 2 by omega)] at k
        refine ⟨_, rfl, fr, _, dx, _, _, rfl, hF, T.clF, T.nBefore, ffl_before, _, rfl, p, rfl, hb, _, _, rfl, rfl, ?_⟩
        rw [Int.natCast_add] at k
        exact k
def toldNo (kd own mk : Nat) : Nat := if mk = 0 then 0 else if kd = 3 then (if own = 0 then 0 else if mk = own then 2 else if mk = own + 1 then 3 else 1) else 1
theorem told_ref_len {f : Si37.Frame} {kd own mk : Nat} (h : kd ≠ 0) (h3 : kd ≤ 3) : refLen f kd own mk = if toldNo kd own mk = 1 then numLen f kd mk else if toldNo kd own mk = 2 then f.here else if toldNo kd own mk = 3 then f.next else 1 := by
  unfold refLen toldNo numLen farLen
  by_cases h0 : mk = 0
  · simp [h0]
  · by_cases h1 : kd = 3
    · subst h1
      by_cases h2 : own = 0
      · simp [h0, h2]
      · by_cases h4 : mk = own
        · subst h4; simp [h0]
        · by_cases h5 : mk = own + 1
          · subst h5; simp [h2]
          · simp [h0, h2, h4, h5]
    · by_cases h2 : kd = 1
      · simp [h0, h2]
      · have : kd = 2 := by omega
        simp [h0, this]
theorem told_tells (kd own mk : Nat) : tellsRef kd own mk = if toldNo kd own mk = 1 then [1, mk] else [toldNo kd own mk] := by
  unfold tellsRef toldNo
  by_cases h0 : mk = 0
  · simp [h0]
  · by_cases h1 : kd = 3
    · subst h1
      by_cases h2 : own = 0
      · simp [h0, h2]
      · by_cases h4 : mk = own
        · subst h4; simp [h0]
        · by_cases h5 : mk = own + 1
          · subst h5; simp [h2]
          · simp [h0, h2, h4, h5]
    · simp [h0, h1]
theorem told_page {kd own mk : Nat} (h : toldNo kd own mk = 1) : mk ≠ 0 := fun e => by
  unfold toldNo at h
  rw [if_pos e] at h
  cases h
def spWhat : Sp := fun vs H Q _ => ∃ kd own mk : Nat, vs = [.int (kd : Int), .int (own : Int), .int (mk : Int)] ∧ Q (.int (toldNo kd own mk : Nat)) H
theorem sc_what : FnScope ["kind", "own_page", "mark_page"] ["kind", "own_page", "mark_page"] (defScope s_what_is_told) := ⟨rfl, rfl, rfl, by decide +kernel, rfl, by decide +kernel, by decide +kernel⟩
theorem ok_what {f : Addr} {fd : FuncData} (F : Fun K "what_is_told" "what_is_told" s_what_is_told f fd) (T : Txt K mg t) : FnOk P w K mg base CX0 1 f fd ["kind", "own_page", "mark_page"] spWhat := by
  refine F.ok sc_what (fun vs H Q E h => ?_) (fun cdv A outer s H vs Q E hr h => ?_)
  · obtain ⟨_, _, _, rfl, _⟩ := h
    rfl
  · obtain ⟨kd, own, mk, rfl, k⟩ := h
    refine ⟨_, pss_cons (ps_if (pt_cmpR op_eq (pv 2) (pe_gint T.cNOT_KNOWN) (nomark _)) (pss_one (ps_ret (pe_gint T.cTELLS_NOTHING))) pss_nil)
      (pss_cons (ps_if (pt_cmpR op_ne (pv 0) (pe_gint T.cHOW_FAR) (nomark _)) (pss_one (ps_ret (pe_gint T.cTELLS_PAGE))) pss_nil)
      (pss_cons (ps_if (pt_cmpR op_eq (pv 1) (pe_gint T.cNOT_KNOWN) (nomark _)) (pss_one (ps_ret (pe_gint T.cTELLS_NOTHING))) pss_nil)
      (pss_cons (ps_if (pt_cmpR op_eq (pv 2) (pv 1) (nomark _)) (pss_one (ps_ret (pe_gint T.cTELLS_HERE))) pss_nil)
      (pss_cons (ps_if (pt_cmpR op_eq (pv 2) (pe_op op_add (pv 1) pe_int) (nomark _)) (pss_one (ps_ret (pe_gint T.cTELLS_NEXT_PAGE))) pss_nil)
      (pss_one (ps_ret (pe_gint T.cTELLS_PAGE))))))), ?_⟩
    unfold toldNo at k
    refine ⟨_, rfl, rfl, _, rfl, iteI (fun h0 => ?_) (fun h0 => ?_)⟩
    · rw [if_pos (show mk = 0 by omega)] at k
      exact k
    · rw [if_neg (show ¬ mk = 0 by omega)] at k
      refine ⟨_, rfl, rfl, _, rfl, iteN (fun h1 => ?_) (fun h1 => ?_)⟩
      · rw [if_neg (show ¬ kd = 3 by omega)] at k
        exact k
      · rw [if_pos (show kd = 3 by omega)] at k
        refine ⟨_, rfl, rfl, _, rfl, iteI (fun h2 => ?_) (fun h2 => ?_)⟩
        · rw [if_pos (show own = 0 by omega)] at k
          exact k
        · rw [if_neg (show ¬ own = 0 by omega)] at k
          refine ⟨_, rfl, _, rfl, rfl, _, rfl, iteI (fun h3 => ?_) (fun h3 => ?_)⟩
          · rw [if_pos (show mk = own by omega)] at k
            exact k
          · rw [if_neg (show ¬ mk = own by omega)] at k
            refine ⟨_, rfl, _, rfl, _, _, rfl, rfl, rfl, _, rfl, iteI (fun h4 => ?_) (fun h4 => ?_)⟩
            · rw [if_pos (show mk = own + 1 by omega)] at k
              exact k
            · rw [if_neg (show ¬ mk = own + 1 by omega)] at k
              exact k
def pageIn (ws : List Si37.Word) (s : List Nat) (k : Nat) : Nat := match markIx ws k with
  | some i => s.getD i 0
  | none => 0
def spMarkPage : Sp := fun vs H Q _ => ∃ (md sa : Addr) (k : Nat) (ws : List Si37.Word) (s : List Nat) (kvs : List (Key × V)), vs = [.ref md, .int (k : Int), .ref sa] ∧ H md = some (.dK kvs) ∧ MarkOk kvs ws ∧ 1 ≤ k ∧ H sa = some (.lst (nVs s)) ∧ s.length = ws.length ∧ Q (.int (pageIn ws s k : Nat)) H
theorem sc_markPage : FnScope ["marks", "mark", "setting"] ["marks", "mark", "setting"] (defScope s_mark_page_in) := ⟨rfl, rfl, rfl, by decide +kernel, rfl, by decide +kernel, by decide +kernel⟩
theorem ok_markPage {f : Addr} {fd : FuncData} (F : Fun K "mark_page_in" "mark_page_in" s_mark_page_in f fd) (T : Txt K mg t) : FnOk P w K mg base CX0 1 f fd ["marks", "mark", "setting"] spMarkPage := by
  refine F.ok sc_markPage (fun vs H Q E h => ?_) (fun cdv A outer s H vs Q E hr h => ?_)
  · obtain ⟨_, _, _, _, _, _, rfl, _⟩ := h
    rfl
  · obtain ⟨md, sa, n, ws, st, kvs, rfl, hd, ho, hn, hs, hl, k⟩ := h
    have hu := hu_of hr
    refine ⟨_, pss_cons (ps_if (pt_cmp (pc_din hu (pv 1) (pv 0))) (pss_one (ps_ret (pe_ix ix_list (pv 2) (pe_dget hu (pv 0) (pv 1) (fun _ _ => rfl)) (fun _ _ => rfl)))) pss_nil)
      (pss_one (ps_ret (pe_gint T.cNOT_KNOWN))), ?_⟩
    have hv := ho n hn
    unfold pageIn at k
    refine ⟨_, rfl, _, rfl, md, _, rfl, DGet.k (k := Sum.inl (n : Int)) hd, _, rfl, ?_⟩
    cases e : markIx ws n with
    | none =>
      rw [e] at hv k
      rw [hv]
      exact iteF k
    | some i =>
      rw [e] at hv k
      have hi : i < st.length := by rw [hl]; exact markIx_lt e
      have hg : st[i]? = some st[i] := List.getElem?_eq_getElem hi
      have g : DGet H md (V.int (n : Int)) (some (nV i)) := by
        have z := DGet.k (k := Sum.inl (n : Int)) hd
        rw [hv] at z
        exact z
      rw [hv]
      refine iteT ⟨_, rfl, _, rfl, _, rfl, md, _, rfl, g, sa, _, _, _, rfl, rfl, SqL.of hs, atI_nat (nVs_get hg), ?_⟩
      have k : Q (.int (st.getD i 0 : Nat)) H := k
      rw [getD_of hg] at k
      exact k
def spRef (t : Ad) : Sp := fun vs H Q _ => ∃ (fr : Addr) (f : Si37.Frame) (kd own mk : Nat), vs = [.ref fr, .int (kd : Int), .int (own : Int), .int (mk : Int)] ∧ FrameAt t H fr f ∧ mk < 1000000 ∧ kd ≠ 0 ∧ kd ≤ 3 ∧ Q (.int (refLen f kd own mk : Nat)) H
theorem sc_ref : FnScope ["frame", "kind", "own_page", "mark_page", "told"] ["frame", "kind", "own_page", "mark_page"] (defScope s_reference_length) := ⟨rfl, rfl, rfl, by decide +kernel, rfl, by decide +kernel, by decide +kernel⟩
theorem ok_ref {f : Addr} {fd : FuncData} (F : Fun K "reference_length" "reference_length" s_reference_length f fd) (T : Txt K mg t) (GW : Fn P w K mg base 1 "what_is_told" ["kind", "own_page", "mark_page"] spWhat)
    (GN : Fn P w K mg base 2 "number_length" ["frame", "kind", "page"] (spNumber t)) : FnOk P w K mg base CX0 3 f fd ["frame", "kind", "own_page", "mark_page"] (spRef t) := by
  refine F.ok sc_ref (fun vs H Q E h => ?_) (fun cdv A outer s H vs Q E hr h => ?_)
  · obtain ⟨_, _, _, _, _, rfl, _⟩ := h
    rfl
  · obtain ⟨fr, fm, kd, own, mk, rfl, hF, hb, hk0, hk3, k⟩ := h
    have hr1 : Room 1 _ := hr.mono (by decide)
    obtain ⟨dx, hFx⟩ := id hF
    refine ⟨_, pss_cons (ps_set (i := 4) sc_ref.nd rfl (Or.inl rfl) (pe_fn GW hr1 (pa_cons (pv 1) (pa_cons (pv 2) (pa_cons (pv 3) pa_nil)))))
      (pss_cons (ps_if (pt_cmpR op_eq (pv 4) (pe_gint T.cTELLS_PAGE) (nomark _)) (pss_one (ps_ret (pe_fn GN hr (pa_cons (pv 0) (pa_cons (pv 1) (pa_cons (pv 3) pa_nil)))))) pss_nil)
      (pss_cons (ps_if (pt_cmpR op_eq (pv 4) (pe_gint T.cTELLS_HERE) (nomark _)) (pss_one (ps_ret (pe_fld (pv 0) rfl))) pss_nil)
      (pss_cons (ps_if (pt_cmpR op_eq (pv 4) (pe_gint T.cTELLS_NEXT_PAGE) (nomark _)) (pss_one (ps_ret (pe_fld (pv 0) rfl))) pss_nil)
      (pss_one (ps_ret (pe_gint T.cLENGTH_NOT_KNOWN)))))), ?_⟩
    rw [told_ref_len hk0 hk3] at k
    refine ⟨_, rfl, _, rfl, _, rfl, kd, own, mk, rfl, ?_⟩
    refine ⟨_, rfl, rfl, _, rfl, iteI (fun h0 => ?_) (fun h0 => ?_)⟩
    · have h0 : toldNo kd own mk = 1 := by omega
      rw [if_pos h0] at k
      exact ⟨_, rfl, _, rfl, _, rfl, fr, fm, kd, mk, rfl, hF, told_page h0, hb, k⟩
    · have h0 : ¬ toldNo kd own mk = 1 := by omega
      rw [if_neg h0] at k
      refine ⟨_, rfl, rfl, _, rfl, iteI (fun h1 => ?_) (fun h1 => ?_)⟩
      · have h1 : toldNo kd own mk = 2 := by omega
        rw [if_pos h1] at k
        exact ⟨_, rfl, fr, _, dx, _, _, rfl, hFx, T.clF, T.nHere, ffl_here, k⟩
      · have h1 : ¬ toldNo kd own mk = 2 := by omega
        rw [if_neg h1] at k
        refine ⟨_, rfl, rfl, _, rfl, iteI (fun h2 => ?_) (fun h2 => ?_)⟩
        · have h2 : toldNo kd own mk = 3 := by omega
          rw [if_pos h2] at k
          exact ⟨_, rfl, fr, _, dx, _, _, rfl, hFx, T.clF, T.nNext, ffl_next, k⟩
        · have h2 : ¬ toldNo kd own mk = 3 := by omega
          rw [if_neg h2] at k
          exact k
def spLongs (t : Ad) : Sp := fun vs H Q _ => ∃ (fr wl md sa : Addr) (b : Si37.Book) (as : List Addr) (kvs : List (Key × V)) (s : List Nat), vs = [.ref fr, .ref wl, .ref md, .ref sa] ∧ FrameAt t H fr b.frame ∧ H wl = some (.lst (as.map V.ref)) ∧ WordsAt t H as b.words ∧
  H md = some (.dK kvs) ∧ MarkOk kvs b.words ∧ Wf b ∧ H sa = some (.lst (nVs s)) ∧ s.length = b.words.length ∧ Bd s ∧ ∀ (H' : Hp) (p : Addr), Same H H' → H p = none → H' p = some (.lst (nVs (Si37.longs b s))) → Q (.ref p) H'
theorem sc_longs : FnScope ["frame", "words", "marks", "setting", "lengths", "word", "own_page", "mark_page"] ["frame", "words", "marks", "setting"] (defScope s_word_lengths) := ⟨rfl, rfl, rfl, by decide +kernel, rfl, by decide +kernel, by decide +kernel⟩
theorem told_ref {w : Si37.Word} (h : Si37.wordOk w = true) (hk : kindOf w.what ≠ 0) : 1 ≤ toldOf w.what := by
  unfold Si37.wordOk at h
  rw [Bool.and_eq_true] at h
  obtain ⟨wt, m⟩ := w
  cases wt with
  | plain n => exact absurd rfl hk
  | digits k => have h := h.1; unfold Si37.whatOk at h; rw [Bool.and_eq_true, decide_eq_true_eq] at h; exact h.1
  | roman k => have h := h.1; unfold Si37.whatOk at h; rw [Bool.and_eq_true, decide_eq_true_eq] at h; exact h.1
  | near k => have h := h.1; unfold Si37.whatOk at h; rw [Bool.and_eq_true, decide_eq_true_eq] at h; exact h.1
theorem ok_longs {f : Addr} {fd : FuncData} (F : Fun K "word_lengths" "word_lengths" s_word_lengths f fd) (T : Txt K mg t) (GM : Fn P w K mg base 1 "mark_page_in" ["marks", "mark", "setting"] spMarkPage)
    (GF : Fn P w K mg base 3 "reference_length" ["frame", "kind", "own_page", "mark_page"] (spRef t)) : FnOk P w K mg base CX0 4 f fd ["frame", "words", "marks", "setting"] (spLongs t) := by
  refine F.ok sc_longs (fun vs H Q E h => ?_) (fun cdv A outer s H vs Q E hr h => ?_)
  · obtain ⟨_, _, _, _, _, _, _, _, rfl, _⟩ := h
    rfl
  · obtain ⟨fr, wl, md, sa, b, as, kvs, st, rfl, hF, hwl, hws, hmd, hmo, hwf, hs, hl, hbd, k⟩ := h
    have hr1 : Room 1 _ := hr.mono (by decide)
    refine ⟨_, pss_cons (ps_set (i := 4) sc_longs.nd rfl (Or.inl rfl) (pe_lst pa_nil))
      (pss_cons (ps_for PassesOwn.never rfl (pi_zip rfl T.zip (pa_cons (pv 1) (pa_cons (pv 3) pa_nil))) (pg_tup rfl (pgs_cons (pg_name (i := 5) sc_longs.nd rfl (Or.inl rfl)) (pgs_cons (pg_name (i := 6) sc_longs.nd rfl (Or.inl rfl)) pgs_nil)))
        (pss_one (ps_if (pt_cmpR op_eq (pe_fld (pv 5) rfl) (pe_gint T.cPLAIN) (nomark _))
          (pss_one (ps_expr (pe_bm PySem.F.plainAttrs_list PySem.F.slot_list_append PySem.F.type_list_append mt_append (pv 4) (pa_cons (pe_fld (pv 5) rfl) pa_nil))))
          (pss_cons (ps_set (i := 7) sc_longs.nd rfl (Or.inl rfl) (pe_fn GM hr1 (pa_cons (pv 2) (pa_cons (pe_fld (pv 5) rfl) (pa_cons (pv 3) pa_nil)))))
          (pss_one (ps_expr (pe_bm PySem.F.plainAttrs_list PySem.F.slot_list_append PySem.F.type_list_append mt_append (pv 4) (pa_cons (pe_fn GF hr (pa_cons (pv 0) (pa_cons (pe_fld (pv 5) rfl) (pa_cons (pv 6) (pa_cons (pv 7) pa_nil))))) pa_nil))))))))
      (pss_one (ps_ret (pv 4)))), ?_⟩
    refine ⟨Nat.zero_le _, fun p hp => ?_⟩
    have s0 : Same H (upd H p (.lst [])) := (Same.refl H).new hp
    have lenA : (as.map V.ref).length = (nVs st).length := by rw [List.length_map, nVs_length, hws.len, hl]
    refine ⟨_, rfl, _, rfl, wl, sa, _, _, rfl, SqL.of (s0 _ _ hwl), SqL.of (s0 _ _ hs), for_zip (K := K) (a := wl) (b := sa) (xs := as.map V.ref) (ys := nVs st)
      (fun i σ H' => ∃ v5 v6 v7 : Option V, σ = [some (.ref fr), some (.ref wl), some (.ref md), some (.ref sa), some (.ref p), v5, v6, v7] ∧ Same H H' ∧ H' p = some (.lst (nVs ((Si37.longs b st).take i))))
      (Nat.le_of_eq lenA) ⟨none, none, none, rfl, s0, upd_same⟩ (fun i σ H' _ ⟨_, _, _, _, s1, _⟩ => ⟨SqL.of (s1 _ _ hwl), SqL.of (s1 _ _ hs)⟩) ?_ ?_⟩
    · rintro i x y σ H' tp hx hy ⟨v5, v6, v7, rfl, s1, hp'⟩ htp
      obtain ⟨a, ha, rfl⟩ : ∃ a, as[i]? = some a ∧ x = V.ref a := by
        rw [List.getElem?_map] at hx
        cases e : as[i]? with
        | none => rw [e] at hx; cases hx
        | some a => rw [e] at hx; exact ⟨a, rfl, (Option.some.inj hx).symm⟩
      obtain ⟨own, ho, rfl⟩ := nVs_of hy
      obtain ⟨wd, hw⟩ : ∃ wd, b.words[i]? = some wd := ⟨_, List.getElem?_eq_getElem (by rw [← hws.len]; exact (List.getElem?_eq_some_iff.mp ha).1)⟩
      obtain ⟨dx, hA⟩ := hws.at_ i a wd ha hw
      have s2 : Same H (upd H' tp (.tup [V.ref a, V.int (own : Int)])) := s1.new htp
      have hp2 : (upd H' tp (.tup [V.ref a, V.int (own : Int)])) p = some (.lst (nVs ((Si37.longs b st).take i))) := by rw [upd_ne (ne_of_none hp' htp)]; exact hp'
      have hlg := longs_get (s := st) hw
      have hil : i < b.words.length := (List.getElem?_eq_some_iff.mp hw).1
      have hlen : (nVs ((Si37.longs b st).take i)).length < sizeLine := by
        rw [nVs_length, List.length_take, longs_length]
        have := hwf.len
        exact small1000 (by omega)
      have hwo := hwf.wo wd (List.mem_of_getElem? hw)
      refine ⟨tp, _, rfl, SqT.of upd_same, rfl, _, _, rfl, _, _, rfl, rfl, ?_⟩
      refine ⟨_, rfl, a, _, dx, _, _, rfl, s2 _ _ hA, T.clW, T.nKind, wfl_kind, rfl, _, rfl, iteI (fun h0 => ?_) (fun h0 => ?_)⟩
      · have h0 : kindOf wd.what = 0 := by omega
        refine ⟨_, rfl, .inl ⟨rfl, _, SqL.of hp2⟩, _, rfl, a, _, dx, _, _, rfl, s2 _ _ hA, T.clW, T.nTold, wfl_told, p, _, _, rfl, rfl, hp2, hlen, ?_⟩
        refine ⟨_, _, _, rfl, s2.put hp, ?_⟩
        rw [upd_same, nVs_snoc, take_snoc hlg, long_plain h0]
      · have h0 : kindOf wd.what ≠ 0 := by omega
        refine ⟨_, rfl, _, rfl, a, _, dx, _, _, rfl, s2 _ _ hA, T.clW, T.nTold, wfl_told, _, rfl, md, sa, toldOf wd.what, b.words, st, kvs, rfl, s2 _ _ hmd, hmo, told_ref hwo h0, s2 _ _ hs, hl, ?_⟩
        refine ⟨_, rfl, .inl ⟨rfl, _, SqL.of hp2⟩, _, rfl, _, rfl, a, _, dx, _, _, rfl, s2 _ _ hA, T.clW, T.nKind, wfl_kind, _, rfl, _, rfl, fr, b.frame, kindOf wd.what, own, Si37.pageOf b st (toldOf wd.what), rfl, hF.same s2, pageOf_bd hbd _, h0, kind_le _, p, _, _, rfl, rfl, hp2, hlen, ?_⟩
        refine ⟨_, _, _, rfl, s2.put hp, ?_⟩
        rw [upd_same, nVs_snoc, take_snoc hlg, long_ref h0, getD_of ho]
    · rintro σ H' ⟨v5, v6, v7, rfl, s1, hp'⟩
      refine ⟨_, rfl, ?_⟩
      rw [List.length_map, hws.len, ← longs_length b st, List.take_length] at hp'
      exact k H' p s1 hp hp'
end
end Tr

set_option Elab.async false
set_option linter.all false
set_option maxRecDepth 100000
set_option maxHeartbeats 4000000
namespace Tr
open PySem PySem.Spec PyProof.Rows L2
section
variable {P : Program} {w : World} {K : PySem.W.Frag} {mg : Str → Option Value} {base : Heap} {t : Ad}
def spParLine (t : Ad) : Sp := fun vs H Q _ => ∃ (fr : Addr) (f : Si37.Frame) (l : Nat) (pg : Bool), vs = [.ref fr, .int (l : Int), .int (if pg = true then 1 else 0)] ∧ FrameAt t H fr f ∧ FOk f ∧ Q (.int ((if pg = true then Si37.upTo f.high l else l : Nat) : Int)) H
theorem sc_parLine : FnScope ["frame", "line", "begins_page", "pages_before"] ["frame", "line", "begins_page"] (defScope s_paragraph_line) := ⟨rfl, rfl, rfl, by decide +kernel, rfl, by decide +kernel, by decide +kernel⟩
theorem upTo_int {h l : Nat} (hh : 1 ≤ h) : ((Si37.upTo h l : Nat) : Int) = ((l : Int) + (h : Int) - 1) / (h : Int) * (h : Int) := by
  unfold Si37.upTo
  rw [Int.natCast_mul, Int.natCast_ediv, show ((l + h - 1 : Nat) : Int) = (l : Int) + (h : Int) - 1 by omega]
theorem ok_parLine {f : Addr} {fd : FuncData} (F : Fun K "paragraph_line" "paragraph_line" s_paragraph_line f fd) (T : Txt K mg t) : FnOk P w K mg base CX0 1 f fd ["frame", "line", "begins_page"] (spParLine t) := by
  refine F.ok sc_parLine (fun vs H Q E h => ?_) (fun cdv A outer s H vs Q E hr h => ?_)
  · obtain ⟨_, _, _, _, rfl, _⟩ := h
    rfl
  · obtain ⟨fr, fm, l, pg, rfl, ⟨dx, hF⟩, fo, k⟩ := h
    refine ⟨_, pss_cons (ps_if (pt_cmpR op_eq (pv 2) pe_int (nomark _)) (pss_one (ps_ret (pv 1))) pss_nil)
      (pss_cons (ps_set (i := 3) sc_parLine.nd rfl (Or.inl rfl) (pe_op op_fdiv (pe_op op_sub (pe_op op_add (pv 1) (pe_fld (pv 0) rfl)) pe_int) (pe_fld (pv 0) rfl)))
      (pss_one (ps_ret (pe_op op_mul (pv 3) (pe_fld (pv 0) rfl))))), ?_⟩
    have h1 := fo.h1
    have h2 := fo.h2
    refine ⟨_, rfl, rfl, _, rfl, iteI (fun h0 => ?_) (fun h0 => ?_)⟩
    · have e : pg = false := by
        cases pg with
        | false => rfl
        | true => exact absurd h0 (by decide)
      subst e
      exact ⟨_, rfl, k⟩
    · have e : pg = true := by
        cases pg with
        | true => rfl
        | false => exact absurd rfl h0
      subst e
      refine ⟨_, rfl, _, rfl, fr, _, dx, _, _, rfl, hF, T.clF, T.nHigh, ffl_high, _, _, rfl, rfl, _, _, rfl, rfl, _, rfl, fr, _, dx, _, _, rfl, hF, T.clF, T.nHigh, ffl_high, _, _, rfl, rfl, ⟨by show (0 : Int) < (fm.high : Int); omega, by show (fm.high : Int) < 1073741824; omega⟩, ?_⟩
      refine ⟨_, rfl, _, rfl, fr, _, dx, _, _, rfl, hF, T.clF, T.nHigh, ffl_high, _, _, rfl, rfl, .inr ⟨by show -(2 ^ 64) < (fm.high : Int); omega, by show (fm.high : Int) < 2 ^ 64; omega⟩, ?_⟩
      have k : Q (.int ((Si37.upTo fm.high l : Nat) : Int)) H := k
      rw [upTo_int h1] at k
      exact k
def spLines (t : Ad) : Sp := fun vs H Q _ => ∃ (fr od la : Addr) (f : Si37.Frame) (ps : List Si37.Para) (kvs : List (Key × V)) (L : List Nat), vs = [.ref fr, .ref od, .ref la] ∧ FrameAt t H fr f ∧ FOk f ∧ H od = some (.dK kvs) ∧ OpenOk kvs ps ∧ H la = some (.lst (nVs L)) ∧
  L.length = (flags ps).length ∧ L.length ≤ 200 ∧ ∀ (H' : Hp) (p : Addr), Same H H' → H p = none → H' p = some (.lst (nVs (flatFrom f 0 0 ((flags ps).zip L)))) → Q (.ref p) H'
theorem sc_lines : FnScope ["frame", "openings", "lengths", "lines", "line", "used", "number", "length"] ["frame", "openings", "lengths"] (defScope s_word_lines) := ⟨rfl, rfl, rfl, by decide +kernel, rfl, by decide +kernel, by decide +kernel⟩
theorem ok_lines {f : Addr} {fd : FuncData} (F : Fun K "word_lines" "word_lines" s_word_lines f fd) (T : Txt K mg t) (GP : Fn P w K mg base 1 "paragraph_line" ["frame", "line", "begins_page"] (spParLine t)) :
    FnOk P w K mg base CX0 2 f fd ["frame", "openings", "lengths"] (spLines t) := by
  refine F.ok sc_lines (fun vs H Q E h => ?_) (fun cdv A outer s H vs Q E hr h => ?_)
  · obtain ⟨_, _, _, _, _, _, _, rfl, _⟩ := h
    rfl
  · obtain ⟨fr, od, la, fm, ps, kvs, L, rfl, hF, fo, hod, hop, hla, hlen, hsz, k⟩ := h
    have hu := hu_of hr
    obtain ⟨dx, hFx⟩ := id hF
    refine ⟨_, pss_cons (ps_set (i := 3) sc_lines.nd rfl (Or.inl rfl) (pe_lst pa_nil))
      (pss_cons (ps_set (i := 4) sc_lines.nd rfl (Or.inl rfl) (pe_un un_neg pe_int))
      (pss_cons (ps_set (i := 5) sc_lines.nd rfl (Or.inl rfl) pe_int)
      (pss_cons (ps_for PassesOwn.never rfl (pi_enum rfl T.enumerate (pa_cons (pv 2) pa_nil)) (pg_tup rfl (pgs_cons (pg_name (i := 6) sc_lines.nd rfl (Or.inl rfl)) (pgs_cons (pg_name (i := 7) sc_lines.nd rfl (Or.inl rfl)) pgs_nil)))
        (pss_cons (ps_if (pt_cmp (pc_din hu (pv 6) (pv 1)))
            (pss_cons (ps_set (i := 4) sc_lines.nd rfl (Or.inl rfl) (pe_fn GP hr (pa_cons (pv 0) (pa_cons (pe_op op_add (pv 4) pe_int) (pa_cons (pe_dget hu (pv 1) (pv 6) (fun _ _ => rfl)) pa_nil)))))
              (pss_one (ps_set (i := 5) sc_lines.nd rfl (Or.inl rfl) (pv 7))))
            (pss_one (ps_if (pt_cmpR op_le (pe_op op_add (pe_op op_add (pv 5) pe_int) (pv 7)) (pe_fld (pv 0) rfl) (nomark _))
              (pss_one (ps_aug (i := 5) sc_lines.nd rfl (Or.inl rfl) (pe_op op_add pe_int (pv 7)) ip_add))
              (pss_cons (ps_aug (i := 4) sc_lines.nd rfl (Or.inl rfl) pe_int ip_add) (pss_one (ps_set (i := 5) sc_lines.nd rfl (Or.inl rfl) (pv 7)))))))
          (pss_one (ps_expr (pe_bm PySem.F.plainAttrs_list PySem.F.slot_list_append PySem.F.type_list_append mt_append (pv 3) (pa_cons (pv 4) pa_nil))))))
      (pss_one (ps_ret (pv 3)))))), ?_⟩
    refine ⟨Nat.zero_le _, fun p hp => ?_⟩
    have s0 : Same H (upd H p (.lst [])) := (Same.refl H).new hp
    refine ⟨_, rfl, _, rfl, la, _, rfl, SqL.of (s0 _ _ hla), for_enum (K := K) (a := la) (xs := nVs L)
      (fun i σ H' => ∃ (nl c : Nat) (done : List Nat) (v6 v7 : Option V), σ = [some (.ref fr), some (.ref od), some (.ref la), some (.ref p), some (.int ((nl : Int) - 1)), some (.int (c : Int)), v6, v7] ∧ Same H H' ∧ H' p = some (.lst (nVs done)) ∧ done.length = i ∧
        done ++ flatFrom fm nl c (((flags ps).zip L).drop i) = flatFrom fm 0 0 ((flags ps).zip L) ∧ (i = 0 ∨ 1 ≤ nl))
      ⟨0, 0, [], none, none, rfl, s0, upd_same, rfl, rfl, .inl rfl⟩ (fun i σ H' _ ⟨_, _, _, _, _, _, s1, _⟩ => SqL.of (s1 _ _ hla)) ?_ ?_⟩
    · rintro i y σ H' tp hy ⟨nl, c, done, v6, v7, rfl, s1, hp', hdl, hfl, hnl⟩ htp
      obtain ⟨n, hn, rfl⟩ := nVs_of hy
      have hil : i < L.length := (List.getElem?_eq_some_iff.mp hn).1
      obtain ⟨o, ho⟩ : ∃ o, (flags ps)[i]? = some o := ⟨_, List.getElem?_eq_getElem (by rw [← hlen]; exact hil)⟩
      have hit : ((flags ps).zip L)[i]? = some (o, n) := List.getElem?_zip_eq_some.mpr ⟨ho, hn⟩
      rw [drop_cons hit] at hfl
      have s2 : Same H (upd H' tp (.tup [V.int ((i : Nat) : Int), V.int (n : Int)])) := s1.new htp
      have hp2 : (upd H' tp (.tup [V.int ((i : Nat) : Int), V.int (n : Int)])) p = some (.lst (nVs done)) := by rw [upd_ne (ne_of_none hp' htp)]; exact hp'
      have hz : (nVs done).length < sizeLine := by rw [nVs_length, hdl]; exact small1000 (by omega)
      have hv := hop i
      rw [ho] at hv
      refine ⟨tp, _, rfl, SqT.of upd_same, rfl, _, _, rfl, _, _, rfl, rfl, ?_⟩
      refine ⟨_, rfl, _, rfl, od, _, rfl, DGet.k (k := Sum.inl ((i : Nat) : Int)) (s2 _ _ hod), _, rfl, ?_⟩
      cases o with
      | some pg =>
        have g : DGet (upd H' tp (.tup [V.int ((i : Nat) : Int), V.int (n : Int)])) od (V.int ((i : Nat) : Int)) (some (.int (if pg = true then 1 else 0))) := by
          have z := DGet.k (k := Sum.inl ((i : Nat) : Int)) (s2 _ _ hod)
          rw [hv] at z
          exact z
        rw [flat_some] at hfl
        rw [hv]
        refine iteT ⟨_, rfl, _, rfl, _, _, rfl, rfl, _, rfl, _, rfl, od, _, rfl, g, fr, fm, nl, pg, ?_, hF.same s2, fo, ?_⟩
        · show [V.ref fr, V.int ((nl : Int) - 1 + 1), V.int (if pg = true then 1 else 0)] = [V.ref fr, V.int (nl : Int), V.int (if pg = true then 1 else 0)]
          rw [show (nl : Int) - 1 + 1 = nl by omega]
        · generalize (if pg = true then Si37.upTo fm.high nl else nl) = x0 at hfl ⊢
          refine ⟨_, rfl, ?_⟩
          refine ⟨_, rfl, .inl ⟨rfl, _, SqL.of hp2⟩, _, rfl, p, _, _, rfl, rfl, hp2, hz, ?_⟩
          refine ⟨x0 + 1, n, done ++ [x0], some (V.int ((i : Nat) : Int)), some (V.int (n : Int)), ?_, s2.put hp, ?_, ?_, ?_, .inr (by omega)⟩
          · show [some (V.ref fr), some (V.ref od), some (V.ref la), some (V.ref p), some (V.int (x0 : Int)), some (V.int (n : Int)), some (V.int ((i : Nat) : Int)), some (V.int (n : Int))] = _
            rw [show (((x0 + 1 : Nat) : Int) - 1) = (x0 : Int) by omega]
          · rw [upd_same, nVs_snoc]
          · rw [List.length_append, hdl]; rfl
          · rw [List.append_assoc]; exact hfl
      | none =>
        have hnl1 : 1 ≤ nl := hnl.elim (fun e => by
          subst e
          obtain ⟨pg, z⟩ := flags_head ho
          cases z) id
        rw [flat_none] at hfl
        rw [hv]
        refine iteF ⟨_, rfl, _, _, rfl, rfl, _, rfl, _, _, rfl, rfl, _, rfl, fr, _, dx, _, _, rfl, s2 _ _ hFx, T.clF, T.nWide, ffl_wide, _, _, rfl, rfl, _, rfl, iteD (fun hc => ?_) (fun hc => ?_)⟩
        · have hc : (c : Int) + 1 + (n : Int) ≤ (fm.wide : Int) := hc
          rw [if_pos (show c + 1 + n ≤ fm.wide by omega)] at hfl
          refine ⟨_, rfl, _, rfl, _, _, rfl, rfl, _, _, rfl, rfl, ?_⟩
          refine ⟨_, rfl, .inl ⟨rfl, _, SqL.of hp2⟩, _, rfl, p, _, _, rfl, rfl, hp2, hz, ?_⟩
          refine ⟨nl, c + 1 + n, done ++ [nl - 1], some (V.int ((i : Nat) : Int)), some (V.int (n : Int)), ?_, s2.put hp, ?_, ?_, ?_, .inr hnl1⟩
          · show [some (V.ref fr), some (V.ref od), some (V.ref la), some (V.ref p), some (V.int ((nl : Int) - 1)), some (V.int ((c : Int) + (1 + (n : Int)))), some (V.int ((i : Nat) : Int)), some (V.int (n : Int))] = _
            rw [show (c : Int) + (1 + (n : Int)) = ((c + 1 + n : Nat) : Int) by omega]
          · rw [upd_same, show (nl : Int) - 1 = ((nl - 1 : Nat) : Int) by omega, nVs_snoc]
          · rw [List.length_append, hdl]; rfl
          · rw [List.append_assoc]; exact hfl
        · have hc : ¬ (c : Int) + 1 + (n : Int) ≤ (fm.wide : Int) := hc
          rw [if_neg (show ¬ c + 1 + n ≤ fm.wide by omega)] at hfl
          refine ⟨_, rfl, _, _, rfl, rfl, _, rfl, ?_⟩
          refine ⟨_, rfl, .inl ⟨rfl, _, SqL.of hp2⟩, _, rfl, p, _, _, rfl, rfl, hp2, hz, ?_⟩
          refine ⟨nl + 1, n, done ++ [nl], some (V.int ((i : Nat) : Int)), some (V.int (n : Int)), ?_, s2.put hp, ?_, ?_, ?_, .inr (by omega)⟩
          · show [some (V.ref fr), some (V.ref od), some (V.ref la), some (V.ref p), some (V.int ((nl : Int) - 1 + 1)), some (V.int (n : Int)), some (V.int ((i : Nat) : Int)), some (V.int (n : Int))] = _
            rw [show (nl : Int) - 1 + 1 = ((nl + 1 : Nat) : Int) - 1 by omega]
          · show upd _ p (.lst (nVs done ++ [V.int ((nl : Int) - 1 + 1)])) p = _
            rw [upd_same, show (nl : Int) - 1 + 1 = (nl : Int) by omega, nVs_snoc]
          · rw [List.length_append, hdl]; rfl
          · rw [List.append_assoc]; exact hfl
    · rintro σ H' ⟨nl, c, done, v6, v7, rfl, s1, hp', hdl, hfl, hnl⟩
      refine ⟨_, rfl, ?_⟩
      rw [nVs_length, List.drop_eq_nil_of_le (by rw [List.length_zip]; omega), flat_nil, List.append_nil] at hfl
      rw [hfl] at hp'
      exact k H' p s1 hp hp'
def spPage (t : Ad) : Sp := fun vs H Q _ => ∃ (fr : Addr) (f : Si37.Frame) (l : Nat), vs = [.ref fr, .int (l : Int)] ∧ FrameAt t H fr f ∧ FOk f ∧ Q (.int ((f.first + l / f.high : Nat) : Int)) H
theorem sc_page : FnScope ["frame", "line"] ["frame", "line"] (defScope s_page_of_line) := ⟨rfl, rfl, rfl, by decide +kernel, rfl, by decide +kernel, by decide +kernel⟩
theorem ok_page {f : Addr} {fd : FuncData} (F : Fun K "page_of_line" "page_of_line" s_page_of_line f fd) (T : Txt K mg t) : FnOk P w K mg base CX0 1 f fd ["frame", "line"] (spPage t) := by
  refine F.ok sc_page (fun vs H Q E h => ?_) (fun cdv A outer s H vs Q E hr h => ?_)
  · obtain ⟨_, _, _, rfl, _⟩ := h
    rfl
  · obtain ⟨fr, fm, l, rfl, ⟨dx, hF⟩, fo, k⟩ := h
    have h1 := fo.h1
    have h2 := fo.h2
    refine ⟨_, pss_one (ps_ret (pe_op op_add (pe_fld (pv 0) rfl) (pe_op op_fdiv (pv 1) (pe_fld (pv 0) rfl)))), ?_⟩
    refine ⟨_, rfl, fr, _, dx, _, _, rfl, hF, T.clF, T.nFirst, ffl_first, _, rfl, _, rfl, fr, _, dx, _, _, rfl, hF, T.clF, T.nHigh, ffl_high, _, _, rfl, rfl, ⟨by show (0 : Int) < (fm.high : Int); omega, by show (fm.high : Int) < 1073741824; omega⟩, _, _, rfl, rfl, ?_⟩
    rw [Int.natCast_add, Int.natCast_ediv] at k
    exact k
def spLinesBy (t : Ad) : Sp := fun vs H Q _ => ∃ (A : BA) (F : Addr → Prop) (b : Si37.Book) (sa : Addr) (s : List Nat), vs = [.ref A.bk, .ref sa] ∧ BookAt t H F A b ∧ H sa = some (.lst (nVs s)) ∧ s.length = b.words.length ∧ Bd s ∧
  ∀ (H' : Hp) (p : Addr), Same H H' → H p = none → H' p = some (.lst (nVs (Si37.lines b s))) → Q (.ref p) H'
theorem sc_linesBy : FnScope ["book", "setting", "lengths"] ["book", "setting"] (defScope s_lines_by) := ⟨rfl, rfl, rfl, by decide +kernel, rfl, by decide +kernel, by decide +kernel⟩
theorem ok_linesBy {f : Addr} {fd : FuncData} (F : Fun K "lines_by" "lines_by" s_lines_by f fd) (T : Txt K mg t) (G1 : Fn P w K mg base 4 "word_lengths" ["frame", "words", "marks", "setting"] (spLongs t))
    (G2 : Fn P w K mg base 2 "word_lines" ["frame", "openings", "lengths"] (spLines t)) : FnOk P w K mg base CX0 5 f fd ["book", "setting"] (spLinesBy t) := by
  refine F.ok sc_linesBy (fun vs H Q E h => ?_) (fun cdv A outer s H vs Q E hr h => ?_)
  · obtain ⟨_, _, _, _, _, rfl, _⟩ := h
    rfl
  · obtain ⟨A, Fo, b, sa, st, rfl, B, hs, hl, hbd, k⟩ := h
    have hr2 : Room 2 _ := hr.mono (by decide)
    obtain ⟨okv, hod, _, hop⟩ := B.od
    obtain ⟨mkv, hmd, _, hmo⟩ := B.md
    have fo : FOk b.frame := frame_ok.mp B.wf.fr
    refine ⟨_, pss_cons (ps_set (i := 2) sc_linesBy.nd rfl (Or.inl rfl) (pe_fn G1 hr (pa_cons (pe_fld (pv 0) rfl) (pa_cons (pe_fld (pv 0) rfl) (pa_cons (pe_fld (pv 0) rfl) (pa_cons (pv 1) pa_nil))))))
      (pss_one (ps_ret (pe_fn G2 hr2 (pa_cons (pe_fld (pv 0) rfl) (pa_cons (pe_fld (pv 0) rfl) (pa_cons (pv 2) pa_nil)))))), ?_⟩
    refine ⟨_, rfl, A.bk, _, A.dx, _, _, rfl, B.ins, T.clB, T.nFrame, bfl_frame, _, rfl, A.bk, _, A.dx, _, _, rfl, B.ins, T.clB, T.nWords, bfl_words, _, rfl, A.bk, _, A.dx, _, _, rfl, B.ins, T.clB, T.nMarks, bfl_marks, _, rfl,
      A.fr, A.wl, A.md, sa, b, A.ws, mkv, st, rfl, B.fr, B.wl, B.ws, hmd, hmo, B.wf, hs, hl, hbd, fun H1 p1 s1 n1 e1 => ?_⟩
    refine ⟨_, rfl, A.bk, _, A.dx, _, _, rfl, s1 _ _ B.ins, T.clB, T.nFrame, bfl_frame, _, rfl, A.bk, _, A.dx, _, _, rfl, s1 _ _ B.ins, T.clB, T.nOpenings, bfl_openings, _, rfl,
      A.fr, A.od, p1, b.frame, b.paras, okv, Si37.longs b st, rfl, B.fr.same s1, fo, s1 _ _ hod, hop, e1, ?_, ?_, fun H2 p2 s2 n2 e2 => ?_⟩
    · rw [longs_length, flags_length B.wf.ne]; rfl
    · rw [longs_length]; exact B.wf.len
    · rw [← lines_flat B.wf.ne] at e2
      exact k H2 p2 (s1.trans s2) (s1.free n2) e2
def spNext (t : Ad) : Sp := fun vs H Q _ => ∃ (A : BA) (F : Addr → Prop) (b : Si37.Book) (sa : Addr) (s : List Nat), vs = [.ref A.bk, .ref sa] ∧ BookAt t H F A b ∧ H sa = some (.lst (nVs s)) ∧ s.length = b.words.length ∧ Bd s ∧
  ∀ (H' : Hp) (p : Addr), Same H H' → H p = none → H' p = some (.lst (nVs (Si37.pass b s))) → Q (.ref p) H'
theorem sc_next : FnScope ["book", "setting", "line"] ["book", "setting"] (defScope s_next_setting) := ⟨rfl, rfl, rfl, by decide +kernel, rfl, by decide +kernel, by decide +kernel⟩
theorem ok_next {f : Addr} {fd : FuncData} (F : Fun K "next_setting" "next_setting" s_next_setting f fd) (T : Txt K mg t) (G1 : Fn P w K mg base 5 "lines_by" ["book", "setting"] (spLinesBy t)) (G3 : Fn P w K mg base 1 "page_of_line" ["frame", "line"] (spPage t)) :
    FnOk P w K mg base CX0 6 f fd ["book", "setting"] (spNext t) := by
  refine F.ok sc_next (fun vs H Q E h => ?_) (fun cdv A outer s H vs Q E hr h => ?_)
  · obtain ⟨_, _, _, _, _, rfl, _⟩ := h
    rfl
  · obtain ⟨A, Fo, b, sa, st, rfl, B, hs, hl, hbd, k⟩ := h
    have hr1 : Room 1 _ := hr.mono (by decide)
    have fo : FOk b.frame := frame_ok.mp B.wf.fr
    refine ⟨_, pss_one (ps_ret (pe_lc (own := [("line", 2)]) (te := tCall (spPage t) [] E0 (tCons (tFld K (tVar 0) "frame") (tCons (tVar 2) tNil))) rfl sc_next.nd (pi_list (pe_fn G1 hr (pa_cons (pv 0) (pa_cons (pv 1) pa_nil)))) (blkOk_by (by kernel_rfl)) (fun _ _ _ _ _ => pg_name (i := 2) sc_next.nd rfl (Or.inl rfl)) (fun _ _ _ _ _ => pts_nil)
        (fun _ _ _ _ _ => pe_fn G3 hr1 (pa_cons (pe_fld (pv 0) rfl) (pa_cons (pv 2) pa_nil))))), ?_⟩
    refine ⟨_, rfl, _, rfl, A, Fo, b, sa, st, rfl, B, hs, hl, hbd, fun H2 p2 s12 n2 e2 => ?_⟩
    refine ⟨p2, rfl, ⟨_, SqL.of e2⟩, fun D hD => lc_list (K := K) (a := p2) (xs := nVs (Si37.lines b st)) (fun i H' => Same H2 H' ∧ H' D = some (.lst (nVs ((Si37.pass b st).take i))))
      ⟨(Same.refl H2).new hD, upd_same⟩ (fun i H' _ ⟨s3, _⟩ => SqL.of (s3 _ _ e2)) ?_ ?_⟩
    · rintro i x H' hx ⟨s3, hD'⟩
      obtain ⟨l, hl', rfl⟩ := nVs_of hx
      have hpg : (Si37.pass b st)[i]? = some (b.frame.first + l / b.frame.high) := by
        unfold Si37.pass
        rw [List.getElem?_map, hl']
        rfl
      have sA := s12.trans s3
      refine ⟨rfl, _, rfl, A.bk, _, A.dx, _, _, rfl, sA _ _ B.ins, T.clB, T.nFrame, bfl_frame, _, rfl, A.fr, b.frame, l, rfl, B.fr.same sA, fo, _, hD', ?_, ?_, ?_⟩
      · rw [nVs_length, List.length_take, pass_length B.wf.ne]
        have := B.wf.len
        exact small1000 (by omega)
      · exact s3.put hD
      · rw [upd_same, nVs_snoc, take_snoc hpg]
    · rintro H' ⟨s3, hD'⟩
      rw [nVs_length, ← show (Si37.pass b st).length = (Si37.lines b st).length by unfold Si37.pass; rw [List.length_map], List.take_length] at hD'
      exact k H' D (s12.trans s3) (s12.free hD) hD'
end
end Tr

set_option Elab.async false
set_option linter.all false
set_option maxRecDepth 100000
set_option maxHeartbeats 4000000
namespace Tr
open PySem PySem.Spec PyProof.Rows L2
def keyOf (s : List Nat) : List Key := s.map fun (n : Nat) => Sum.inl (n : Int)
theorem key_vals (s : List Nat) : (keyOf s).map kV = nVs s := by
  unfold keyOf nVs
  rw [List.map_map]
  rfl
theorem key_inj {s u : List Nat} (h : keyOf s = keyOf u) : s = u := nVs_inj (by rw [← key_vals, ← key_vals, h])
def seen (b : Si37.Book) (k : Nat) : List (List Key × V) := (List.range k).map fun i => (keyOf (Si37.passes b i), nV i)
theorem seen_succ (b : Si37.Book) (k : Nat) : seen b (k + 1) = seen b k ++ [(keyOf (Si37.passes b k), nV k)] := by
  unfold seen
  rw [List.range_succ, List.map_append]
  rfl
theorem seen_length (b : Si37.Book) (k : Nat) : (seen b k).length = k := by unfold seen; rw [List.length_map, List.length_range]
theorem seen_none {b : Si37.Book} {s : List Nat} : ∀ {k : Nat}, (∀ i, i < k → Si37.passes b i ≠ s) → valV (seen b k) (keyOf s) = none
  | 0, _ => rfl
  | k + 1, h => by
    have h1 := seen_none (k := k) fun i hi => h i (by omega)
    have hk := h k (Nat.lt_succ_self k)
    rw [seen_succ]
    have h2 : valV (seen b k) (keyOf (Si37.passes b k)) = none ∨ valV (seen b k) (keyOf (Si37.passes b k)) ≠ none := Classical.em _
    unfold valV at h1 ⊢
    rw [List.find?_append]
    cases e : List.find? (fun kv => decide (kv.1 = keyOf s)) (seen b k) with
    | some z => rw [e] at h1; cases h1
    | none =>
      have hd : decide (keyOf (Si37.passes b k) = keyOf s) = false := decide_eq_false fun q => hk (key_inj q)
      simp [hd]
theorem seen_some {b : Si37.Book} {j : Nat} : ∀ {k : Nat}, Apart b k → j < k → valV (seen b k) (keyOf (Si37.passes b j)) = some (nV j)
  | 0, _, h => absurd h (Nat.not_lt_zero _)
  | k + 1, ha, h => by
    rw [seen_succ]
    by_cases hj : j = k
    · subst hj
      have h1 := seen_none (b := b) (s := Si37.passes b j) (k := j) fun i hi => ha i j hi (Nat.lt_succ_self j)
      rw [valV_snoc _ _ _ _ h1, if_pos rfl]
    · have hlt : j < k := by omega
      have h1 := seen_some (b := b) (j := j) (k := k) (fun x y h1 h2 => ha x y h1 (by omega)) hlt
      have h3 := seen_none (b := b) (s := Si37.passes b k) (k := k) fun i hi => ha i k hi (Nat.lt_succ_self k)
      rw [valV_snoc _ _ _ _ h3, if_neg fun q => ha j k hlt (Nat.lt_succ_self k) (key_inj q)]
      exact h1
theorem seen_put {b : Si37.Book} {k : Nat} (h : ∀ i, i < k → Si37.passes b i ≠ Si37.passes b k) : putK (seen b k) (keyOf (Si37.passes b k)) (nV k) = seen b (k + 1) := by
  rw [putK_new _ (seen_none h), seen_succ]
section
variable {P : Program} {w : World} {K : PySem.W.Frag} {mg : Str → Option Value} {base : Heap} {t : Ad}
def spCInit (t : Ad) : Sp := fun vs H Q _ => ∃ (p dx sl : Addr) (v : V), vs = [.ref p, .ref sl, v] ∧ H p = some (.ins t.CC dx []) ∧ ∀ H' : Hp, H' p = some (.ins t.CC dx (cfl sl v)) → (∀ a o, H a = some o → a ≠ p → H' a = some o) → Q .non H'
theorem sc_cInit : FnScope ["self", "settings", "back"] ["self", "settings", "back"] (defScope s_Course_init) := ⟨rfl, rfl, rfl, by decide +kernel, rfl, by decide +kernel, by decide +kernel⟩
theorem ok_cInit {f : Addr} {fd : FuncData} (F : Fun K "__init__" "Course.__init__" s_Course_init f fd) (T : Txt K mg t) : FnOk P w K mg base CX0 1 f fd ["self", "settings", "back"] (spCInit t) := by
  refine F.ok sc_cInit (fun vs H Q E h => ?_) (fun cdv A outer s H vs Q E hr h => ?_)
  · obtain ⟨_, _, _, _, rfl, _⟩ := h
    rfl
  · obtain ⟨p, dx, sl, v, rfl, hp, k⟩ := h
    refine ⟨_, pss_cons (ps_fld (pv 0) (pv 1) rfl) (pss_one (ps_fld (pv 0) (pv 2) rfl)), ?_⟩
    refine ⟨_, rfl, _, rfl, p, _, dx, _, rfl, hp, T.clC, T.nSettings, (by decide), ?_⟩
    refine ⟨_, rfl, _, rfl, p, _, dx, _, rfl, upd_same, T.clC, T.nBack, (by show 1 < 1000; decide), ?_⟩
    refine k _ ?_ fun a o e ha => ?_
    · rw [upd_same, cfl_put]
    · rw [upd_ne ha, upd_ne ha]; exact e
def spRingLen (t : Ad) : Sp := fun vs H Q _ => ∃ (c dx sl : Addr) (xs : List V) (j : Int), vs = [.ref c] ∧ H c = some (.ins t.CC dx (cfl sl (.int j))) ∧ H sl = some (.lst xs) ∧ Q (.int ((xs.length : Int) - j)) H
theorem sc_ringLen : FnScope ["self"] ["self"] (defScope s_Course_ring_length) := ⟨rfl, rfl, rfl, by decide +kernel, rfl, by decide +kernel, by decide +kernel⟩
theorem ok_ringLen {f : Addr} {fd : FuncData} (F : Fun K "ring_length" "Course.ring_length" s_Course_ring_length f fd) (T : Txt K mg t) : FnOk P w K mg base CX0 1 f fd ["self"] (spRingLen t) := by
  refine F.ok sc_ringLen (fun vs H Q E h => ?_) (fun cdv A outer s H vs Q E hr h => ?_)
  · obtain ⟨_, _, _, _, _, rfl, _⟩ := h
    rfl
  · obtain ⟨c, dx, sl, xs, j, rfl, hc, hsl, k⟩ := h
    refine ⟨_, pss_one (ps_ret (pe_op op_sub (pe_callB call_len_seq (by rfl) T.len PySem.boot_len (pa_cons (pe_fld (pv 0) rfl) pa_nil)) (pe_fld (pv 0) rfl))), ?_⟩
    exact ⟨_, rfl, c, _, dx, _, _, rfl, hc, T.clC, T.nSettings, cfl_settings, sl, xs, rfl, .inl (SqL.of hsl), _, rfl, c, _, dx, _, _, rfl, hc, T.clC, T.nBack, cfl_back, _, _, rfl, rfl, k⟩
def spBehind (t : Ad) : Sp := fun vs H Q _ => ∃ (c : Addr) (F : Addr → Prop) (b : Si37.Book) (n : Nat), vs = [.ref c, .int (n : Int)] ∧ CourseAt t H F c b ∧ n ≤ 400 ∧ ∀ a, H a = some (.lst (nVs (Si37.passes b n))) → Q (.ref a) H
theorem sc_behind : FnScope ["self", "n"] ["self", "n"] (defScope s_Course_setting_behind) := ⟨rfl, rfl, rfl, by decide +kernel, rfl, by decide +kernel, by decide +kernel⟩
theorem ok_behind {f : Addr} {fd : FuncData} (F : Fun K "setting_behind" "Course.setting_behind" s_Course_setting_behind f fd) (T : Txt K mg t) (GR : Mth P w K mg base 1 t.CC "ring_length" ["self"] (spRingLen t)) :
    FnOk P w K mg base CX0 2 f fd ["self", "n"] (spBehind t) := by
  refine F.ok sc_behind (fun vs H Q E h => ?_) (fun cdv A outer s H vs Q E hr h => ?_)
  · obtain ⟨_, _, _, _, rfl, _⟩ := h
    rfl
  · obtain ⟨c, Fo, b, n, rfl, ⟨dx, sl, as, o, hc, hsl, _, _, hat, hap, hco⟩, hn, k⟩ := h
    refine ⟨_, pss_cons (ps_if (pt_cmpR op_lt (pv 1) (pe_callB call_len_seq (by rfl) T.len PySem.boot_len (pa_cons (pe_fld (pv 0) rfl) pa_nil)) (nomark _)) (pss_one (ps_ret (pe_ix ix_list (pe_fld (pv 0) rfl) (pv 1) (fun _ _ => rfl)))) pss_nil)
      (pss_one (ps_ret (pe_ix ix_list (pe_fld (pv 0) rfl) (pe_op op_add (pe_fld (pv 0) rfl) (pe_op op_mod (pe_op op_sub (pv 1) (pe_fld (pv 0) rfl)) (pe_mth0 (pv 0) T.clC GR hr))) (fun _ _ => rfl)))), ?_⟩
    have get : ∀ i, i < as.length → ∃ a, as[i]? = some a ∧ (as.map V.ref)[i]? = some (V.ref a) := fun i hi => ⟨_, List.getElem?_eq_getElem hi, by rw [List.getElem?_map, List.getElem?_eq_getElem hi]; rfl⟩
    refine ⟨_, rfl, _, rfl, c, _, dx, _, _, rfl, hc, T.clC, T.nSettings, cfl_settings, sl, _, rfl, .inl (SqL.of hsl), _, _, rfl, rfl, _, rfl, iteD (fun h0 => ?_) (fun h0 => ?_)⟩
    · have h0 : (n : Int) < ((as.map V.ref).length : Int) := h0
      rw [List.length_map] at h0
      obtain ⟨a, h1, h2⟩ := get n (by omega)
      exact ⟨_, rfl, c, _, dx, _, _, rfl, hc, T.clC, T.nSettings, cfl_settings, _, rfl, sl, _, _, _, rfl, rfl, SqL.of hsl, atI_nat h2, k a (hat n a h1)⟩
    · have h0 : ¬ (n : Int) < ((as.map V.ref).length : Int) := h0
      rw [List.length_map] at h0
      cases o with
      | none =>
        have e : as.length = 401 := hco
        omega
      | some j =>
        obtain ⟨hj, hm, hp⟩ : j < as.length ∧ as.length ≤ 400 ∧ Si37.passes b as.length = Si37.passes b j := hco
        have hring := passes_ring hj hp n (by omega)
        have hlt : j + (n - j) % (as.length - j) < as.length := by
          have := Nat.mod_lt (n - j) (show 0 < as.length - j by omega)
          omega
        obtain ⟨a, h1, h2⟩ := get _ hlt
        refine ⟨_, rfl, c, _, dx, _, _, rfl, hc, T.clC, T.nSettings, cfl_settings, _, rfl, c, _, dx, _, _, rfl, hc, T.clC, T.nBack, cfl_back, _, rfl, _, rfl, c, _, dx, _, _, rfl, hc, T.clC, T.nBack, cfl_back, _, _, rfl, rfl,
          _, rfl, c, dx, _, rfl, hc, (by kernel_rfl), c, dx, sl, _, (j : Int), rfl, hc, hsl, _, _, rfl, rfl, ?_, _, _, rfl, rfl, sl, _, _, _, rfl, rfl, SqL.of hsl, at_of (j := j + (n - j) % (as.length - j)) ?_ h2, ?_⟩
        · rw [List.length_map]; omega
        · rw [List.length_map, Int.natCast_add, Int.natCast_emod, show ((n - j : Nat) : Int) = (n : Int) - (j : Int) by omega, show ((as.length - j : Nat) : Int) = (as.length : Int) - (j : Int) by omega]
        · have h3 := hat _ a h1
          rw [← hring] at h3
          exact k a h3
def spCourse (t : Ad) : Sp := fun vs H Q _ => ∃ (A : BA) (F : Addr → Prop) (b : Si37.Book), vs = [.ref A.bk] ∧ BookAt t H F A b ∧ ∀ (H' : Hp) (c : Addr), Same H H' → CourseAt t H' (fun a => H a = none) c b → Q (.ref c) H'
theorem sc_course : FnScope ["book", "settings", "number_of", "setting", "key", "word"] ["book"] (defScope s_course_of) := ⟨rfl, rfl, rfl, by decide +kernel, rfl, by decide +kernel, by decide +kernel⟩
theorem ok_courseOf {f : Addr} {fd : FuncData} (F : Fun K "course_of" "course_of" s_course_of f fd) (T : Txt K mg t) (MC : Mkr P w K mg base 1 "Course" t.CC ["self", "settings", "back"] (spCInit t)) (GN : Fn P w K mg base 6 "next_setting" ["book", "setting"] (spNext t)) :
    FnOk P w K mg base CX0 7 f fd ["book"] (spCourse t) := by
  refine F.ok sc_course (fun vs H Q E h => ?_) (fun cdv A outer s H vs Q E hr h => ?_)
  · obtain ⟨_, _, _, rfl, _⟩ := h
    rfl
  · obtain ⟨A, Fo, b, rfl, B, k⟩ := h
    have hu := hu_of hr
    have hr2 : Room 2 _ := hr.mono (by decide)
    refine ⟨_, pss_cons (ps_set (i := 1) sc_course.nd rfl (Or.inl rfl) (pe_lst pa_nil))
      (pss_cons (ps_set (i := 2) sc_course.nd rfl (Or.inl rfl) pe_dnewT)
      (pss_cons (ps_setLc (i := 3) (own := [("word", 5)]) rfl sc_course.nd rfl rfl (sw_true rfl rfl rfl (by decide +kernel)) (pi_list (pe_fld (pv 0) rfl)) (blkOk_by (by kernel_rfl)) (fun _ _ _ _ _ => pg_name (i := 5) sc_course.nd rfl (Or.inl rfl)) (fun _ _ _ _ _ => pts_nil)
        (fun _ _ _ _ _ => pe_gint T.cNOT_KNOWN))
      (pss_cons (ps_while PassesOwn.never (pt_cmpR op_le (pe_callB call_len_seq (by rfl) T.len PySem.boot_len (pa_cons (pv 1) pa_nil)) (pe_gint T.cMOST_PASSES) (nomark _))
        (pss_cons (ps_set (i := 4) sc_course.nd rfl (Or.inl rfl) (pe_callTy call_tuple_of (by rfl) T.tuple (by decide +kernel) (pa_cons (pv 3) pa_nil)))
        (pss_cons (ps_if (pt_cmp (pc_din hu (pv 4) (pv 2))) (pss_one (ps_ret (pe_mkr MC hr2 (pa_cons (pv 1) (pa_cons (pe_dget hu (pv 2) (pv 4) (fun _ _ => rfl)) pa_nil))))) pss_nil)
        (pss_cons (ps_dput hu (pv 2) (pv 4) (pe_callB call_len_seq (by rfl) T.len PySem.boot_len (pa_cons (pv 1) pa_nil)) rfl)
        (pss_cons (ps_expr (pe_bm PySem.F.plainAttrs_list PySem.F.slot_list_append PySem.F.type_list_append mt_append (pv 1) (pa_cons (pv 3) pa_nil)))
        (pss_one (ps_set (i := 3) sc_course.nd rfl (Or.inl rfl) (pe_fn GN hr (pa_cons (pv 0) (pa_cons (pv 3) pa_nil))))))))))
      (pss_one (ps_ret (pe_mkr MC hr2 (pa_cons (pv 1) (pa_cons pe_non pa_nil)))))))), ?_⟩
    refine ⟨Nat.zero_le _, fun sl hsl => ?_⟩
    intro nd hnd
    have s0 : Same H (upd H sl (.lst [])) := (Same.refl H).new hsl
    have s1 : Same H (upd (upd H sl (.lst [])) nd (.dT [])) := s0.new hnd
    have nsl : nd ≠ sl := fun e => by rw [e, upd_same] at hnd; cases hnd
    have hnd0 : H nd = none := s0.free hnd
    refine ⟨_, rfl, A.bk, _, A.dx, _, _, rfl, s1 _ _ B.ins, T.clB, T.nWords, bfl_words, A.wl, rfl, ⟨_, SqL.of (s1 _ _ B.wl)⟩, fun D hD => lc_list (K := K) (a := A.wl) (xs := A.ws.map V.ref)
      (fun i H' => Same (upd (upd H sl (.lst [])) nd (.dT [])) H' ∧ H' D = some (.lst (nVs (List.replicate i 0)))) ⟨(Same.refl _).new hD, upd_same⟩ (fun i H' _ ⟨s2, _⟩ => SqL.of (s2 _ _ (s1 _ _ B.wl))) ?_ ?_⟩
    · rintro i x H' hx ⟨s2, hD'⟩
      have hi : i < A.ws.length := by have := (List.getElem?_eq_some_iff.mp hx).1; rw [List.length_map] at this; exact this
      have := B.wf.len
      have := B.ws.len
      refine ⟨rfl, _, hD', ?_, s2.put hD, ?_⟩
      · rw [nVs_length, List.length_replicate]; exact small1000 (by omega)
      · rw [upd_same, List.replicate_succ', ← nVs_snoc]; rfl
    · rintro H2 ⟨s2, hD2⟩
      have hD0 : H D = none := s1.free hD
      have nDs : D ≠ sl := fun e => by
        rw [e, upd_ne (Ne.symm nsl), upd_same] at hD
        cases hD
      have sA := s1.trans s2
      have hsl2 : H2 sl = some (.lst []) := s2 _ _ (by rw [upd_ne (Ne.symm nsl), upd_same])
      have hnd2 : H2 nd = some (.dT []) := s2 _ _ upd_same
      refine while_by (fun σ H' => ∃ (as : List Addr) (sa : Addr) (v4 : Option V), σ = [some (.ref A.bk), some (.ref sl), some (.ref nd), some (.ref sa), v4, none] ∧ Same H H' ∧ H' sl = some (.lst (as.map V.ref)) ∧
          (∀ i a, as[i]? = some a → H' a = some (.lst (nVs (Si37.passes b i))) ∧ H a = none ∧ a ≠ sl) ∧ H' nd = some (.dT (seen b as.length)) ∧ H' sa = some (.lst (nVs (Si37.passes b as.length))) ∧ H sa = none ∧ sa ≠ sl ∧ Apart b as.length ∧ as.length ≤ 401)
        (fun _ H' => match H' sl with | some (.lst xs) => 401 - xs.length | _ => 0) ?_ ?_ ?_
      · refine ⟨[], D, none, rfl, sA, hsl2, fun i a e => by simp at e, hnd2, ?_, hD0, nDs, fun i j h1 h2 => absurd h2 (Nat.not_lt_zero _), by decide⟩
        rw [List.length_map, B.ws.len] at hD2
        exact hD2
      · rintro σ H' ⟨as, sa, v4, rfl, s3, hsl3, hat, hnd3, hsa, hsa0, nsa, hap, hle⟩
        refine ⟨_, rfl, sl, _, rfl, .inl (SqL.of hsl3), _, _, rfl, rfl, _, rfl, iteD (fun h0 => ?_) (fun h0 => ?_)⟩
        · have h0 : ((as.map V.ref).length : Int) ≤ 400 := h0
          rw [List.length_map] at h0
          refine ⟨_, rfl, sa, _, rfl, .inl ⟨SqL.of hsa, fun tp htp => ?_⟩⟩
          have s4 : Same H' (upd H' tp (.tup (nVs (Si37.passes b as.length)))) := (Same.refl _).new htp
          have htk : (upd H' tp (.tup (nVs (Si37.passes b as.length)))) tp = some (.tup ((keyOf (Si37.passes b as.length)).map kV)) := by rw [upd_same, key_vals]
          have g := DGet.t (k := keyOf (Si37.passes b as.length)) (s4 _ _ hnd3) htk
          refine ⟨_, rfl, _, rfl, nd, _, rfl, g, _, rfl, ?_⟩
          by_cases hex : ∃ j, j < as.length ∧ Si37.passes b j = Si37.passes b as.length
          · obtain ⟨j, hj, ej⟩ := hex
            have hv : valV (seen b as.length) (keyOf (Si37.passes b as.length)) = some (nV j) := by rw [← ej]; exact seen_some hap hj
            rw [hv] at g ⊢
            refine iteT ⟨_, rfl, _, rfl, _, rfl, nd, _, rfl, g, ?_⟩
            intro x dx hx hdx ndx
            have s5 : Same (upd H' tp (.tup (nVs (Si37.passes b as.length)))) (upd (upd (upd H' tp (.tup (nVs (Si37.passes b as.length)))) dx (.own x)) x (.ins t.CC dx [])) := ((Same.refl _).new hdx).new (by rw [upd_ne (Ne.symm ndx)]; exact hx)
            refine ⟨x, dx, sl, nV j, rfl, upd_same, fun H5 hc kp => ⟨rfl, ?_⟩⟩
            have s6 : Same (upd H' tp (.tup (nVs (Si37.passes b as.length)))) H5 := fun a o e => kp a o (s5 a o e) (ne_of_none e hx)
            have s7 : Same H' H5 := s4.trans s6
            exact k H5 x (s3.trans s7) ⟨dx, sl, as, some j, hc, s7 _ _ hsl3, hsl, fun a ha => (let ⟨i, hi⟩ := List.getElem?_of_mem ha; (hat i a hi).2.1), fun i a e => s7 _ _ (hat i a e).1, hap, hj, by omega, ej.symm⟩
          · have hno : ∀ i, i < as.length → Si37.passes b i ≠ Si37.passes b as.length := fun i hi e => hex ⟨i, hi, e⟩
            rw [seen_none hno] at g ⊢
            refine iteF ?_
            have hz : (seen b as.length).length < sizeLine := by rw [seen_length]; exact small1000 (by omega)
            have nt : tp ≠ sl := ne_of_none hsl3 htp |>.symm
            have nn : tp ≠ nd := ne_of_none hnd3 htp |>.symm
            refine ⟨_, rfl, sl, _, rfl, .inl (SqL.of (s4 _ _ hsl3)), _, rfl, _, rfl, nd, _, rfl, DPut.t (k := keyOf (Si37.passes b as.length)) (s4 _ _ hnd3) htk hz, ?_⟩
            rw [List.length_map]
            have eput : putK (seen b as.length) (keyOf (Si37.passes b as.length)) (V.int ((as.length : Nat) : Int)) = seen b (as.length + 1) := seen_put hno
            rw [eput]
            generalize hH5 : upd (upd H' tp (.tup (nVs (Si37.passes b as.length)))) nd (.dT (seen b (as.length + 1))) = H5
            have kp5 : ∀ a o, H' a = some o → a ≠ nd → H5 a = some o := fun a o e ha => by rw [← hH5, upd_ne ha]; exact s4 a o e
            have hsl5 : H5 sl = some (.lst (as.map V.ref)) := kp5 _ _ hsl3 (Ne.symm nsl)
            have hnd5 : H5 nd = some (.dT (seen b (as.length + 1))) := by rw [← hH5, upd_same]
            have lnd : ∀ {a xs}, H' a = some (.lst xs) → a ≠ nd := fun {a xs} e => ne_of e hnd3 (by intro z; cases z)
            have hsa5 : H5 sa = some (.lst (nVs (Si37.passes b as.length))) := kp5 _ _ hsa (lnd hsa)
            refine ⟨_, rfl, .inl ⟨rfl, _, SqL.of hsl5⟩, _, rfl, sl, _, _, rfl, rfl, hsl5, (by rw [List.length_map]; exact small1000 (by omega)), ?_⟩
            generalize hH6 : upd H5 sl (.lst (as.map V.ref ++ [V.ref sa])) = H6
            have kp6 : ∀ a o, H' a = some o → a ≠ nd → a ≠ sl → H6 a = some o := fun a o e h1 h2 => by rw [← hH6, upd_ne h2]; exact kp5 a o e h1
            have s6 : Same H H6 := fun a o e => kp6 a o (s3 a o e) (ne_of_none e hnd0) (ne_of_none e hsl)
            have hsl6 : H6 sl = some (.lst ((as ++ [sa]).map V.ref)) := by rw [← hH6, upd_same, List.map_append]; rfl
            have hnd6 : H6 nd = some (.dT (seen b (as.length + 1))) := by rw [← hH6, upd_ne nsl]; exact hnd5
            have hsa6 : H6 sa = some (.lst (nVs (Si37.passes b as.length))) := kp6 _ _ hsa (lnd hsa) nsa
            refine ⟨_, rfl, _, rfl, A, Fo, b, sa, Si37.passes b as.length, rfl, B.same s6, hsa6, passes_length B.wf.ne _, passes_bd B.wf _, fun H7 p s7 n7 e7 => ?_⟩
            have la : (as ++ [sa]).length = as.length + 1 := by rw [List.length_append]; rfl
            refine ⟨⟨as ++ [sa], p, _, rfl, s6.trans s7, s7 _ _ hsl6, fun i a e => ?_, ?_, ?_, s6.free n7, ne_of_none hsl6 n7 |>.symm, ?_, ?_⟩, ?_⟩
            · by_cases hi : i < as.length
              · rw [List.getElem?_append_left hi] at e
                obtain ⟨q1, q2, q3⟩ := hat i a e
                exact ⟨s7 _ _ (kp6 _ _ q1 (lnd q1) q3), q2, q3⟩
              · rw [List.getElem?_append_right (by omega)] at e
                have hi2 : i - as.length = 0 := by
                  have := (List.getElem?_eq_some_iff.mp e).1
                  rw [List.length_singleton] at this
                  omega
                rw [hi2] at e
                have e : sa = a := Option.some.inj e
                subst e
                have : i = as.length := by omega
                subst this
                exact ⟨s7 _ _ hsa6, hsa0, nsa⟩
            · rw [la]; exact s7 _ _ hnd6
            · rw [la]; exact e7
            · rw [la]
              intro i j h1 h2
              by_cases hj : j = as.length
              · subst hj; exact hno i h1
              · exact hap i j h1 (by omega)
            · rw [la]; omega
            · rw [s7 _ _ hsl6, hsl3]
              show 401 - ((as ++ [sa]).map V.ref).length < 401 - (as.map V.ref).length
              rw [List.length_map, List.length_map, la]
              omega
        · have h0 : ¬ ((as.map V.ref).length : Int) ≤ 400 := h0
          rw [List.length_map] at h0
          have e401 : as.length = 401 := by omega
          refine ⟨_, rfl, ?_⟩
          intro x dx hx hdx ndx
          have s5 : Same H' (upd (upd H' dx (.own x)) x (.ins t.CC dx [])) := ((Same.refl _).new hdx).new (by rw [upd_ne (Ne.symm ndx)]; exact hx)
          refine ⟨x, dx, sl, .non, rfl, upd_same, fun H5 hc kp => ⟨rfl, ?_⟩⟩
          have s6 : Same H' H5 := fun a o e => kp a o (s5 a o e) (ne_of_none e hx)
          exact k H5 x (s3.trans s6) ⟨dx, sl, as, none, hc, s6 _ _ hsl3, hsl, fun a ha => (let ⟨i, hi⟩ := List.getElem?_of_mem ha; (hat i a hi).2.1), fun i a e => s6 _ _ (hat i a e).1, hap, e401⟩
      · intro σ H' Q1 Q2 hq h
        obtain ⟨v, e, p, ys, h1, h2, i, j, h3, h4, kk, h5, h6⟩ := h
        exact ⟨v, e, p, ys, h1, h2, i, j, h3, h4, kk, h5, hq _ _ h6⟩
end
end Tr

set_option Elab.async false
set_option linter.all false
set_option maxRecDepth 100000
set_option maxHeartbeats 4000000
namespace Tr
open PySem PySem.Spec PyProof.Rows L2
def Val (te : TE) (σ : L2.St) (H : Hp) (v : V) : Prop := ∀ Q : VK, Q v H → te σ H Q
theorem Val.and {ta tb : TE} {σ : L2.St} {H : Hp} {c d : Bool} (h1 : Val ta σ H (.bl c)) (h2 : Val tb σ H (.bl d)) : Val (tAndV ta tb) σ H (.bl (c && d)) := fun Q k => h1 _ ⟨c, rfl, by
  cases c with
  | false => exact iteF k
  | true => exact iteT (h2 Q k)⟩
theorem Val.chain {ta tb tc : TE} {σ : L2.St} {H : Hp} {a b c : Int} (h1 : Val ta σ H (.int a)) (h2 : Val tb σ H (.int b)) (h3 : Val tc σ H (.int c)) :
    Val (tChain (rI0 fun i j => .bl (decide (i ≤ j))) (rI0 fun i j => .bl (decide (i ≤ j))) ta tb tc) σ H (.bl (decide (a ≤ b) && decide (b ≤ c))) := fun Q k => h1 _ (h2 _ ⟨a, b, rfl, rfl, _, rfl, iteD
      (fun h => h3 _ ⟨b, c, rfl, rfl, by rw [decide_eq_true h] at k; exact k⟩) fun h => by rw [decide_eq_false h] at k; exact k⟩)
theorem Val.le {ta tb : TE} {σ : L2.St} {H : Hp} {a b : Int} (h1 : Val ta σ H (.int a)) (h2 : Val tb σ H (.int b)) : Val (tOp (rI0 fun i j => .bl (decide (i ≤ j))) ta tb) σ H (.bl (decide (a ≤ b))) := fun Q k => h1 _ (h2 _ ⟨a, b, rfl, rfl, k⟩)
theorem Val.c {σ : L2.St} {H : Hp} {v : V} : Val (tC v) σ H v := fun _ k => k
theorem Val.var {σ : L2.St} {H : Hp} {v : V} {i : Nat} (h : σ[i]? = some (some v)) : Val (tVar i) σ H v := fun _ k => ⟨v, h, k⟩
theorem Val.fld {K : PySem.W.Frag} {ta : TE} {σ : L2.St} {H : Hp} {a C dx : Addr} {fs : List (Str × V)} {f : Str} {v : V} (h : Val ta σ H (.ref a)) (e : H a = some (.ins C dx fs)) (c : Cls K C) (n : NoAttr K C f) (l : fs.lookup f = some v) : Val (tFld K ta f) σ H v :=
  fun Q k => h _ ⟨a, C, dx, fs, v, rfl, e, c, n, l, k⟩
theorem frameOk_eq (f : Si37.Frame) : ((decide ((1 : Int) ≤ (f.wide : Int)) && decide ((f.wide : Int) ≤ 200)) && ((decide ((1 : Int) ≤ (f.high : Int)) && decide ((f.high : Int) ≤ 100)) && ((decide ((1 : Int) ≤ (f.first : Int)) && decide ((f.first : Int) ≤ 3000)) &&
    ((decide ((1 : Int) ≤ (f.here : Int)) && decide ((f.here : Int) ≤ 50)) && ((decide ((1 : Int) ≤ (f.next : Int)) && decide ((f.next : Int) ≤ 50)) && (decide ((0 : Int) ≤ (f.far : Int)) && decide ((f.far : Int) ≤ 50))))))) = Si37.frameOk f := by
  rw [Bool.eq_iff_iff, frame_ok]
  simp only [Bool.and_eq_true, decide_eq_true_eq]
  constructor
  · rintro ⟨⟨h1, h2⟩, ⟨h3, h4⟩, ⟨h5, h6⟩, ⟨h7, h8⟩, ⟨h9, h10⟩, ⟨h11, h12⟩⟩
    exact ⟨by omega, by omega, by omega, by omega, by omega, by omega, by omega, by omega, by omega, by omega, by omega⟩
  · rintro ⟨h1, h2, h3, h4, h5, h6, h7, h8, h9, h10, h11⟩
    exact ⟨⟨by omega, by omega⟩, ⟨by omega, by omega⟩, ⟨by omega, by omega⟩, ⟨by omega, by omega⟩, ⟨by omega, by omega⟩, ⟨by omega, by omega⟩⟩
theorem wordOk_eq (w : Si37.Word) : ((decide ((1 : Int) ≤ (toldOf w.what : Int)) && decide ((toldOf w.what : Int) ≤ (if kindOf w.what = 0 then 200 else 20 : Int))) && decide ((w.mark : Int) ≤ 20)) = Si37.wordOk w := by
  obtain ⟨wt, m⟩ := w
  rw [Bool.eq_iff_iff]
  cases wt with
  | plain n =>
    show ((decide ((1 : Int) ≤ (n : Int)) && decide ((n : Int) ≤ (200 : Int))) && decide ((m : Int) ≤ 20)) = true ↔ ((decide (1 ≤ n) && decide (n ≤ 200)) && decide (m ≤ 20)) = true
    simp only [Bool.and_eq_true, decide_eq_true_eq]
    omega
  | digits n =>
    show ((decide ((1 : Int) ≤ (n : Int)) && decide ((n : Int) ≤ (20 : Int))) && decide ((m : Int) ≤ 20)) = true ↔ ((decide (1 ≤ n) && decide (n ≤ 20)) && decide (m ≤ 20)) = true
    simp only [Bool.and_eq_true, decide_eq_true_eq]
    omega
  | roman n =>
    show ((decide ((1 : Int) ≤ (n : Int)) && decide ((n : Int) ≤ (20 : Int))) && decide ((m : Int) ≤ 20)) = true ↔ ((decide (1 ≤ n) && decide (n ≤ 20)) && decide (m ≤ 20)) = true
    simp only [Bool.and_eq_true, decide_eq_true_eq]
    omega
  | near n =>
    show ((decide ((1 : Int) ≤ (n : Int)) && decide ((n : Int) ≤ (20 : Int))) && decide ((m : Int) ≤ 20)) = true ↔ ((decide (1 ≤ n) && decide (n ≤ 20)) && decide (m ≤ 20)) = true
    simp only [Bool.and_eq_true, decide_eq_true_eq]
    omega
section
variable {P : Program} {w : World} {K : PySem.W.Frag} {mg : Str → Option Value} {base : Heap} {t : Ad}
def spFInit (t : Ad) : Sp := fun vs H Q _ => ∃ (p dx : Addr) (wd h f a n b : Int), vs = [.ref p, .int wd, .int h, .int f, .int a, .int n, .int b] ∧ H p = some (.ins t.CF dx []) ∧
  ∀ H' : Hp, H' p = some (.ins t.CF dx (ffl wd h f a n b)) → (∀ a o, H a = some o → a ≠ p → H' a = some o) → Q .non H'
theorem sc_fInit : FnScope ["self", "wide", "high", "first_page", "here", "next_page", "before"] ["self", "wide", "high", "first_page", "here", "next_page", "before"] (defScope s_Frame_init) := ⟨rfl, rfl, rfl, by decide +kernel, rfl, by decide +kernel, by decide +kernel⟩
theorem ok_fInit {f : Addr} {fd : FuncData} (F : Fun K "__init__" "Frame.__init__" s_Frame_init f fd) (T : Txt K mg t) : FnOk P w K mg base CX0 1 f fd ["self", "wide", "high", "first_page", "here", "next_page", "before"] (spFInit t) := by
  refine F.ok sc_fInit (fun vs H Q E h => ?_) (fun cdv A outer s H vs Q E hr h => ?_)
  · obtain ⟨_, _, _, _, _, _, _, _, rfl, _⟩ := h
    rfl
  · obtain ⟨p, dx, wd, hi, fp, he, nx, bf, rfl, hp, k⟩ := h
    refine ⟨_, pss_cons (ps_fld (pv 0) (pv 1) rfl) (pss_cons (ps_fld (pv 0) (pv 2) rfl) (pss_cons (ps_fld (pv 0) (pv 3) rfl) (pss_cons (ps_fld (pv 0) (pv 4) rfl) (pss_cons (ps_fld (pv 0) (pv 5) rfl) (pss_one (ps_fld (pv 0) (pv 6) rfl)))))), ?_⟩
    refine ⟨_, rfl, _, rfl, p, _, dx, _, rfl, hp, T.clF, T.nWide, fewL few0, ?_⟩
    refine ⟨_, rfl, _, rfl, p, _, dx, _, rfl, upd_same, T.clF, T.nHigh, fewL (fewS few0), ?_⟩
    refine ⟨_, rfl, _, rfl, p, _, dx, _, rfl, upd_same, T.clF, T.nFirst, fewL (fewS (fewS few0)), ?_⟩
    refine ⟨_, rfl, _, rfl, p, _, dx, _, rfl, upd_same, T.clF, T.nHere, fewL (fewS (fewS (fewS few0))), ?_⟩
    refine ⟨_, rfl, _, rfl, p, _, dx, _, rfl, upd_same, T.clF, T.nNext, fewL (fewS (fewS (fewS (fewS few0)))), ?_⟩
    refine ⟨_, rfl, _, rfl, p, _, dx, _, rfl, upd_same, T.clF, T.nBefore, fewL (fewS (fewS (fewS (fewS (fewS few0))))), ?_⟩
    refine k _ ?_ fun a o e ha => ?_
    · rw [upd_same, ffl_put]
    · rw [upd_ne ha, upd_ne ha, upd_ne ha, upd_ne ha, upd_ne ha, upd_ne ha]; exact e
def newFrame (t : Ad) (H : Hp) (Q : VK) (f : Si37.Frame) : Prop := ∀ (H' : Hp) (a : Addr), Same H H' → H a = none → FrameAt t H' a f → Q (.ref a) H'
theorem frame_made {H : Hp} {Q : VK} {f : Si37.Frame} (k : newFrame t H Q f) : ∀ x dx, H x = none → H dx = none → dx ≠ x →
    spFInit t [.ref x, .int f.wide, .int f.high, .int f.first, .int f.here, .int f.next, .int f.far] (upd (upd H dx (.own x)) x (.ins t.CF dx [])) (fun v H2 => v = .non ∧ Q (.ref x) H2) E0 := fun x dx hx hdx ndx =>
  ⟨x, dx, f.wide, f.high, f.first, f.here, f.next, f.far, rfl, upd_same, fun H' e kp => ⟨rfl, k H' x (Same.made hx hdx kp) hx ⟨dx, e⟩⟩⟩
def spFirst (t : Ad) : Sp := fun vs H Q _ => vs = [] ∧ newFrame t H Q ⟨60, 30, 1, 4, 16, 5⟩
theorem sc_first : FnScope [] [] (defScope s_first_frame) := ⟨rfl, rfl, rfl, by decide +kernel, rfl, by decide +kernel, by decide +kernel⟩
theorem ok_first {f : Addr} {fd : FuncData} (F : Fun K "first_frame" "first_frame" s_first_frame f fd) (T : Txt K mg t) (MF : Mkr P w K mg base 1 "Frame" t.CF ["self", "wide", "high", "first_page", "here", "next_page", "before"] (spFInit t)) : FnOk P w K mg base CX0 3 f fd [] (spFirst t) := by
  refine F.ok sc_first (fun vs H Q E h => ?_) (fun cdv A outer s H vs Q E hr h => ?_)
  · obtain ⟨rfl, _⟩ := h
    rfl
  · obtain ⟨rfl, k⟩ := h
    refine ⟨_, pss_one (ps_ret (pe_mkr MF hr (pa_cons pe_int (pa_cons pe_int (pa_cons pe_int (pa_cons pe_int (pa_cons pe_int (pa_cons pe_int pa_nil)))))))), ?_⟩
    exact frame_made k
def spFrameOf (t : Ad) : Sp := fun vs H Q _ => ∃ (na : Addr) (f : Si37.Frame), vs = [.ref na] ∧ H na = some (.lst (nVs [f.wide, f.high, f.first, f.here, f.next, f.far])) ∧ newFrame t H Q f
theorem sc_frameOf : FnScope ["numbers"] ["numbers"] (defScope s_frame_of) := ⟨rfl, rfl, rfl, by decide +kernel, rfl, by decide +kernel, by decide +kernel⟩
theorem ok_frameOf {f : Addr} {fd : FuncData} (F : Fun K "frame_of" "frame_of" s_frame_of f fd) (T : Txt K mg t) (MF : Mkr P w K mg base 1 "Frame" t.CF ["self", "wide", "high", "first_page", "here", "next_page", "before"] (spFInit t)) : FnOk P w K mg base CX0 3 f fd ["numbers"] (spFrameOf t) := by
  refine F.ok sc_frameOf (fun vs H Q E h => ?_) (fun cdv A outer s H vs Q E hr h => ?_)
  · obtain ⟨_, _, rfl, _⟩ := h
    rfl
  · obtain ⟨na, fm, rfl, hn, k⟩ := h
    refine ⟨_, pss_one (ps_ret (pe_mkr MF hr (pa_cons (pe_ix ix_list (pv 0) pe_int (fun _ _ => rfl)) (pa_cons (pe_ix ix_list (pv 0) pe_int (fun _ _ => rfl)) (pa_cons (pe_ix ix_list (pv 0) pe_int (fun _ _ => rfl)) (pa_cons (pe_ix ix_list (pv 0) pe_int (fun _ _ => rfl))
      (pa_cons (pe_ix ix_list (pv 0) pe_int (fun _ _ => rfl)) (pa_cons (pe_ix ix_list (pv 0) pe_int (fun _ _ => rfl)) pa_nil)))))))), ?_⟩
    exact ⟨_, rfl, na, _, _, _, rfl, rfl, SqL.of hn, atI_nat (j := 0) rfl, _, rfl, na, _, _, _, rfl, rfl, SqL.of hn, atI_nat (j := 1) rfl, _, rfl, na, _, _, _, rfl, rfl, SqL.of hn, atI_nat (j := 2) rfl, _, rfl, na, _, _, _, rfl, rfl, SqL.of hn, atI_nat (j := 3) rfl,
      _, rfl, na, _, _, _, rfl, rfl, SqL.of hn, atI_nat (j := 4) rfl, _, rfl, na, _, _, _, rfl, rfl, SqL.of hn, atI_nat (j := 5) rfl, frame_made k⟩
def spAllowed (t : Ad) : Sp := fun vs H Q _ => ∃ (fr : Addr) (f : Si37.Frame), vs = [.ref fr] ∧ FrameAt t H fr f ∧ Q (.bl (Si37.frameOk f)) H
theorem sc_allowed : FnScope ["frame"] ["frame"] (defScope s_frame_is_allowed) := ⟨rfl, rfl, rfl, by decide +kernel, rfl, by decide +kernel, by decide +kernel⟩
theorem ok_allowed {f : Addr} {fd : FuncData} (F : Fun K "frame_is_allowed" "frame_is_allowed" s_frame_is_allowed f fd) (T : Txt K mg t) : FnOk P w K mg base CX0 1 f fd ["frame"] (spAllowed t) := by
  refine F.ok sc_allowed (fun vs H Q E h => ?_) (fun cdv A outer s H vs Q E hr h => ?_)
  · obtain ⟨_, _, rfl, _⟩ := h
    rfl
  · obtain ⟨fr, fm, rfl, ⟨dx, hF⟩, k⟩ := h
    refine ⟨_, pss_one (ps_ret (pe_and (pe_chain op_le op_le pe_int (pe_fld (pv 0) rfl) (pe_gint T.cMOST_WIDE)) (pe_and (pe_chain op_le op_le pe_int (pe_fld (pv 0) rfl) (pe_gint T.cMOST_HIGH)) (pe_and (pe_chain op_le op_le pe_int (pe_fld (pv 0) rfl) (pe_gint T.cMOST_FIRST_PAGE))
      (pe_and (pe_chain op_le op_le pe_int (pe_fld (pv 0) rfl) (pe_gint T.cMOST_PHRASE)) (pe_and (pe_chain op_le op_le pe_int (pe_fld (pv 0) rfl) (pe_gint T.cMOST_PHRASE)) (pe_one (pe_chain op_le op_le pe_int (pe_fld (pv 0) rfl) (pe_gint T.cMOST_PHRASE))))))))), ?_⟩
    rw [← frameOk_eq] at k
    have v0 : Val (tVar 0) (start ["frame"] [V.ref fr]) H (.ref fr) := Val.var rfl
    exact ((Val.chain Val.c (v0.fld hF T.clF T.nWide ffl_wide) Val.c).and ((Val.chain Val.c (v0.fld hF T.clF T.nHigh ffl_high) Val.c).and ((Val.chain Val.c (v0.fld hF T.clF T.nFirst ffl_first) Val.c).and
      ((Val.chain Val.c (v0.fld hF T.clF T.nHere ffl_here) Val.c).and ((Val.chain Val.c (v0.fld hF T.clF T.nNext ffl_next) Val.c).and (Val.chain Val.c (v0.fld hF T.clF T.nBefore ffl_before) Val.c)))))) Q k
def spWInit (t : Ad) : Sp := fun vs H Q _ => ∃ (p dx : Addr) (a b c : Int), vs = [.ref p, .int a, .int b, .int c] ∧ H p = some (.ins t.CW dx []) ∧ ∀ H' : Hp, H' p = some (.ins t.CW dx (wfl a b c)) → (∀ a o, H a = some o → a ≠ p → H' a = some o) → Q .non H'
theorem sc_wInit : FnScope ["self", "kind", "told", "own_mark"] ["self", "kind", "told", "own_mark"] (defScope s_Word_init) := ⟨rfl, rfl, rfl, by decide +kernel, rfl, by decide +kernel, by decide +kernel⟩
theorem ok_wInit {f : Addr} {fd : FuncData} (F : Fun K "__init__" "Word.__init__" s_Word_init f fd) (T : Txt K mg t) : FnOk P w K mg base CX0 1 f fd ["self", "kind", "told", "own_mark"] (spWInit t) := by
  refine F.ok sc_wInit (fun vs H Q E h => ?_) (fun cdv A outer s H vs Q E hr h => ?_)
  · obtain ⟨_, _, _, _, _, rfl, _⟩ := h
    rfl
  · obtain ⟨p, dx, a, b, c, rfl, hp, k⟩ := h
    refine ⟨_, pss_cons (ps_fld (pv 0) (pv 1) rfl) (pss_cons (ps_fld (pv 0) (pv 2) rfl) (pss_one (ps_fld (pv 0) (pv 3) rfl))), ?_⟩
    refine ⟨_, rfl, _, rfl, p, _, dx, _, rfl, hp, T.clW, T.nKind, fewL few0, ?_⟩
    refine ⟨_, rfl, _, rfl, p, _, dx, _, rfl, upd_same, T.clW, T.nTold, fewL (fewS few0), ?_⟩
    refine ⟨_, rfl, _, rfl, p, _, dx, _, rfl, upd_same, T.clW, T.nOwn, fewL (fewS (fewS few0)), ?_⟩
    refine k _ ?_ fun a o e ha => ?_
    · rw [upd_same, wfl_put]
    · rw [upd_ne ha, upd_ne ha, upd_ne ha]; exact e
def spWordsTold (t : Ad) : Sp := fun vs H Q _ => ∃ (na : Addr) (ws : List Si37.Word), vs = [.ref na] ∧ H na = some (.lst (nVs (encW ws))) ∧ ws.length ≤ 250 ∧
  ∀ (H' : Hp) (p : Addr) (as : List Addr), Same H H' → H p = none → H' p = some (.lst (as.map V.ref)) → WordsAt t H' as ws → Q (.ref p) H'
theorem sc_told : FnScope ["numbers", "k"] ["numbers"] (defScope s_words_told) := ⟨rfl, rfl, rfl, by decide +kernel, rfl, by decide +kernel, by decide +kernel⟩
theorem rg3 {m : Nat} (h : m ≤ 250) : RgC 0 ((3 * m : Nat) : Int) 3 m := by
  have e : Builtin.Range.rangeSize 0 ((3 * m : Nat) : Int) 3 = (m : Int) := by
    unfold Builtin.Range.rangeSize
    rw [if_pos (by decide)]
    by_cases h0 : m = 0
    · subst h0; rfl
    · rw [if_pos (by omega)]; omega
  refine ⟨by decide, by decide, ?_, e⟩
  unfold Builtin.Range.small
  rw [e]
  have h1 : Builtin.Range.rangeFitsLong ((m : Nat) : Int) = true := by
    unfold Builtin.Range.rangeFitsLong
    rw [decide_eq_true (by omega), decide_eq_true (by omega)]; rfl
  have h2 : Builtin.Range.rangeFitsLong ((3 * m : Nat) : Int) = true := by
    unfold Builtin.Range.rangeFitsLong
    rw [decide_eq_true (by omega), decide_eq_true (by omega)]; rfl
  have h3 : Builtin.Range.rangeFitsLong (((3 * m : Nat) : Int) + (3 - 1)) = true := by
    unfold Builtin.Range.rangeFitsLong
    rw [decide_eq_true (by omega), decide_eq_true (by omega)]; rfl
  have h4 : Builtin.Range.rangeFitsLong 0 = true := by decide
  have h5 : Builtin.Range.rangeFitsLong 3 = true := by decide
  rw [h1, h2, h4, h5, if_pos (by decide), h3, Bool.or_true]
  rfl
theorem ok_told {f : Addr} {fd : FuncData} (F : Fun K "words_told" "words_told" s_words_told f fd) (T : Txt K mg t) (MW : Mkr P w K mg base 1 "Word" t.CW ["self", "kind", "told", "own_mark"] (spWInit t)) : FnOk P w K mg base CX0 3 f fd ["numbers"] (spWordsTold t) := by
  refine F.ok sc_told (fun vs H Q E h => ?_) (fun cdv A outer s H vs Q E hr h => ?_)
  · obtain ⟨_, _, rfl, _⟩ := h
    rfl
  · obtain ⟨na, ws, rfl, hn, hl, k⟩ := h
    refine ⟨_, pss_one (ps_ret (pe_lc (own := [("k", 1)]) (te := tMake t.CW (spWInit t) [] E0 (tCons (tOp (rIxL K) (tVar 0) (tVar 1)) (tCons (tOp (rIxL K) (tVar 0) (tOp (rI0 fun i j => .int (i + j)) (tVar 1) (tC (.int 1)))) (tCons (tOp (rIxL K) (tVar 0) (tOp (rI0 fun i j => .int (i + j)) (tVar 1) (tC (.int 2)))) tNil)))) rfl sc_told.nd (pi_range3 rfl T.range (pa_cons pe_int (pa_cons (pe_callB call_len_seq (by rfl) T.len PySem.boot_len (pa_cons (pv 0) pa_nil)) (pa_cons pe_int pa_nil)))) (blkOk_by (by kernel_rfl))
      (fun _ _ _ _ _ => pg_name (i := 1) sc_told.nd rfl (Or.inl rfl)) (fun _ _ _ _ _ => pts_nil)
      (fun _ _ _ _ _ => pe_mkr MW hr (pa_cons (pe_ix ix_list (pv 0) (pv 1) (fun _ _ => rfl)) (pa_cons (pe_ix ix_list (pv 0) (pe_op op_add (pv 1) pe_int) (fun _ _ => rfl)) (pa_cons (pe_ix ix_list (pv 0) (pe_op op_add (pv 1) pe_int) (fun _ _ => rfl)) pa_nil)))))), ?_⟩
    have hlen : ((nVs (encW ws)).length : Int) = ((3 * ws.length : Nat) : Int) := by rw [nVs_length, encW_length]
    refine ⟨_, rfl, na, _, rfl, .inl (SqL.of hn), 0, ((3 * ws.length : Nat) : Int), 3, ws.length, ?_, rg3 hl, fun D hD => lc_rangeC
      (fun i H' => ∃ as : List Addr, Same H H' ∧ H' D = some (.lst (as.map V.ref)) ∧ as.length = i ∧ ∀ (j : Nat) (a : Addr) (wd : Si37.Word), as[j]? = some a → ws[j]? = some wd → WordAt t H' a wd) ⟨[], (Same.refl H).new hD, upd_same, rfl, fun j a wd e => absurd e (by simp)⟩ ?_ ?_⟩
    · rw [← hlen]
    · rintro i H' hi ⟨as, s1, hD', hal, hat⟩
      obtain ⟨wd, hw⟩ : ∃ wd, ws[i]? = some wd := ⟨_, List.getElem?_eq_getElem hi⟩
      obtain ⟨g1, g2, g3⟩ := encW_get hw
      have e0 : (0 : Int) + ((i : Nat) : Int) * 3 = ((3 * i : Nat) : Int) := by omega
      refine ⟨rfl, ?_⟩
      refine ⟨_, rfl, _, rfl, na, _, _, _, rfl, rfl, SqL.of (s1 _ _ hn), at_of (j := 3 * i) e0 (nVs_get g1), _, rfl, _, rfl, _, _, rfl, rfl, na, _, _, _, rfl, rfl, SqL.of (s1 _ _ hn), at_of (j := 3 * i + 1) (by omega) (nVs_get g2),
        _, rfl, _, rfl, _, _, rfl, rfl, na, _, _, _, rfl, rfl, SqL.of (s1 _ _ hn), at_of (j := 3 * i + 2) (by omega) (nVs_get g3), ?_⟩
      intro x dx hx hdx ndx
      refine ⟨x, dx, _, _, _, rfl, upd_same, fun H2 e2 kp => ⟨rfl, ?_⟩⟩
      have s2 : Same H' H2 := Same.made hx hdx kp
      have hD2 := s2 _ _ hD'
      have nxD : D ≠ x := ne_of_none hD' hx
      refine ⟨_, hD2, by rw [List.length_map, hal]; exact small1000 (by omega), as ++ [x], ((s1.trans s2).put hD), ?_, ?_, fun j a wd' e e' => ?_⟩
      · rw [upd_same, List.map_append]; rfl
      · rw [List.length_append, hal]; rfl
      · have keep : ∀ {a C dx fs}, H2 a = some (.ins C dx fs) → (upd H2 D (.lst (as.map V.ref ++ [V.ref x]))) a = some (.ins C dx fs) := fun {a C dx fs} q => by
          rw [upd_ne (ne_of q hD2 (by intro z; cases z))]; exact q
        by_cases hj : j < as.length
        · rw [List.getElem?_append_left hj] at e
          obtain ⟨d', q⟩ := hat j a wd' e e'
          exact ⟨d', keep (s2 _ _ q)⟩
        · rw [List.getElem?_append_right (by omega)] at e
          have hj2 : j - as.length = 0 := by
            have := (List.getElem?_eq_some_iff.mp e).1
            rw [List.length_singleton] at this
            omega
          rw [hj2] at e
          have e : x = a := Option.some.inj e
          subst e
          have : j = i := by omega
          subst this
          rw [hw] at e'
          have e' : wd = wd' := Option.some.inj e'
          subst e'
          exact ⟨dx, keep e2⟩
    · rintro H' ⟨as, s1, hD', hal, hat⟩
      exact k H' D as s1 hD hD' ⟨hal, hat⟩
def spWAllowed (t : Ad) : Sp := fun vs H Q _ => ∃ (a : Addr) (wd : Si37.Word), vs = [.ref a] ∧ WordAt t H a wd ∧ Q (.bl (Si37.wordOk wd)) H
theorem sc_wAllowed : FnScope ["word", "most"] ["word"] (defScope s_word_is_allowed) := ⟨rfl, rfl, rfl, by decide +kernel, rfl, by decide +kernel, by decide +kernel⟩
theorem ok_wAllowed {f : Addr} {fd : FuncData} (F : Fun K "word_is_allowed" "word_is_allowed" s_word_is_allowed f fd) (T : Txt K mg t) : FnOk P w K mg base CX0 1 f fd ["word"] (spWAllowed t) := by
  refine F.ok sc_wAllowed (fun vs H Q E h => ?_) (fun cdv A outer s H vs Q E hr h => ?_)
  · obtain ⟨_, _, rfl, _⟩ := h
    rfl
  · obtain ⟨a, wd, rfl, ⟨dx, hW⟩, k⟩ := h
    refine ⟨_, pss_cons (ps_set (i := 1) sc_wAllowed.nd rfl (Or.inl rfl) (pe_ifExp (pt_cmpR op_eq (pe_fld (pv 0) rfl) (pe_gint T.cPLAIN) (nomark _)) (pe_gint T.cMOST_LENGTH) (pe_gint T.cMOST_MARK)))
      (pss_one (ps_ret (pe_and (pe_chain op_le op_le pe_int (pe_fld (pv 0) rfl) (pv 1)) (pe_one (pe_cmpR op_le (pe_fld (pv 0) rfl) (pe_gint T.cMOST_MARK) (nomark _)))))), ?_⟩
    rw [← wordOk_eq] at k
    have fin : ∀ most : Int, most = (if kindOf wd.what = 0 then 200 else 20 : Int) → tRet (tAndV (tChain (rI0 fun i j => .bl (decide (i ≤ j))) (rI0 fun i j => .bl (decide (i ≤ j))) (tC (.int 1)) (tFld K (tVar 0) "told") (tVar 1)) (tOp (rI0 fun i j => .bl (decide (i ≤ j))) (tFld K (tVar 0) "own_mark") (tC (.int 20))))
        { nx := fun _ H' => Q .non H', rt := Q } [some (V.ref a), some (V.int most)] H := fun most hm => by
      subst hm
      have v0 : Val (tVar 0) [some (V.ref a), some (V.int (if kindOf wd.what = 0 then 200 else 20 : Int))] H (.ref a) := Val.var rfl
      exact ((Val.chain Val.c (v0.fld hW T.clW T.nTold wfl_told) (Val.var rfl)).and ((v0.fld hW T.clW T.nOwn wfl_own).le Val.c)) Q k
    refine ⟨_, rfl, a, _, dx, _, _, rfl, hW, T.clW, T.nKind, wfl_kind, rfl, _, rfl, iteI (fun h0 => ?_) (fun h0 => ?_)⟩
    · exact fin 200 (by rw [if_pos (show kindOf wd.what = 0 by omega)])
    · exact fin 20 (by rw [if_neg (show ¬ kindOf wd.what = 0 by omega)])
end
end Tr

set_option Elab.async false
set_option linter.all false
set_option maxRecDepth 100000
set_option maxHeartbeats 4000000
namespace Tr
open PySem PySem.Spec PyProof.Rows L2
def ownOf (ws : List Si37.Word) : List Nat := (ws.map fun w => w.mark).filter fun k => k != 0
theorem ownOf_snoc (ws : List Si37.Word) (wd : Si37.Word) : ownOf (ws ++ [wd]) = ownOf ws ++ (if wd.mark = 0 then [] else [wd.mark]) := by
  unfold ownOf
  rw [List.map_append, List.filter_append]
  congr 1
  by_cases h : wd.mark = 0
  · simp [h]
  · simp [h]
theorem ownOf_len (ws : List Si37.Word) : (ownOf ws).length ≤ ws.length := by
  unfold ownOf
  exact Nat.le_trans (List.length_filter_le _ _) (by rw [List.length_map]; exact Nat.le_refl _)
theorem ownOf_pos {ws : List Si37.Word} {k : Nat} (h : k ∈ ownOf ws) : 1 ≤ k := by
  have := (List.mem_filter.mp h).2
  have : k ≠ 0 := by simpa using this
  omega
def intsOf (l : List Nat) : List Int := l.map fun (n : Nat) => (n : Int)
theorem nVs_ints (l : List Nat) : (intsOf l).map V.int = nVs l := by
  unfold intsOf nVs
  rw [List.map_map]
  rfl
theorem met_same : step_dedup (K := Int) = met := by
  funext acc x
  rfl
theorem first_met (l : List Int) : firstMet (fun i => l.getD i 0) l.length = l.foldl met [] := by
  unfold firstMet
  rw [met_same]
  congr 1
  refine List.ext_getElem (by simp) fun i h1 h2 => ?_
  simp at h1 ⊢
  rw [List.getElem?_eq_getElem h1]
  rfl
theorem twice_eq (l : List Nat) : decide (((firstMet (fun i => (intsOf l).getD i 0) (intsOf l).length).length : Int) < ((nVs l).length : Int)) = !decide l.Nodup := by
  have h := met_lt (l := intsOf l)
  rw [first_met]
  have e : (nVs l).length = (intsOf l).length := by rw [← nVs_ints, List.length_map]
  have h2 : decide (((List.foldl met [] (intsOf l)).length : Int) < ((intsOf l).length : Int)) = decide ((List.foldl met [] (intsOf l)).length < (intsOf l).length) := by
    rw [decide_eq_decide]
    omega
  rw [e, h2, h]
  unfold intsOf
  rw [show decide (List.map (fun (n : Nat) => (n : Int)) l).Nodup = decide l.Nodup from decide_eq_decide.mpr nodup_ints]
section
variable {P : Program} {w : World} {K : PySem.W.Frag} {mg : Str → Option Value} {base : Heap} {t : Ad}
def twice (bws ws : List Si37.Word) : Bool := !decide (ownOf ws).Nodup || (ownOf ws).any fun k => (markIx bws k).isSome
theorem twice_marks (b : Si37.Book) (pg : Bool) (ws : List Si37.Word) : twice b.words ws = !Si37.marksOk b ⟨pg, ws⟩ := by
  have h := marks_ok (b := b) (p := ⟨pg, ws⟩)
  unfold twice
  rw [Bool.eq_iff_iff]
  constructor
  · intro h1
    rw [Bool.not_eq_true', ← Bool.not_eq_true]
    intro h2
    obtain ⟨h3, h4⟩ := h.mp h2
    rw [Bool.or_eq_true] at h1
    rcases h1 with h1 | h1
    · rw [Bool.not_eq_true', decide_eq_false_iff_not] at h1
      exact h1 h3
    · obtain ⟨k, hk, e⟩ := List.any_eq_true.mp h1
      rw [h4 k hk] at e
      cases e
  · intro h1
    rw [Bool.not_eq_true', ← Bool.not_eq_true] at h1
    rw [Bool.or_eq_true]
    by_cases h3 : (ownOf ws).Nodup
    · refine .inr (Classical.byContradiction fun h4 => h1 (h.mpr ⟨h3, fun k hk => ?_⟩))
      cases e : markIx b.words k with
      | none => rfl
      | some i => exact absurd (List.any_eq_true.mpr ⟨k, hk, by rw [e]; rfl⟩) h4
    · exact .inl (by rw [decide_eq_false h3]; rfl)
def spTwice (t : Ad) : Sp := fun vs H Q _ => ∃ (md la : Addr) (kvs : List (Key × V)) (bws ws : List Si37.Word) (as : List Addr), vs = [.ref md, .ref la] ∧ H md = some (.dK kvs) ∧ MarkOk kvs bws ∧ H la = some (.lst (as.map V.ref)) ∧ WordsAt t H as ws ∧ ws.length ≤ 250 ∧
  ∀ H' : Hp, Same H H' → Q (.bl (twice bws ws)) H'
theorem sc_twice : FnScope ["marks", "words", "own_marks", "word", "mark"] ["marks", "words"] (defScope s_has_mark_twice) := ⟨rfl, rfl, rfl, by decide +kernel, rfl, by decide +kernel, by decide +kernel⟩
theorem ok_twice {f : Addr} {fd : FuncData} (F : Fun K "has_mark_twice" "has_mark_twice" s_has_mark_twice f fd) (T : Txt K mg t) : FnOk P w K mg base CX0 1 f fd ["marks", "words"] (spTwice t) := by
  refine F.ok sc_twice (fun vs H Q E h => ?_) (fun cdv A outer s H vs Q E hr h => ?_)
  · obtain ⟨_, _, _, _, _, _, rfl, _⟩ := h
    rfl
  · obtain ⟨md, la, kvs, bws, ws, as, rfl, hmd, hmo, hla, hws, hl, k⟩ := h
    have hu := hu_of hr
    refine ⟨_, pss_cons (ps_setLc (i := 2) (own := [("word", 3)]) (tt := tTest (tOp rNe (tFld K (tVar 3) "own_mark") (tC (.int 0)))) (te := tFld K (tVar 3) "own_mark") rfl sc_twice.nd rfl rfl (sw_true rfl rfl rfl (by decide +kernel)) (pi_list (pv 1)) (blkOk_by (by kernel_rfl)) (fun _ _ _ _ _ => pg_name (i := 3) sc_twice.nd rfl (Or.inl rfl))
        (fun _ _ _ _ _ => pts_one (pt_cmpR op_ne (pe_fld (pv 3) rfl) (pe_gint T.cNO_MARK) (nomark _))) (fun _ _ _ _ _ => pe_fld (pv 3) rfl))
      (pss_cons (ps_if (pt_cmpR op_lt (pe_callB call_lenS (by rfl) T.len PySem.boot_len (pa_cons (pe_callTy (call_setL rfl) (by rfl) T.set (by decide +kernel) (pa_cons (pv 2) pa_nil)) pa_nil)) (pe_callB call_len_seq (by rfl) T.len PySem.boot_len (pa_cons (pv 2) pa_nil)) (nomark _))
        (pss_one (ps_ret pe_bl)) pss_nil)
      (pss_one (ps_ret (pe_callB (cr_any rfl) (by rfl) T.any (by decide +kernel) (pa_cons (pe_lc (own := [("mark", 4)]) rfl sc_twice.nd (pi_list (pv 2)) (blkOk_by (by kernel_rfl)) (fun _ _ _ _ _ => pg_name (i := 4) sc_twice.nd rfl (Or.inl rfl)) (fun _ _ _ _ _ => pts_nil)
        (fun _ _ _ _ _ => pe_cmp (pc_din hu (pv 4) (pv 0)))) pa_nil))))), ?_⟩
    refine ⟨_, rfl, la, rfl, ⟨_, SqL.of hla⟩, fun D hD => lc_list (K := K) (a := la) (xs := as.map V.ref) (fun i H' => Same H H' ∧ H' D = some (.lst (nVs (ownOf (ws.take i)))))
      ⟨(Same.refl H).new hD, upd_same⟩ (fun i H' _ ⟨s1, _⟩ => SqL.of (s1 _ _ hla)) ?_ ?_⟩
    · rintro i x H' hx ⟨s1, hD'⟩
      obtain ⟨a, ha, rfl⟩ : ∃ a, as[i]? = some a ∧ x = V.ref a := by
        rw [List.getElem?_map] at hx
        cases e : as[i]? with
        | none => rw [e] at hx; cases hx
        | some a => rw [e] at hx; exact ⟨a, rfl, (Option.some.inj hx).symm⟩
      obtain ⟨wd, hw⟩ : ∃ wd, ws[i]? = some wd := ⟨_, List.getElem?_eq_getElem (by rw [← hws.len]; exact (List.getElem?_eq_some_iff.mp ha).1)⟩
      obtain ⟨dx, hA⟩ := hws.at_ i a wd ha hw
      have hz : (nVs (ownOf (ws.take i))).length < sizeLine := by
        rw [nVs_length]
        have h1 := ownOf_len (ws.take i)
        rw [List.length_take] at h1
        exact small1000 (by omega)
      refine ⟨rfl, _, rfl, a, _, dx, _, _, rfl, s1 _ _ hA, T.clW, T.nOwn, wfl_own, rfl, _, rfl, ?_⟩
      by_cases h0 : wd.mark = 0
      · have e : (!decide (V.int (wd.mark : Int) = V.int 0)) = false := by rw [h0]; rfl
        rw [e]
        refine iteF ⟨s1, ?_⟩
        rw [take_snoc hw, ownOf_snoc, if_pos h0, List.append_nil]
        exact hD'
      · have e : (!decide (V.int (wd.mark : Int) = V.int 0)) = true := by
          rw [decide_eq_false]
          · rfl
          · intro q
            have q := V.int.inj q
            omega
        rw [e]
        refine iteT ⟨_, rfl, a, _, dx, _, _, rfl, s1 _ _ hA, T.clW, T.nOwn, wfl_own, _, hD', hz, s1.put hD, ?_⟩
        rw [upd_same, nVs_snoc, take_snoc hw, ownOf_snoc, if_neg h0]
    · rintro H1 ⟨s1, hD1⟩
      rw [List.length_map, hws.len, List.take_length] at hD1
      have hlo := ownOf_len ws
      refine ⟨_, rfl, D, intsOf (ownOf ws), rfl, by rw [nVs_ints]; exact SqL.of hD1, by unfold intsOf; rw [List.length_map]; omega, fun p hp => ?_⟩
      have s2 : Same H1 (upd H1 p (.set (fun k' => (firstMet (fun i => (intsOf (ownOf ws)).getD i 0) (intsOf (ownOf ws)).length).any (· == k')) (firstMet (fun i => (intsOf (ownOf ws)).getD i 0) (intsOf (ownOf ws)).length).length)) := (Same.refl _).new hp
      refine ⟨p, _, _, rfl, upd_same, _, rfl, D, _, rfl, .inl (SqL.of (s2 _ _ hD1)), _, _, rfl, rfl, _, rfl, ?_⟩
      rw [twice_eq]
      by_cases hN : (ownOf ws).Nodup
      · rw [decide_eq_true hN]
        refine iteF ⟨_, rfl, D, rfl, ⟨_, SqL.of (s2 _ _ hD1)⟩, fun D2 hD2 => lc_list (K := K) (a := D) (xs := nVs (ownOf ws)) (fun i H' => Same H1 H' ∧ H' D2 = some (.lst (((ownOf ws).take i).map fun k => V.bl (markIx bws k).isSome)))
          ⟨s2.trans ((Same.refl _).new hD2), upd_same⟩ (fun i H' _ ⟨s3, _⟩ => SqL.of (s3 _ _ hD1)) ?_ ?_⟩
        · rintro i x H' hx ⟨s3, hD'⟩
          obtain ⟨n, hn, rfl⟩ := nVs_of hx
          have hv := hmo n (ownOf_pos (List.mem_of_getElem? hn))
          refine ⟨rfl, _, rfl, _, rfl, md, _, rfl, DGet.k (k := Sum.inl (n : Int)) (s3 _ _ (s1 _ _ hmd)), _, hD', ?_, (s2.trans (Same.refl _)).free hD2 |> fun z => s3.put z, ?_⟩
          · rw [List.length_map, List.length_take]; exact small1000 (by omega)
          · rw [upd_same, take_snoc hn, List.map_append, hv, Option.isSome_map]
            rfl
        · rintro H' ⟨s3, hD'⟩
          refine ⟨D2, (ownOf ws).map fun k => (markIx bws k).isSome, rfl, ?_, ?_⟩
          · rw [nVs_length, List.take_length] at hD'
            rw [List.map_map]
            exact SqL.of hD'
          · have e : (((ownOf ws).map fun k => (markIx bws k).isSome).any id) = twice bws ws := by
              unfold twice
              rw [decide_eq_true hN, List.any_map]
              rfl
            rw [e]
            exact k H' (s1.trans s3)
      · rw [decide_eq_false hN]
        refine iteT ?_
        have e : twice bws ws = true := by
          unfold twice
          rw [decide_eq_false hN]
          rfl
        have k1 := k _ (s1.trans s2)
        rw [e] at k1
        exact k1
theorem bfl_new {x y z u : Addr} {c : V} : putF "known_course" c (putF "marks" (.ref u) (putF "openings" (.ref z) (putF "words" (.ref y) (putF "frame" (.ref x) [])))) = bfl x y z u c := by kernel_rfl
theorem bfl_over {x y z u x' y' z' u' : Addr} {c c' : V} : putF "known_course" c (putF "marks" (.ref u) (putF "openings" (.ref z) (putF "words" (.ref y) (putF "frame" (.ref x) (bfl x' y' z' u' c'))))) = bfl x y z u c := by kernel_rfl
def newBook (t : Ad) (H : Hp) (Q : VK) (p dx fr : Addr) : Prop := ∀ (H' : Hp) (wl od md : Addr), H' p = some (.ins t.CB dx (bfl fr wl od md .non)) → H' wl = some (.lst []) → H' od = some (.dK []) → H' md = some (.dK []) → H wl = none → H od = none → H md = none → od ≠ md →
  (∀ a o, H a = some o → a ≠ p → H' a = some o) → Q .non H'
def spBegin (t : Ad) : Sp := fun vs H Q _ => ∃ (p dx fr : Addr) (fs : List (Str × V)), vs = [.ref p, .ref fr] ∧ H p = some (.ins t.CB dx fs) ∧ (fs = [] ∨ ∃ x y z u c, fs = bfl x y z u c) ∧ newBook t H Q p dx fr
theorem sc_begin : FnScope ["self", "frame"] ["self", "frame"] (defScope s_Book_begin_again) := ⟨rfl, rfl, rfl, by decide +kernel, rfl, by decide +kernel, by decide +kernel⟩
theorem ok_begin {f : Addr} {fd : FuncData} (F : Fun K "begin_again" "Book.begin_again" s_Book_begin_again f fd) (T : Txt K mg t) : FnOk P w K mg base CX0 1 f fd ["self", "frame"] (spBegin t) := by
  refine F.ok sc_begin (fun vs H Q E h => ?_) (fun cdv A outer s H vs Q E hr h => ?_)
  · obtain ⟨_, _, _, _, rfl, _⟩ := h
    rfl
  · obtain ⟨p, dx, fr, fs, rfl, hp, hfs, k⟩ := h
    refine ⟨_, pss_cons (ps_fld (pv 0) (pv 1) rfl) (pss_cons (ps_fld (pv 0) (pe_lst pa_nil) rfl) (pss_cons (ps_fld (pv 0) pe_dnewK rfl) (pss_cons (ps_fld (pv 0) pe_dnewK rfl) (pss_one (ps_fld (pv 0) pe_non rfl))))), ?_⟩
    have hl : fs.length ≤ 5 := by
      rcases hfs with e | ⟨_, _, _, _, _, e⟩ <;> rw [e]
      · exact Nat.zero_le _
      · exact Nat.le_refl 5
    have l1 := length_putF "frame" (.ref fr) fs
    refine ⟨_, rfl, _, rfl, p, _, dx, _, rfl, hp, T.clB, T.nFrame, by omega, ?_⟩
    generalize hH1 : upd H p (.ins t.CB dx (putF "frame" (.ref fr) fs)) = H1
    have hp1 : H1 p = some (.ins t.CB dx (putF "frame" (.ref fr) fs)) := by rw [← hH1, upd_same]
    have k1 : ∀ a o, H a = some o → a ≠ p → H1 a = some o := fun a o e ha => by rw [← hH1, upd_ne ha]; exact e
    have f1 : ∀ a, H1 a = none → H a = none ∧ a ≠ p := fun a e => by
      have hne : a ≠ p := fun q => by rw [q, hp1] at e; cases e
      rw [← hH1, upd_ne hne] at e
      exact ⟨e, hne⟩
    refine ⟨Nat.zero_le _, fun wl hwl => ⟨_, rfl, p, _, dx, _, rfl, by rw [upd_ne (ne_of_none hp1 hwl)]; exact hp1, T.clB, T.nWords, by omega, ?_⟩⟩
    have l2 := length_putF "words" (.ref wl) (putF "frame" (.ref fr) fs)
    generalize hH2 : upd (upd H1 wl (.lst [])) p (.ins t.CB dx (putF "words" (.ref wl) (putF "frame" (.ref fr) fs))) = H2
    have hp2 : H2 p = some (.ins t.CB dx (putF "words" (.ref wl) (putF "frame" (.ref fr) fs))) := by rw [← hH2, upd_same]
    have nw : wl ≠ p := (f1 wl hwl).2
    have hw2 : H2 wl = some (.lst []) := by rw [← hH2, upd_ne nw, upd_same]
    have k2 : ∀ a o, H1 a = some o → a ≠ p → H2 a = some o := fun a o e ha => by rw [← hH2, upd_ne ha, upd_ne (ne_of_none e hwl)]; exact e
    have f2 : ∀ a, H2 a = none → H1 a = none ∧ a ≠ p ∧ a ≠ wl := fun a e => by
      have n1 : a ≠ p := fun q => by rw [q, hp2] at e; cases e
      have n2 : a ≠ wl := fun q => by rw [q, hw2] at e; cases e
      rw [← hH2, upd_ne n1, upd_ne n2] at e
      exact ⟨e, n1, n2⟩
    intro od hod
    refine ⟨_, rfl, p, _, dx, _, rfl, by rw [upd_ne (ne_of_none hp2 hod)]; exact hp2, T.clB, T.nOpenings, by omega, ?_⟩
    have l3 := length_putF "openings" (.ref od) (putF "words" (.ref wl) (putF "frame" (.ref fr) fs))
    generalize hH3 : upd (upd H2 od (.dK [])) p (.ins t.CB dx (putF "openings" (.ref od) (putF "words" (.ref wl) (putF "frame" (.ref fr) fs)))) = H3
    have hp3 : H3 p = some (.ins t.CB dx (putF "openings" (.ref od) (putF "words" (.ref wl) (putF "frame" (.ref fr) fs)))) := by rw [← hH3, upd_same]
    have ho3 : H3 od = some (.dK []) := by rw [← hH3, upd_ne (f2 od hod).2.1, upd_same]
    have k3 : ∀ a o, H2 a = some o → a ≠ p → H3 a = some o := fun a o e ha => by rw [← hH3, upd_ne ha, upd_ne (ne_of_none e hod)]; exact e
    have f3 : ∀ a, H3 a = none → H2 a = none ∧ a ≠ p ∧ a ≠ od := fun a e => by
      have n1 : a ≠ p := fun q => by rw [q, hp3] at e; cases e
      have n2 : a ≠ od := fun q => by rw [q, ho3] at e; cases e
      rw [← hH3, upd_ne n1, upd_ne n2] at e
      exact ⟨e, n1, n2⟩
    intro md hmd
    refine ⟨_, rfl, p, _, dx, _, rfl, by rw [upd_ne (ne_of_none hp3 hmd)]; exact hp3, T.clB, T.nMarks, by omega, ?_⟩
    have l4 := length_putF "marks" (.ref md) (putF "openings" (.ref od) (putF "words" (.ref wl) (putF "frame" (.ref fr) fs)))
    generalize hH4 : upd (upd H3 md (.dK [])) p (.ins t.CB dx (putF "marks" (.ref md) (putF "openings" (.ref od) (putF "words" (.ref wl) (putF "frame" (.ref fr) fs))))) = H4
    have hp4 : H4 p = some (.ins t.CB dx (putF "marks" (.ref md) (putF "openings" (.ref od) (putF "words" (.ref wl) (putF "frame" (.ref fr) fs))))) := by rw [← hH4, upd_same]
    have nm : md ≠ p := (f3 md hmd).2.1
    have hm4 : H4 md = some (.dK []) := by rw [← hH4, upd_ne nm, upd_same]
    have k4 : ∀ a o, H3 a = some o → a ≠ p → H4 a = some o := fun a o e ha => by rw [← hH4, upd_ne ha, upd_ne (ne_of_none e hmd)]; exact e
    refine ⟨_, rfl, p, _, dx, _, rfl, hp4, T.clB, T.nCourse, by omega, ?_⟩
    have no : od ≠ p := (f2 od hod).2.1
    refine k _ wl od md ?_ ?_ ?_ ?_ (f1 wl hwl).1 (f1 od (f2 od hod).1).1 (f1 md (f2 md (f3 md hmd).1).1).1 (f3 md hmd).2.2.symm fun a o e ha => ?_
    · rw [upd_same]
      rcases hfs with e | ⟨_, _, _, _, _, e⟩
      · rw [e, bfl_new]
      · rw [e, bfl_over]
    · rw [upd_ne nw]; exact k4 _ _ (k3 _ _ hw2 nw) nw
    · rw [upd_ne no]; exact k4 _ _ ho3 no
    · rw [upd_ne nm]; exact hm4
    · rw [upd_ne ha]; exact k4 _ _ (k3 _ _ (k2 _ _ (k1 _ _ e ha) ha) ha) ha
def spBInit (t : Ad) : Sp := fun vs H Q _ => ∃ (p dx fr : Addr), vs = [.ref p, .ref fr] ∧ H p = some (.ins t.CB dx []) ∧ newBook t H Q p dx fr
theorem sc_bInit : FnScope ["self", "frame"] ["self", "frame"] (defScope s_Book_init) := ⟨rfl, rfl, rfl, by decide +kernel, rfl, by decide +kernel, by decide +kernel⟩
theorem ok_bInit {f : Addr} {fd : FuncData} (F : Fun K "__init__" "Book.__init__" s_Book_init f fd) (T : Txt K mg t) (GB : Mth P w K mg base 1 t.CB "begin_again" ["self", "frame"] (spBegin t)) : FnOk P w K mg base CX0 2 f fd ["self", "frame"] (spBInit t) := by
  refine F.ok sc_bInit (fun vs H Q E h => ?_) (fun cdv A outer s H vs Q E hr h => ?_)
  · obtain ⟨_, _, _, rfl, _⟩ := h
    rfl
  · obtain ⟨p, dx, fr, rfl, hp, k⟩ := h
    refine ⟨_, pss_one (ps_expr (pe_mth (pv 0) T.clB GB hr (pa_cons (pv 1) pa_nil))), ?_⟩
    exact ⟨_, rfl, p, dx, _, rfl, hp, rfl, _, rfl, p, dx, fr, [], rfl, hp, .inl rfl, k⟩
theorem open_add {kvs : List (Key × V)} {ps : List Si37.Para} {p : Si37.Para} {n : Nat} (h : OpenOk kvs ps) (hn : (flags ps).length = n) : OpenOk (putK kvs (Sum.inl (n : Int)) (.int (if p.page = true then 1 else 0))) (ps ++ [p]) := by
  intro i
  rw [valV_put, flags_add]
  by_cases hi : i < n
  · rw [if_neg (by intro q; injection q with q; omega), List.getElem?_append_left (by omega)]
    exact h i
  · by_cases hi2 : i = n
    · subst hi2
      rw [if_pos rfl, List.getElem?_append_right (by omega), hn, Nat.sub_self]
      rfl
    · rw [if_neg (by intro q; injection q with q; omega)]
      have h1 := h i
      rw [List.getElem?_eq_none (by omega)] at h1
      rw [h1, List.getElem?_append_right (by omega), hn]
      obtain ⟨j, hj⟩ : ∃ j, i - n = j + 1 := ⟨i - n - 1, by omega⟩
      rw [hj, List.getElem?_cons_succ, List.getElem?_replicate]
      by_cases hjl : j < p.words.length - 1
      · rw [if_pos hjl]
      · rw [if_neg hjl]
theorem keys_add {kvs : List (Key × V)} {ps : List Si37.Para} {p : Si37.Para} {n : Nat} {v : V} (h : KeysOk kvs ps) (ho : OpenOk kvs ps) (hn : (flags ps).length = n) (hm : n = (ps.flatMap fun p => p.words).length := by rfl) : KeysOk (putK kvs (Sum.inl (n : Int)) v) (ps ++ [p]) := by
  have hv := ho n
  rw [List.getElem?_eq_none (by omega)] at hv
  rw [putK_new v hv]
  unfold KeysOk at h ⊢
  rw [List.map_append, h, starts_snoc, List.map_append, Nat.zero_add, ← hm]
  rfl
theorem mark_add {kvs : List (Key × V)} {ws : List Si37.Word} {wd : Si37.Word} (h : MarkOk kvs ws) (h0 : wd.mark ≠ 0) (hn : markIx ws wd.mark = none) : MarkOk (putK kvs (Sum.inl (wd.mark : Int)) (nV ws.length)) (ws ++ [wd]) := by
  intro k hk
  rw [valV_put, markIx_snoc]
  by_cases e : k = wd.mark
  · subst e
    rw [if_pos rfl, hn]
    simp
  · rw [if_neg (by intro q; injection q with q; omega), h k hk]
    cases markIx ws k with
    | some i => rfl
    | none =>
      have : (wd.mark == k) = false := by simpa using fun q : wd.mark = k => e q.symm
      rw [this]
      rfl
theorem mark_skip {kvs : List (Key × V)} {ws : List Si37.Word} {wd : Si37.Word} (h : MarkOk kvs ws) (h0 : wd.mark = 0) : MarkOk kvs (ws ++ [wd]) := by
  intro k hk
  rw [markIx_snoc, h k hk]
  cases markIx ws k with
  | some i => rfl
  | none =>
    have : (wd.mark == k) = false := by rw [h0]; simpa using fun q : 0 = k => by omega
    rw [this]
    rfl
theorem mark_new {b : Si37.Book} {pg : Bool} {ws : List Si37.Word} {i : Nat} {wd : Si37.Word} (h : Si37.marksOk b ⟨pg, ws⟩ = true) (hw : ws[i]? = some wd) (h0 : wd.mark ≠ 0) : markIx (b.words ++ ws.take i) wd.mark = none := by
  obtain ⟨h1, h2⟩ := marks_ok.mp h
  have hm : wd.mark ∈ (ws.map fun w => w.mark).filter (fun k => k != 0) := List.mem_filter.mpr ⟨List.mem_map.mpr ⟨wd, List.mem_of_getElem? hw, rfl⟩, by simpa using h0⟩
  have h3 := markIx_none.mp (h2 _ hm)
  rw [markIx_none, List.any_append, h3, Bool.false_or, List.any_eq_false]
  intro x hx q
  have q : x.mark = wd.mark := beq_iff_eq.mp q
  have e : ws = ws.take i ++ wd :: ws.drop (i + 1) := by
    rw [← drop_cons hw, List.take_append_drop]
  have h1 : ((ws.map fun w => w.mark).filter fun k => k != 0).Nodup := h1
  rw [e, List.map_append, List.filter_append, List.nodup_append] at h1
  refine h1.2.2 wd.mark ?_ wd.mark ?_ rfl
  · exact List.mem_filter.mpr ⟨List.mem_map.mpr ⟨x, hx, q⟩, by simpa using h0⟩
  · exact List.mem_filter.mpr ⟨List.mem_map.mpr ⟨wd, List.mem_cons_self, rfl⟩, by simpa using h0⟩
def spAdd (t : Ad) : Sp := fun vs H Q _ => ∃ (A : BA) (F : Addr → Prop) (b : Si37.Book) (pg : Bool) (la : Addr) (as : List Addr) (ws : List Si37.Word), vs = [.ref A.bk, .int (if pg = true then 1 else 0), .ref la] ∧ BookAt t H F A b ∧ H la = some (.lst (as.map V.ref)) ∧ WordsAt t H as ws ∧
  ws ≠ [] ∧ (∀ x ∈ ws, Si37.wordOk x = true) ∧ Si37.marksOk b ⟨pg, ws⟩ = true ∧ b.words.length + ws.length ≤ 200 ∧ la ≠ A.wl ∧
  ∀ H' : Hp, BookAt t H' F { A with ws := A.ws ++ as, kc := .non } { b with paras := b.paras ++ [⟨pg, ws⟩] } → (∀ a o, H a = some o → a ≠ A.bk → a ≠ A.wl → a ≠ A.od → a ≠ A.md → H' a = some o) → Q .non H'
theorem sc_add : FnScope ["self", "begins_page", "added", "word"] ["self", "begins_page", "added"] (defScope s_Book_add_paragraph) := ⟨rfl, rfl, rfl, by decide +kernel, rfl, by decide +kernel, by decide +kernel⟩
theorem ok_add {f : Addr} {fd : FuncData} (F : Fun K "add_paragraph" "Book.add_paragraph" s_Book_add_paragraph f fd) (T : Txt K mg t) : FnOk P w K mg base CX0 1 f fd ["self", "begins_page", "added"] (spAdd t) := by
  refine F.ok sc_add (fun vs H Q E h => ?_) (fun cdv A outer s H vs Q E hr h => ?_)
  · obtain ⟨_, _, _, _, _, _, _, rfl, _⟩ := h
    rfl
  · obtain ⟨A, Fo, b, pg, la, as, ws, rfl, B, hla, hws, hne, hwo, hmk, hsz, nla, k⟩ := h
    have hu := hu_of hr
    obtain ⟨okv, hod, hol, hop⟩ := B.od
    obtain ⟨mkv, hmd, hml, hmo⟩ := B.md
    have wsl := B.ws.len
    refine ⟨_, pss_cons (ps_dput hu (pe_fld (pv 0) rfl) (pe_callB call_len_seq (by rfl) T.len PySem.boot_len (pa_cons (pe_fld (pv 0) rfl) pa_nil)) (pv 1) rfl)
      (pss_cons (ps_for PassesOwn.never rfl (pi_list (pv 2)) (pg_name (i := 3) sc_add.nd rfl (Or.inl rfl))
        (pss_cons (ps_if (pt_cmpR op_ne (pe_fld (pv 3) rfl) (pe_gint T.cNO_MARK) (nomark _)) (pss_one (ps_dput hu (pe_fld (pv 0) rfl) (pe_fld (pv 3) rfl) (pe_callB call_len_seq (by rfl) T.len PySem.boot_len (pa_cons (pe_fld (pv 0) rfl) pa_nil)) rfl)) pss_nil)
        (pss_one (ps_expr (pe_bm PySem.F.plainAttrs_list PySem.F.slot_list_append PySem.F.type_list_append mt_append (pe_fld (pv 0) rfl) (pa_cons (pv 3) pa_nil))))))
      (pss_one (ps_fld (pv 0) pe_non rfl))), ?_⟩
    refine ⟨_, rfl, _, rfl, A.bk, _, A.dx, _, _, rfl, B.ins, T.clB, T.nOpenings, bfl_openings, _, rfl, A.bk, _, A.dx, _, _, rfl, B.ins, T.clB, T.nWords, bfl_words, A.wl, _, rfl, .inl (SqL.of B.wl), A.od, _, rfl,
      DPut.k (k := Sum.inl ((b.words.length : Nat) : Int)) hod (small1000 (by have := B.wf.len; omega)) |> (fun z => by rw [List.length_map, wsl]; exact z), ?_⟩
    have hop1 := open_add (p := ⟨pg, ws⟩) hop (flags_length B.wf.ne)
    generalize hokv1 : putK okv (Sum.inl ((b.words.length : Nat) : Int)) (V.int (if pg = true then 1 else 0)) = okv1
    have hop1 : OpenOk okv1 (b.paras ++ [⟨pg, ws⟩]) := by rw [← hokv1]; exact hop1
    have hky1 : KeysOk okv1 (b.paras ++ [⟨pg, ws⟩]) := by
      obtain ⟨okv', hod', hky⟩ := B.ky
      rw [hod] at hod'
      cases hod'
      rw [← hokv1]
      exact keys_add hky hop (flags_length B.wf.ne)
    have hol1 : okv1.length ≤ b.words.length + 1 := by rw [← hokv1]; exact Nat.le_trans (length_putK _ _ _) (by omega)
    have nod : ∀ {a o}, H a = some o → (∀ kvs, o ≠ .dK kvs) → a ≠ A.od := fun {a o} e hn => ne_of e hod (hn _)
    have nmd : ∀ {a o}, H a = some o → (∀ kvs, o ≠ .dK kvs) → a ≠ A.md := fun {a o} e hn => ne_of e hmd (hn _)
    have k0 : ∀ a o, H a = some o → a ≠ A.od → (upd H A.od (.dK okv1)) a = some o := fun a o e ha => by rw [upd_ne ha]; exact e
    have hne1 : 1 ≤ ws.length := List.length_pos_iff.mpr hne
    have hlaI : ∀ kvs, HO.lst (as.map V.ref) ≠ .dK kvs := fun _ z => by cases z
    refine ⟨_, rfl, la, rfl, ⟨_, SqL.of (k0 _ _ hla (nod hla hlaI))⟩, for_list (K := K) (a := la) (xs := as.map V.ref)
      (fun i σ H' => ∃ (v3 : Option V) (mkv1 : List (Key × V)), σ = [some (.ref A.bk), some (.int (if pg = true then 1 else 0)), some (.ref la), v3] ∧ (∀ a o, H a = some o → a ≠ A.wl → a ≠ A.od → a ≠ A.md → H' a = some o) ∧
        H' A.wl = some (.lst ((A.ws ++ as.take i).map V.ref)) ∧ H' A.od = some (.dK okv1) ∧ H' A.md = some (.dK mkv1) ∧ mkv1.length ≤ b.words.length + i ∧ MarkOk mkv1 (b.words ++ ws.take i)) ?_ ?_ ?_ ?_⟩
    · refine ⟨none, mkv, rfl, fun a o e _ h2 _ => k0 a o e h2, ?_, upd_same, k0 _ _ hmd (Ne.symm B.ne), by omega, ?_⟩
      · rw [List.take_zero, List.append_nil]
        exact k0 _ _ B.wl (nod B.wl fun _ z => by cases z)
      · rw [List.take_zero, List.append_nil]
        exact hmo
    · rintro i σ H' _ ⟨_, _, _, kp, _⟩
      exact SqL.of (kp _ _ hla nla (nod hla hlaI) (nmd hla hlaI))
    · rintro i x σ H' hx ⟨v3, mkv1, rfl, kp, hwl1, hod1, hmd1, hml1, hmo1⟩
      obtain ⟨a, ha, rfl⟩ : ∃ a, as[i]? = some a ∧ x = V.ref a := by
        rw [List.getElem?_map] at hx
        cases e : as[i]? with
        | none => rw [e] at hx; cases hx
        | some a => rw [e] at hx; exact ⟨a, rfl, (Option.some.inj hx).symm⟩
      have hil : i < as.length := (List.getElem?_eq_some_iff.mp ha).1
      have hasl := hws.len
      obtain ⟨wd, hw⟩ : ∃ wd, ws[i]? = some wd := ⟨_, List.getElem?_eq_getElem (by omega)⟩
      obtain ⟨dx, hA⟩ := hws.at_ i a wd ha hw
      have insI : ∀ {C d fs kvs}, HO.ins C d fs ≠ .dK kvs := fun {C d fs kvs} z => by cases z
      have kin : ∀ {a C d fs}, H a = some (.ins C d fs) → H' a = some (.ins C d fs) := fun {a C d fs} e => kp _ _ e (ne_of e B.wl (by intro z; cases z)) (nod e fun _ => insI) (nmd e fun _ => insI)
      have hbk := kin B.ins
      have hA' := kin hA
      have hlen : ((A.ws ++ as.take i).map V.ref).length = b.words.length + i := by rw [List.length_map, List.length_append, List.length_take, wsl]; omega
      have hwlen : (b.words ++ ws.take i).length = b.words.length + i := by rw [List.length_append, List.length_take]; omega
      have wfl' := B.wf.len
      have app : ∀ (H2 : Hp) (mkv2 : List (Key × V)), (∀ a o, H' a = some o → a ≠ A.md → H2 a = some o) → H2 A.md = some (.dK mkv2) → mkv2.length ≤ b.words.length + (i + 1) → MarkOk mkv2 (b.words ++ ws.take i ++ [wd]) →
          ∃ (v3 : Option V) (mkv1 : List (Key × V)), [some (V.ref A.bk), some (V.int (if pg = true then 1 else 0)), some (V.ref la), some (V.ref a)] = [some (.ref A.bk), some (.int (if pg = true then 1 else 0)), some (.ref la), v3] ∧ (∀ c o, H c = some o → c ≠ A.wl → c ≠ A.od → c ≠ A.md → (upd H2 A.wl (.lst ((A.ws ++ as.take i).map V.ref ++ [V.ref a]))) c = some o) ∧
            (upd H2 A.wl (.lst ((A.ws ++ as.take i).map V.ref ++ [V.ref a]))) A.wl = some (.lst ((A.ws ++ as.take (i + 1)).map V.ref)) ∧ (upd H2 A.wl (.lst ((A.ws ++ as.take i).map V.ref ++ [V.ref a]))) A.od = some (.dK okv1) ∧ (upd H2 A.wl (.lst ((A.ws ++ as.take i).map V.ref ++ [V.ref a]))) A.md = some (.dK mkv1) ∧
            mkv1.length ≤ b.words.length + (i + 1) ∧ MarkOk mkv1 (b.words ++ ws.take (i + 1)) := fun H2 mkv2 kp2 h1 h2 h3 => by
        refine ⟨_, mkv2, rfl, fun a o e n1 n2 n3 => ?_, ?_, ?_, ?_, h2, ?_⟩
        · rw [upd_ne n1]; exact kp2 _ _ (kp a o e n1 n2 n3) n3
        · rw [upd_same, take_snoc ha, ← List.append_assoc, List.map_append (l₁ := A.ws ++ as.take i)]; rfl
        · rw [upd_ne (ne_of hod1 hwl1 (by intro z; cases z))]; exact kp2 _ _ hod1 B.ne
        · rw [upd_ne (ne_of hmd1 hwl1 (by intro z; cases z))]; exact h1
        · rw [take_snoc hw, ← List.append_assoc]; exact h3
      refine ⟨_, rfl, a, _, dx, _, _, rfl, hA', T.clW, T.nOwn, wfl_own, rfl, _, rfl, ?_⟩
      by_cases h0 : wd.mark = 0
      · have e : (!decide (V.int (wd.mark : Int) = V.int 0)) = false := by rw [h0]; rfl
        rw [e]
        refine iteF ⟨_, rfl, A.bk, _, A.dx, _, _, rfl, hbk, T.clB, T.nWords, bfl_words, .inl ⟨rfl, _, SqL.of hwl1⟩, _, rfl, A.wl, _, _, rfl, rfl, hwl1, by rw [hlen]; exact small1000 (by omega), ?_⟩
        exact app H' mkv1 (fun _ _ e _ => e) hmd1 (by omega) (mark_skip hmo1 h0)
      · have e : (!decide (V.int (wd.mark : Int) = V.int 0)) = true := by
          rw [decide_eq_false]
          · rfl
          · intro q
            have q := V.int.inj q
            omega
        rw [e]
        refine iteT ⟨_, rfl, A.bk, _, A.dx, _, _, rfl, hbk, T.clB, T.nWords, bfl_words, A.wl, _, rfl, .inl (SqL.of hwl1), _, rfl, A.bk, _, A.dx, _, _, rfl, hbk, T.clB, T.nMarks, bfl_marks, _, rfl, a, _, dx, _, _, rfl, hA', T.clW, T.nOwn, wfl_own, A.md, _, rfl,
          DPut.k (k := Sum.inl (wd.mark : Int)) hmd1 (small1000 (by omega)), ?_⟩
        have hadd := mark_add hmo1 h0 (mark_new hmk hw h0)
        rw [hlen]
        rw [hwlen] at hadd
        generalize hm2 : putK mkv1 (Sum.inl (wd.mark : Int)) (V.int ((b.words.length + i : Nat) : Int)) = mkv2
        have hadd : MarkOk mkv2 (b.words ++ ws.take i ++ [wd]) := by rw [← hm2]; exact hadd
        have hml2 : mkv2.length ≤ b.words.length + (i + 1) := by rw [← hm2]; exact Nat.le_trans (length_putK _ _ _) (by omega)
        have kp2 : ∀ a o, H' a = some o → a ≠ A.md → (upd H' A.md (.dK mkv2)) a = some o := fun a o e n => by rw [upd_ne n]; exact e
        have nwm : A.wl ≠ A.md := ne_of hwl1 hmd1 (by intro z; cases z)
        refine ⟨_, rfl, A.bk, _, A.dx, _, _, rfl, kp2 _ _ hbk (ne_of hbk hmd1 (by intro z; cases z)), T.clB, T.nWords, bfl_words, .inl ⟨rfl, _, SqL.of (kp2 _ _ hwl1 nwm)⟩, _, rfl, A.wl, _, _, rfl, rfl, kp2 _ _ hwl1 nwm, by rw [hlen]; exact small1000 (by omega), ?_⟩
        exact app _ mkv2 kp2 upd_same hml2 hadd
    · rintro σ H' ⟨v3, mkv1, rfl, kp, hwl1, hod1, hmd1, hml1, hmo1⟩
      rw [List.length_map] at hwl1 hml1 hmo1
      rw [List.take_length] at hwl1
      rw [hws.len] at hml1
      rw [hws.len, List.take_length] at hmo1
      have insI : ∀ {C d fs kvs}, HO.ins C d fs ≠ .dK kvs := fun {C d fs kvs} z => by cases z
      have kin : ∀ {a C d fs}, H a = some (.ins C d fs) → H' a = some (.ins C d fs) := fun {a C d fs} e => kp _ _ e (ne_of e B.wl (by intro z; cases z)) (nod e fun _ => insI) (nmd e fun _ => insI)
      have hbk := kin B.ins
      refine ⟨_, rfl, A.bk, _, A.dx, _, rfl, hbk, T.clB, T.nCourse, (by show 5 < 1000; decide), ?_⟩
      rw [bfl_put]
      have keep : ∀ {a C d fs}, H a = some (.ins C d fs) → fs ≠ bfl A.fr A.wl A.od A.md A.kc → (upd H' A.bk (.ins t.CB A.dx (bfl A.fr A.wl A.od A.md .non))) a = some (.ins C d fs) := fun {a C d fs} e hn => by
        rw [upd_ne (ne_ins e B.ins hn)]; exact kin e
      have kd : ∀ {a o}, H' a = some o → (∀ C d fs, o ≠ .ins C d fs) → (upd H' A.bk (.ins t.CB A.dx (bfl A.fr A.wl A.od A.md .non))) a = some o := fun {a o} e hn => by
        rw [upd_ne (ne_of e hbk (hn _ _ _))]; exact e
      refine k _ ⟨wf_para B.wf hne hwo hmk hsz, upd_same, ?_, kd hwl1 (fun _ _ _ z => by cases z), B.fwl, ⟨?_, fun i a wd h1 h2 => ?_⟩, ⟨okv1, kd hod1 (fun _ _ _ z => by cases z), ?_, hop1⟩, ⟨mkv1, kd hmd1 (fun _ _ _ z => by cases z), ?_, ?_⟩, B.ne, .inl rfl, ⟨okv1, kd hod1 (fun _ _ _ z => by cases z), hky1⟩, B.tb.keep (fun a ps e => kd (kp _ _ e (ne_of e B.wl (by intro z; cases z)) (nod e fun _ z => by cases z) (nmd e fun _ z => by cases z)) (fun _ _ _ z => by cases z)) (fun a φ e => kd (kp _ _ e (ne_of e B.wl (by intro z; cases z)) (nod e fun _ z => by cases z) (nmd e fun _ z => by cases z)) (fun _ _ _ z => by cases z))⟩ fun a o e n1 n2 n3 n4 => ?_
      · obtain ⟨dx, e⟩ := B.fr
        exact ⟨dx, keep e (by intro z; unfold ffl bfl at z; injection z with z; injection z with z; exact absurd z (by decide +kernel))⟩
      · rw [words_add]
        show (A.ws ++ as).length = _
        rw [List.length_append, List.length_append, wsl, hws.len]
      · have h1 : (A.ws ++ as)[i]? = some a := h1
        rw [words_add] at h2
        have wne : ∀ {x y z : Int}, wfl x y z ≠ bfl A.fr A.wl A.od A.md A.kc := fun {x y z} q => by
          unfold wfl bfl at q; injection q with q; injection q with q; exact absurd q (by decide +kernel)
        by_cases hi : i < b.words.length
        · rw [List.getElem?_append_left (by omega)] at h1 h2
          obtain ⟨dx, e⟩ := B.ws.at_ i a wd h1 h2
          exact ⟨dx, keep e wne⟩
        · rw [List.getElem?_append_right (by omega)] at h1 h2
          rw [wsl] at h1
          obtain ⟨dx, e⟩ := hws.at_ _ a wd h1 h2
          exact ⟨dx, keep e wne⟩
      · rw [words_add, List.length_append]
        show okv1.length ≤ b.words.length + ws.length
        omega
      · rw [words_add, List.length_append]
        exact hml1
      · rw [words_add]
        exact hmo1
      · rw [upd_ne n1]
        exact kp a o e n2 n3 n4
def spGet (t : Ad) : Sp := fun vs H Q _ => ∃ (A : BA) (F : Addr → Prop) (b : Si37.Book), vs = [.ref A.bk] ∧ BookAt t H F A b ∧ (∀ a, H a = none → F a) ∧
  ∀ (H' : Hp) (c : Addr), BookAt t H' F { A with kc := .ref c } b → CourseAt t H' F c b → (∀ a o, H a = some o → a ≠ A.bk → H' a = some o) → Q (.ref c) H'
theorem sc_get : FnScope ["self"] ["self"] (defScope s_Book_course) := ⟨rfl, rfl, rfl, by decide +kernel, rfl, by decide +kernel, by decide +kernel⟩
theorem ok_get {f : Addr} {fd : FuncData} (F : Fun K "course" "Book.course" s_Book_course f fd) (T : Txt K mg t) (GC : Fn P w K mg base 7 "course_of" ["book"] (spCourse t)) : FnOk P w K mg base CX0 8 f fd ["self"] (spGet t) := by
  refine F.ok sc_get (fun vs H Q E h => ?_) (fun cdv A outer s H vs Q E hr h => ?_)
  · obtain ⟨_, _, _, rfl, _⟩ := h
    rfl
  · obtain ⟨A, Fo, b, rfl, B, hFo, k⟩ := h
    refine ⟨_, pss_cons (ps_if (pt_cmp (pc_isN (pe_fld (pv 0) rfl))) (pss_one (ps_fld (pv 0) (pe_fn GC hr (pa_cons (pv 0) pa_nil)) rfl)) pss_nil)
      (pss_one (ps_ret (pe_fld (pv 0) rfl))), ?_⟩
    refine ⟨_, rfl, A.bk, _, A.dx, _, _, rfl, B.ins, T.clB, T.nCourse, bfl_course, _, rfl, iteD (fun h0 => ?_) (fun h0 => ?_)⟩
    · refine ⟨_, rfl, A, Fo, b, rfl, B, fun H1 c s1 hc => ⟨_, rfl, A.bk, _, A.dx, _, rfl, s1 _ _ B.ins, T.clB, T.nCourse, (by show 5 < 1000; decide), ?_⟩⟩
      rw [bfl_put]
      have B1 := B.same s1
      have hc1 := hc.mono hFo
      generalize hH2 : upd H1 A.bk (.ins t.CB A.dx (bfl A.fr A.wl A.od A.md (.ref c))) = H2
      have hb2 : H2 A.bk = some (.ins t.CB A.dx (bfl A.fr A.wl A.od A.md (.ref c))) := by rw [← hH2, upd_same]
      have kp : ∀ a o, H1 a = some o → a ≠ A.bk → H2 a = some o := fun a o e ha => by rw [← hH2, upd_ne ha]; exact e
      have keep : ∀ {a C d fs}, H1 a = some (.ins C d fs) → fs ≠ bfl A.fr A.wl A.od A.md A.kc → H2 a = some (.ins C d fs) := fun {a C d fs} e hn => kp _ _ e (ne_ins e B1.ins hn)
      have kl : ∀ {a xs}, H1 a = some (.lst xs) → H2 a = some (.lst xs) := fun {a xs} e => kp _ _ e (ne_of e B1.ins (by intro z; cases z))
      have kd : ∀ {a xs}, H1 a = some (.dK xs) → H2 a = some (.dK xs) := fun {a xs} e => kp _ _ e (ne_of e B1.ins (by intro z; cases z))
      have hc2 : CourseAt t H2 Fo c b := by
        obtain ⟨dx, sl, as, o, h1, h2, h3, h4, h5, h6⟩ := hc1
        exact ⟨dx, sl, as, o, keep h1 (by intro z; unfold cfl bfl at z; injection z with z; injection z with z; exact absurd z (by decide +kernel)), kl h2, h3, h4, fun i a e => kl (h5 i a e), h6⟩
      refine ⟨_, rfl, A.bk, _, A.dx, _, _, rfl, hb2, T.clB, T.nCourse, bfl_course, ?_⟩
      refine k H2 c ⟨B.wf, hb2, ?_, kl B1.wl, B.fwl, ⟨B.ws.len, fun i a wd h1 h2 => ?_⟩, let ⟨q, e, r⟩ := B1.od; ⟨q, kd e, r⟩, let ⟨q, e, r⟩ := B1.md; ⟨q, kd e, r⟩, B.ne, .inr ⟨c, rfl, hc2⟩, let ⟨q, e, r⟩ := B1.ky; ⟨q, kd e, r⟩, B1.tb.keep (fun a ps e => kp _ _ e (ne_of e B1.ins (by intro z; cases z))) (fun a φ e => kp _ _ e (ne_of e B1.ins (by intro z; cases z)))⟩ hc2 fun a o e ha => kp a o (s1 a o e) ha
      · obtain ⟨dx, e⟩ := B1.fr
        exact ⟨dx, keep e (by intro z; unfold ffl bfl at z; injection z with z; injection z with z; exact absurd z (by decide +kernel))⟩
      · obtain ⟨dx, e⟩ := B1.ws.at_ i a wd h1 h2
        exact ⟨dx, keep e (by intro z; unfold wfl bfl at z; injection z with z; injection z with z; exact absurd z (by decide +kernel))⟩
    · rcases B.kc with e | ⟨c, e, hc⟩
      · exact absurd e h0
      · refine ⟨_, rfl, A.bk, _, A.dx, _, _, rfl, B.ins, T.clB, T.nCourse, bfl_course, ?_⟩
        rw [e]
        have eA : ({ A with kc := V.ref c } : BA) = A := by rw [← e]
        exact k H c (by rw [eA]; exact B) hc fun a o e _ => e
end
end Tr

set_option Elab.async false
set_option linter.all false
set_option maxRecDepth 100000
set_option maxHeartbeats 4000000
namespace Tr
open PySem PySem.Spec PyProof.Rows L2
def zVs (l : List Int) : List V := l.map V.int
theorem zVs_nats (l : List Nat) : zVs (l.map fun (n : Nat) => (n : Int)) = nVs l := by
  unfold zVs nVs
  rw [List.map_map]
  rfl
def ansOf (b : Si37.Book) (q : Si37.Call) : List Int := (Si37.step b q).2.v :: (Si37.step b q).2.l
def Own (t : Ad) (A : BA) (a : Addr) : Prop := a = A.bk ∨ a = A.wl ∨ a = A.od ∨ a = A.md ∨ a = t.FT
def AnsPost (t : Ad) (H : Hp) (Q : VK) (F : Addr → Prop) (A : BA) (b : Si37.Book) (q : Si37.Call) : Prop := ∀ (H' : Hp) (p : Addr) (A' : BA), BookAt t H' F A' (Si37.step b q).1 → A'.bk = A.bk → H p = none → H' p = some (.lst (zVs (ansOf b q))) →
  (∀ a o, H a = some o → ¬ Own t A a → H' a = some o) → Q (.ref p) H'
theorem AnsPost.same {t : Ad} {H H1 : Hp} {Q : VK} {F : Addr → Prop} {A A1 : BA} {b : Si37.Book} {q : Si37.Call} (k : AnsPost t H Q F A b q) (hb : (Si37.step b q).1 = b) {xs : List Int} (hx : xs = ansOf b q) (B : BookAt t H1 F A1 b) (hA : A1.bk = A.bk) (s : ∀ a o, H a = some o → ¬ Own t A a → H1 a = some o)
    (n : ∀ a, H1 a = none → H a = none) : ∀ l, H1 l = none → Q (.ref l) (upd H1 l (.lst (zVs xs))) := fun l hl => by
  subst hx
  exact k _ l A1 (by rw [hb]; exact B.same ((Same.refl _).new hl)) hA (n l hl) upd_same fun a o e h => by rw [upd_ne (ne_of_none (s a o e h) hl)]; exact s a o e h
section
variable {P : Program} {w : World} {K : PySem.W.Frag} {mg : Str → Option Value} {base : Heap} {t : Ad}
def spABegins (t : Ad) : Sp := fun vs H Q _ => ∃ (A : BA) (F : Addr → Prop) (b : Si37.Book) (f : Si37.Frame) (na : Addr), vs = [.ref A.bk, .ref na] ∧ BookAt t H F A b ∧ H na = some (.lst (nVs (numsOf (.begins f)))) ∧ (∀ a, H a = none → F a) ∧ AnsPost t H Q F A b (.begins f)
theorem sc_aBegins : FnScope ["book", "numbers", "frame"] ["book", "numbers"] (defScope s_answer_begins) := ⟨rfl, rfl, rfl, by decide +kernel, rfl, by decide +kernel, by decide +kernel⟩
theorem ok_aBegins {f : Addr} {fd : FuncData} (F : Fun K "answer_begins" "answer_begins" s_answer_begins f fd) (T : Txt K mg t) (G1 : Fn P w K mg base 3 "frame_of" ["numbers"] (spFrameOf t)) (G2 : Fn P w K mg base 1 "frame_is_allowed" ["frame"] (spAllowed t))
    (G3 : Mth P w K mg base 1 t.CB "begin_again" ["self", "frame"] (spBegin t)) : FnOk P w K mg base CX0 4 f fd ["book", "numbers"] (spABegins t) := by
  refine F.ok sc_aBegins (fun vs H Q E h => ?_) (fun cdv A outer s H vs Q E hr h => ?_)
  · obtain ⟨_, _, _, _, _, rfl, _⟩ := h
    rfl
  · obtain ⟨A, Fo, b, fm, na, rfl, B, hn, hFo, k⟩ := h
    have hr1 : Room 1 _ := hr.mono (by decide)
    refine ⟨_, pss_cons (ps_set (i := 2) sc_aBegins.nd rfl (Or.inl rfl) (pe_fn G1 hr (pa_cons (pv 1) pa_nil)))
      (pss_cons (ps_if (pt_not (pt_val (pe_fn G2 hr1 (pa_cons (pv 2) pa_nil)))) (pss_one (ps_ret (pe_lst (pa_cons (pe_gint T.cOUT_OF_RANGE) pa_nil)))) pss_nil)
      (pss_cons (ps_expr (pe_mth (pv 0) T.clB G3 hr1 (pa_cons (pv 2) pa_nil)))
      (pss_one (ps_ret (pe_lst (pa_cons pe_int pa_nil)))))), ?_⟩
    refine ⟨_, rfl, na, fm, rfl, hn, fun H1 fr s1 n1 hF => ?_⟩
    have B1 := B.same s1
    refine ⟨_, rfl, fr, fm, rfl, hF, _, rfl, ?_⟩
    cases e : Si37.frameOk fm with
    | false =>
      refine iteT ⟨(by decide), ?_⟩
      refine k.same (xs := [-1]) ?_ ?_ B1 rfl (fun a o e _ => s1 a o e) fun a ha => s1.free ha
      · rw [step_begins, if_pos e]
      · unfold ansOf; rw [step_begins, if_pos e]; rfl
    | true =>
      refine iteF ⟨_, rfl, A.bk, A.dx, _, rfl, B1.ins, (by kernel_rfl), _, rfl, A.bk, A.dx, fr, _, rfl, B1.ins, .inr ⟨_, _, _, _, _, rfl⟩, fun H2 wl od md h1 h2 h3 h4 n1' n2 n3 n4 kp => ⟨(by decide), fun l hl => ?_⟩⟩
      have e' : ¬ Si37.frameOk fm = false := by rw [e]; decide
      have hs : Si37.step b (.begins fm) = (⟨fm, []⟩, Si37.ok 0) := by rw [step_begins, if_neg e']
      have B2 : BookAt t H2 Fo ⟨A.bk, A.dx, fr, wl, od, md, [], .non⟩ ⟨fm, []⟩ := by
        obtain ⟨dx, hFx⟩ := hF
        refine ⟨wf_begins e, h1, ⟨dx, kp _ _ hFx (ne_ins hFx B1.ins (by intro z; unfold ffl bfl at z; injection z with z; injection z with z; exact absurd z (by decide +kernel)))⟩, h2, hFo _ (s1.free n1'), ⟨rfl, fun i a wd h1 => by simp at h1⟩,
          ⟨[], h3, Nat.zero_le _, fun i => ?_⟩, ⟨[], h4, Nat.zero_le _, fun k _ => ?_⟩, n4, .inl rfl, ⟨[], h3, rfl⟩, B1.tb.keep (fun a ps e => kp _ _ e (ne_of e B1.ins (by intro z; cases z))) (fun a φ e => kp _ _ e (ne_of e B1.ins (by intro z; cases z)))⟩
        · show none = match (flags [])[i]? with
            | some (some pg) => some (V.int (if pg = true then 1 else 0))
            | _ => none
          rw [show (flags []) = [] from rfl, List.getElem?_nil]
        · rfl
      have s2 : ∀ a o, H a = some o → ¬ Own t A a → H2 a = some o := fun a o e h => kp a o (s1 a o e) fun q => h (.inl q)
      refine k _ l ⟨A.bk, A.dx, fr, wl, od, md, [], .non⟩ ?_ rfl ?_ ?_ fun a o e h => ?_
      · rw [hs]; exact B2.same ((Same.refl _).new hl)
      · cases q : H l with
        | none => rfl
        | some o =>
          by_cases hq : l = A.bk
          · rw [hq, h1] at hl; cases hl
          · rw [kp _ _ (s1 _ _ q) hq] at hl; cases hl
      · rw [upd_same]; unfold ansOf; rw [hs]; rfl
      · rw [upd_ne (ne_of_none (s2 a o e h) hl)]; exact s2 a o e h
def spAPara (t : Ad) : Sp := fun vs H Q _ => ∃ (A : BA) (F : Addr → Prop) (b : Si37.Book) (p : Si37.Para) (na : Addr), vs = [.ref A.bk, .ref na] ∧ BookAt t H F A b ∧ H na = some (.lst (nVs (numsOf (.para p)))) ∧ p.words.length ≤ 250 ∧ (∀ a, H a = none → F a) ∧ AnsPost t H Q F A b (.para p)
theorem sc_aPara : FnScope ["book", "numbers", "words", "word"] ["book", "numbers"] (defScope s_answer_para) := ⟨rfl, rfl, rfl, by decide +kernel, rfl, by decide +kernel, by decide +kernel⟩
theorem ok_aPara {f : Addr} {fd : FuncData} (F : Fun K "answer_para" "answer_para" s_answer_para f fd) (T : Txt K mg t) (G1 : Fn P w K mg base 3 "words_told" ["numbers"] (spWordsTold t)) (G2 : Fn P w K mg base 1 "word_is_allowed" ["word"] (spWAllowed t))
    (G3 : Fn P w K mg base 1 "has_mark_twice" ["marks", "words"] (spTwice t)) (G4 : Mth P w K mg base 1 t.CB "add_paragraph" ["self", "begins_page", "added"] (spAdd t)) : FnOk P w K mg base CX0 4 f fd ["book", "numbers"] (spAPara t) := by
  refine F.ok sc_aPara (fun vs H Q E h => ?_) (fun cdv A outer s H vs Q E hr h => ?_)
  · obtain ⟨_, _, _, _, _, rfl, _⟩ := h
    rfl
  · obtain ⟨A, Fo, b, pa, na, rfl, B, hn, hpl, hFo, k⟩ := h
    have hr1 : Room 1 _ := hr.mono (by decide)
    obtain ⟨mkv, hmd, hml, hmo⟩ := B.md
    refine ⟨_, pss_cons (ps_set (i := 2) sc_aPara.nd rfl (Or.inl rfl) (pe_fn G1 hr (pa_cons (pe_slice sl_list (pv 1) (po_some pe_int) po_none) pa_nil)))
      (pss_cons (ps_if (pw_or (pt_cmpR op_eq (pe_callB call_len_seq (by rfl) T.len PySem.boot_len (pa_cons (pv 2) pa_nil)) pe_int (nomark _)) (pw_or1 (pt_not (pt_val (pe_callB (cr_all rfl) (by rfl) T.all (by decide +kernel)
          (pa_cons (pe_lc (own := [("word", 3)]) rfl sc_aPara.nd (pi_list (pv 2)) (blkOk_by (by kernel_rfl)) (fun _ _ _ _ _ => pg_name (i := 3) sc_aPara.nd rfl (Or.inl rfl)) (fun _ _ _ _ _ => pts_nil) (fun _ _ _ _ _ => pe_fn G2 hr1 (pa_cons (pv 3) pa_nil))) pa_nil)))))).pt
        (pss_one (ps_ret (pe_lst (pa_cons (pe_gint T.cOUT_OF_RANGE) pa_nil)))) pss_nil)
      (pss_cons (ps_if (pt_val (pe_fn G3 hr1 (pa_cons (pe_fld (pv 0) rfl) (pa_cons (pv 2) pa_nil)))) (pss_one (ps_ret (pe_lst (pa_cons (pe_gint T.cMARK_TWICE) pa_nil)))) pss_nil)
      (pss_cons (ps_if (pt_cmpR op_gt (pe_op op_add (pe_callB call_len_seq (by rfl) T.len PySem.boot_len (pa_cons (pe_fld (pv 0) rfl) pa_nil)) (pe_callB call_len_seq (by rfl) T.len PySem.boot_len (pa_cons (pv 2) pa_nil))) (pe_gint T.cMOST_WORDS) (nomark _))
        (pss_one (ps_ret (pe_lst (pa_cons (pe_gint T.cTOO_MANY) pa_nil)))) pss_nil)
      (pss_cons (ps_expr (pe_mth (pv 0) T.clB G4 hr1 (pa_cons (pe_ix ix_list (pv 1) pe_int (fun _ _ => rfl)) (pa_cons (pv 2) pa_nil))))
      (pss_one (ps_ret (pe_lst (pa_cons (pe_callB call_len_seq (by rfl) T.len PySem.boot_len (pa_cons (pe_fld (pv 0) rfl) pa_nil)) pa_nil)))))))), ?_⟩
    have hcut : cutV (nVs (numsOf (.para pa))) (some 1) none = nVs (encW pa.words) := by
      unfold cutV
      rw [HT.sIx_none]
      have e1 : HT.sIx (nVs (numsOf (Si37.Call.para pa))).length 0 (some 1) = 1 := by
        show HT.sIx _ 0 (some ((1 : Nat) : Int)) = 1
        rw [HT.sIx_nat, nVs_length]
        show min 1 (_ + 1) = 1
        omega
      rw [e1]
      show List.take ((nVs (encW pa.words)).length + 1 - 1) (nVs (encW pa.words)) = _
      rw [Nat.add_sub_cancel, List.take_length]
    refine ⟨_, rfl, _, rfl, na, _, rfl, SqL.of hn, fun p0 hp0 => ?_⟩
    rw [hcut]
    have s0 : Same H (upd H p0 (.lst (nVs (encW pa.words)))) := (Same.refl H).new hp0
    refine ⟨p0, pa.words, rfl, upd_same, hpl, fun H1 p1 as s1' n1 e1 hws => ?_⟩
    have s1 : Same H H1 := s0.trans s1'
    have B1 := B.same s1
    have hasl := hws.len
    have hlenA : ((as.map V.ref).length : Int) = (pa.words.length : Int) := by rw [List.length_map, hasl]
    have refuse : ∀ (v : Int) (H2 : Hp), Same H1 H2 → Si37.step b (.para pa) = (b, Si37.ok v) → ∀ l, H2 l = none → Q (.ref l) (upd H2 l (.lst (zVs [v]))) := fun v H2 s2 hs => by
      refine k.same (xs := [v]) ?_ ?_ (B1.same s2) rfl (fun a o e _ => s2 a o (s1 a o e)) fun a ha => s1.free (s2.free ha)
      · rw [hs]
      · unfold ansOf; rw [hs]; rfl
    refine ⟨_, rfl, p1, _, rfl, .inl (SqL.of e1), rfl, _, rfl, iteI (fun h0 => ?_) (fun h0 => ?_)⟩
    · -- no word
      have h0 : pa.words.length = 0 := by omega
      refine iteT ⟨(by decide), refuse (-1) H1 (Same.refl _) ?_⟩
      rw [step_para, if_pos (by rw [h0]; rfl)]
    · have h0 : 1 ≤ pa.words.length := by omega
      refine ⟨_, rfl, p1, rfl, ⟨_, SqL.of e1⟩, fun D hD => lc_list (K := K) (a := p1) (xs := as.map V.ref) (fun i H' => Same H1 H' ∧ H' D = some (.lst ((pa.words.take i).map fun x => V.bl (Si37.wordOk x))))
        ⟨(Same.refl H1).new hD, upd_same⟩ (fun i H' _ ⟨s2, _⟩ => SqL.of (s2 _ _ e1)) ?_ ?_⟩
      · rintro i x H' hx ⟨s2, hD'⟩
        obtain ⟨a, ha, rfl⟩ : ∃ a, as[i]? = some a ∧ x = V.ref a := by
          rw [List.getElem?_map] at hx
          cases e : as[i]? with
          | none => rw [e] at hx; cases hx
          | some a => rw [e] at hx; exact ⟨a, rfl, (Option.some.inj hx).symm⟩
        obtain ⟨wd, hw⟩ : ∃ wd, pa.words[i]? = some wd := ⟨_, List.getElem?_eq_getElem (by rw [← hasl]; exact (List.getElem?_eq_some_iff.mp ha).1)⟩
        refine ⟨rfl, _, rfl, a, wd, rfl, (hws.at_ i a wd ha hw).same s2, _, hD', ?_, s2.put hD, ?_⟩
        · rw [List.length_map, List.length_take]; exact small1000 (by omega)
        · rw [upd_same, take_snoc hw, List.map_append]; rfl
      · rintro H2 ⟨s2, hD2⟩
        rw [List.length_map, hasl, List.take_length] at hD2
        have B2 := B1.same s2
        refine ⟨D, pa.words.map Si37.wordOk, rfl, by rw [List.map_map]; exact SqL.of hD2, _, rfl, ?_⟩
        have eall : (pa.words.map Si37.wordOk).all id = pa.words.all Si37.wordOk := by rw [List.all_map]; rfl
        rw [eall]
        cases ew : pa.words.all Si37.wordOk with
        | false =>
          refine iteT ⟨(by decide), refuse (-1) H2 s2 ?_⟩
          rw [step_para, if_pos (by rw [ew, Bool.and_false])]
        | true =>
          have c1 : ¬ (decide (1 ≤ pa.words.length) && pa.words.all Si37.wordOk) = false := by rw [ew, decide_eq_true h0]; decide
          refine iteF ⟨_, rfl, A.bk, _, A.dx, _, _, rfl, B2.ins, T.clB, T.nMarks, bfl_marks, _, rfl, A.md, p1, mkv, b.words, pa.words, as, rfl, s2 _ _ (s1 _ _ hmd), hmo, s2 _ _ e1, hws.same s2, hpl, fun H3 s3 => ⟨_, rfl, ?_⟩⟩
          rw [twice_marks b pa.page pa.words]
          have s23 := s2.trans s3
          have B3 := B2.same s3
          cases em : Si37.marksOk b pa with
          | false =>
            have em' : Si37.marksOk b ⟨pa.page, pa.words⟩ = false := em
            refine iteT ⟨(by decide), refuse (-3) H3 s23 ?_⟩
            rw [step_para, if_neg c1, if_pos em]
          | true =>
            have em' : Si37.marksOk b ⟨pa.page, pa.words⟩ = true := em
            have c2 : ¬ Si37.marksOk b pa = false := by rw [em]; decide
            refine iteF ⟨_, rfl, A.bk, _, A.dx, _, _, rfl, B3.ins, T.clB, T.nWords, bfl_words, A.wl, _, rfl, .inl (SqL.of B3.wl), _, rfl, p1, _, rfl, .inl (SqL.of (s23 _ _ e1)), _, _, rfl, rfl, _, _, rfl, rfl, _, rfl, iteD (fun h1 => ?_) (fun h1 => ?_)⟩
            · have h1 : (200 : Int) < ((A.ws.map V.ref).length : Int) + ((as.map V.ref).length : Int) := h1
              rw [List.length_map, List.length_map, B.ws.len, hasl] at h1
              refine ⟨(by decide), refuse (-5) H3 s23 ?_⟩
              rw [step_para, if_neg c1, if_neg c2, if_pos (by show 200 < _; omega)]
            · have h1 : ¬ (200 : Int) < ((A.ws.map V.ref).length : Int) + ((as.map V.ref).length : Int) := h1
              rw [List.length_map, List.length_map, B.ws.len, hasl] at h1
              have hs : Si37.step b (.para pa) = ({ b with paras := b.paras ++ [pa] }, Si37.ok ((b.words.length + pa.words.length : Nat) : Int)) := by
                rw [step_para, if_neg c1, if_neg c2, if_neg (by show ¬ 200 < _; omega)]
              have hn3 := s23 _ _ (s1 _ _ hn)
              have np1 : p1 ≠ A.wl := (ne_of_none (s0 _ _ B.wl) n1).symm
              refine ⟨_, rfl, A.bk, A.dx, _, rfl, B3.ins, (by kernel_rfl), _, rfl, na, _, _, _, rfl, rfl, SqL.of hn3, atI_nat (j := 0) rfl, _, rfl, A, Fo, b, pa.page, p1, as, pa.words, ?_, B3, s23 _ _ e1, hws.same s23, (List.length_pos_iff.mp h0), (List.all_eq_true.mp ew), em', by omega, np1, fun H4 B4 kp => ?_⟩
              · show [V.ref A.bk, nV (if pa.page = true then 1 else 0), V.ref p1] = _
                cases pa.page <;> rfl
              · have s4 : ∀ a o, H a = some o → ¬ Own t A a → H4 a = some o := fun a o e h => kp a o (s23 a o (s1 a o e)) (fun q => h (.inl q)) (fun q => h (.inr (.inl q))) (fun q => h (.inr (.inr (.inl q)))) fun q => h (.inr (.inr (.inr (.inl q))))
                refine ⟨_, rfl, A.bk, _, A.dx, _, _, rfl, B4.ins, T.clB, T.nWords, bfl_words, A.wl, _, rfl, .inl (SqL.of B4.wl), (by show 1 ≤ sizeLine; decide), fun l hl => ?_⟩
                have hl0 : H l = none := by
                  cases q : H l with
                  | none => rfl
                  | some o =>
                    have B4i : H4 A.bk ≠ none := by rw [B4.ins]; exact fun z => by cases z
                    have B4w : H4 A.wl ≠ none := by rw [B4.wl]; exact fun z => by cases z
                    have B4o : H4 A.od ≠ none := by obtain ⟨_, e, _⟩ := B4.od; rw [show H4 A.od = _ from e]; exact fun z => by cases z
                    have B4m : H4 A.md ≠ none := by obtain ⟨_, e, _⟩ := B4.md; rw [show H4 A.md = _ from e]; exact fun z => by cases z
                    have B4t : H4 t.FT ≠ none := by obtain ⟨ps, e⟩ := B4.tb.some; rw [e]; exact fun z => by cases z
                    rw [s4 l o q (by rintro (z | z | z | z | z); exact B4i (z ▸ hl); exact B4w (z ▸ hl); exact B4o (z ▸ hl); exact B4m (z ▸ hl); exact B4t (z ▸ hl))] at hl
                    cases hl
                refine k _ l { A with ws := A.ws ++ as, kc := .non } ?_ rfl hl0 ?_ fun a o e h => ?_
                · rw [hs]; exact B4.same ((Same.refl _).new hl)
                · rw [upd_same]
                  unfold ansOf
                  rw [hs]
                  show some (HO.lst [V.int (((A.ws ++ as).map V.ref).length : Int)]) = some (HO.lst [V.int ((b.words.length + pa.words.length : Nat) : Int)])
                  rw [List.length_map, List.length_append, B.ws.len, hasl]
                · rw [upd_ne (ne_of_none (s4 a o e h) hl)]; exact s4 a o e h
theorem step_pass (b : Si37.Book) (n : Nat) : Si37.step b (.pass n) = (b, if 400 < n then Si37.ok (-1) else ⟨((Si37.passes b n).length : Int), Si37.ints (Si37.passes b n)⟩) := rfl
theorem get_keep {H H1 : Hp} {A : BA} {C dx : Addr} {fs : List (Str × V)} (hb : H1 A.bk = some (.ins C dx fs)) (kp : ∀ a o, H a = some o → a ≠ A.bk → H1 a = some o) : ∀ a, H1 a = none → H a = none := fun a ha => by
  cases q : H a with
  | none => rfl
  | some o =>
    by_cases h : a = A.bk
    · rw [h, hb] at ha; cases ha
    · rw [kp a o q h] at ha; cases ha
def spLast : Sp := fun vs H Q _ => ∃ (sa : Addr) (s : List Nat), vs = [.ref sa] ∧ H sa = some (.lst (nVs s)) ∧ Q (.int ((s.getLastD 0 : Nat) : Int)) H
theorem sc_last : FnScope ["setting"] ["setting"] (defScope s_last_page) := ⟨rfl, rfl, rfl, by decide +kernel, rfl, by decide +kernel, by decide +kernel⟩
theorem ok_last {f : Addr} {fd : FuncData} (F : Fun K "last_page" "last_page" s_last_page f fd) (T : Txt K mg t) : FnOk P w K mg base CX0 1 f fd ["setting"] spLast := by
  refine F.ok sc_last (fun vs H Q E h => ?_) (fun cdv A outer s H vs Q E hr h => ?_)
  · obtain ⟨_, _, rfl, _⟩ := h
    rfl
  · obtain ⟨sa, st, rfl, hs, k⟩ := h
    refine ⟨_, pss_cons (ps_if (pt_cmpR op_eq (pe_callB call_len_seq (by rfl) T.len PySem.boot_len (pa_cons (pv 0) pa_nil)) pe_int (nomark _)) (pss_one (ps_ret (pe_gint T.cNOT_KNOWN))) pss_nil)
      (pss_one (ps_ret (pe_ix ix_list (pv 0) (pe_un un_neg pe_int) (fun _ _ => rfl)))), ?_⟩
    refine ⟨_, rfl, sa, _, rfl, .inl (SqL.of hs), rfl, _, rfl, iteI (fun h0 => ?_) (fun h0 => ?_)⟩
    · rw [nVs_length] at h0
      have e : st = [] := List.eq_nil_of_length_eq_zero (by omega)
      subst e
      exact k
    · rw [nVs_length] at h0
      have hne : st ≠ [] := fun e => by subst e; exact h0 rfl
      have e : nVs st = nVs st.dropLast ++ [V.int ((st.getLastD 0 : Nat) : Int)] := by
        rw [nVs_snoc]
        congr 1
        rw [List.getLastD_eq_getLast?, List.getLast?_eq_some_getLast hne]
        exact (List.dropLast_concat_getLast hne).symm
      refine ⟨_, rfl, _, rfl, sa, _, _, _, rfl, rfl, SqL.of hs, ?_, k⟩
      rw [e]
      exact atI_last _ _
def spASettles (t : Ad) : Sp := fun vs H Q _ => ∃ (A : BA) (F : Addr → Prop) (b : Si37.Book), vs = [.ref A.bk] ∧ BookAt t H F A b ∧ (∀ a, H a = none → F a) ∧ AnsPost t H Q F A b .settles
theorem sc_aSettles : FnScope ["book", "course"] ["book"] (defScope s_answer_settles) := ⟨rfl, rfl, rfl, by decide +kernel, rfl, by decide +kernel, by decide +kernel⟩
theorem step_settles (b : Si37.Book) : Si37.step b .settles = (b, match Si37.ring b with
    | some x => if x.2 = 1 then ⟨0, Si37.ints [x.1, (Si37.passes b x.1).getLastD 0]⟩ else ⟨1, Si37.ints [x.1, x.2]⟩
    | none => Si37.ok (-7)) := rfl
theorem ok_aSettles {f : Addr} {fd : FuncData} (F : Fun K "answer_settles" "answer_settles" s_answer_settles f fd) (T : Txt K mg t) (G1 : Mth P w K mg base 8 t.CB "course" ["self"] (spGet t)) (G2 : Mth P w K mg base 1 t.CC "ring_length" ["self"] (spRingLen t)) (G3 : Fn P w K mg base 1 "last_page" ["setting"] spLast) :
    FnOk P w K mg base CX0 9 f fd ["book"] (spASettles t) := by
  refine F.ok sc_aSettles (fun vs H Q E h => ?_) (fun cdv A outer s H vs Q E hr h => ?_)
  · obtain ⟨_, _, _, rfl, _⟩ := h
    rfl
  · obtain ⟨A, Fo, b, rfl, B, hFo, k⟩ := h
    have hr1 : Room 1 _ := hr.mono (by decide)
    refine ⟨_, pss_cons (ps_set (i := 1) sc_aSettles.nd rfl (Or.inl rfl) (pe_mth0 (pv 0) T.clB G1 hr))
      (pss_cons (ps_if (pt_cmp (pc_isN (pe_fld (pv 1) rfl))) (pss_one (ps_ret (pe_lst (pa_cons (pe_gint T.cNEVER_AGAIN) pa_nil)))) pss_nil)
      (pss_cons (ps_if (pt_cmpR op_eq (pe_mth0 (pv 1) T.clC G2 hr1) pe_int (nomark _)) (pss_one (ps_ret (pe_lst (pa_cons pe_int (pa_cons (pe_fld (pv 1) rfl) (pa_cons (pe_fn G3 hr1 (pa_cons (pe_ix ix_list (pe_fld (pv 1) rfl) (pe_un un_neg pe_int) (fun _ _ => rfl)) pa_nil)) pa_nil)))))) pss_nil)
      (pss_one (ps_ret (pe_lst (pa_cons pe_int (pa_cons (pe_fld (pv 1) rfl) (pa_cons (pe_mth0 (pv 1) T.clC G2 hr1) pa_nil)))))))), ?_⟩
    refine ⟨_, rfl, A.bk, A.dx, _, rfl, B.ins, (by kernel_rfl), A, Fo, b, rfl, B, hFo, fun H2 c B2 hc kp => ?_⟩
    obtain ⟨dx, sl, as, o, hcI, hsl, _, _, hat, hap, hco⟩ := id hc
    have s2 : ∀ a o, H a = some o → ¬ Own t A a → H2 a = some o := fun a o e h => kp a o e fun q => h (.inl q)
    have n2 : ∀ a, H2 a = none → H a = none := get_keep B2.ins kp
    refine ⟨_, rfl, c, _, dx, _, _, rfl, hcI, T.clC, T.nBack, cfl_back, _, rfl, ?_⟩
    cases o with
    | none =>
      have e : as.length = 401 := hco
      have hs : Si37.step b .settles = (b, Si37.ok (-7)) := by rw [step_settles, ring_none (by rw [← e]; exact hap)]
      refine iteT ⟨(by decide), ?_⟩
      exact k.same (xs := [-7]) (by rw [hs]) (by unfold ansOf; rw [hs]; rfl) B2 rfl s2 n2
    | some j =>
      obtain ⟨hj, hm, hp⟩ : j < as.length ∧ as.length ≤ 400 ∧ Si37.passes b as.length = Si37.passes b j := hco
      have hring := ring_some hap hj hm hp
      refine iteF ⟨_, rfl, c, dx, _, rfl, hcI, (by kernel_rfl), c, dx, sl, _, (j : Int), rfl, hcI, hsl, rfl, _, rfl, iteI (fun h0 => ?_) (fun h0 => ?_)⟩
      · rw [List.length_map] at h0
        have h1 : as.length - j = 1 := by omega
        have hs : Si37.step b .settles = (b, ⟨0, Si37.ints [j, (Si37.passes b j).getLastD 0]⟩) := by
          rw [step_settles, hring]
          show (b, if as.length - j = 1 then _ else _) = _
          rw [if_pos h1]
        obtain ⟨as', a, ea⟩ : ∃ as' a, as = as' ++ [a] := ⟨_, _, (List.dropLast_concat_getLast (l := as) (by intro q; rw [q] at hj; exact absurd hj (Nat.not_lt_zero _))).symm⟩
        have hj' : j = as'.length := by rw [ea, List.length_append, List.length_singleton] at h1 hj; omega
        have hla : H2 a = some (.lst (nVs (Si37.passes b j))) := hat j a (by rw [ea, hj', List.getElem?_append_right (Nat.le_refl _), Nat.sub_self]; rfl)
        refine ⟨_, rfl, c, _, dx, _, _, rfl, hcI, T.clC, T.nBack, cfl_back, _, rfl, c, _, dx, _, _, rfl, hcI, T.clC, T.nSettings, cfl_settings, _, rfl, sl, _, _, V.ref a, rfl, rfl, SqL.of hsl, ?_, a, Si37.passes b j, rfl, hla, (by show 3 ≤ sizeLine; decide), ?_⟩
        · rw [ea, List.map_append]
          exact atI_last _ _
        · exact k.same (xs := [0, (j : Int), ((Si37.passes b j).getLastD 0 : Nat)]) (by rw [hs]) (by unfold ansOf; rw [hs]; rfl) B2 rfl s2 n2
      · rw [List.length_map] at h0
        have h1 : ¬ as.length - j = 1 := by omega
        have hs : Si37.step b .settles = (b, ⟨1, Si37.ints [j, as.length - j]⟩) := by
          rw [step_settles, hring]
          show (b, if as.length - j = 1 then _ else _) = _
          rw [if_neg h1]
        refine ⟨_, rfl, c, _, dx, _, _, rfl, hcI, T.clC, T.nBack, cfl_back, _, rfl, c, dx, _, rfl, hcI, (by kernel_rfl), c, dx, sl, _, (j : Int), rfl, hcI, hsl, (by show 3 ≤ sizeLine; decide), ?_⟩
        rw [List.length_map, show (as.length : Int) - (j : Int) = ((as.length - j : Nat) : Int) by omega]
        exact k.same (xs := [1, (j : Int), ((as.length - j : Nat) : Int)]) (by rw [hs]) (by unfold ansOf; rw [hs]; rfl) B2 rfl s2 n2
end
end Tr

set_option Elab.async false
set_option linter.all false
set_option maxRecDepth 100000
set_option maxHeartbeats 4000000
namespace Tr
open PySem PySem.Spec PyProof.Rows L2
theorem ref_get {as : List Addr} {i : Nat} {x : V} (h : (as.map V.ref)[i]? = some x) : ∃ a, as[i]? = some a ∧ x = V.ref a := by
  rw [List.getElem?_map] at h
  cases e : as[i]? with
  | none => rw [e] at h; cases h
  | some a => rw [e] at h; exact ⟨a, rfl, (Option.some.inj h).symm⟩
theorem WordsAt.word {t : Ad} {H : Hp} {as : List Addr} {ws : List Si37.Word} (h : WordsAt t H as ws) {i : Nat} {a : Addr} (ha : as[i]? = some a) : ∃ wd dx, ws[i]? = some wd ∧ H a = some (.ins t.CW dx (wfl (kindOf wd.what) (toldOf wd.what) wd.mark)) := by
  have hi : i < ws.length := by rw [← h.len]; exact (List.getElem?_eq_some_iff.mp ha).1
  obtain ⟨dx, e⟩ := h.at_ i a _ ha (List.getElem?_eq_getElem hi)
  exact ⟨_, dx, List.getElem?_eq_getElem hi, e⟩
theorem nVs_flat (l : List Nat) : (nVs l).all flatV = true := by
  rw [List.all_eq_true]
  intro v hv
  obtain ⟨n, _, rfl⟩ := List.mem_map.mp hv
  rfl
theorem nVs_in (m : Nat) (l : List Nat) : inV (.int (m : Int)) (nVs l) = decide (m ∈ l) := by
  unfold inV nVs
  rw [List.any_map, Bool.eq_iff_iff, List.any_eq_true, decide_eq_true_eq]
  constructor
  · rintro ⟨n, hn, e⟩
    have e : ((n : Int) == (m : Int)) = true := e
    have e := beq_iff_eq.mp e
    have : n = m := by omega
    exact this ▸ hn
  · intro h
    exact ⟨m, h, show ((m : Int) == (m : Int)) = true from beq_iff_eq.mpr rfl⟩
structure RowsAt (H : Hp) (as : List Addr) (R : List (List Nat)) : Prop where
  len : as.length = R.length
  at_ : ∀ (i : Nat) (a : Addr) (r : List Nat), as[i]? = some a → R[i]? = some r → H a = some (.lst (nVs r))
theorem RowsAt.keep {H H' : Hp} {as : List Addr} {R : List (List Nat)} (h : RowsAt H as R) (k : ∀ a ∈ as, ∀ o, H a = some o → H' a = some o) : RowsAt H' as R := ⟨h.len, fun i a r h1 h2 => k a (List.mem_of_getElem? h1) _ (h.at_ i a r h1 h2)⟩
theorem RowsAt.same {H H' : Hp} {as : List Addr} {R : List (List Nat)} (h : RowsAt H as R) (s : Same H H') : RowsAt H' as R := h.keep fun a _ o e => s a o e
theorem RowsAt.nil {H : Hp} : RowsAt H [] [] := ⟨rfl, fun i a r h => by simp at h⟩
theorem RowsAt.mem {H : Hp} {as : List Addr} {R : List (List Nat)} (h : RowsAt H as R) {a : Addr} (ha : a ∈ as) : ∃ r, H a = some (.lst (nVs r)) := by
  obtain ⟨i, hi, e⟩ := List.getElem_of_mem ha
  have h1 : as[i]? = some a := by rw [List.getElem?_eq_getElem hi, e]
  have h2 : i < R.length := by rw [← h.len]; exact hi
  exact ⟨_, h.at_ i a _ h1 (List.getElem?_eq_getElem h2)⟩
theorem RowsAt.append {H : Hp} {as bs : List Addr} {R S : List (List Nat)} (h : RowsAt H as R) (k : RowsAt H bs S) : RowsAt H (as ++ bs) (R ++ S) := by
  refine ⟨by rw [List.length_append, List.length_append, h.len, k.len], fun i a r h1 h2 => ?_⟩
  have hl := h.len
  by_cases hi : i < as.length
  · rw [List.getElem?_append_left hi] at h1
    rw [List.getElem?_append_left (by omega)] at h2
    exact h.at_ i a r h1 h2
  · rw [List.getElem?_append_right (by omega)] at h1
    rw [List.getElem?_append_right (by omega), ← hl] at h2
    exact k.at_ _ a r h1 h2
theorem RowsAt.one {H : Hp} {a : Addr} {r : List Nat} (h : H a = some (.lst (nVs r))) : RowsAt H [a] [r] := ⟨rfl, fun i b q h1 h2 => by
  cases i with
  | zero =>
    have e1 : a = b := Option.some.inj h1
    have e2 : r = q := Option.some.inj h2
    subst e1 e2
    exact h
  | succ i => simp at h1⟩
theorem small_rows {n : Nat} (h : n ≤ 1000000) : n < sizeLine := by rw [sizeLine_eq]; omega
section
variable {P : Program} {w : World} {K : PySem.W.Frag} {mg : Str → Option Value} {base : Heap} {t : Ad}
def toldKv (l : List Nat) : List (Key × V) := l.map fun (k : Nat) => ((Sum.inl (k : Int) : Key), V.bl true)
theorem told_put (l : List Nat) (k : Nat) : putK (toldKv l) (Sum.inl (k : Int)) (.bl true) = toldKv (if k ∈ l then l else l ++ [k]) := by
  have hany : ((toldKv l).any fun kv => decide (kv.1 = (Sum.inl (k : Int) : Key))) = decide (k ∈ l) := by
    unfold toldKv
    rw [List.any_map, Bool.eq_iff_iff, List.any_eq_true, decide_eq_true_eq]
    constructor
    · rintro ⟨n, hn, e⟩
      have e := Sum.inl.inj (of_decide_eq_true e)
      have : n = k := by omega
      exact this ▸ hn
    · intro h
      exact ⟨k, h, decide_eq_true rfl⟩
  unfold putK
  rw [hany]
  by_cases h : k ∈ l
  · rw [if_pos (decide_eq_true h), if_pos h]
    unfold toldKv
    rw [List.map_map]
    refine List.map_congr_left fun n _ => ?_
    show (if (Sum.inl (n : Int) : Key) = Sum.inl (k : Int) then ((Sum.inl (n : Int) : Key), V.bl true) else (Sum.inl (n : Int), V.bl true)) = _
    split <;> rfl
  · rw [if_neg (by rw [decide_eq_false h]; exact Bool.false_ne_true), if_neg h]
    unfold toldKv
    rw [List.map_append]
    rfl
theorem told_keys (l : List Nat) : ((toldKv l).map fun kv => kV kv.1) = nVs l := by
  unfold toldKv nVs
  rw [List.map_map]
  rfl
def spToldOf (t : Ad) : Sp := fun vs H Q _ => ∃ (wl : Addr) (as : List Addr) (ws : List Si37.Word), vs = [.ref wl] ∧ H wl = some (.lst (as.map V.ref)) ∧ WordsAt t H as ws ∧ ws.length ≤ 250 ∧
  ∀ (H' : Hp) (p : Addr), Same H H' → H p = none → H' p = some (.lst (nVs (toldTo ws))) → Q (.ref p) H'
theorem sc_toldOf : FnScope ["words", "told_of", "word"] ["words"] (defScope s_marks_told_of) := ⟨rfl, rfl, rfl, by decide +kernel, rfl, by decide +kernel, by decide +kernel⟩
theorem ok_toldOf {f : Addr} {fd : FuncData} (F : Fun K "marks_told_of" "marks_told_of" s_marks_told_of f fd) (T : Txt K mg t) : FnOk P w K mg base CX0 1 f fd ["words"] (spToldOf t) := by
  refine F.ok sc_toldOf (fun vs H Q E h => ?_) (fun cdv A outer s H vs Q E hr h => ?_)
  · obtain ⟨_, _, _, rfl, _⟩ := h
    rfl
  · obtain ⟨wl, as, ws, rfl, hwl, hws, hl, k⟩ := h
    have hu := hu_of hr
    refine ⟨_, pss_cons (ps_set (i := 1) sc_toldOf.nd rfl (Or.inl rfl) pe_dnewK)
      (pss_cons (ps_for PassesOwn.never rfl (pi_list (pv 0)) (pg_name (i := 2) sc_toldOf.nd rfl (Or.inl rfl))
        (pss_one (ps_if (pt_cmpR op_ne (pe_fld (pv 2) rfl) (pe_gint T.cPLAIN) (nomark _)) (pss_one (ps_dput hu (pv 1) (pe_fld (pv 2) rfl) pe_bl rfl)) pss_nil)))
      (pss_one (ps_ret (pe_callTy (call_list_dict rfl) (by rfl) T.list (by decide +kernel) (pa_cons (pv 1) pa_nil))))), ?_⟩
    intro d hd
    have s0 : Same H (upd H d (.dK [])) := (Same.refl H).new hd
    refine ⟨_, rfl, wl, rfl, ⟨_, SqL.of (s0 _ _ hwl)⟩, for_list (K := K) (a := wl) (xs := as.map V.ref)
      (fun i σ H' => ∃ v2 : Option V, σ = [some (.ref wl), some (.ref d), v2] ∧ Same H H' ∧ H' d = some (.dK (toldKv (toldTo (ws.take i)))))
      ⟨none, rfl, s0, upd_same⟩ (fun i σ H' _ ⟨_, _, s1, _⟩ => SqL.of (s1 _ _ hwl)) ?_ ?_⟩
    · rintro i x σ H' hx ⟨v2, rfl, s1, hd'⟩
      obtain ⟨a, ha, rfl⟩ := ref_get hx
      obtain ⟨wd, dx, hw, hA⟩ := hws.word ha
      have hsn := toldTo_snoc (ws.take i) wd
      rw [← take_snoc hw] at hsn
      refine ⟨_, rfl, a, _, dx, _, _, rfl, s1 _ _ hA, T.clW, T.nKind, wfl_kind, rfl, _, rfl, iteN (fun h0 => ?_) (fun h0 => ?_)⟩
      · rw [if_neg (show ¬ kindOf wd.what = 0 by omega)] at hsn
        have hz : (toldKv (toldTo (ws.take i))).length < sizeLine := by
          unfold toldKv
          rw [List.length_map]
          have := toldTo_len (ws.take i)
          rw [List.length_take] at this
          exact small1000 (by omega)
        refine ⟨_, rfl, _, rfl, a, _, dx, _, _, rfl, s1 _ _ hA, T.clW, T.nTold, wfl_told, d, _, rfl, DPut.k (k := Sum.inl ((toldOf wd.what : Nat) : Int)) hd' hz, ?_⟩
        refine ⟨some (V.ref a), rfl, s1.put hd, ?_⟩
        rw [upd_same, told_put, hsn]
      · rw [if_pos (show kindOf wd.what = 0 by omega)] at hsn
        exact ⟨some (V.ref a), rfl, s1, by rw [hsn]; exact hd'⟩
    · rintro σ H' ⟨v2, rfl, s1, hd'⟩
      rw [List.length_map, hws.len, List.take_length] at hd'
      refine ⟨_, rfl, d, _, rfl, hd', fun l hl => ?_⟩
      rw [told_keys]
      exact k _ l (s1.new hl) (s1.free hl) upd_same
def spCount (t : Ad) : Sp := fun vs H Q _ => ∃ (wl : Addr) (as : List Addr) (b : Si37.Book), vs = [.ref wl] ∧ H wl = some (.lst (as.map V.ref)) ∧ WordsAt t H as b.words ∧ Wf b ∧
  ∀ (H' : Hp) (p : Addr), Same H H' → H p = none → H' p = some (.lst (nVs (Si37.counts b))) → Q (.ref p) H'
theorem sc_count : FnScope ["words", "told_of", "number", "word"] ["words"] (defScope s_words_that_count) := ⟨rfl, rfl, rfl, by decide +kernel, rfl, by decide +kernel, by decide +kernel⟩
theorem ok_count {f : Addr} {fd : FuncData} (F : Fun K "words_that_count" "words_that_count" s_words_that_count f fd) (T : Txt K mg t) (G1 : Fn P w K mg base 1 "marks_told_of" ["words"] (spToldOf t)) : FnOk P w K mg base CX0 2 f fd ["words"] (spCount t) := by
  refine F.ok sc_count (fun vs H Q E h => ?_) (fun cdv A outer s H vs Q E hr h => ?_)
  · obtain ⟨_, _, _, rfl, _⟩ := h
    rfl
  · obtain ⟨wl, as, b, rfl, hwl, hws, hwf, k⟩ := h
    have hwfl := hwf.len
    refine ⟨_, pss_cons (ps_set (i := 1) sc_count.nd rfl (Or.inr rfl) (pe_fn G1 hr (pa_cons (pv 0) pa_nil)))
      (pss_one (ps_ret (pe_lc (own := [("number", 2), ("word", 3)]) (g := gTup K 2 (gCons (gName 2) (gCons (gName 3) gNil))) (tt := tOr (tTest (tOp rEq (tFld K (tVar 3) "kind") (tC (.int 3)))) (tTest (tOp (rIn K false) (tFld K (tVar 3) "own_mark") (tVar 1)))) (te := tVar 2) rfl sc_count.nd (pi_enum rfl T.enumerate (pa_cons (pv 0) pa_nil)) (blkOk_by (by kernel_rfl))
        (fun _ _ _ _ _ => pg_tup rfl (pgs_cons (pg_name (i := 2) sc_count.nd rfl (Or.inl rfl)) (pgs_cons (pg_name (i := 3) sc_count.nd rfl (Or.inl rfl)) pgs_nil)))
        (fun _ _ _ _ _ => pts_one (pw_or (pt_cmpR op_eq (pe_fld (pv 3) rfl) (pe_gint T.cHOW_FAR) (nomark _)) (pw_or1 (pt_cmpR op_in_seq (pe_fld (pv 3) rfl) (pv 1) rfl))).pt) (fun _ _ _ _ _ => pv 2)))), ?_⟩
    refine ⟨_, rfl, wl, as, b.words, rfl, hwl, hws, by omega, fun H1 p1 s1 n1 e1 => ?_⟩
    refine ⟨_, rfl, wl, _, rfl, SqL.of (s1 _ _ hwl), fun D hD => lc_enum (K := K) (a := wl) (xs := as.map V.ref) (fun i H' => Same H1 H' ∧ H' D = some (.lst (nVs (countsTo b i))))
      ⟨(Same.refl H1).new hD, upd_same⟩ (fun i H' _ ⟨s2, _⟩ => SqL.of (s2 _ _ (s1 _ _ hwl))) ?_ ?_⟩
    · rintro i x H' tp hx ⟨s2, hD'⟩ htp
      obtain ⟨a, ha, rfl⟩ := ref_get hx
      obtain ⟨wd, dx, hw, hA⟩ := hws.word ha
      have hil : i < b.words.length := (List.getElem?_eq_some_iff.mp hw).1
      have s3 : Same H1 (upd H' tp (.tup [V.int ((i : Nat) : Int), V.ref a])) := s2.new htp
      have hD2 : (upd H' tp (.tup [V.int ((i : Nat) : Int), V.ref a])) D = some (.lst (nVs (countsTo b i))) := by rw [upd_ne (ne_of_none hD' htp)]; exact hD'
      have hz : (nVs (countsTo b i)).length < sizeLine := by
        rw [nVs_length]
        have := countsTo_len b i
        exact small1000 (by omega)
      have hcs := countsTo_succ hw
      rw [countsW_told hwf] at hcs
      have hA3 := s3 _ _ (s1 _ _ hA)
      refine ⟨tp, _, rfl, SqT.of upd_same, rfl, _, _, rfl, _, _, rfl, rfl, rfl, ?_⟩
      refine ⟨_, rfl, a, _, dx, _, _, rfl, hA3, T.clW, T.nKind, wfl_kind, rfl, _, rfl, iteI (fun h0 => ?_) (fun h0 => ?_)⟩
      · rw [decide_eq_true (show kindOf wd.what = 3 by omega), Bool.true_or, if_pos rfl] at hcs
        refine iteT ⟨_, rfl, _, hD2, hz, s3.put hD, ?_⟩
        rw [upd_same, nVs_snoc, hcs]
      · rw [decide_eq_false (show ¬ kindOf wd.what = 3 by omega), Bool.false_or] at hcs
        refine ⟨_, rfl, a, _, dx, _, _, rfl, hA3, T.clW, T.nOwn, wfl_own, _, rfl, p1, _, rfl, .inl (SqL.of (s3 _ _ e1)), rfl, nVs_flat _, _, rfl, ?_⟩
        show if inV (.int (wd.mark : Int)) (nVs (toldTo b.words)) = true then _ else _
        rw [nVs_in]
        by_cases hm : wd.mark ∈ toldTo b.words
        · rw [decide_eq_true hm, if_pos rfl] at hcs
          rw [decide_eq_true hm]
          refine iteT ⟨_, rfl, _, hD2, hz, s3.put hD, ?_⟩
          rw [upd_same, nVs_snoc, hcs]
        · rw [decide_eq_false hm, if_neg Bool.false_ne_true, List.append_nil] at hcs
          rw [decide_eq_false hm]
          exact iteF ⟨s3, by rw [hcs]; exact hD2⟩
    · rintro H' ⟨s2, hD'⟩
      rw [List.length_map, hws.len, countsTo_all] at hD'
      exact k H' D (s1.trans s2) (s1.free hD) hD'
def spLastPage (t : Ad) : Sp := fun vs H Q _ => ∃ (A : BA) (F : Addr → Prop) (b : Si37.Book), vs = [.ref A.bk] ∧ BookAt t H F A b ∧ ∀ H' : Hp, Same H H' → Q (.int ((Si37.lastPage b : Nat) : Int)) H'
theorem sc_lastPage : FnScope ["book", "page", "begins", "ends", "begin", "end", "full_pages"] ["book"] (defScope s_last_page_there_may_be) := ⟨rfl, rfl, rfl, by decide +kernel, rfl, by decide +kernel, by decide +kernel⟩
theorem ok_lastPage {f : Addr} {fd : FuncData} (F : Fun K "last_page_there_may_be" "last_page_there_may_be" s_last_page_there_may_be f fd) (T : Txt K mg t) : FnOk P w K mg base CX0 1 f fd ["book"] (spLastPage t) := by
  refine F.ok sc_lastPage (fun vs H Q E h => ?_) (fun cdv A outer s H vs Q E hr h => ?_)
  · obtain ⟨_, _, _, rfl, _⟩ := h
    rfl
  · obtain ⟨A, Fo, b, rfl, B, k⟩ := h
    have fo : FOk b.frame := frame_ok.mp B.wf.fr
    have h1 := fo.h1
    have h2 := fo.h2
    have hwfl := B.wf.len
    obtain ⟨fdx, hF⟩ := id B.fr
    obtain ⟨okv, hod, hky⟩ := B.ky
    refine ⟨_, pss_cons (ps_set (i := 1) sc_lastPage.nd rfl (Or.inl rfl) (pe_fld (pe_fld (pv 0) rfl) rfl))
      (pss_cons (ps_set (i := 2) sc_lastPage.nd rfl (Or.inl rfl) (pe_callTy (call_list_dict rfl) (by rfl) T.list (by decide +kernel) (pa_cons (pe_fld (pv 0) rfl) pa_nil)))
      (pss_cons (ps_set (i := 3) sc_lastPage.nd rfl (Or.inl rfl) (pe_op op_cat (pe_slice sl_list (pv 2) (po_some pe_int) po_none) (pe_lst (pa_cons (pe_callB call_len_seq (by rfl) T.len PySem.boot_len (pa_cons (pe_fld (pv 0) rfl) pa_nil)) pa_nil))))
      (pss_cons (ps_for PassesOwn.never rfl (pi_zip rfl T.zip (pa_cons (pv 2) (pa_cons (pv 3) pa_nil))) (pg_tup rfl (pgs_cons (pg_name (i := 4) sc_lastPage.nd rfl (Or.inl rfl)) (pgs_cons (pg_name (i := 5) sc_lastPage.nd rfl (Or.inl rfl)) pgs_nil)))
        (pss_cons (ps_set (i := 6) sc_lastPage.nd rfl (Or.inl rfl) (pe_op op_fdiv (pe_op op_sub (pe_op op_add (pe_op op_sub (pv 5) (pv 4)) (pe_fld (pe_fld (pv 0) rfl) rfl)) pe_int) (pe_fld (pe_fld (pv 0) rfl) rfl)))
        (pss_one (ps_aug (i := 1) sc_lastPage.nd rfl (Or.inl rfl) (pe_op op_add (pv 6) pe_int) ip_add))))
      (pss_one (ps_ret (pv 1)))))), ?_⟩
    refine ⟨_, rfl, A.bk, _, A.dx, _, _, rfl, B.ins, T.clB, T.nFrame, bfl_frame, A.fr, _, fdx, _, _, rfl, hF, T.clF, T.nFirst, ffl_first, ?_⟩
    refine ⟨_, rfl, A.bk, _, A.dx, _, _, rfl, B.ins, T.clB, T.nOpenings, bfl_openings, A.od, _, rfl, hod, fun bg hbg => ?_⟩
    have hkeys : (okv.map fun kv => kV kv.1) = nVs (starts 0 b.paras) := by
      have e : (okv.map fun kv => kV kv.1) = (okv.map fun kv => kv.1).map kV := by rw [List.map_map]; rfl
      rw [e, hky, List.map_map]
      rfl
    rw [hkeys]
    have s1 : Same H (upd H bg (.lst (nVs (starts 0 b.paras)))) := (Same.refl H).new hbg
    refine ⟨_, rfl, _, rfl, bg, _, rfl, SqL.of upd_same, fun p1 hp1 => ?_⟩
    have hcut : cutV (nVs (starts 0 b.paras)) (some 1) none = nVs ((starts 0 b.paras).drop 1) := by
      unfold cutV
      rw [HT.sIx_none]
      have e1 : HT.sIx (nVs (starts 0 b.paras)).length 0 (some 1) = min 1 (starts 0 b.paras).length := by
        show HT.sIx _ 0 (some ((1 : Nat) : Int)) = _
        rw [HT.sIx_nat, nVs_length]
      rw [e1, nVs_length]
      unfold nVs
      rw [← List.map_drop, ← List.map_take]
      congr 1
      cases starts 0 b.paras with
      | nil => rfl
      | cons x l =>
        rw [List.length_cons, show min 1 (l.length + 1) = 1 by omega, List.drop_succ_cons, List.drop_zero, Nat.add_sub_cancel, List.take_length]
    rw [hcut]
    have s2 : Same H (upd (upd H bg (.lst (nVs (starts 0 b.paras)))) p1 (.lst (nVs ((starts 0 b.paras).drop 1)))) := s1.new hp1
    refine ⟨_, rfl, A.bk, _, A.dx, _, _, rfl, s2 _ _ B.ins, T.clB, T.nWords, bfl_words, A.wl, _, rfl, .inl (SqL.of (s2 _ _ B.wl)), (by show 1 ≤ sizeLine; decide), fun p2 hp2 => ?_⟩
    refine ⟨p1, p2, _, _, rfl, rfl, by rw [upd_ne (ne_of_none upd_same hp2), upd_same], upd_same, ?_, fun en hen => ?_⟩
    · rw [nVs_length, List.length_drop, starts_len]
      have hpl : b.paras.length ≤ b.words.length := by
        have hx : ∀ ps : List Si37.Para, (∀ p ∈ ps, p.words ≠ []) → ps.length ≤ (ps.flatMap fun p => p.words).length := by
          intro ps
          induction ps with
          | nil => intro _; exact Nat.le_refl _
          | cons p r ih =>
            intro h
            rw [List.flatMap_cons, List.length_append, List.length_cons]
            have := List.length_pos_iff.mpr (h p List.mem_cons_self)
            have := ih fun q hq => h q (List.mem_cons_of_mem _ hq)
            omega
        exact hx b.paras B.wf.ne
      show _ + 1 ≤ sizeLine
      exact Nat.le_of_lt (small1000 (by omega))
    have s3 : Same H (upd (upd (upd (upd H bg (.lst (nVs (starts 0 b.paras)))) p1 (.lst (nVs ((starts 0 b.paras).drop 1)))) p2 (.lst [V.int ((A.ws.map V.ref).length : Int)])) en (.lst (nVs ((starts 0 b.paras).drop 1) ++ [V.int ((A.ws.map V.ref).length : Int)]))) := (s2.new hp2).new hen
    have hbg3 : (upd (upd (upd (upd H bg (.lst (nVs (starts 0 b.paras)))) p1 (.lst (nVs ((starts 0 b.paras).drop 1)))) p2 (.lst [V.int ((A.ws.map V.ref).length : Int)])) en (.lst (nVs ((starts 0 b.paras).drop 1) ++ [V.int ((A.ws.map V.ref).length : Int)]))) bg = some (.lst (nVs (starts 0 b.paras))) := by
      have q1 := (Same.refl (upd H bg (.lst (nVs (starts 0 b.paras))))).new (o := .lst (nVs ((starts 0 b.paras).drop 1))) hp1
      have q2 := q1.new (o := .lst [V.int ((A.ws.map V.ref).length : Int)]) hp2
      exact (q2.new hen) _ _ upd_same
    have hen3 : (upd (upd (upd (upd H bg (.lst (nVs (starts 0 b.paras)))) p1 (.lst (nVs ((starts 0 b.paras).drop 1)))) p2 (.lst [V.int ((A.ws.map V.ref).length : Int)])) en (.lst (nVs ((starts 0 b.paras).drop 1) ++ [V.int ((A.ws.map V.ref).length : Int)]))) en = some (.lst (nVs ((starts 0 b.paras).drop 1 ++ [b.words.length]))) := by
      rw [upd_same, List.length_map, B.ws.len, nVs_snoc]
    generalize (upd (upd (upd (upd H bg (.lst (nVs (starts 0 b.paras)))) p1 (.lst (nVs ((starts 0 b.paras).drop 1)))) p2 (.lst [V.int ((A.ws.map V.ref).length : Int)])) en (.lst (nVs ((starts 0 b.paras).drop 1) ++ [V.int ((A.ws.map V.ref).length : Int)]))) = H3 at s3 hbg3 hen3
    refine ⟨_, rfl, _, rfl, bg, en, _, _, rfl, SqL.of hbg3, SqL.of hen3, for_zip (K := K) (a := bg) (b := en) (xs := nVs (starts 0 b.paras)) (ys := nVs ((starts 0 b.paras).drop 1 ++ [b.words.length]))
      (fun i σ H' => ∃ v4 v5 v6 : Option V, σ = [some (.ref A.bk), some (.int ((b.frame.first + ((b.paras.take i).map fun p => pagesFor b.frame.high p.words.length).sum : Nat) : Int)), some (.ref bg), some (.ref en), v4, v5, v6] ∧ Same H3 H')
      ?_ ⟨none, none, none, rfl, Same.refl _⟩ (fun i σ H' _ ⟨_, _, _, _, s4⟩ => ⟨SqL.of (s4 _ _ hbg3), SqL.of (s4 _ _ hen3)⟩) ?_ ?_⟩
    · rw [nVs_length, nVs_length, List.length_append, List.length_drop, List.length_singleton]; omega
    · rintro i x y σ H' tp hx hy ⟨v4, v5, v6, rfl, s4⟩ htp
      obtain ⟨st, hst, rfl⟩ := nVs_of hx
      obtain ⟨ed, hed, rfl⟩ := nVs_of hy
      have hil : i < b.paras.length := by rw [← starts_len b.paras 0]; exact (List.getElem?_eq_some_iff.mp hst).1
      have hp : b.paras[i]? = some b.paras[i] := List.getElem?_eq_getElem hil
      obtain ⟨a0, g1, g2⟩ := starts_ends b.paras 0 i _ hp
      rw [hst] at g1
      cases g1
      rw [Nat.zero_add] at g2
      have hed2 : ((starts 0 b.paras).drop 1 ++ [(b.paras.flatMap fun p => p.words).length])[i]? = some ed := hed
      rw [hed2] at g2
      have ged : ed = st + b.paras[i].words.length := Option.some.inj g2
      have s5 : Same H (upd H' tp (.tup [V.int (st : Int), V.int (ed : Int)])) := (s3.trans s4).new htp
      refine ⟨tp, _, rfl, SqT.of upd_same, rfl, _, _, rfl, _, _, rfl, rfl, ?_⟩
      refine ⟨_, rfl, _, rfl, _, _, rfl, rfl, _, rfl, A.bk, _, A.dx, _, _, rfl, s5 _ _ B.ins, T.clB, T.nFrame, bfl_frame, A.fr, _, fdx, _, _, rfl, s5 _ _ hF, T.clF, T.nHigh, ffl_high, _, _, rfl, rfl, _, _, rfl, rfl,
        _, rfl, A.bk, _, A.dx, _, _, rfl, s5 _ _ B.ins, T.clB, T.nFrame, bfl_frame, A.fr, _, fdx, _, _, rfl, s5 _ _ hF, T.clF, T.nHigh, ffl_high, _, _, rfl, rfl, ⟨by show (0 : Int) < (b.frame.high : Int); omega, by show (b.frame.high : Int) < 1073741824; omega⟩, ?_⟩
      refine ⟨_, rfl, _, rfl, _, _, rfl, rfl, _, _, rfl, rfl, ?_⟩
      refine ⟨some (V.int (st : Int)), some (V.int (ed : Int)), some (V.int (((ed : Int) - (st : Int) + (b.frame.high : Int) - 1) / (b.frame.high : Int))), ?_, s4.new htp⟩
      have hpg : ((pagesFor b.frame.high b.paras[i].words.length : Nat) : Int) = ((ed : Int) - (st : Int) + (b.frame.high : Int) - 1) / (b.frame.high : Int) + 1 := by
        unfold pagesFor ceil
        rw [Int.natCast_add, Int.natCast_ediv, show ((b.paras[i].words.length + b.frame.high - 1 : Nat) : Int) = (ed : Int) - (st : Int) + (b.frame.high : Int) - 1 by omega]
        rfl
      have hsum : ((b.frame.first + ((b.paras.take (i + 1)).map fun p => pagesFor b.frame.high p.words.length).sum : Nat) : Int) = ((b.frame.first + ((b.paras.take i).map fun p => pagesFor b.frame.high p.words.length).sum : Nat) : Int) + (((ed : Int) - (st : Int) + (b.frame.high : Int) - 1) / (b.frame.high : Int) + 1) := by
        rw [take_snoc hp, List.map_append, List.sum_append, ← hpg, ← Int.natCast_add]
        congr 1
        simp
        omega
      rw [hsum]
      rfl
    · rintro σ H' ⟨v4, v5, v6, rfl, s4⟩
      refine ⟨_, rfl, ?_⟩
      rw [nVs_length, starts_len, List.take_length, ← lastPage_eq]
      exact k H' (s3.trans s4)
def spMany (t : Ad) : Sp := fun vs H Q _ => ∃ (A : BA) (F : Addr → Prop) (b : Si37.Book), vs = [.ref A.bk] ∧ BookAt t H F A b ∧ ∀ H' : Hp, Same H H' → Q (.bl (decide (3 < (Si37.counts b).length ∨ b.frame.first + 30 < Si37.lastPage b))) H'
theorem sc_many : FnScope ["book", "pages_above"] ["book"] (defScope s_has_too_many_tries) := ⟨rfl, rfl, rfl, by decide +kernel, rfl, by decide +kernel, by decide +kernel⟩
theorem ok_many {f : Addr} {fd : FuncData} (F : Fun K "has_too_many_tries" "has_too_many_tries" s_has_too_many_tries f fd) (T : Txt K mg t) (G1 : Fn P w K mg base 1 "last_page_there_may_be" ["book"] (spLastPage t)) (G2 : Fn P w K mg base 2 "words_that_count" ["words"] (spCount t)) :
    FnOk P w K mg base CX0 3 f fd ["book"] (spMany t) := by
  refine F.ok sc_many (fun vs H Q E h => ?_) (fun cdv A outer s H vs Q E hr h => ?_)
  · obtain ⟨_, _, _, rfl, _⟩ := h
    rfl
  · obtain ⟨A, Fo, b, rfl, B, k⟩ := h
    have hr1 : Room 1 _ := hr.mono (by decide)
    refine ⟨_, pss_cons (ps_set (i := 1) sc_many.nd rfl (Or.inl rfl) (pe_op op_sub (pe_fn G1 hr1 (pa_cons (pv 0) pa_nil)) (pe_fld (pe_fld (pv 0) rfl) rfl)))
      (pss_one (ps_ret (pe_or (pe_cmpR op_gt (pe_callB call_len_seq (by rfl) T.len PySem.boot_len (pa_cons (pe_fn G2 hr (pa_cons (pe_fld (pv 0) rfl) pa_nil)) pa_nil)) (pe_gint T.cMOST_COUNTING) (nomark _)) (pe_one (pe_cmpR op_gt (pv 1) (pe_gint T.cMOST_PAGES_ABOVE) (nomark _)))))), ?_⟩
    refine ⟨_, rfl, A, Fo, b, rfl, B, fun H1 s1 => ?_⟩
    obtain ⟨fdx, hF⟩ := id (B.fr.same s1)
    refine ⟨_, rfl, A.bk, _, A.dx, _, _, rfl, s1 _ _ B.ins, T.clB, T.nFrame, bfl_frame, A.fr, _, fdx, _, _, rfl, hF, T.clF, T.nFirst, ffl_first, _, _, rfl, rfl, ?_⟩
    refine ⟨_, rfl, A.bk, _, A.dx, _, _, rfl, s1 _ _ B.ins, T.clB, T.nWords, bfl_words, A.wl, A.ws, b, rfl, s1 _ _ B.wl, B.ws.same s1, B.wf, fun H2 p2 s2 n2 e2 => ?_⟩
    have k2 := k H2 (s1.trans s2)
    have hle : b.frame.first ≤ Si37.lastPage b := by rw [lastPage_eq]; omega
    refine ⟨p2, _, rfl, .inl (SqL.of e2), _, _, rfl, rfl, _, rfl, ?_⟩
    rw [nVs_length]
    by_cases h0 : 3 < (Si37.counts b).length
    · rw [decide_eq_true (show (3 : Int) < ((Si37.counts b).length : Int) by omega)]
      rw [decide_eq_true (.inl h0)] at k2
      exact iteT k2
    · rw [decide_eq_false (show ¬ (3 : Int) < ((Si37.counts b).length : Int) by omega)]
      refine iteF ⟨_, rfl, _, _, rfl, rfl, ?_⟩
      have e : decide (3 < (Si37.counts b).length ∨ b.frame.first + 30 < Si37.lastPage b) = decide ((30 : Int) < ((Si37.lastPage b : Nat) : Int) - (b.frame.first : Int)) := decide_eq_decide.mpr ⟨fun h => by omega, fun h => by omega⟩
      rw [e] at k2
      exact k2
end
end Tr

set_option Elab.async false
set_option linter.all false
set_option maxRecDepth 100000
set_option maxHeartbeats 4000000
namespace Tr
open PySem PySem.Spec PyProof.Rows L2
theorem rise_some {a z : Nat} (h : a ≤ z) (n : Nat) : ∃ r R, rise a z n = r :: R ∧ r.length = n := by
  have hm : List.replicate n a ∈ rise a z n := mem_rise.mpr ⟨List.length_replicate, List.pairwise_replicate.mpr (.inr (Nat.le_refl _)), fun p hp => by rw [List.eq_of_mem_replicate hp]; exact ⟨Nat.le_refl _, h⟩⟩
  cases e : rise a z n with
  | nil => rw [e] at hm; cases hm
  | cons r R => exact ⟨r, R, rfl, (mem_rise.mp (by rw [e]; exact List.mem_cons_self)).1⟩
theorem riseMore_snoc (a z : Nat) (R : List (List Nat)) (r : List Nat) : riseMore a z (R ++ [r]) = riseMore a z R ++ (upFrom (r.getLastD a) z).map fun p => r ++ [p] := by
  unfold riseMore
  rw [List.flatMap_append]
  simp
theorem riseMore_small {a z m : Nat} (hz : z ≤ a + 30) (hm : m < 3) (i : Nat) : (riseMore a z ((rise a z m).take i)).length ≤ 29791 := by
  refine Nat.le_trans (riseMore_len (m := 31) fun r hr => ?_) ?_
  · have := rise_last (List.mem_of_mem_take hr)
    omega
  · have h1 := rise_len hz m
    have h2 : ((rise a z m).take i).length ≤ (rise a z m).length := by rw [List.length_take]; omega
    have h3 : 31 ^ m ≤ 961 := by
      match m, hm with
      | 0, _ => decide
      | 1, _ => decide
      | 2, _ => decide
    omega
theorem rise_small {a z n : Nat} (hz : z ≤ a + 30) (hn : n ≤ 3) : (rise a z n).length ≤ 29791 := by
  have h1 := rise_len hz n
  have h3 : 31 ^ n ≤ 29791 := by
    match n, hn with
    | 0, _ => decide
    | 1, _ => decide
    | 2, _ => decide
    | 3, _ => decide
  omega
theorem upFrom_get {lo z j : Nat} (h : j < z + 1 - lo) : (upFrom lo z)[j]? = some (lo + j) := by
  unfold upFrom
  rw [List.getElem?_map, List.getElem?_range h]
  rfl
section
variable {P : Program} {w : World} {K : PySem.W.Frag} {mg : Str → Option Value} {base : Heap} {t : Ad}
def spRise : Sp := fun vs H Q _ => ∃ a z n : Nat, vs = [.int (a : Int), .int (z : Int), .int (n : Int)] ∧ a ≤ z ∧ z ≤ a + 30 ∧ z < 1000000 ∧ n ≤ 3 ∧
  ∀ (H' : Hp) (p : Addr) (as : List Addr), Same H H' → H p = none → H' p = some (.lst (as.map V.ref)) → RowsAt H' as (rise a z n) → (∀ c ∈ as, H c = none) → Q (.ref p) H'
theorem sc_rise : FnScope ["first", "last", "many", "rising", "longer", "pages", "least", "page"] ["first", "last", "many"] (defScope s_rising_pages) := ⟨rfl, rfl, rfl, by decide +kernel, rfl, by decide +kernel, by decide +kernel⟩
def leftOf (σ : L2.St) (H : Hp) : Nat := match σ with
  | [_, _, some (.int n), some (.ref r), _, _, _, _] => (match H r with
    | some (.lst (.ref q :: _)) => (match H q with
      | some (.lst xs) => n.toNat - xs.length
      | _ => 0)
    | _ => 0)
  | _ => 0
theorem left_is {v0 v1 v4 v5 v6 v7 : Option V} {n : Nat} {r q : Addr} {as : List Addr} {H : Hp} {xs : List V} (h1 : H r = some (.lst ((q :: as).map V.ref))) (h2 : H q = some (.lst xs)) : leftOf [v0, v1, some (.int (n : Int)), some (.ref r), v4, v5, v6, v7] H = n - xs.length := by
  show (match H r with
    | some (.lst (.ref q :: _)) => (match H q with
      | some (.lst xs) => ((n : Int)).toNat - xs.length
      | _ => 0)
    | _ => 0) = _
  rw [h1]
  show (match H q with
      | some (.lst xs) => ((n : Int)).toNat - xs.length
      | _ => 0) = _
  rw [h2]
  show ((n : Int)).toNat - xs.length = _
  rw [Int.toNat_natCast]
theorem ok_rise {f : Addr} {fd : FuncData} (F : Fun K "rising_pages" "rising_pages" s_rising_pages f fd) (T : Txt K mg t) : FnOk P w K mg base CX0 1 f fd ["first", "last", "many"] spRise := by
  refine F.ok sc_rise (fun vs H Q E h => ?_) (fun cdv A outer s H vs Q E hr h => ?_)
  · obtain ⟨_, _, _, rfl, _⟩ := h
    rfl
  · obtain ⟨a, z, n, rfl, haz, hz, hbz, hn, k⟩ := h
    refine ⟨_, pss_cons (ps_set (i := 3) sc_rise.nd rfl (Or.inl rfl) (pe_lst (pa_cons (pe_lst pa_nil) pa_nil)))
      (pss_cons (ps_while PassesOwn.never (pt_cmpR op_lt (pe_callB call_len_seq (by rfl) T.len PySem.boot_len (pa_cons (pe_ix ix_list (pv 3) pe_int (fun _ _ => rfl)) pa_nil)) (pv 2) (nomark _))
        (pss_cons (ps_set (i := 4) sc_rise.nd rfl (Or.inl rfl) (pe_lst pa_nil))
        (pss_cons (ps_for PassesOwn.never rfl (pi_list (pv 3)) (pg_name (i := 5) sc_rise.nd rfl (Or.inr rfl))
          (pss_cons (ps_set (i := 6) sc_rise.nd rfl (Or.inl rfl) (pe_callBK (cr_maxD rfl) (by rfl) T.max (by decide +kernel) (pa_cons (pv 5) pa_nil) (pk_cons (pv 0) pk_nil)))
          (pss_one (ps_expr (pe_bm PySem.F.plainAttrs_list PySem.F.slot_list_extend PySem.F.type_list_extend mt_extend (pv 4) (pa_cons (pe_lc (own := [("page", 7)]) (te := tOp rCat (tVar 5) (tLst (tCons (tVar 7) tNil))) rfl sc_rise.nd (pi_range2 rfl T.range (pa_cons (pv 6) (pa_cons (pe_op op_add (pv 1) pe_int) pa_nil))) (blkOk_by (by kernel_rfl))
            (fun _ _ _ _ _ => pg_name (i := 7) sc_rise.nd rfl (Or.inl rfl)) (fun _ _ _ _ _ => pts_nil) (fun _ _ _ _ _ => pe_op op_cat (pv 5) (pe_lst (pa_cons (pv 7) pa_nil)))) pa_nil))))))
        (pss_one (ps_set (i := 3) sc_rise.nd rfl (Or.inl rfl) (pv 4))))))
      (pss_one (ps_ret (pv 3)))), ?_⟩
    refine ⟨Nat.zero_le _, fun r0 hr0 => ⟨(by show 1 ≤ sizeLine; decide), fun rs hrs => ?_⟩⟩
    have n0 : r0 ≠ rs := ne_of_none upd_same hrs
    refine while_by (fun σ H' => ∃ (m : Nat) (r : Addr) (as : List Addr) (v4 v5 v6 v7 : Option V), σ = [some (.int (a : Int)), some (.int (z : Int)), some (.int (n : Int)), some (.ref r), v4, v5, v6, v7] ∧ m ≤ n ∧ Same H H' ∧ H r = none ∧ H' r = some (.lst (as.map V.ref)) ∧ RowsAt H' as (rise a z m) ∧ ∀ c ∈ as, H c = none) leftOf ?_ ?_ ?_
    · refine ⟨0, rs, [r0], none, none, none, none, rfl, Nat.zero_le _, ((Same.refl H).new hr0).new hrs, ((Same.refl H).new hr0).free hrs, upd_same, RowsAt.one ?_, fun c hc => by rw [List.mem_singleton.mp hc]; exact hr0⟩
      rw [upd_ne n0, upd_same]
      rfl
    · rintro σ H' ⟨m, r, as, v4, v5, v6, v7, rfl, hmn, s1, hr, hr', hR, hnew⟩
      obtain ⟨r1, R1, hR1, hl1⟩ := rise_some haz m
      obtain ⟨q, as', rfl⟩ : ∃ q as', as = q :: as' := by
        cases as with
        | nil => have := hR.len; rw [hR1] at this; cases this
        | cons q as' => exact ⟨q, as', rfl⟩
      have hq : H' q = some (.lst (nVs r1)) := hR.at_ 0 q r1 rfl (by rw [hR1]; rfl)
      refine ⟨_, rfl, r, _, _, V.ref q, rfl, rfl, SqL.of hr', atI_nat (j := 0) rfl, q, _, rfl, .inl (SqL.of hq), _, rfl, _, _, rfl, rfl, _, rfl, iteD (fun h0 => ?_) (fun h0 => ?_)⟩
      · rw [nVs_length, hl1] at h0
        have h0 : m < n := by omega
        have hm3 : m < 3 := by omega
        refine ⟨Nat.zero_le _, fun lg hlg => ?_⟩
        have sL : Same H' (upd H' lg (.lst [])) := (Same.refl H').new hlg
        refine ⟨_, rfl, r, rfl, ⟨_, SqL.of (sL _ _ hr')⟩, for_list (K := K) (a := r) (xs := (q :: as').map V.ref)
          (fun i σ H2 => ∃ (bs : List Addr) (v5 v6 v7 : Option V), σ = [some (.int (a : Int)), some (.int (z : Int)), some (.int (n : Int)), some (.ref r), some (.ref lg), v5, v6, v7] ∧ Same H' H2 ∧ H2 lg = some (.lst (bs.map V.ref)) ∧ RowsAt H2 bs (riseMore a z ((rise a z m).take i)) ∧ ∀ c ∈ bs, c ≠ lg ∧ H' c = none)
          ⟨[], v5, v6, v7, rfl, sL, upd_same, RowsAt.nil, fun c hc => (nomatch hc)⟩ (fun i σ H2 _ ⟨_, _, _, _, _, s2, _⟩ => SqL.of (s2 _ _ hr')) ?_ ?_⟩
        · rintro i x σ H2 hx ⟨bs, v5', v6', v7', rfl, s2, hlg2, hbs, nlg⟩
          obtain ⟨c, hc, rfl⟩ := ref_get hx
          have hil : i < (rise a z m).length := by rw [← hR.len]; exact (List.getElem?_eq_some_iff.mp hc).1
          obtain ⟨row, hrow⟩ : ∃ row, (rise a z m)[i]? = some row := ⟨_, List.getElem?_eq_getElem hil⟩
          have hc2 : H2 c = some (.lst (nVs row)) := s2 _ _ (hR.at_ i c row hc hrow)
          have hmem : row ∈ rise a z m := List.mem_of_getElem? hrow
          have hlast := rise_last hmem
          have hlz : row.getLastD a ≤ z := by
            obtain ⟨_, _, g3⟩ := mem_rise.mp hmem
            cases row with
            | nil => exact haz
            | cons u row' =>
              have hne : (u :: row') ≠ [] := by simp
              rw [List.getLastD_eq_getLast?, List.getLast?_eq_some_getLast hne]
              exact (g3 _ (List.getLast_mem hne)).2
          refine ⟨_, rfl, _, rfl, c, intsOf row, (a : Int), ((row.getLastD a : Nat) : Int), rfl, rfl, by rw [nVs_ints]; exact SqL.of hc2, ?_, ?_⟩
          · by_cases he : row = []
            · subst he
              exact .inl ⟨rfl, rfl⟩
            · refine .inr ⟨?_, fun y hy => ?_⟩
              · refine List.mem_map.mpr ⟨row.getLastD a, ?_, rfl⟩
                rw [List.getLastD_eq_getLast?, List.getLast?_eq_some_getLast he]
                exact List.getLast_mem he
              · obtain ⟨u, hu, rfl⟩ := List.mem_map.mp hy
                have := le_last (mem_rise.mp hmem).2.1 a u hu
                omega
          generalize hlo : row.getLastD a = lo at hlast hlz
          refine ⟨_, rfl, .inl ⟨rfl, _, SqL.of hlg2⟩, _, rfl, _, rfl, _, _, rfl, rfl, (lo : Int), (z : Int) + 1, rfl, ⟨by omega, by omega, by omega, by omega⟩, fun D hD => lc_range (lo := (lo : Int)) (n := ((z : Int) + 1 - (lo : Int)).toNat)
            (fun j H5 => Same H2 H5 ∧ ∃ cs : List Addr, H5 D = some (.lst (cs.map V.ref)) ∧ RowsAt H5 cs (((upFrom lo z).take j).map fun p => row ++ [p]) ∧ ∀ e ∈ cs, H2 e = none ∧ e ≠ D)
            ⟨(Same.refl H2).new hD, [], upd_same, RowsAt.nil, fun e he => (nomatch he)⟩ ?_ ?_⟩
          · rintro j H5 hj ⟨s5, cs, hD5, hcs, hce⟩
            have hj2 : j < z + 1 - lo := by omega
            have hup := upFrom_get hj2
            have nD : D ≠ c := (ne_of_none hc2 hD).symm
            refine ⟨rfl, ?_⟩
            refine ⟨_, rfl, _, rfl, (by show 1 ≤ sizeLine; decide), fun t1 ht1 => ?_⟩
            have s6 : Same H5 (upd H5 t1 (.lst [V.int ((lo : Int) + (j : Nat))])) := (Same.refl H5).new ht1
            refine ⟨c, t1, _, _, rfl, rfl, s6 _ _ (s5 _ _ hc2), upd_same, ?_, fun t2 ht2 => ?_⟩
            · rw [nVs_length, (mem_rise.mp hmem).1]
              show m + 1 ≤ sizeLine
              exact Nat.le_of_lt (small1000 (by omega))
            have s7 := s6.new (o := .lst (nVs row ++ [V.int ((lo : Int) + (j : Nat))])) ht2
            have hD7 := s7 _ _ hD5
            have h5t2 : H5 t2 = none := s6.free ht2
            have hcl : cs.length = j := by
              rw [hcs.len, List.length_map, List.length_take, upFrom_len]
              omega
            refine ⟨_, hD7, ?_, (s5.trans s7).put hD, cs ++ [t2], ?_, ?_, fun e he => ?_⟩
            · rw [List.length_map, hcl]; exact small1000 (by omega)
            · rw [upd_same, List.map_append]; rfl
            · rw [take_snoc hup, List.map_append]
              refine RowsAt.append (hcs.keep fun e he o eo => ?_) (RowsAt.one ?_)
              · rw [upd_ne (hce e he).2]; exact s7 _ _ eo
              · rw [upd_ne (ne_of_none hD5 h5t2).symm, upd_same]
                rw [show ((lo : Int) + (j : Nat)) = ((lo + j : Nat) : Int) by omega, nVs_snoc]
            · rcases List.mem_append.mp he with he | he
              · exact hce e he
              · have e1 : e = t2 := by simpa using he
                subst e1
                exact ⟨s5.free h5t2, (ne_of_none hD5 h5t2).symm⟩
          · rintro H5 ⟨s5, cs, hD5, hcs, hce⟩
            rw [List.take_of_length_le (by rw [upFrom_len]; omega)] at hcs
            have hlg5 := s5 _ _ hlg2
            have nlD : D ≠ lg := (ne_of_none hlg2 hD).symm
            have hmore : riseMore a z ((rise a z m).take (i + 1)) = riseMore a z ((rise a z m).take i) ++ (upFrom lo z).map fun p => row ++ [p] := by
              rw [take_snoc hrow, riseMore_snoc, hlo]
            have hsz := riseMore_small (a := a) (z := z) (m := m) hz hm3 (i + 1)
            have hall : (bs ++ cs).length = (riseMore a z ((rise a z m).take (i + 1))).length := by rw [hmore, List.length_append, List.length_append, hbs.len, hcs.len]
            refine ⟨lg, D, _, _, rfl, rfl, hlg5, hD5, ?_, ?_⟩
            · rw [List.length_map, List.length_map, ← List.length_append, hall]
              exact Nat.le_of_lt (small_rows (by omega))
            · have ncl : ∀ e ∈ cs, e ≠ lg := fun e he z => by have := (hce e he).1; rw [z, hlg2] at this; cases this
              refine ⟨bs ++ cs, some (V.ref c), some (V.int (lo : Int)), v7', rfl, (s2.trans s5).put hlg, ?_, ?_, fun e he => ?_⟩
              · rw [upd_same, List.map_append]
              · rw [hmore]
                refine RowsAt.append (hbs.keep fun e he o eo => ?_) (hcs.keep fun e he o eo => ?_)
                · rw [upd_ne (nlg e he).1]; exact s5 _ _ eo
                · rw [upd_ne (ncl e he)]; exact eo
              · exact (List.mem_append.mp he).elim (nlg e) fun h => ⟨ncl e h, s2.free (hce e h).1⟩
        · rintro σ H2 ⟨bs, v5', v6', v7', rfl, s2, hlg2, hbs, nlg⟩
          rw [List.length_map, hR.len, List.take_length] at hbs
          refine ⟨_, rfl, ?_⟩
          obtain ⟨r2, R2, hR2, hl2⟩ := rise_some haz (m + 1)
          rw [rise_succ] at hR2
          obtain ⟨q2, bs', rfl⟩ : ∃ q2 bs', bs = q2 :: bs' := by
            cases bs with
            | nil => have := hbs.len; rw [hR2] at this; cases this
            | cons q2 bs' => exact ⟨q2, bs', rfl⟩
          have hq2 : H2 q2 = some (.lst (nVs r2)) := hbs.at_ 0 q2 r2 rfl (by rw [hR2]; rfl)
          refine ⟨⟨m + 1, lg, q2 :: bs', some (V.ref lg), v5', v6', v7', rfl, by omega, s1.trans s2, s1.free hlg, hlg2, by rw [rise_succ]; exact hbs, fun c hc => s1.free (nlg c hc).2⟩, ?_⟩
          rw [left_is hr' hq]
          show leftOf [some (V.int (a : Int)), some (V.int (z : Int)), some (V.int (n : Int)), some (V.ref lg), some (V.ref lg), v5', v6', v7'] H2 < _
          rw [left_is hlg2 hq2, nVs_length, nVs_length, hl1, hl2]
          omega
      · rw [nVs_length, hl1] at h0
        have e : m = n := by omega
        subst e
        exact ⟨_, rfl, k H' r _ s1 hr hr' hR hnew⟩
    · intro σ H' Q1 Q2 hq h
      obtain ⟨v, e, p, xs, i, x, a1, a2, a3, a4, p', ys, b1, b2, v2, e2, i2, j2, h3, h4, kk, h5, h6⟩ := h
      exact ⟨v, e, p, xs, i, x, a1, a2, a3, a4, p', ys, b1, b2, v2, e2, i2, j2, h3, h4, kk, h5, hq _ _ h6⟩
theorem setAt_snoc : ∀ (l r : List Nat) (s : List Nat) (i p : Nat), l.length = r.length → Si37.setAt s (l ++ [i]) (r ++ [p]) = (Si37.setAt s l r).set i p
  | [], [], s, i, p, _ => rfl
  | [], _ :: _, _, _, _, h => by cases h
  | _ :: _, [], _, _, _, h => by cases h
  | j :: l, q :: r, s, i, p, h => setAt_snoc l r (s.set j q) i p (Nat.succ.inj h)
theorem nVs_set (s : List Nat) (i n : Nat) : (nVs s).set i (.int (n : Int)) = nVs (s.set i n) := by
  unfold nVs
  rw [List.map_set]
  rfl
def spWith : Sp := fun vs H Q _ => ∃ (wl nl pl : Addr) (xs : List V) (l r : List Nat), vs = [.ref wl, .ref nl, .ref pl] ∧ H wl = some (.lst xs) ∧ xs.length ≤ 250 ∧ H nl = some (.lst (nVs l)) ∧ H pl = some (.lst (nVs r)) ∧ l.length = r.length ∧ (∀ i ∈ l, i < xs.length) ∧
  ∀ (H' : Hp) (p : Addr), Same H H' → H p = none → H' p = some (.lst (nVs (Si37.setAt (List.replicate xs.length 0) l r))) → Q (.ref p) H'
theorem sc_with : FnScope ["words", "numbers", "pages", "setting", "number", "page", "word"] ["words", "numbers", "pages"] (defScope s_setting_with) := ⟨rfl, rfl, rfl, by decide +kernel, rfl, by decide +kernel, by decide +kernel⟩
theorem ok_with {f : Addr} {fd : FuncData} (F : Fun K "setting_with" "setting_with" s_setting_with f fd) (T : Txt K mg t) : FnOk P w K mg base CX0 1 f fd ["words", "numbers", "pages"] spWith := by
  refine F.ok sc_with (fun vs H Q E h => ?_) (fun cdv A outer s H vs Q E hr h => ?_)
  · obtain ⟨_, _, _, _, _, _, rfl, _⟩ := h
    rfl
  · obtain ⟨wl, nl, pl, xs, l, r, rfl, hwl, hxl, hnl, hpl, hlr, hlt, k⟩ := h
    refine ⟨_, pss_cons (ps_setLc (i := 3) (own := [("word", 6)]) rfl sc_with.nd rfl rfl (sw_true rfl rfl rfl (by decide +kernel)) (pi_list (pv 0)) (blkOk_by (by kernel_rfl)) (fun _ _ _ _ _ => pg_name (i := 6) sc_with.nd rfl (Or.inl rfl)) (fun _ _ _ _ _ => pts_nil)
        (fun _ _ _ _ _ => pe_gint T.cNOT_KNOWN))
      (pss_cons (ps_for PassesOwn.never rfl (pi_zip rfl T.zip (pa_cons (pv 1) (pa_cons (pv 2) pa_nil))) (pg_tup rfl (pgs_cons (pg_name (i := 4) sc_with.nd rfl (Or.inl rfl)) (pgs_cons (pg_name (i := 5) sc_with.nd rfl (Or.inl rfl)) pgs_nil)))
        (pss_one (ps_asg (pv 5) (pg_sub (pv 3) (pv 4) set_list))))
      (pss_one (ps_ret (pv 3)))), ?_⟩
    refine ⟨_, rfl, wl, rfl, ⟨_, SqL.of hwl⟩, fun D hD => lc_list (K := K) (a := wl) (xs := xs) (fun i H' => Same H H' ∧ H' D = some (.lst (nVs (List.replicate i 0)))) ⟨(Same.refl _).new hD, upd_same⟩ (fun i H' _ ⟨s2, _⟩ => SqL.of (s2 _ _ hwl)) ?_ ?_⟩
    · rintro i x H' hx ⟨s2, hD'⟩
      have hi : i < xs.length := (List.getElem?_eq_some_iff.mp hx).1
      refine ⟨rfl, _, hD', ?_, s2.put hD, ?_⟩
      · rw [nVs_length, List.length_replicate]; exact small1000 (by omega)
      · rw [upd_same, List.replicate_succ', ← nVs_snoc]; rfl
    · rintro H2 ⟨s2, hD2⟩
      have len0 : (nVs l).length = (nVs r).length := by rw [nVs_length, nVs_length, hlr]
      refine ⟨_, rfl, _, rfl, nl, pl, _, _, rfl, SqL.of (s2 _ _ hnl), SqL.of (s2 _ _ hpl), for_zip (K := K) (a := nl) (b := pl) (xs := nVs l) (ys := nVs r)
        (fun i σ H' => ∃ v4 v5 : Option V, ∃ v6 : Option V, σ = [some (.ref wl), some (.ref nl), some (.ref pl), some (.ref D), v4, v5, v6] ∧ Same H H' ∧ H' D = some (.lst (nVs (Si37.setAt (List.replicate xs.length 0) (l.take i) (r.take i)))))
        (Nat.le_of_eq len0) ⟨none, none, none, rfl, s2, ?_⟩ (fun i σ H' _ ⟨_, _, _, _, s3, _⟩ => ⟨SqL.of (s3 _ _ hnl), SqL.of (s3 _ _ hpl)⟩) ?_ ?_⟩
      · rw [hD2]; rfl
      · rintro i x y σ H' tp hx hy ⟨v4, v5, v6, rfl, s3, hD'⟩ htp
        obtain ⟨j, hj, rfl⟩ := nVs_of hx
        obtain ⟨p, hp, rfl⟩ := nVs_of hy
        have hjl := hlt j (List.mem_of_getElem? hj)
        have s4 : Same H (upd H' tp (.tup [V.int (j : Int), V.int (p : Int)])) := s3.new htp
        have hD4 : (upd H' tp (.tup [V.int (j : Int), V.int (p : Int)])) D = some (.lst (nVs (Si37.setAt (List.replicate xs.length 0) (l.take i) (r.take i)))) := by rw [upd_ne (ne_of_none hD' htp)]; exact hD'
        refine ⟨tp, _, rfl, SqT.of upd_same, rfl, _, _, rfl, _, _, rfl, rfl, ?_⟩
        refine ⟨_, rfl, _, rfl, _, rfl, D, _, (j : Int), j, rfl, rfl, hD4, ?_, ?_⟩
        · unfold ixN
          rw [if_pos (by omega), if_pos (by rw [nVs_length, setAt_length, List.length_replicate]; omega), Int.toNat_natCast]
        · refine ⟨some (V.int (j : Int)), some (V.int (p : Int)), v6, rfl, s4.put hD, ?_⟩
          rw [upd_same, nVs_set, take_snoc hj, take_snoc hp, setAt_snoc _ _ _ _ _ (by rw [List.length_take, List.length_take, hlr])]
      · rintro σ H' ⟨v4, v5, v6, rfl, s3, hD'⟩
        refine ⟨_, rfl, k H' D s3 hD ?_⟩
        rw [hD', nVs_length, List.take_length, hlr, List.take_length]
theorem setAt_bd {B : Nat} : ∀ (l r s : List Nat), (∀ n ∈ s, n < B) → (∀ p ∈ r, p < B) → ∀ n ∈ Si37.setAt s l r, n < B
  | [], r, s, hs, _, n, h => hs n h
  | _ :: _, [], s, hs, _, n, h => hs n h
  | i :: l, p :: r, s, hs, hr, n, h => setAt_bd l r (s.set i p) (fun m hm => by
      rcases List.mem_or_eq_of_mem_set hm with h | h
      · exact hs m h
      · rw [h]; exact hr p List.mem_cons_self) (fun q hq => hr q (List.mem_cons_of_mem _ hq)) n h
theorem dp_nats {K : PySem.W.Frag} {H : Hp} : ∀ l : List Nat, DpAll K H (nVs l) ((intsOf l).map PyData.int)
  | [] => .nil
  | n :: l => .cons (.int (n : Int)) (dp_nats l)
theorem intsOf_inj {l m : List Nat} (h : intsOf l = intsOf m) : l = m := nVs_inj (by rw [← nVs_ints, ← nVs_ints, h])
def spTrues (t : Ad) : Sp := fun vs H Q _ => ∃ (A : BA) (F : Addr → Prop) (b : Si37.Book), vs = [.ref A.bk] ∧ BookAt t H F A b ∧ (Si37.counts b).length ≤ 3 ∧ Si37.lastPage b ≤ b.frame.first + 30 ∧
  ∀ (H' : Hp) (p : Addr) (as : List Addr), Same H H' → H p = none → H' p = some (.lst (as.map V.ref)) → RowsAt H' as (fixRows b (rise b.frame.first (Si37.lastPage b) (Si37.counts b).length)) → Q (.ref p) H'
theorem sc_trues : FnScope ["book", "counting", "found", "pages", "setting", "number"] ["book"] (defScope s_true_settings) := ⟨rfl, rfl, rfl, by decide +kernel, rfl, by decide +kernel, by decide +kernel⟩
theorem ok_trues {f : Addr} {fd : FuncData} (F : Fun K "true_settings" "true_settings" s_true_settings f fd) (T : Txt K mg t) (G1 : Fn P w K mg base 2 "words_that_count" ["words"] (spCount t)) (G2 : Fn P w K mg base 1 "last_page_there_may_be" ["book"] (spLastPage t))
    (G3 : Fn P w K mg base 1 "rising_pages" ["first", "last", "many"] spRise) (G4 : Fn P w K mg base 1 "setting_with" ["words", "numbers", "pages"] spWith) (G5 : Fn P w K mg base 6 "next_setting" ["book", "setting"] (spNext t)) :
    FnOk P w K mg base CX0 7 f fd ["book"] (spTrues t) := by
  refine F.ok sc_trues (fun vs H Q E h => ?_) (fun cdv A outer s H vs Q E hr h => ?_)
  · obtain ⟨_, _, _, rfl, _⟩ := h
    rfl
  · obtain ⟨A, Fo, b, rfl, B, hc3, hlp, k⟩ := h
    have hr1 : Room 1 _ := hr.mono (by decide)
    have hr2 : Room 2 _ := hr.mono (by decide)
    have hwfl := B.wf.len
    have fo : FOk b.frame := frame_ok.mp B.wf.fr
    have hf2 := fo.p2
    have hfirst : b.frame.first ≤ Si37.lastPage b := by rw [lastPage_eq]; omega
    refine ⟨_, pss_cons (ps_set (i := 1) sc_trues.nd rfl (Or.inl rfl) (pe_fn G1 hr2 (pa_cons (pe_fld (pv 0) rfl) pa_nil)))
      (pss_cons (ps_set (i := 2) sc_trues.nd rfl (Or.inl rfl) (pe_lst pa_nil))
      (pss_cons (ps_for PassesOwn.never rfl (pi_list (pe_fn G3 hr1 (pa_cons (pe_fld (pe_fld (pv 0) rfl) rfl) (pa_cons (pe_fn G2 hr1 (pa_cons (pv 0) pa_nil)) (pa_cons (pe_callB call_len_seq (by rfl) T.len PySem.boot_len (pa_cons (pv 1) pa_nil)) pa_nil))))) (pg_name (i := 3) sc_trues.nd rfl (Or.inl rfl))
        (pss_cons (ps_set (i := 4) sc_trues.nd rfl (Or.inr rfl) (pe_fn G5 hr (pa_cons (pv 0) (pa_cons (pe_fn G4 hr1 (pa_cons (pe_fld (pv 0) rfl) (pa_cons (pv 1) (pa_cons (pv 3) pa_nil)))) pa_nil))))
        (pss_one (ps_if (pt_cmpR (op_eqD hr.units) (pe_lc (own := [("number", 5)]) (te := tOp (rIxL K) (tVar 4) (tVar 5)) rfl sc_trues.nd (pi_list (pv 1)) (blkOk_by (by kernel_rfl)) (fun _ _ _ _ _ => pg_name (i := 5) sc_trues.nd rfl (Or.inl rfl)) (fun _ _ _ _ _ => pts_nil) (fun _ _ _ _ _ => pe_ix ix_list (pv 4) (pv 5) (fun _ _ => rfl))) (pv 3) (nomark _))
          (pss_one (ps_expr (pe_bm PySem.F.plainAttrs_list PySem.F.slot_list_append PySem.F.type_list_append mt_append (pv 2) (pa_cons (pv 4) pa_nil)))) pss_nil))))
      (pss_one (ps_ret (pv 2))))), ?_⟩
    refine ⟨_, rfl, A.bk, _, A.dx, _, _, rfl, B.ins, T.clB, T.nWords, bfl_words, A.wl, A.ws, b, rfl, B.wl, B.ws, B.wf, fun H1 cn s1 ncn hcn => ?_⟩
    refine ⟨Nat.zero_le _, fun fn hfn => ?_⟩
    have s2 : Same H (upd H1 fn (.lst [])) := s1.new hfn
    have hfn0 : H fn = none := s1.free hfn
    have hcn2 : (upd H1 fn (.lst [])) cn = some (.lst (nVs (Si37.counts b))) := by rw [upd_ne (ne_of_none hcn hfn)]; exact hcn
    have hfn2 : (upd H1 fn (.lst [])) fn = some (.lst []) := upd_same
    generalize upd H1 fn (.lst []) = H2 at s2 hcn2 hfn2
    have B2 := B.same s2
    obtain ⟨fdx, hF⟩ := id B2.fr
    refine ⟨_, rfl, A.bk, _, A.dx, _, _, rfl, B2.ins, T.clB, T.nFrame, bfl_frame, A.fr, _, fdx, _, _, rfl, hF, T.clF, T.nFirst, ffl_first, _, rfl, A, Fo, b, rfl, B2, fun H3 s3 => ?_⟩
    refine ⟨_, rfl, cn, _, rfl, .inl (SqL.of (s3 _ _ hcn2)), b.frame.first, Si37.lastPage b, (Si37.counts b).length, ?_, hfirst, hlp, by omega, hc3, fun H4 rp ras s4 nrp hrp hras hrnew => ?_⟩
    · rw [nVs_length]
      rfl
    have s24 : Same H2 H4 := s3.trans s4
    have hfn4 := s24 _ _ hfn2
    have hcn4 := s24 _ _ hcn2
    have hrise := rise_small (a := b.frame.first) hlp hc3
    refine ⟨rp, rfl, ⟨_, SqL.of hrp⟩, for_list (K := K) (a := rp) (xs := ras.map V.ref)
      (fun i σ H' => ∃ (fs : List Addr) (v3 v4 v5 : Option V), σ = [some (.ref A.bk), some (.ref cn), some (.ref fn), v3, v4, v5] ∧ (∀ a o, H4 a = some o → a ≠ fn → H' a = some o) ∧ H' fn = some (.lst (fs.map V.ref)) ∧ RowsAt H' fs (fixRows b ((rise b.frame.first (Si37.lastPage b) (Si37.counts b).length).take i)) ∧ ∀ c ∈ fs, c ≠ fn)
      ⟨[], none, none, none, rfl, fun a o e _ => e, hfn4, RowsAt.nil, fun c hc => (nomatch hc)⟩ ?_ ?_ ?_⟩
    · rintro i σ H' _ ⟨_, _, _, _, _, kp, _⟩
      exact SqL.of (kp _ _ hrp (ne_of_none (s3 _ _ hfn2) nrp).symm)
    · rintro i x σ H' hx ⟨fs, v3, v4, v5, rfl, kp, hfn', hfs, nfs⟩
      obtain ⟨ra, hra, rfl⟩ := ref_get hx
      have hil : i < (rise b.frame.first (Si37.lastPage b) (Si37.counts b).length).length := by rw [← hras.len]; exact (List.getElem?_eq_some_iff.mp hra).1
      obtain ⟨row, hrow⟩ : ∃ row, (rise b.frame.first (Si37.lastPage b) (Si37.counts b).length)[i]? = some row := ⟨_, List.getElem?_eq_getElem hil⟩
      have hmem := List.mem_of_getElem? hrow
      obtain ⟨hrl, _, hrb⟩ := mem_rise.mp hmem
      have hra4 := hras.at_ i ra row hra hrow
      have hraf : ra ≠ fn := (ne_of_none (s3 _ _ hfn2) (hrnew ra (List.mem_of_getElem? hra))).symm
      have hra' := kp _ _ hra4 hraf
      have sH : Same H H' := fun a o e => kp a o (s24 _ _ (s2 _ _ e)) (ne_of_none e hfn0)
      have B' := B.same sH
      have hcnf : cn ≠ fn := ne_of_none hcn hfn
      have hcn' := kp _ _ hcn4 hcnf
      have hxl : (A.ws.map V.ref).length = b.words.length := by rw [List.length_map, B.ws.len]
      refine ⟨_, rfl, _, rfl, A.bk, _, A.dx, _, _, rfl, B'.ins, T.clB, T.nWords, bfl_words, _, rfl, _, rfl, A.wl, cn, ra, A.ws.map V.ref, Si37.counts b, row, rfl, B'.wl, by rw [hxl]; omega, hcn', hra', hrl.symm, fun j hj => by rw [hxl]; exact counts_lt hj, fun H5 sw s5 nsw hsw => ?_⟩
      rw [hxl] at hsw
      have hbd : Bd (Si37.setAt (List.replicate b.words.length 0) (Si37.counts b) row) := setAt_bd _ _ _ (fun n hn => by rw [List.eq_of_mem_replicate hn]; decide) fun p hp => by have := (hrb p hp).2; omega
      refine ⟨A, Fo, b, sw, _, rfl, B'.same s5, hsw, by rw [setAt_length, List.length_replicate], hbd, fun H6 nx s6 nnx hnx => ?_⟩
      have hnx : H6 nx = some (.lst (nVs (rowPass b row))) := hnx
      have s56 : Same H' H6 := s5.trans s6
      have hnxl : (rowPass b row).length = b.words.length := pass_length B.wf.ne _
      refine ⟨_, rfl, cn, rfl, ⟨_, SqL.of (s56 _ _ hcn')⟩, fun D hD => lc_list (K := K) (a := cn) (xs := nVs (Si37.counts b)) (fun j H7 => Same H6 H7 ∧ H7 D = some (.lst (nVs (atOf (rowPass b row) ((Si37.counts b).take j)))))
        ⟨(Same.refl _).new hD, upd_same⟩ (fun j H7 _ ⟨s7, _⟩ => SqL.of (s7 _ _ (s56 _ _ hcn'))) ?_ ?_⟩
      · rintro j y H7 hy ⟨s7, hD7⟩
        obtain ⟨c, hc, rfl⟩ := nVs_of hy
        have hcl := counts_lt (List.mem_of_getElem? hc)
        have hg : (rowPass b row)[c]? = some ((rowPass b row).getD c 0) := by
          rw [List.getD_eq_getElem?_getD, List.getElem?_eq_getElem (by omega)]; rfl
        refine ⟨rfl, _, rfl, _, rfl, nx, _, _, _, rfl, rfl, SqL.of (s7 _ _ hnx), atI_nat (nVs_get hg), _, hD7, ?_, s7.put hD, ?_⟩
        · rw [nVs_length]
          unfold atOf
          rw [List.length_map, List.length_take]
          exact small1000 (by omega)
        · rw [upd_same, nVs_snoc, take_snoc hc]
          unfold atOf
          rw [List.map_append]
          rfl
      · rintro H7 ⟨s7, hD7⟩
        rw [nVs_length, List.take_length] at hD7
        have s57 : Same H' H7 := s56.trans s7
        have hra7 := s57 _ _ hra'
        have hfn7 := s57 _ _ hfn'
        refine ⟨_, rfl, .list ((intsOf (atOf (rowPass b row) (Si37.counts b))).map PyData.int), .list ((intsOf row).map PyData.int), .lst (SqL.of hD7) (dp_nats _), .lst (SqL.of hra7) (dp_nats _), PySem.W.ke_shaped_ints _, PySem.W.ke_shaped_ints _, _, rfl, ?_⟩
        rw [eqv_ints]
        have hdec : decide (intsOf (atOf (rowPass b row) (Si37.counts b)) = intsOf row) = decide (atOf (rowPass b row) (Si37.counts b) = row) := decide_eq_decide.mpr ⟨fun e => intsOf_inj e, fun e => by rw [e]⟩
        rw [hdec]
        have hsn := fixRows_snoc b ((rise b.frame.first (Si37.lastPage b) (Si37.counts b).length).take i) row
        rw [← take_snoc hrow] at hsn
        have hfl : fs.length ≤ 29791 := by
          rw [hfs.len]
          refine Nat.le_trans (fixRows_len b _) ?_
          rw [List.length_take]
          omega
        have keep7 : ∀ a o, H4 a = some o → a ≠ fn → H7 a = some o := fun a o e h => s57 _ _ (kp a o e h)
        refine iteD (fun he => ?_) (fun he => ?_)
        · rw [if_pos he] at hsn
          have hfx7 : H7 nx = some (.lst (nVs (rowPass b row))) := s7 _ _ hnx
          have nnf : nx ≠ fn := (ne_of_none (s5 _ _ hfn') nnx).symm
          refine ⟨_, rfl, .inl ⟨rfl, _, SqL.of hfn7⟩, _, rfl, fn, _, _, rfl, rfl, hfn7, by rw [List.length_map]; exact small_rows (by omega), ?_⟩
          refine ⟨fs ++ [nx], some (V.ref ra), some (V.ref nx), v5, rfl, fun a o e h => ?_, ?_, ?_, fun c hc => ?_⟩
          · rw [upd_ne h]; exact keep7 a o e h
          · rw [upd_same, List.map_append]; rfl
          · rw [hsn]
            refine RowsAt.append (hfs.keep fun c hc o e => ?_) (RowsAt.one ?_)
            · rw [upd_ne (nfs c hc)]; exact s57 _ _ e
            · rw [upd_ne nnf]; exact hfx7
          · rcases List.mem_append.mp hc with hc | hc
            · exact nfs c hc
            · rw [List.mem_singleton.mp hc]; exact nnf
        · rw [if_neg he, List.append_nil] at hsn
          refine ⟨fs, some (V.ref ra), some (V.ref nx), v5, rfl, keep7, hfn7, ?_, nfs⟩
          rw [hsn]
          exact hfs.same s57
    · rintro σ H' ⟨fs, v3, v4, v5, rfl, kp, hfn', hfs, nfs⟩
      rw [List.length_map, hras.len, List.take_length] at hfs
      refine ⟨_, rfl, k H' fn fs (fun a o e => ?_) hfn0 hfn' hfs⟩
      exact kp a o (s24 _ _ (s2 _ _ e)) (ne_of_none e hfn0)
end
end Tr

set_option Elab.async false
set_option linter.all false
set_option maxRecDepth 100000
set_option maxHeartbeats 4000000
namespace Tr
open PySem PySem.Spec PyProof.Rows L2
def lamE : Expr := match defBody s_first_setting with
  | [.Return (some (.Call _ _ [kw] _)) _] => kw.value
  | _ => .Constant .none 0 ⟨0, 0, 0, 0⟩
def lamArgs : Arguments := match lamE with
  | .Lambda a _ _ _ => a
  | _ => { posonlyargs := [], args := [], vararg := none, kwonlyargs := [], kw_defaults := [], kwarg := none, defaults := [] }
def lamBody : Expr := match lamE with
  | .Lambda _ b _ _ => b
  | e => e
def lamScope : Scope := match lamE with
  | .Lambda _ _ s _ => s
  | _ => { kind := .function, names := [], isGenerator := false, isCoroutine := false }
abbrev lamObj (pm : Value) (c : Addr) (ctv : Value) : Obj := PySem.W.kla_obj "<lambda>" lamQual lamArgs lamBody lamScope [] pm c ctv
theorem cut_last (s : List Nat) : cutV (nVs s) (some (-1)) none = nVs (lastPart s) := by
  unfold cutV lastPart
  rw [HT.sIx_none, nVs_length]
  have e : HT.sIx s.length 0 (some (-1)) = s.length - 1 := by
    show (if (-1 : Int) < 0 then ((-1 : Int) + (s.length : Int)).toNat else min (-1 : Int).toNat s.length) = s.length - 1
    rw [if_pos (by decide)]
    omega
  rw [e]
  unfold nVs
  rw [← List.map_drop, ← List.map_take, List.take_of_length_le (by rw [List.length_drop]; omega)]
theorem lex_row : ∀ s u : List Nat, HT.lexLt (intsOf s) (intsOf u) = Si37.rowLess s u
  | [], [] => rfl
  | [], _ :: _ => rfl
  | _ :: _, [] => rfl
  | a :: s, c :: u => by
    show (if (a : Int) = (c : Int) then HT.lexLt (intsOf s) (intsOf u) else decide ((a : Int) < (c : Int))) = _
    rw [rowLess_cons, lex_row s u]
    by_cases h : a = c
    · subst h
      rw [if_pos rfl, decide_eq_false (Nat.lt_irrefl a), Bool.false_or, show (a == a) = true from beq_iff_eq.mpr rfl, Bool.true_and]
    · rw [if_neg (by omega), show (a == c) = false by simpa using h, Bool.false_and, Bool.or_false]
      exact decide_eq_decide.mpr ⟨fun z => by omega, fun z => by omega⟩
section
variable {P : Program} {w : World} {K : PySem.W.Frag} {mg : Str → Option Value} {base : Heap} {t : Ad}
def spLam (f c : Addr) (pm ctv : Value) : Sp := fun vs H Q _ => ∃ (a : Addr) (s : List Nat), vs = [.ref a] ∧ H a = some (.lst (nVs s)) ∧ H f = some (lamHO f (lamObj pm c ctv)) ∧ H c = some (codeHO c lamQual) ∧
  ∀ p q, H p = none → H q = none → q ≠ p → Q (.ref q) (upd (upd H p (.lst (nVs (lastPart s)))) q (.tup [.ref p, .ref a]))
theorem sc_lam : FnScope ["setting"] ["setting"] lamScope := ⟨rfl, rfl, rfl, by decide +kernel, rfl, by decide +kernel, by decide +kernel⟩
theorem ok_lam {f c : Addr} {pm ctv : Value} : FnOk P w K mg base CX0 1 f (PySem.W.kla_fn "<lambda>" lamQual lamArgs lamBody lamScope [] pm (.ref c) ctv) ["setting"] (spLam f c pm ctv) := by
  refine lam_fn sc_lam (fun vs H Q E h => ?_) (fun vs H Q E h => ?_) (fun A outer s H vs Q E hr h => ?_)
  · obtain ⟨_, _, rfl, _⟩ := h
    rfl
  · obtain ⟨_, _, _, _, h1, h2, _⟩ := h
    exact ⟨h1, h2⟩
  · obtain ⟨a, st, rfl, ha, _, _, k⟩ := h
    refine ⟨_, pe_tup (pa_cons (pe_slice sl_list (pv 0) (po_some (pe_un un_neg pe_int)) po_none) (pa_cons (pv 0) pa_nil)), ?_⟩
    refine ⟨_, rfl, _, rfl, _, rfl, a, _, rfl, SqL.of ha, fun p hp => ?_⟩
    show ∃ v, _ ∧ _
    refine ⟨_, rfl, (by show 2 ≤ sizeLine; decide), fun q hq => ?_⟩
    have hqp : q ≠ p := fun e => by rw [e, upd_same] at hq; cases hq
    have hq0 : H q = none := by rw [upd_ne hqp] at hq; exact hq
    have z := k p q hp hq0 hqp
    rw [← cut_last] at z
    exact z
def ltKeys : V → V → Hp → Bool → Prop := fun k kb H c => ∃ (q p x q' p' x' : Addr) (s s' : List Nat), k = .ref q ∧ kb = .ref q' ∧ H q = some (.tup [.ref p, .ref x]) ∧ H p = some (.lst (nVs (lastPart s))) ∧ H x = some (.lst (nVs s)) ∧
  H q' = some (.tup [.ref p', .ref x']) ∧ H p' = some (.lst (nVs (lastPart s'))) ∧ H x' = some (.lst (nVs s')) ∧ s.length = s'.length ∧ c = tupLess s s'
theorem tup_at {X : Cx} {pins : List (Addr × Obj)} {σ : L2.St} {H : Hp} {s : Shared} {q p x : Addr} (I : Inv X pins σ H s) (h : H q = some (.tup [.ref p, .ref x])) : IsTup s.heap q #[.ref p, .ref x] := by
  obtain ⟨_, its, r, e⟩ := (show ObjOk X.prog X.w H s.heap q (.tup [.ref p, .ref x]) from I.hok q _ h)
  cases r with
  | cons r1 r =>
    cases r with
    | cons r2 r =>
      cases r
      cases r1
      cases r2
      exact e
theorem lst_at {X : Cx} {pins : List (Addr × Obj)} {σ : L2.St} {H : Hp} {s : Shared} {a : Addr} {l : List Nat} (I : Inv X pins σ H s) (h : H a = some (.lst (nVs l))) : ∃ its, s.heap.IsList a its.toArray ∧ IntsAre its (intsOf l) := by
  obtain ⟨its, rv, hl, _⟩ := I.list (SqL.of (K := X.K) h)
  rw [← nVs_ints] at rv
  exact ⟨its, hl.isList, rv.ints⟩
theorem lt_keys {X : Cx} (hu : X.A.units + 66 < cLine) (pins : List (Addr × Obj)) (s : Shared) (σ : L2.St) (H : Hp) (k kb : V) (u v : Value) (c : Bool) (I : Inv X pins σ H s) (rk : RelV k u) (rb : RelV kb v) (h : ltKeys k kb H c) : LtAt X.A.in1 s u v c := by
  obtain ⟨q, p, x, q', p', x', s1, s2, rfl, rfl, h1, h2, h3, h4, h5, h6, hl, rfl⟩ := h
  cases rk
  cases rb
  obtain ⟨i2, l2, n2⟩ := lst_at I h2
  obtain ⟨i3, l3, n3⟩ := lst_at I h3
  obtain ⟨i5, l5, n5⟩ := lst_at I h5
  obtain ⟨i6, l6, n6⟩ := lst_at I h6
  have len : ∀ l : List Nat, (intsOf l).length = l.length := fun l => List.length_map ..
  have lp : (lastPart s1).length = (lastPart s2).length := by unfold lastPart; rw [List.length_drop, List.length_drop, hl]
  have z := lt_pairs (A := X.A.in1) (tup_at I h1) (tup_at I h4) l2 l3 l5 l6 n2 n3 n5 n6 (by rw [len, len]; exact lp) (by rw [len, len]; exact hl) (by show X.A.units + 1 + 65 < cLine; omega)
  have e : (if intsOf (lastPart s1) = intsOf (lastPart s2) then HT.lexLt (intsOf s1) (intsOf s2) else HT.lexLt (intsOf (lastPart s1)) (intsOf (lastPart s2))) = tupLess s1 s2 := by
    unfold tupLess
    rw [lex_row, lex_row]
    by_cases hh : lastPart s1 = lastPart s2
    · rw [if_pos hh, if_pos (by rw [hh])]
    · rw [if_neg hh, if_neg (fun z => hh (intsOf_inj z))]
  rw [e] at z
  exact z
def spKey : Addr → V → Hp → VK → Prop := fun f x H Q => ∃ (c : Addr) (pm ctv : Value), spLam f c pm ctv [x] H Q E0
theorem run_key {X : Cx} (hr : Room 2 X.A) (pins : List (Addr × Obj)) (s : Shared) (σ : L2.St) (H : Hp) (f : Addr) (x : V) (u : Value) (Q : VK) (I : Inv X pins σ H s) (r : RelV x u) (h : spKey f x H Q) : wpAny (model X.prog X.w) X.A.in1 (call (.ref f) [u]) (EP X pins σ Q) (fun _ _ => False) s := by
  obtain ⟨c, pm, ctv, h⟩ := h
  refine wpAny_call (codeAny_mono ((ok_lam (P := X.prog) (w := X.w) (K := X.K) (mg := X.mg) (base := X.base)).run X.A.in1 X.stack s H ⟨[u], []⟩ [u] [x] Q E0 hr.in1 I.env0.in1 (.of_eq rfl) (.cons r .nil) h) fun r' s' hq => ?_)
  cases r' with
  | error e => exact False.elim hq
  | ok fl =>
    cases fl with
    | ret v => exact I.after hq
    | next => exact False.elim hq
    | brk => exact False.elim hq
    | cont => exact False.elim hq
def spFirstS (t : Ad) : Sp := fun vs H Q _ => ∃ (sl : Addr) (as : List Addr) (L : List (List Nat)) (n : Nat), vs = [.ref sl] ∧ H sl = some (.lst (as.map V.ref)) ∧ RowsAt H as L ∧ L ≠ [] ∧ (∀ s ∈ L, s.length = n) ∧ TabOk H t.FT lamPos lamQual ∧
  ∀ (H' : Hp) (p : Addr), (∀ a o, H a = some o → a ≠ t.FT → H' a = some o) → (∀ a, H' a = none → H a = none) → TabOk H' t.FT lamPos lamQual → H' p = some (.lst (nVs ((L.foldl pick none).getD []))) → Q (.ref p) H'
theorem sc_firstS : FnScope ["settings"] ["settings"] (defScope s_first_setting) := ⟨rfl, rfl, rfl, by decide +kernel, rfl, by decide +kernel, by decide +kernel⟩
theorem Fun.okC {x qual : Str} {st : Stmt} {f c : Addr} {fd : FuncData} {N ps : List Str} {k : Nat} {sp : Sp} (F : Fun K x qual st f fd) (hc : fd.code = .ref c) (S : FnScope N ps (defScope st)) (len : ∀ vs H Q E, sp vs H Q E → vs.length = ps.length)
    (hbody : ∀ (A : Around) (outer : List Env) (s : Shared) (H : Hp) (vs : List V) (Q : VK) (E : XK), Room k (A.deeper (envOfC qual (defScope st) s.heap.objs.size f (.ref c))) → sp vs H Q E →
      ∃ t, PSs (cxOf CX0 P w K mg base N qual (defScope st) f (.ref c) A outer s H E).nox (defBody st) t ∧ t { nx := fun _ H' => Q .non H', rt := Q } (start N vs) H) : FnOk P w K mg base CX0 (k + 1) f fd ps sp := by
  obtain ⟨oc, od, kV, doc, pm, an, cdv, ct, osl, rfl, lk, hcd⟩ := F.ex
  have e : cdv = .ref c := hc
  subst e
  refine fn_of lk hcd S len fun A outer s H vs Q E hr hsp => ?_
  obtain ⟨t, h, q⟩ := hbody A outer s H vs Q E hr hsp
  exact ⟨t, h.nox, q⟩
theorem fold_pick (L : List (List Nat)) {i : Nat} {s m : List Nat} (hs : L[i + 1]? = some s) (h : (L.take (i + 1)).foldl pick none = some m) : (L.take (i + 2)).foldl pick none = if Si37.sooner s m = true then some s else some m := by
  rw [take_snoc hs, List.foldl_append, h]
  rfl
theorem ok_firstS {f : Addr} {fd : FuncData} (F : Fun K "first_setting" "first_setting" s_first_setting f fd) (hcd : fd.code = .ref t.FC) (T : Txt K mg t) (hB : base.BuiltinsAt mg t.FT) (hK : K.In base) : FnOk P w K mg base CX0 3 f fd ["settings"] (spFirstS t) := by
  refine Fun.okC F hcd sc_firstS (fun vs H Q E h => ?_) (fun A outer s H vs Q E hr h => ?_)
  · obtain ⟨_, _, _, _, rfl, _⟩ := h
    rfl
  · obtain ⟨sl, as, L, n, rfl, hsl, hR, hne, hln, htb, k⟩ := h
    have hC : PySem.W.CodeHd base t.FC t.FT := PySem.W.codeHd_of_K hK T.cdFirst
    have hun := hr.un
    have hu66 : (A.deeper (envOfC "first_setting" (defScope s_first_setting) s.heap.objs.size f (.ref t.FC))).units + 66 < cLine := by omega
    refine ⟨_, pss_one (ps_ret (pe_callBK (cr_minK (sp := spKey) (lt := ltKeys) rfl (run_key hr) (lt_keys hu66)) (by rfl) T.min (by decide +kernel) (pa_cons (pv 0) pa_nil) (pk_cons (pe_lam t.FC t.FT hC hB) pk_nil))), ?_⟩
    refine ⟨_, rfl, htb, fun H2 fl c' pm ctv nf hf hit kp nn => ?_⟩
    have kL : ∀ {a xs}, H a = some (.lst xs) → H2 a = some (.lst xs) := fun {a xs} e => kp _ _ e (fun z => by obtain ⟨ps, q⟩ := htb.some; rw [z, q] at e; cases e)
    have hsl2 := kL hsl
    have hR2 : RowsAt H2 as L := ⟨hR.len, fun i a r h1 h2 => kL (hR.at_ i a r h1 h2)⟩
    have hpos : 0 < L.length := List.length_pos_iff.mpr hne
    refine ⟨sl, fl, as.map V.ref, fun i H3 b kb => ∃ (ab q p : Addr) (m : List Nat), b = .ref ab ∧ kb = .ref q ∧ Same H2 H3 ∧ H3 ab = some (.lst (nVs m)) ∧ H3 q = some (.tup [.ref p, .ref ab]) ∧ H3 p = some (.lst (nVs (lastPart m))) ∧ (L.take (i + 1)).foldl pick none = some m ∧ m.length = n,
      rfl, rfl, SqL.of hsl2, by rw [List.length_map, hR.len]; exact hpos, fun x hx => ?_, fun i x H3 b kb hx hJ => ?_, fun i H3 b kb hJ => ?_, fun H3 b kb hJ => ?_⟩
    · obtain ⟨a, ha, rfl⟩ := ref_get hx
      obtain ⟨s0, hs0⟩ : ∃ s0, L[0]? = some s0 := ⟨_, List.getElem?_eq_getElem hpos⟩
      have ha2 := hR2.at_ 0 a s0 ha hs0
      refine ⟨c', pm, ctv, a, s0, rfl, ha2, hf, hit.2, fun p q hp hq hqp => ?_⟩
      have sp1 : Same H2 (upd H2 p (.lst (nVs (lastPart s0)))) := (Same.refl H2).new hp
      have hq1 : (upd H2 p (.lst (nVs (lastPart s0)))) q = none := by rw [upd_ne hqp]; exact hq
      refine ⟨a, q, p, s0, rfl, rfl, sp1.new hq1, (sp1.new hq1) _ _ ha2, upd_same, by rw [upd_ne (Ne.symm hqp), upd_same], ?_, hln s0 (List.mem_of_getElem? hs0)⟩
      rw [take_snoc hs0, List.take_zero]
      rfl
    · obtain ⟨ab, q, p, m, rfl, rfl, s3, h1, h2, h3, hm, hml⟩ := hJ
      obtain ⟨a, ha, rfl⟩ := ref_get hx
      have hil : i + 1 < L.length := by rw [← hR.len]; exact (List.getElem?_eq_some_iff.mp ha).1
      obtain ⟨s1, hs1⟩ : ∃ s1, L[i + 1]? = some s1 := ⟨_, List.getElem?_eq_getElem hil⟩
      have ha3 := s3 _ _ (hR2.at_ (i + 1) a s1 ha hs1)
      have hsl1 := hln s1 (List.mem_of_getElem? hs1)
      refine ⟨c', pm, ctv, a, s1, rfl, ha3, s3 _ _ hf, s3 _ _ hit.2, fun p1 q1 hp1 hq1 hqp => ?_⟩
      have sA : Same H3 (upd H3 p1 (.lst (nVs (lastPart s1)))) := (Same.refl H3).new hp1
      have hq2 : (upd H3 p1 (.lst (nVs (lastPart s1)))) q1 = none := by rw [upd_ne hqp]; exact hq1
      have sB := sA.new (o := .tup [.ref p1, .ref a]) hq2
      have hp1' : (upd (upd H3 p1 (.lst (nVs (lastPart s1)))) q1 (.tup [.ref p1, .ref a])) p1 = some (.lst (nVs (lastPart s1))) := by rw [upd_ne (Ne.symm hqp), upd_same]
      have hf2 := fold_pick L hs1 hm
      refine ⟨tupLess s1 m, ⟨q1, p1, a, q, p, ab, s1, m, rfl, rfl, upd_same, hp1', sB _ _ ha3, sB _ _ h2, sB _ _ h3, sB _ _ h1, by rw [hsl1, hml], rfl⟩, ?_⟩
      rw [tupLess_sooner (by rw [hsl1, hml])]
      cases hc : Si37.sooner s1 m with
      | true =>
        rw [hc, if_pos rfl] at hf2
        rw [if_pos rfl]
        exact ⟨a, q1, p1, s1, rfl, rfl, s3.trans sB, sB _ _ ha3, upd_same, hp1', hf2, hsl1⟩
      | false =>
        rw [hc, if_neg Bool.false_ne_true] at hf2
        rw [if_neg Bool.false_ne_true]
        exact ⟨ab, q, p, m, rfl, rfl, s3.trans sB, sB _ _ h1, sB _ _ h2, sB _ _ h3, hf2, hml⟩
    · obtain ⟨_, _, _, _, _, _, s3, _⟩ := hJ
      exact SqL.of (s3 _ _ hsl2)
    · obtain ⟨ab, q, p, m, rfl, rfl, s3, h1, h2, h3, hm, hml⟩ := hJ
      rw [List.length_map, hR.len, Nat.sub_add_cancel hpos, List.take_length] at hm
      refine k H3 ab (fun a o e h => s3 _ _ (kp a o e h)) (fun a e => nn a (s3.free e)) (.inr ⟨c', hit.same s3⟩) ?_
      rw [hm]
      exact h1
end
end Tr

set_option Elab.async false
set_option linter.all false
set_option maxRecDepth 100000
set_option maxHeartbeats 4000000
namespace Tr
open PySem PySem.Spec PyProof.Rows L2
def NewNs (H : Hp) (Q : VK) (l : List Nat) : Prop := ∀ (H' : Hp) (p : Addr), Same H H' → H p = none → H' p = some (.lst (nVs l)) → Q (.ref p) H'
theorem flatMap_take {A B : Type} {l : List A} {i : Nat} {x : A} (g : A → List B) (h : l[i]? = some x) : (l.take (i + 1)).flatMap g = (l.take i).flatMap g ++ g x := by
  rw [take_snoc h, List.flatMap_append]
  simp
theorem flat_len {A : Type} {g : A → List Nat} {c : Nat} (hc : ∀ x, (g x).length ≤ c) : ∀ l : List A, (l.flatMap g).length ≤ l.length * c
  | [] => by simp
  | x :: l => by
    rw [List.flatMap_cons, List.length_append, List.length_cons, Nat.add_mul, Nat.one_mul]
    have := hc x
    have := flat_len hc l
    omega
section
variable {P : Program} {w : World} {K : PySem.W.Frag} {mg : Str → Option Value} {base : Heap} {t : Ad}
def spPages : Sp := fun vs H Q _ => ∃ (sa : Addr) (s : List Nat), vs = [.ref sa] ∧ H sa = some (.lst (nVs s)) ∧ s.length ≤ 250 ∧ NewNs H Q (s.length :: s)
theorem sc_pages : FnScope ["setting"] ["setting"] (defScope s_pages_answered) := ⟨rfl, rfl, rfl, by decide +kernel, rfl, by decide +kernel, by decide +kernel⟩
theorem ok_pages {f : Addr} {fd : FuncData} (F : Fun K "pages_answered" "pages_answered" s_pages_answered f fd) (T : Txt K mg t) : FnOk P w K mg base CX0 1 f fd ["setting"] spPages := by
  refine F.ok sc_pages (fun vs H Q E h => ?_) (fun cdv A outer s H vs Q E hr h => ?_)
  · obtain ⟨_, _, rfl, _⟩ := h
    rfl
  · obtain ⟨sa, st, rfl, hs, hl, k⟩ := h
    refine ⟨_, pss_one (ps_ret (pe_op op_cat (pe_lst (pa_cons (pe_callB call_len_seq (by rfl) T.len PySem.boot_len (pa_cons (pv 0) pa_nil)) pa_nil)) (pv 0))), ?_⟩
    refine ⟨_, rfl, sa, _, rfl, .inl (SqL.of hs), (by show 1 ≤ sizeLine; decide), fun l hl' => ?_⟩
    have s1 : Same H (upd H l (.lst [V.int ((nVs st).length : Int)])) := (Same.refl H).new hl'
    refine ⟨_, rfl, l, sa, _, _, rfl, rfl, upd_same, s1 _ _ hs, ?_, fun p hp => ?_⟩
    · rw [nVs_length]
      show 1 + _ ≤ sizeLine
      exact Nat.le_of_lt (small1000 (by omega))
    · refine k _ p (s1.new hp) (s1.free hp) ?_
      rw [upd_same, nVs_length]
      rfl
def spLinesA (t : Ad) : Sp := fun vs H Q _ => ∃ (A : BA) (F : Addr → Prop) (b : Si37.Book) (sa : Addr) (s : List Nat), vs = [.ref A.bk, .ref sa] ∧ BookAt t H F A b ∧ H sa = some (.lst (nVs s)) ∧ s.length = b.words.length ∧ Bd s ∧
  NewNs H Q ((fw (Si37.lines b s) (Si37.lines b s).length).length :: (fw (Si37.lines b s) (Si37.lines b s).length).flatMap (lineRow b.frame (Si37.lines b s)))
theorem sc_linesA : FnScope ["book", "setting", "lines", "first_words", "answer", "number", "line"] ["book", "setting"] (defScope s_lines_answered) := ⟨rfl, rfl, rfl, by decide +kernel, rfl, by decide +kernel, by decide +kernel⟩
theorem ok_linesA {f : Addr} {fd : FuncData} (F : Fun K "lines_answered" "lines_answered" s_lines_answered f fd) (T : Txt K mg t) (G1 : Fn P w K mg base 5 "lines_by" ["book", "setting"] (spLinesBy t)) (G2 : Fn P w K mg base 1 "page_of_line" ["frame", "line"] (spPage t)) :
    FnOk P w K mg base CX0 6 f fd ["book", "setting"] (spLinesA t) := by
  refine F.ok sc_linesA (fun vs H Q E h => ?_) (fun cdv A outer s H vs Q E hr h => ?_)
  · obtain ⟨_, _, _, _, _, rfl, _⟩ := h
    rfl
  · obtain ⟨A, Fo, b, sa, st, rfl, B, hs, hl, hbd, k⟩ := h
    have hr1 : Room 1 _ := hr.mono (by decide)
    have fo : FOk b.frame := frame_ok.mp B.wf.fr
    have hh1 := fo.h1
    have hwfl := B.wf.len
    refine ⟨_, pss_cons (ps_set (i := 2) sc_linesA.nd rfl (Or.inr rfl) (pe_fn G1 hr (pa_cons (pv 0) (pa_cons (pv 1) pa_nil))))
      (pss_cons (ps_setLc (i := 3) (own := [("number", 5), ("line", 6)]) (g := gTup K 2 (gCons (gName 5) (gCons (gName 6) gNil))) (tt := tOr (tTest (tOp rEq (tVar 5) (tC (.int 0)))) (tTest (tOp rNe (tOp (rIxL K) (tVar 2) (tOp (rI0 fun i j => .int (i - j)) (tVar 5) (tC (.int 1)))) (tVar 6)))) (te := tVar 5)
        rfl sc_linesA.nd rfl rfl (sw_true rfl rfl rfl (by decide +kernel)) (pi_enum rfl T.enumerate (pa_cons (pv 2) pa_nil)) (blkOk_by (by kernel_rfl))
        (fun _ _ _ _ _ => pg_tup rfl (pgs_cons (pg_name (i := 5) sc_linesA.nd rfl (Or.inl rfl)) (pgs_cons (pg_name (i := 6) sc_linesA.nd rfl (Or.inl rfl)) pgs_nil)))
        (fun _ _ _ _ _ => pts_one (pw_or (pt_cmpR op_eq (pv 5) pe_int (nomark _)) (pw_or1 (pt_cmpR op_ne (pe_ix ix_list (pv 2) (pe_op op_sub (pv 5) pe_int) (fun _ _ => rfl)) (pv 6) (nomark _)))).pt) (fun _ _ _ _ _ => pv 5))
      (pss_cons (ps_set (i := 4) sc_linesA.nd rfl (Or.inl rfl) (pe_lst (pa_cons (pe_callB call_len_seq (by rfl) T.len PySem.boot_len (pa_cons (pv 3) pa_nil)) pa_nil)))
      (pss_cons (ps_for PassesOwn.never rfl (pi_list (pv 3)) (pg_name (i := 5) sc_linesA.nd rfl (Or.inl rfl))
        (pss_cons (ps_set (i := 6) sc_linesA.nd rfl (Or.inl rfl) (pe_ix ix_list (pv 2) (pv 5) (fun _ _ => rfl)))
        (pss_one (ps_expr (pe_bm PySem.F.plainAttrs_list PySem.F.slot_list_extend PySem.F.type_list_extend mt_extend (pv 4) (pa_cons (pe_lst (pa_cons (pv 5) (pa_cons (pe_fn G2 hr1 (pa_cons (pe_fld (pv 0) rfl) (pa_cons (pv 6) pa_nil))) (pa_cons (pe_op op_mod (pv 6) (pe_fld (pe_fld (pv 0) rfl) rfl)) pa_nil)))) pa_nil))))))
      (pss_one (ps_ret (pv 4)))))), ?_⟩
    refine ⟨_, rfl, _, rfl, A, Fo, b, sa, st, rfl, B, hs, hl, hbd, fun H1 ll s1 nll hll => ?_⟩
    have hLl : (Si37.lines b st).length = b.words.length := lines_length B.wf.ne st
    generalize hL : Si37.lines b st = L at hll hLl
    rw [hL] at k
    refine ⟨_, rfl, ll, _, rfl, SqL.of hll, fun D hD => lc_enum (K := K) (a := ll) (xs := nVs L) (fun i H' => Same H1 H' ∧ H' D = some (.lst (nVs (fw L i)))) ⟨(Same.refl H1).new hD, upd_same⟩ (fun i H' _ ⟨s2, _⟩ => SqL.of (s2 _ _ hll)) ?_ ?_⟩
    · rintro i x H' tp hx ⟨s2, hD'⟩ htp
      obtain ⟨ln, hln, rfl⟩ := nVs_of hx
      have hil : i < L.length := (List.getElem?_eq_some_iff.mp hln).1
      have s3 : Same H1 (upd H' tp (.tup [V.int ((i : Nat) : Int), V.int (ln : Int)])) := s2.new htp
      have hD3 : (upd H' tp (.tup [V.int ((i : Nat) : Int), V.int (ln : Int)])) D = some (.lst (nVs (fw L i))) := by rw [upd_ne (ne_of_none hD' htp)]; exact hD'
      have hz : (nVs (fw L i)).length < sizeLine := by
        rw [nVs_length]
        have := fw_len L i
        exact small1000 (by omega)
      have hsn := fw_succ hln
      have put : ∀ (h : lineBefore L i ≠ some ln), Same H1 (upd (upd H' tp (.tup [V.int ((i : Nat) : Int), V.int (ln : Int)])) D (.lst (nVs (fw L i) ++ [V.int ((i : Nat) : Int)]))) ∧ (upd (upd H' tp (.tup [V.int ((i : Nat) : Int), V.int (ln : Int)])) D (.lst (nVs (fw L i) ++ [V.int ((i : Nat) : Int)]))) D = some (.lst (nVs (fw L (i + 1)))) := fun h => by
        rw [if_neg h] at hsn
        exact ⟨s3.put hD, by rw [upd_same, nVs_snoc, hsn]⟩
      refine ⟨tp, _, rfl, SqT.of upd_same, rfl, _, _, rfl, _, _, rfl, rfl, rfl, ?_⟩
      refine ⟨_, rfl, rfl, _, rfl, iteI (fun h0 => ?_) (fun h0 => ?_)⟩
      · have h0 : i = 0 := by omega
        subst h0
        exact iteT ⟨_, rfl, _, hD3, hz, put (by rw [lineBefore_zero]; exact fun z => nomatch z)⟩
      · obtain ⟨j, rfl⟩ : ∃ j, i = j + 1 := ⟨i - 1, by omega⟩
        have hj : L[j]? = some L[j] := List.getElem?_eq_getElem (by omega)
        have hbef := lineBefore_succ hj
        refine ⟨_, rfl, _, rfl, _, _, rfl, rfl, ll, _, _, _, rfl, rfl, SqL.of (s3 _ _ hll), at_of (j := j) (by omega) (nVs_get hj), _, rfl, rfl, _, rfl, iteN (fun h1 => ?_) (fun h1 => ?_)⟩
        · exact ⟨_, rfl, _, hD3, hz, put (by rw [hbef]; intro z; have := Option.some.inj z; omega)⟩
        · refine ⟨s3, ?_⟩
          rw [hsn, if_pos (by rw [hbef]; congr 1; omega), List.append_nil]
          exact hD3
    · rintro H2 ⟨s2, hD2⟩
      rw [nVs_length] at hD2
      have s12 : Same H H2 := s1.trans s2
      have hll2 := s2 _ _ hll
      have B2 := B.same s12
      obtain ⟨fdx, hF⟩ := id B2.fr
      have hfl := fw_len L L.length
      generalize hfwL : fw L L.length = fl at hD2 hfl
      rw [hfwL] at k
      refine ⟨_, rfl, D, _, rfl, .inl (SqL.of hD2), (by show 1 ≤ sizeLine; decide), fun an han => ?_⟩
      rw [nVs_length]
      have s3 : Same H2 (upd H2 an (.lst [V.int (fl.length : Int)])) := (Same.refl H2).new han
      refine ⟨_, rfl, D, rfl, ⟨_, SqL.of (s3 _ _ hD2)⟩, for_list (K := K) (a := D) (xs := nVs fl)
        (fun i σ H' => ∃ v5 v6 : Option V, σ = [some (.ref A.bk), some (.ref sa), some (.ref ll), some (.ref D), some (.ref an), v5, v6] ∧ Same H2 H' ∧ H' an = some (.lst (nVs (fl.length :: (fl.take i).flatMap (lineRow b.frame L)))))
        ⟨_, _, rfl, s3, upd_same⟩ (fun i σ H' _ ⟨_, _, _, s4, _⟩ => SqL.of (s4 _ _ hD2)) ?_ ?_⟩
      · rintro i x σ H' hx ⟨v5, v6, rfl, s4, han'⟩
        obtain ⟨j, hj, rfl⟩ := nVs_of hx
        have hjl : j < L.length := fw_lt L L.length j (by rw [hfwL]; exact List.mem_of_getElem? hj)
        have hLj : L[j]? = some (L.getD j 0) := by rw [List.getD_eq_getElem?_getD, List.getElem?_eq_getElem hjl]; rfl
        refine ⟨_, rfl, _, rfl, ll, _, _, _, rfl, rfl, SqL.of (s4 _ _ hll2), atI_nat (nVs_get hLj), ?_⟩
        have B4 := B2.same s4
        obtain ⟨fdx4, hF4⟩ := id B4.fr
        refine ⟨_, rfl, .inl ⟨rfl, _, SqL.of han'⟩, _, rfl, _, rfl, A.bk, _, A.dx, _, _, rfl, B4.ins, T.clB, T.nFrame, bfl_frame, _, rfl, A.fr, b.frame, L.getD j 0, rfl, B4.fr, fo,
          _, rfl, _, rfl, A.bk, _, A.dx, _, _, rfl, B4.ins, T.clB, T.nFrame, bfl_frame, A.fr, _, fdx4, _, _, rfl, hF4, T.clF, T.nHigh, ffl_high, _, _, rfl, rfl, (by show (0 : Int) < (b.frame.high : Int); omega), (by show 3 ≤ sizeLine; decide), fun ex hex => ?_⟩
        have han5 : (upd H' ex (.lst [V.int (j : Int), V.int ((b.frame.first + L.getD j 0 / b.frame.high : Nat) : Int), V.int (((L.getD j 0 : Nat) : Int) % (b.frame.high : Int))])) an = some (.lst (nVs (fl.length :: (fl.take i).flatMap (lineRow b.frame L)))) := by rw [upd_ne (ne_of_none han' hex)]; exact han'
        refine ⟨an, ex, _, _, rfl, rfl, han5, upd_same, ?_, ?_⟩
        · rw [nVs_length, List.length_cons]
          have h1 := flat_len (g := lineRow b.frame L) (c := 3) (fun x => Nat.le_refl _) (fl.take i)
          have h2 : (fl.take i).length ≤ fl.length := by rw [List.length_take]; omega
          show _ + 3 ≤ sizeLine
          exact Nat.le_of_lt (small1000 (by omega))
        · refine ⟨some (V.int (j : Int)), some (V.int ((L.getD j 0 : Nat) : Int)), rfl, (s4.new hex).put han, ?_⟩
          rw [upd_same, flatMap_take _ hj]
          have e : [V.int (j : Int), V.int ((b.frame.first + L.getD j 0 / b.frame.high : Nat) : Int), V.int (((L.getD j 0 : Nat) : Int) % (b.frame.high : Int))] = nVs (lineRow b.frame L j) := by
            unfold lineRow
            show _ = [V.int (j : Int), V.int ((b.frame.first + L.getD j 0 / b.frame.high : Nat) : Int), V.int ((L.getD j 0 % b.frame.high : Nat) : Int)]
            rw [Int.natCast_emod]
          rw [e]
          unfold nVs
          rw [← List.map_append, List.cons_append]
      · rintro σ H' ⟨v5, v6, rfl, s4, han'⟩
        rw [nVs_length, List.take_length] at han'
        exact ⟨_, rfl, k H' an (s12.trans s4) (s12.free han) han'⟩
def spTells (t : Ad) : Sp := fun vs H Q _ => ∃ (A : BA) (F : Addr → Prop) (b : Si37.Book) (sa : Addr) (s : List Nat) (j : Nat) (wd : Si37.Word), vs = [.ref A.bk, .ref sa, .int (j : Int)] ∧ BookAt t H F A b ∧ H sa = some (.lst (nVs s)) ∧ s.length = b.words.length ∧ b.words[j]? = some wd ∧ kindOf wd.what ≠ 0 ∧ NewNs H Q (tellsAt b s j)
theorem sc_tells : FnScope ["book", "setting", "number", "word", "mark_page", "told"] ["book", "setting", "number"] (defScope s_what_reference_tells) := ⟨rfl, rfl, rfl, by decide +kernel, rfl, by decide +kernel, by decide +kernel⟩
theorem ok_tells {f : Addr} {fd : FuncData} (F : Fun K "what_reference_tells" "what_reference_tells" s_what_reference_tells f fd) (T : Txt K mg t) (G1 : Fn P w K mg base 1 "mark_page_in" ["marks", "mark", "setting"] spMarkPage) (G2 : Fn P w K mg base 1 "what_is_told" ["kind", "own_page", "mark_page"] spWhat) :
    FnOk P w K mg base CX0 2 f fd ["book", "setting", "number"] (spTells t) := by
  refine F.ok sc_tells (fun vs H Q E h => ?_) (fun cdv A outer s H vs Q E hr h => ?_)
  · obtain ⟨_, _, _, _, _, _, _, rfl, _⟩ := h
    rfl
  · obtain ⟨A, Fo, b, sa, st, j, wd, rfl, B, hs, hl, hw, h0, k⟩ := h
    obtain ⟨mkv, hmd, _, hmo⟩ := B.md
    have hjl : j < b.words.length := (List.getElem?_eq_some_iff.mp hw).1
    obtain ⟨a, ha⟩ : ∃ a, A.ws[j]? = some a := ⟨_, List.getElem?_eq_getElem (by rw [B.ws.len]; exact hjl)⟩
    obtain ⟨dx, hA⟩ := B.ws.at_ j a wd ha hw
    have hwo := B.wf.wo wd (List.mem_of_getElem? hw)
    have hsj : st[j]? = some (st.getD j 0) := by rw [List.getD_eq_getElem?_getD, List.getElem?_eq_getElem (by omega)]; rfl
    refine ⟨_, pss_cons (ps_set (i := 3) sc_tells.nd rfl (Or.inl rfl) (pe_ix ix_list (pe_fld (pv 0) rfl) (pv 2) (fun _ _ => rfl)))
      (pss_cons (ps_set (i := 4) sc_tells.nd rfl (Or.inl rfl) (pe_fn G1 hr (pa_cons (pe_fld (pv 0) rfl) (pa_cons (pe_fld (pv 3) rfl) (pa_cons (pv 1) pa_nil)))))
      (pss_cons (ps_set (i := 5) sc_tells.nd rfl (Or.inl rfl) (pe_fn G2 hr (pa_cons (pe_fld (pv 3) rfl) (pa_cons (pe_ix ix_list (pv 1) (pv 2) (fun _ _ => rfl)) (pa_cons (pv 4) pa_nil)))))
      (pss_cons (ps_if (pt_cmpR op_eq (pv 5) (pe_gint T.cTELLS_PAGE) (nomark _)) (pss_one (ps_ret (pe_lst (pa_cons (pv 5) (pa_cons (pv 4) pa_nil))))) pss_nil)
      (pss_one (ps_ret (pe_lst (pa_cons (pv 5) pa_nil))))))), ?_⟩
    refine ⟨_, rfl, A.bk, _, A.dx, _, _, rfl, B.ins, T.clB, T.nWords, bfl_words, _, rfl, A.wl, _, _, V.ref a, rfl, rfl, SqL.of B.wl, atI_nat (by rw [List.getElem?_map, ha]; rfl), ?_⟩
    refine ⟨_, rfl, A.bk, _, A.dx, _, _, rfl, B.ins, T.clB, T.nMarks, bfl_marks, _, rfl, a, _, dx, _, _, rfl, hA, T.clW, T.nTold, wfl_told, _, rfl, A.md, sa, toldOf wd.what, b.words, st, mkv, rfl, hmd, hmo, told_ref hwo h0, hs, hl, ?_⟩
    refine ⟨_, rfl, a, _, dx, _, _, rfl, hA, T.clW, T.nKind, wfl_kind, _, rfl, _, rfl, sa, _, _, _, rfl, rfl, SqL.of hs, atI_nat (nVs_get hsj), _, rfl, kindOf wd.what, st.getD j 0, pageIn b.words st (toldOf wd.what), rfl, ?_⟩
    have ep : Si37.pageOf b st (toldOf wd.what) = pageIn b.words st (toldOf wd.what) := pageOf_eq b st _
    rw [tellsAt_of hw, ep, told_tells] at k
    generalize pageIn b.words st (toldOf wd.what) = mk at k
    generalize hno : toldNo (kindOf wd.what) (st.getD j 0) mk = no at k
    refine ⟨_, rfl, rfl, _, rfl, iteI (fun h1 => ?_) (fun h1 => ?_)⟩
    · have h1 : no = 1 := by omega
      rw [if_pos h1] at k
      refine ⟨_, rfl, _, rfl, (by show 2 ≤ sizeLine; decide), fun l hl' => k _ l ((Same.refl H).new hl') hl' ?_⟩
      rw [upd_same, h1]
      rfl
    · have h1 : ¬ no = 1 := by omega
      rw [if_neg h1] at k
      exact ⟨_, rfl, (by show 1 ≤ sizeLine; decide), fun l hl' => k _ l ((Same.refl H).new hl') hl' upd_same⟩
def spRefsA (t : Ad) : Sp := fun vs H Q _ => ∃ (A : BA) (F : Addr → Prop) (b : Si37.Book) (sa : Addr) (s : List Nat), vs = [.ref A.bk, .ref sa] ∧ BookAt t H F A b ∧ H sa = some (.lst (nVs s)) ∧ s.length = b.words.length ∧ Bd s ∧
  NewNs H Q ((refsTo b b.words.length).length :: (refsTo b b.words.length).flatMap (refRow b s))
theorem sc_refsA : FnScope ["book", "setting", "lengths", "references", "answer", "number", "word"] ["book", "setting"] (defScope s_references_answered) := ⟨rfl, rfl, rfl, by decide +kernel, rfl, by decide +kernel, by decide +kernel⟩
theorem tells_len (kd own mk : Nat) : (tellsRef kd own mk).length ≤ 2 := by
  rw [told_tells]
  by_cases h : toldNo kd own mk = 1
  · rw [if_pos h]; exact Nat.le_refl 2
  · rw [if_neg h]; exact Nat.le_succ 1
theorem refRow_len (b : Si37.Book) (s : List Nat) (j : Nat) : (refRow b s j).length ≤ 4 := by
  unfold refRow tellsAt
  rw [List.length_cons, List.length_cons]
  cases b.words[j]? with
  | none => exact (by decide : 2 ≤ 4)
  | some wd =>
    have := tells_len (kindOf wd.what) (s.getD j 0) (Si37.pageOf b s (toldOf wd.what))
    show (tellsRef (kindOf wd.what) (s.getD j 0) (Si37.pageOf b s (toldOf wd.what))).length + 1 + 1 ≤ 4
    omega
theorem ok_refsA {f : Addr} {fd : FuncData} (F : Fun K "references_answered" "references_answered" s_references_answered f fd) (T : Txt K mg t) (G1 : Fn P w K mg base 4 "word_lengths" ["frame", "words", "marks", "setting"] (spLongs t)) (G2 : Fn P w K mg base 2 "what_reference_tells" ["book", "setting", "number"] (spTells t)) :
    FnOk P w K mg base CX0 5 f fd ["book", "setting"] (spRefsA t) := by
  refine F.ok sc_refsA (fun vs H Q E h => ?_) (fun cdv A outer s H vs Q E hr h => ?_)
  · obtain ⟨_, _, _, _, _, rfl, _⟩ := h
    rfl
  · obtain ⟨A, Fo, b, sa, st, rfl, B, hs, hl, hbd, k⟩ := h
    have hr2 : Room 2 _ := hr.mono (by decide)
    have hwfl := B.wf.len
    obtain ⟨mkv, hmd, _, hmo⟩ := B.md
    refine ⟨_, pss_cons (ps_set (i := 2) sc_refsA.nd rfl (Or.inl rfl) (pe_fn G1 hr (pa_cons (pe_fld (pv 0) rfl) (pa_cons (pe_fld (pv 0) rfl) (pa_cons (pe_fld (pv 0) rfl) (pa_cons (pv 1) pa_nil))))))
      (pss_cons (ps_setLc (i := 3) (own := [("number", 5), ("word", 6)]) (g := gTup K 2 (gCons (gName 5) (gCons (gName 6) gNil))) (tt := tTest (tOp rNe (tFld K (tVar 6) "kind") (tC (.int 0)))) (te := tVar 5)
        rfl sc_refsA.nd rfl rfl (sw_true rfl rfl rfl (by decide +kernel)) (pi_enum rfl T.enumerate (pa_cons (pe_fld (pv 0) rfl) pa_nil)) (blkOk_by (by kernel_rfl))
        (fun _ _ _ _ _ => pg_tup rfl (pgs_cons (pg_name (i := 5) sc_refsA.nd rfl (Or.inl rfl)) (pgs_cons (pg_name (i := 6) sc_refsA.nd rfl (Or.inl rfl)) pgs_nil)))
        (fun _ _ _ _ _ => pts_one (pt_cmpR op_ne (pe_fld (pv 6) rfl) (pe_gint T.cPLAIN) (nomark _))) (fun _ _ _ _ _ => pv 5))
      (pss_cons (ps_set (i := 4) sc_refsA.nd rfl (Or.inl rfl) (pe_lst (pa_cons (pe_callB call_len_seq (by rfl) T.len PySem.boot_len (pa_cons (pv 3) pa_nil)) pa_nil)))
      (pss_cons (ps_for PassesOwn.never rfl (pi_list (pv 3)) (pg_name (i := 5) sc_refsA.nd rfl (Or.inl rfl))
        (pss_cons (ps_expr (pe_bm PySem.F.plainAttrs_list PySem.F.slot_list_extend PySem.F.type_list_extend mt_extend (pv 4) (pa_cons (pe_lst (pa_cons (pv 5) (pa_cons (pe_ix ix_list (pv 2) (pv 5) (fun _ _ => rfl)) pa_nil))) pa_nil)))
        (pss_one (ps_expr (pe_bm PySem.F.plainAttrs_list PySem.F.slot_list_extend PySem.F.type_list_extend mt_extend (pv 4) (pa_cons (pe_fn G2 hr2 (pa_cons (pv 0) (pa_cons (pv 1) (pa_cons (pv 5) pa_nil)))) pa_nil))))))
      (pss_one (ps_ret (pv 4)))))), ?_⟩
    refine ⟨_, rfl, A.bk, _, A.dx, _, _, rfl, B.ins, T.clB, T.nFrame, bfl_frame, _, rfl, A.bk, _, A.dx, _, _, rfl, B.ins, T.clB, T.nWords, bfl_words, _, rfl, A.bk, _, A.dx, _, _, rfl, B.ins, T.clB, T.nMarks, bfl_marks, _, rfl,
      A.fr, A.wl, A.md, sa, b, A.ws, mkv, st, rfl, B.fr, B.wl, B.ws, hmd, hmo, B.wf, hs, hl, hbd, fun H1 lg s1 nlg hlg => ?_⟩
    have B1 := B.same s1
    refine ⟨_, rfl, A.bk, _, A.dx, _, _, rfl, B1.ins, T.clB, T.nWords, bfl_words, A.wl, _, rfl, SqL.of B1.wl, fun D hD => lc_enum (K := K) (a := A.wl) (xs := A.ws.map V.ref) (fun i H' => Same H1 H' ∧ H' D = some (.lst (nVs (refsTo b i)))) ⟨(Same.refl H1).new hD, upd_same⟩ (fun i H' _ ⟨s2, _⟩ => SqL.of (s2 _ _ B1.wl)) ?_ ?_⟩
    · rintro i x H' tp hx ⟨s2, hD'⟩ htp
      obtain ⟨a, ha, rfl⟩ := ref_get hx
      obtain ⟨wd, dx, hw, hA⟩ := B1.ws.word ha
      have hil : i < b.words.length := (List.getElem?_eq_some_iff.mp hw).1
      have s3 : Same H1 (upd H' tp (.tup [V.int ((i : Nat) : Int), V.ref a])) := s2.new htp
      have hD3 : (upd H' tp (.tup [V.int ((i : Nat) : Int), V.ref a])) D = some (.lst (nVs (refsTo b i))) := by rw [upd_ne (ne_of_none hD' htp)]; exact hD'
      have hsn := refsTo_succ hw
      refine ⟨tp, _, rfl, SqT.of upd_same, rfl, _, _, rfl, _, _, rfl, rfl, rfl, ?_⟩
      refine ⟨_, rfl, a, _, dx, _, _, rfl, s3 _ _ hA, T.clW, T.nKind, wfl_kind, rfl, _, rfl, iteN (fun h0 => ?_) (fun h0 => ?_)⟩
      · rw [if_neg (show ¬ kindOf wd.what = 0 by omega)] at hsn
        refine ⟨_, rfl, _, hD3, ?_, s3.put hD, ?_⟩
        · rw [nVs_length]
          have := refsTo_len b i
          exact small1000 (by omega)
        · rw [upd_same, nVs_snoc, hsn]
      · rw [if_pos (show kindOf wd.what = 0 by omega), List.append_nil] at hsn
        exact ⟨s3, by rw [hsn]; exact hD3⟩
    · rintro H2 ⟨s2, hD2⟩
      rw [List.length_map, B.ws.len] at hD2
      have s12 : Same H H2 := s1.trans s2
      have hlg2 := s2 _ _ hlg
      have hrl := refsTo_len b b.words.length
      have hrw : ∀ j ∈ refsTo b b.words.length, ∃ wd, b.words[j]? = some wd ∧ kindOf wd.what ≠ 0 := fun j hj => refsTo_word hj
      generalize refsTo b b.words.length = rf at hD2 hrl hrw k
      refine ⟨_, rfl, D, _, rfl, .inl (SqL.of hD2), (by show 1 ≤ sizeLine; decide), fun an han => ?_⟩
      rw [nVs_length]
      have s3 : Same H2 (upd H2 an (.lst [V.int (rf.length : Int)])) := (Same.refl H2).new han
      refine ⟨_, rfl, D, rfl, ⟨_, SqL.of (s3 _ _ hD2)⟩, for_list (K := K) (a := D) (xs := nVs rf)
        (fun i σ H' => ∃ v5 v6 : Option V, σ = [some (.ref A.bk), some (.ref sa), some (.ref lg), some (.ref D), some (.ref an), v5, v6] ∧ Same H2 H' ∧ H' an = some (.lst (nVs (rf.length :: (rf.take i).flatMap (refRow b st)))))
        ⟨_, _, rfl, s3, upd_same⟩ (fun i σ H' _ ⟨_, _, _, s4, _⟩ => SqL.of (s4 _ _ hD2)) ?_ ?_⟩
      · rintro i x σ H' hx ⟨v5, v6, rfl, s4, han'⟩
        obtain ⟨j, hj, rfl⟩ := nVs_of hx
        obtain ⟨wd, hw, h0⟩ := hrw j (List.mem_of_getElem? hj)
        have hlj := longs_get (s := st) hw
        have hsz : (rf.length :: (rf.take i).flatMap (refRow b st)).length ≤ 801 := by
          rw [List.length_cons]
          have h1 := flat_len (g := refRow b st) (c := 4) (fun x => refRow_len b st x) (rf.take i)
          have h2 : (rf.take i).length ≤ rf.length := by rw [List.length_take]; omega
          omega
        refine ⟨_, rfl, .inl ⟨rfl, _, SqL.of han'⟩, _, rfl, _, rfl, _, rfl, lg, _, _, _, rfl, rfl, SqL.of (s4 _ _ hlg2), atI_nat (nVs_get hlj), (by show 2 ≤ sizeLine; decide), fun e1 he1 => ?_⟩
        have han5 : (upd H' e1 (.lst [V.int (j : Int), V.int ((Si37.long b st j wd : Nat) : Int)])) an = some (.lst (nVs (rf.length :: (rf.take i).flatMap (refRow b st)))) := by rw [upd_ne (ne_of_none han' he1)]; exact han'
        refine ⟨an, e1, _, _, rfl, rfl, han5, upd_same, ?_, ?_⟩
        · rw [nVs_length]
          show _ + 2 ≤ sizeLine
          exact Nat.le_of_lt (small1000 (by omega))
        have s5 : Same H2 (upd (upd H' e1 (.lst [V.int (j : Int), V.int ((Si37.long b st j wd : Nat) : Int)])) an (.lst (nVs (rf.length :: (rf.take i).flatMap (refRow b st)) ++ [V.int (j : Int), V.int ((Si37.long b st j wd : Nat) : Int)]))) := (s4.new he1).put han
        have han6 : (upd (upd H' e1 (.lst [V.int (j : Int), V.int ((Si37.long b st j wd : Nat) : Int)])) an (.lst (nVs (rf.length :: (rf.take i).flatMap (refRow b st)) ++ [V.int (j : Int), V.int ((Si37.long b st j wd : Nat) : Int)]))) an = some (.lst (nVs (rf.length :: (rf.take i).flatMap (refRow b st) ++ [j, Si37.long b st j wd]))) := by
          rw [upd_same]
          unfold nVs
          rw [List.map_append]
          rfl
        generalize (upd (upd H' e1 (.lst [V.int (j : Int), V.int ((Si37.long b st j wd : Nat) : Int)])) an (.lst (nVs (rf.length :: (rf.take i).flatMap (refRow b st)) ++ [V.int (j : Int), V.int ((Si37.long b st j wd : Nat) : Int)]))) = H6 at s5 han6
        have B6 := B.same (s12.trans s5)
        refine ⟨_, rfl, .inl ⟨rfl, _, SqL.of han6⟩, _, rfl, _, rfl, _, rfl, A, Fo, b, sa, st, j, wd, rfl, B6, (s12.trans s5) _ _ hs, hl, hw, h0, fun H7 tl s7 ntl htl => ?_⟩
        have han7 := s7 _ _ han6
        refine ⟨an, tl, _, _, rfl, rfl, han7, htl, ?_, ?_⟩
        · rw [nVs_length, nVs_length, List.length_append, tellsAt_of hw]
          have := tells_len (kindOf wd.what) (st.getD j 0) (Si37.pageOf b st (toldOf wd.what))
          have e2 : ([j, Si37.long b st j wd] : List Nat).length = 2 := rfl
          exact Nat.le_of_lt (small1000 (by omega))
        · refine ⟨some (V.int (j : Int)), v6, rfl, (s5.trans s7).put han, ?_⟩
          rw [upd_same, flatMap_take _ hj]
          have e : rf.length :: (rf.take i).flatMap (refRow b st) ++ [j, Si37.long b st j wd] ++ tellsAt b st j = rf.length :: ((rf.take i).flatMap (refRow b st) ++ refRow b st j) := by
            unfold refRow
            rw [getD_of hlj]
            simp
          rw [← e]
          unfold nVs
          rw [← List.map_append]
      · rintro σ H' ⟨v5, v6, rfl, s4, han'⟩
        rw [nVs_length, List.take_length] at han'
        exact ⟨_, rfl, k H' an (s12.trans s4) (s12.free han) han'⟩
end
end Tr

set_option Elab.async false
set_option linter.all false
set_option maxRecDepth 100000
set_option maxHeartbeats 4000000
namespace Tr
open PySem PySem.Spec PyProof.Rows L2
theorem BookAt.tabbed {t : Ad} {H H' : Hp} {F : Addr → Prop} {A : BA} {b : Si37.Book} (h : BookAt t H F A b) (k : ∀ a o, H a = some o → a ≠ t.FT → H' a = some o) (tb : TabOk H' t.FT lamPos lamQual) : BookAt t H' F A b := by
  obtain ⟨ps, hP⟩ := h.tb.some
  have ki : ∀ {a C dx fs}, H a = some (.ins C dx fs) → H' a = some (.ins C dx fs) := fun {a C dx fs} e => k _ _ e (ne_of e hP (by intro z; cases z))
  have kd : ∀ {a kvs}, H a = some (.dK kvs) → H' a = some (.dK kvs) := fun {a kvs} e => k _ _ e (ne_of e hP (by intro z; cases z))
  have kl : ∀ {a xs}, H a = some (.lst xs) → H' a = some (.lst xs) := fun {a xs} e => k _ _ e (ne_of e hP (by intro z; cases z))
  refine ⟨h.wf, ki h.ins, let ⟨dx, e⟩ := h.fr; ⟨dx, ki e⟩, kl h.wl, h.fwl, ⟨h.ws.len, fun i a w h1 h2 => let ⟨dx, e⟩ := h.ws.at_ i a w h1 h2; ⟨dx, ki e⟩⟩,
    let ⟨q, e, r⟩ := h.od; ⟨q, kd e, r⟩, let ⟨q, e, r⟩ := h.md; ⟨q, kd e, r⟩, h.ne, h.kc.elim .inl (fun ⟨c, e, q⟩ => .inr ⟨c, e, ?_⟩), let ⟨q, e, r⟩ := h.ky; ⟨q, kd e, r⟩, tb⟩
  obtain ⟨dx, sl, as, o, h1, h2, h3, h4, h5, h6⟩ := q
  exact ⟨dx, sl, as, o, ki h1, kl h2, h3, h4, fun i a e => kl (h5 i a e), h6⟩
theorem AnsPost.news {t : Ad} {H H1 : Hp} {Q : VK} {F : Addr → Prop} {A A1 : BA} {b : Si37.Book} {q : Si37.Call} {l : List Nat} (k : AnsPost t H Q F A b q) (hb : (Si37.step b q).1 = b) (hx : zVs (ansOf b q) = nVs l) (B : BookAt t H1 F A1 b) (hA : A1.bk = A.bk) (s : ∀ a o, H a = some o → ¬ Own t A a → H1 a = some o)
    (n : ∀ a, H1 a = none → H a = none) : NewNs H1 Q l := fun H' p s' hp e => k H' p A1 (by rw [hb]; exact B.same s') hA (n p hp) (by rw [hx]; exact e) fun a o e h => s' _ _ (s a o e h)
theorem AnsPost.up {t : Ad} {H H1 : Hp} {Q : VK} {F : Addr → Prop} {A : BA} {b : Si37.Book} {q : Si37.Call} (k : AnsPost t H Q F A b q) (s : Same H H1) : AnsPost t H1 Q F A b q := fun H' p A' B' hA hp e kp => k H' p A' B' hA (s.free hp) e fun a o e h => kp a o (s a o e) h
theorem zVs_cons (m : Nat) (l : List Nat) : zVs ((m : Int) :: Si37.ints l) = nVs (m :: l) := by
  show V.int (m : Int) :: zVs (Si37.ints l) = V.int (m : Int) :: nVs l
  unfold Si37.ints
  rw [zVs_nats]
section
variable {P : Program} {w : World} {K : PySem.W.Frag} {mg : Str → Option Value} {base : Heap} {t : Ad}
def isN (q : Si37.Call) (n : Nat) : Prop := q = .pass n ∨ q = .lines n ∨ q = .shown n
theorem isN_same {q : Si37.Call} {n : Nat} (h : isN q n) (b : Si37.Book) : (Si37.step b q).1 = b := by rcases h with rfl | rfl | rfl <;> rfl
theorem isN_refuse {q : Si37.Call} {n : Nat} (h : isN q n) (b : Si37.Book) (hn : 400 < n) : ansOf b q = [-1] := by
  unfold ansOf
  rcases h with rfl | rfl | rfl
  · rw [step_pass, if_pos hn]; rfl
  · rw [step_lines, if_pos (show Si37.TRIES < n from hn)]; rfl
  · rw [step_shown, if_pos (show Si37.TRIES < n from hn)]; rfl
def spBehindA (t : Ad) : Sp := fun vs H Q _ => ∃ (A : BA) (F : Addr → Prop) (b : Si37.Book) (q : Si37.Call) (n : Nat), vs = [.ref A.bk, .int (numOf q : Int), .int (n : Int)] ∧ BookAt t H F A b ∧ isN q n ∧ (∀ a, H a = none → F a) ∧ AnsPost t H Q F A b q
theorem sc_behindA : FnScope ["book", "call", "n", "setting"] ["book", "call", "n"] (defScope s_answer_behind_passes) := ⟨rfl, rfl, rfl, by decide +kernel, rfl, by decide +kernel, by decide +kernel⟩
theorem ok_behindA {f : Addr} {fd : FuncData} (F : Fun K "answer_behind_passes" "answer_behind_passes" s_answer_behind_passes f fd) (T : Txt K mg t) (G1 : Mth P w K mg base 8 t.CB "course" ["self"] (spGet t)) (G2 : Mth P w K mg base 2 t.CC "setting_behind" ["self", "n"] (spBehind t))
    (G3 : Fn P w K mg base 1 "pages_answered" ["setting"] spPages) (G4 : Fn P w K mg base 6 "lines_answered" ["book", "setting"] (spLinesA t)) (G5 : Fn P w K mg base 5 "references_answered" ["book", "setting"] (spRefsA t)) : FnOk P w K mg base CX0 9 f fd ["book", "call", "n"] (spBehindA t) := by
  refine F.ok sc_behindA (fun vs H Q E h => ?_) (fun cdv A outer s H vs Q E hr h => ?_)
  · obtain ⟨_, _, _, _, _, rfl, _⟩ := h
    rfl
  · obtain ⟨A, Fo, b, q, n, rfl, B, hq, hFo, k⟩ := h
    have hr1 : Room 1 _ := hr.mono (by decide)
    have hr2 : Room 2 _ := hr.mono (by decide)
    have hr5 : Room 5 _ := hr.mono (by decide)
    have hr6 : Room 6 _ := hr.mono (by decide)
    have hwfl := B.wf.len
    refine ⟨_, pss_cons (ps_if (pt_cmpR op_gt (pv 2) (pe_gint T.cMOST_PASSES) (nomark _)) (pss_one (ps_ret (pe_lst (pa_cons (pe_gint T.cOUT_OF_RANGE) pa_nil)))) pss_nil)
      (pss_cons (ps_set (i := 3) sc_behindA.nd rfl (Or.inl rfl) (pe_mth (pe_mth0 (pv 0) T.clB G1 hr) T.clC G2 hr2 (pa_cons (pv 2) pa_nil)))
      (pss_cons (ps_if (pt_cmpR op_eq (pv 1) (pe_gint T.cPASS) (nomark _)) (pss_one (ps_ret (pe_fn G3 hr1 (pa_cons (pv 3) pa_nil)))) pss_nil)
      (pss_cons (ps_if (pt_cmpR op_eq (pv 1) (pe_gint T.cLINES) (nomark _)) (pss_one (ps_ret (pe_fn G4 hr6 (pa_cons (pv 0) (pa_cons (pv 3) pa_nil))))) pss_nil)
      (pss_one (ps_ret (pe_fn G5 hr5 (pa_cons (pv 0) (pa_cons (pv 3) pa_nil)))))))), ?_⟩
    refine ⟨_, rfl, _, _, rfl, rfl, _, rfl, iteD (fun h0 => ?_) (fun h0 => ?_)⟩
    · have h0 : (400 : Int) < (n : Int) := h0
      refine ⟨(by decide), ?_⟩
      exact k.same (xs := [-1]) (isN_same hq b) (isN_refuse hq b (by omega)).symm B rfl (fun a o e _ => e) fun a ha => ha
    · have h0 : ¬ (400 : Int) < (n : Int) := h0
      have hn : ¬ 400 < n := by omega
      refine ⟨_, rfl, A.bk, A.dx, _, rfl, B.ins, (by kernel_rfl), A, Fo, b, rfl, B, hFo, fun H2 c B2 hc kp => ?_⟩
      obtain ⟨cdx, csl, cas, co, hcI, _⟩ := id hc
      refine ⟨c, cdx, _, rfl, hcI, (by cases co <;> kernel_rfl), _, rfl, c, Fo, b, n, rfl, hc, by omega, fun sa hsa => ?_⟩
      have s2 : ∀ a o, H a = some o → ¬ Own t A a → H2 a = some o := fun a o e h => kp a o e fun z => h (.inl z)
      have n2 : ∀ a, H2 a = none → H a = none := get_keep B2.ins kp
      have hpl := passes_length B.wf.ne n
      have hnews : ∀ {l : List Nat}, zVs (ansOf b q) = nVs l → NewNs H2 Q l := fun {l} hx => k.news (isN_same hq b) hx B2 rfl s2 n2
      refine ⟨_, rfl, rfl, _, rfl, iteI (fun h1 => ?_) (fun h1 => ?_)⟩
      · have hq1 : q = .pass n := by
          rcases hq with z | z | z
          · exact z
          · rw [z] at h1; exact absurd h1 (by show ¬ ((4 : Nat) : Int) = 2; decide)
          · rw [z] at h1; exact absurd h1 (by show ¬ ((5 : Nat) : Int) = 2; decide)
        refine ⟨_, rfl, sa, _, rfl, hsa, by omega, hnews ?_⟩
        subst hq1
        unfold ansOf
        rw [step_pass, if_neg hn]
        exact zVs_cons _ _
      · refine ⟨_, rfl, rfl, _, rfl, iteI (fun h2 => ?_) (fun h2 => ?_)⟩
        · have hq2 : q = .lines n := by
            rcases hq with z | z | z
            · rw [z] at h2; exact absurd h2 (by show ¬ ((2 : Nat) : Int) = 4; decide)
            · exact z
            · rw [z] at h2; exact absurd h2 (by show ¬ ((5 : Nat) : Int) = 4; decide)
          refine ⟨_, rfl, _, rfl, { A with kc := .ref c }, Fo, b, sa, _, rfl, B2, hsa, hpl, passes_bd B.wf n, hnews ?_⟩
          subst hq2
          unfold ansOf
          rw [ans_lines, if_neg (show ¬ Si37.TRIES < n from hn)]
          exact zVs_cons _ _
        · have hq3 : q = .shown n := by
            rcases hq with z | z | z
            · rw [z] at h1; exact absurd rfl h1
            · rw [z] at h2; exact absurd rfl h2
            · exact z
          refine ⟨_, rfl, _, rfl, { A with kc := .ref c }, Fo, b, sa, _, rfl, B2, hsa, hpl, passes_bd B.wf n, hnews ?_⟩
          subst hq3
          unfold ansOf
          rw [ans_shown, if_neg (show ¬ Si37.TRIES < n from hn)]
          exact zVs_cons _ _
def spATrues (t : Ad) : Sp := fun vs H Q _ => ∃ (A : BA) (F : Addr → Prop) (b : Si37.Book), vs = [.ref A.bk] ∧ BookAt t H F A b ∧ AnsPost t H Q F A b .trues
theorem sc_aTrues : FnScope ["book", "settings"] ["book"] (defScope s_answer_trues) := ⟨rfl, rfl, rfl, by decide +kernel, rfl, by decide +kernel, by decide +kernel⟩
theorem ok_aTrues {f : Addr} {fd : FuncData} (F : Fun K "answer_trues" "answer_trues" s_answer_trues f fd) (T : Txt K mg t) (G1 : Fn P w K mg base 3 "has_too_many_tries" ["book"] (spMany t)) (G2 : Fn P w K mg base 7 "true_settings" ["book"] (spTrues t)) (G3 : Fn P w K mg base 3 "first_setting" ["settings"] (spFirstS t)) :
    FnOk P w K mg base CX0 8 f fd ["book"] (spATrues t) := by
  refine F.ok sc_aTrues (fun vs H Q E h => ?_) (fun cdv A outer s H vs Q E hr h => ?_)
  · obtain ⟨_, _, _, rfl, _⟩ := h
    rfl
  · obtain ⟨A, Fo, b, rfl, B, k⟩ := h
    have hr3 : Room 3 _ := hr.mono (by decide)
    have hwfl := B.wf.len
    refine ⟨_, pss_cons (ps_if (pt_val (pe_fn G1 hr3 (pa_cons (pv 0) pa_nil))) (pss_one (ps_ret (pe_lst (pa_cons (pe_gint T.cTOO_MANY) pa_nil)))) pss_nil)
      (pss_cons (ps_set (i := 1) sc_aTrues.nd rfl (Or.inl rfl) (pe_fn G2 hr (pa_cons (pv 0) pa_nil)))
      (pss_cons (ps_if (pt_cmpR op_eq (pe_callB call_len_seq (by rfl) T.len PySem.boot_len (pa_cons (pv 1) pa_nil)) pe_int (nomark _)) (pss_one (ps_ret (pe_lst (pa_cons pe_int pa_nil)))) pss_nil)
      (pss_one (ps_ret (pe_op op_cat (pe_lst (pa_cons (pe_callB call_len_seq (by rfl) T.len PySem.boot_len (pa_cons (pv 1) pa_nil)) pa_nil)) (pe_fn G3 hr3 (pa_cons (pv 1) pa_nil))))))), ?_⟩
    refine ⟨_, rfl, A, Fo, b, rfl, B, fun H1 s1 => ⟨_, rfl, iteD (fun h0 => ?_) (fun h0 => ?_)⟩⟩
    · have hs : Si37.step b .trues = (b, Si37.ok (-5)) := by rw [step_trues, if_pos h0]
      refine ⟨(by decide), ?_⟩
      exact k.same (xs := [-5]) (by rw [hs]) (by unfold ansOf; rw [hs]; rfl) (B.same s1) rfl (fun a o e _ => s1 a o e) fun a ha => s1.free ha
    · have hs : Si37.step b .trues = (b, ⟨((Si37.trues b).length : Int), Si37.ints ((Si37.trues b).headD [])⟩) := by rw [step_trues, if_neg h0]
      have hc3 : (Si37.counts b).length ≤ 3 := by omega
      have hlp : Si37.lastPage b ≤ b.frame.first + 30 := by omega
      obtain ⟨htl, hth⟩ := trues_rise B.wf
      refine ⟨_, rfl, A, Fo, b, rfl, B.same s1, hc3, hlp, fun H2 sp sas s2 nsp hsp hsas => ?_⟩
      have s12 : Same H H2 := s1.trans s2
      have hfw := fixRows_word B.wf (R := rise b.frame.first (Si37.lastPage b) (Si37.counts b).length)
      generalize fixRows b (rise b.frame.first (Si37.lastPage b) (Si37.counts b).length) = L at htl hth hsas hfw
      have hsl : (sas.map V.ref).length = L.length := by rw [List.length_map, hsas.len]
      refine ⟨_, rfl, sp, _, rfl, .inl (SqL.of hsp), rfl, _, rfl, iteI (fun h1 => ?_) (fun h1 => ?_)⟩
      · rw [hsl] at h1
        have hL : L = [] := List.length_eq_zero_iff.mp (by omega)
        subst hL
        have e : ansOf b .trues = [0] := by
          unfold ansOf
          rw [hs, htl, hth]
          rfl
        refine ⟨(by decide), ?_⟩
        exact k.same (xs := [0]) (by rw [hs]) e.symm (B.same s12) rfl (fun a o e _ => s12 a o e) fun a ha => s12.free ha
      · rw [hsl] at h1
        have hL : L ≠ [] := fun e => by rw [e] at h1; exact h1 rfl
        refine ⟨_, rfl, sp, _, rfl, .inl (SqL.of hsp), (by show 1 ≤ sizeLine; decide), fun l hl => ?_⟩
        rw [hsl]
        have s3 : Same H2 (upd H2 l (.lst [V.int (L.length : Int)])) := (Same.refl H2).new hl
        have s13 : Same H (upd H2 l (.lst [V.int (L.length : Int)])) := s12.trans s3
        have hl3 : (upd H2 l (.lst [V.int (L.length : Int)])) l = some (.lst [V.int (L.length : Int)]) := upd_same
        have hsp3 := s3 _ _ hsp
        have hsas3 := hsas.same s3
        generalize upd H2 l (.lst [V.int (L.length : Int)]) = H3 at s13 hl3 hsp3 hsas3
        have B3 := B.same s13
        refine ⟨_, rfl, sp, sas, L, b.words.length, rfl, hsp3, hsas3, hL, hfw, B3.tb, fun H4 fp kp nn tb4 hfp => ?_⟩
        have B4 := B3.tabbed kp tb4
        obtain ⟨ps, hP⟩ := B3.tb.some
        have hl4 := kp _ _ hl3 (ne_of hl3 hP (by intro z; cases z))
        have hml : ((L.foldl pick none).getD []).length ≤ 250 := by
          rcases pick_spec L none with ⟨e, _⟩ | ⟨m, e, hm, _⟩
          · exact absurd e hL
          · rw [e]
            show m.length ≤ 250
            rw [hfw m (hm.resolve_right (by simp))]
            omega
        refine ⟨l, fp, _, _, rfl, rfl, hl4, hfp, ?_, ?_⟩
        · rw [nVs_length]
          show 1 + _ ≤ sizeLine
          exact Nat.le_of_lt (small1000 (by omega))
        · have e : [V.int (L.length : Int)] ++ nVs ((L.foldl pick none).getD []) = zVs (ansOf b .trues) := by
            unfold ansOf
            rw [hs, htl, hth]
            exact (zVs_cons _ _).symm
          rw [e]
          exact k.same (by rw [hs]) rfl B4 rfl (fun a o e h => kp a o (s13 a o e) fun z => h (.inr (.inr (.inr (.inr z))))) fun a ha => s13.free (nn a ha)
def spAOpen (t : Ad) : Sp := fun vs H Q _ => ∃ (A : BA) (F : Addr → Prop) (b : Si37.Book), vs = [.ref A.bk] ∧ BookAt t H F A b ∧ AnsPost t H Q F A b .open_
theorem sc_aOpen : FnScope ["book", "missing", "mark"] ["book"] (defScope s_answer_missing_marks) := ⟨rfl, rfl, rfl, by decide +kernel, rfl, by decide +kernel, by decide +kernel⟩
theorem ok_aOpen {f : Addr} {fd : FuncData} (F : Fun K "answer_missing_marks" "answer_missing_marks" s_answer_missing_marks f fd) (T : Txt K mg t) (G1 : Fn P w K mg base 1 "marks_told_of" ["words"] (spToldOf t)) : FnOk P w K mg base CX0 2 f fd ["book"] (spAOpen t) := by
  refine F.ok sc_aOpen (fun vs H Q E h => ?_) (fun cdv A outer s H vs Q E hr h => ?_)
  · obtain ⟨_, _, _, rfl, _⟩ := h
    rfl
  · obtain ⟨A, Fo, b, rfl, B, k⟩ := h
    have hu := hu_of hr
    have hwfl := B.wf.len
    obtain ⟨mkv, hmd, _, hmo⟩ := B.md
    refine ⟨_, pss_cons (ps_setLc (i := 1) (own := [("mark", 2)]) (tt := tB (tDNotIn (tVar 2) (tFld K (tVar 0) "marks"))) (te := tVar 2) rfl sc_aOpen.nd rfl rfl (sw_true rfl rfl rfl (by decide +kernel)) (pi_list (pe_fn G1 hr (pa_cons (pe_fld (pv 0) rfl) pa_nil))) (blkOk_by (by kernel_rfl)) (fun _ _ _ _ _ => pg_name (i := 2) sc_aOpen.nd rfl (Or.inl rfl))
        (fun _ _ _ _ _ => pts_one (pt_cmp (pc_dnotin hu (pv 2) (pe_fld (pv 0) rfl)) rfl)) (fun _ _ _ _ _ => pv 2))
      (pss_one (ps_ret (pe_op op_cat (pe_lst (pa_cons (pe_callB call_len_seq (by rfl) T.len PySem.boot_len (pa_cons (pv 1) pa_nil)) pa_nil)) (pv 1)))), ?_⟩
    refine ⟨_, rfl, A.bk, _, A.dx, _, _, rfl, B.ins, T.clB, T.nWords, bfl_words, A.wl, A.ws, b.words, rfl, B.wl, B.ws, by omega, fun H1 tl s1 ntl htl => ?_⟩
    have htn := toldTo_len b.words
    have htp : ∀ m ∈ toldTo b.words, 1 ≤ m := fun m hm => toldTo_pos B.wf hm
    have hans := ans_open b
    generalize toldTo b.words = tl0 at htl htn htp hans
    refine ⟨tl, rfl, ⟨_, SqL.of htl⟩, fun D hD => lc_list (K := K) (a := tl) (xs := nVs tl0) (fun i H' => Same H1 H' ∧ H' D = some (.lst (nVs ((tl0.take i).filter fun m => !(markIx b.words m).isSome)))) ⟨(Same.refl H1).new hD, upd_same⟩ (fun i H' _ ⟨s2, _⟩ => SqL.of (s2 _ _ htl)) ?_ ?_⟩
    · rintro i x H' hx ⟨s2, hD'⟩
      obtain ⟨m, hm, rfl⟩ := nVs_of hx
      have hil : i < tl0.length := (List.getElem?_eq_some_iff.mp hm).1
      have hv := hmo m (htp m (List.mem_of_getElem? hm))
      have s12 := s1.trans s2
      refine ⟨rfl, _, rfl, _, rfl, A.bk, _, A.dx, _, _, rfl, s12 _ _ B.ins, T.clB, T.nMarks, bfl_marks, A.md, _, rfl, DGet.k (k := Sum.inl (m : Int)) (s12 _ _ hmd), _, rfl, ?_⟩
      rw [hv, Option.isSome_map, take_snoc hm, List.filter_append]
      cases hc : (markIx b.words m).isSome with
      | true =>
        have e : List.filter (fun m => !(markIx b.words m).isSome) [m] = [] := by rw [List.filter_cons_of_neg (by rw [hc]; decide)]; rfl
        refine iteF ⟨s2, ?_⟩
        rw [e, List.append_nil]
        exact hD'
      | false =>
        have e : List.filter (fun m => !(markIx b.words m).isSome) [m] = [m] := by rw [List.filter_cons_of_pos (by rw [hc]; decide)]; rfl
        refine iteT ⟨_, rfl, _, hD', ?_, s2.put hD, ?_⟩
        · rw [nVs_length]
          have := List.length_filter_le (fun m => !(markIx b.words m).isSome) (tl0.take i)
          rw [List.length_take] at this
          exact small1000 (by omega)
        · rw [upd_same, nVs_snoc, e]
    · rintro H2 ⟨s2, hD2⟩
      rw [nVs_length, List.take_length] at hD2
      have s12 := s1.trans s2
      have hfl := List.length_filter_le (fun m => !(markIx b.words m).isSome) tl0
      generalize (tl0.filter fun m => !(markIx b.words m).isSome) = ms at hD2 hans hfl
      refine ⟨_, rfl, D, _, rfl, .inl (SqL.of hD2), (by show 1 ≤ sizeLine; decide), fun l hl => ?_⟩
      have s3 : Same H2 (upd H2 l (.lst [V.int ((nVs ms).length : Int)])) := (Same.refl H2).new hl
      refine ⟨_, rfl, l, D, _, _, rfl, rfl, upd_same, s3 _ _ hD2, ?_, ?_⟩
      · rw [nVs_length]
        show 1 + _ ≤ sizeLine
        exact Nat.le_of_lt (small1000 (by omega))
      · have e : [V.int ((nVs ms).length : Int)] ++ nVs ms = zVs (ansOf b .open_) := by
          unfold ansOf
          rw [hans, nVs_length]
          exact (zVs_cons _ _).symm
        rw [e]
        have s13 := s12.trans s3
        exact k.same (by rw [hans]) rfl (B.same s13) rfl (fun a o e _ => s13 a o e) fun a ha => s13.free ha
end
end Tr

set_option Elab.async false
set_option linter.all false
set_option maxRecDepth 100000
set_option maxHeartbeats 4000000
namespace Tr
open PySem PySem.Spec PyProof.Rows L2
def CallsAt (K : PySem.W.Frag) (H : Hp) (a : Addr) (xs : List V) : Prop := (∃ ob, H a = some (.frz ob (.lst xs))) ∨ ∀ H' : Hp, SqL K H' a xs
theorem CallsAt.of {K : PySem.W.Frag} {H : Hp} {a : Addr} {xs : List V} {P : Addr} (h : SqL K H a xs) (o : OnlyT P H) : CallsAt K H a xs := by
  rcases h with (h | ⟨ob, h⟩) | h
  · by_cases hP : a = P
    · rw [hP, o.1] at h; cases h
    · rcases o.2 a hP with z | ⟨ob, u, z⟩
      · rw [h] at z; cases z
      · rw [h] at z; cases z
  · exact .inl ⟨ob, h⟩
  · exact .inr fun _ => .inr h
theorem CallsAt.sq {K : PySem.W.Frag} {H : Hp} {a : Addr} {xs : List V} (h : CallsAt K H a xs) : SqL K H a xs := by
  rcases h with ⟨ob, h⟩ | h
  · exact .inl (.inr ⟨ob, h⟩)
  · exact h H
theorem CallsAt.keep {K : PySem.W.Frag} {H H' : Hp} {a : Addr} {xs : List V} (h : CallsAt K H a xs) (k : ∀ b ob u, H b = some (.frz ob u) → H' b = some (.frz ob u)) : CallsAt K H' a xs := by
  rcases h with ⟨ob, h⟩ | h
  · exact .inl ⟨ob, k _ _ _ h⟩
  · exact .inr h
theorem Own.not_frz {t : Ad} {H : Hp} {F : Addr → Prop} {A : BA} {b : Si37.Book} {a : Addr} {ob : Obj} {u : HO} (B : BookAt t H F A b) (h : H a = some (.frz ob u)) : ¬ Own t A a := by
  rintro (e | e | e | e | e)
  · rw [e, B.ins] at h; cases h
  · rw [e, B.wl] at h; cases h
  · obtain ⟨_, q, _⟩ := B.od; rw [e, q] at h; cases h
  · obtain ⟨_, q, _⟩ := B.md; rw [e, q] at h; cases h
  · obtain ⟨_, q⟩ := B.tb.some; rw [e, q] at h; cases h
theorem Own.not_lst {t : Ad} {H : Hp} {F : Addr → Prop} {A : BA} {b : Si37.Book} {a : Addr} {xs : List V} (B : BookAt t H F A b) (h : H a = some (.lst xs)) (hF : ¬ F a) : ¬ Own t A a := by
  rintro (e | e | e | e | e)
  · rw [e, B.ins] at h; cases h
  · exact hF (e ▸ B.fwl)
  · obtain ⟨_, q, _⟩ := B.od; rw [e, q] at h; cases h
  · obtain ⟨_, q, _⟩ := B.md; rw [e, q] at h; cases h
  · obtain ⟨_, q⟩ := B.tb.some; rw [e, q] at h; cases h
theorem line_at {D R ns : List Nat} {a : Nat} : (D ++ (a :: ns.length :: (ns ++ [0])) ++ R)[D.length]? = some a ∧ (D ++ (a :: ns.length :: (ns ++ [0])) ++ R)[D.length + 1]? = some ns.length ∧
    ((D ++ (a :: ns.length :: (ns ++ [0])) ++ R).drop (D.length + 2)).take ns.length = ns ∧ D.length + 2 + ns.length < (D ++ (a :: ns.length :: (ns ++ [0])) ++ R).length := by
  refine ⟨?_, ?_, ?_, ?_⟩
  · rw [List.append_assoc, List.getElem?_append_right (Nat.le_refl _), Nat.sub_self]; rfl
  · rw [List.append_assoc, List.getElem?_append_right (by omega), Nat.add_sub_cancel_left]; rfl
  · rw [List.append_assoc, List.drop_append, List.drop_eq_nil_of_le (by omega), show D.length + 2 - D.length = 2 by omega]
    show (([] : List Nat) ++ ((ns ++ [0]) ++ R)).take ns.length = ns
    rw [List.nil_append, List.append_assoc, List.take_append_of_le_length (Nat.le_refl _), List.take_length]
  · simp only [List.length_append, List.length_cons, List.length_nil]
    omega
theorem toldQ_cons (b : Si37.Book) (q : Si37.Call) (r : List Si37.Call) : toldQ b (q :: r) = (((ansOf b q).length : Nat) : Int) :: (ansOf b q ++ toldQ (Si37.step b q).1 r) := rfl
section
variable {P : Program} {w : World} {K : PySem.W.Frag} {mg : Str → Option Value} {base : Heap} {t : Ad}
def spACall (t : Ad) : Sp := fun vs H Q _ => ∃ (A : BA) (F : Addr → Prop) (b : Si37.Book) (q : Si37.Call) (na : Addr), vs = [.ref A.bk, .int (numOf q : Int), .ref na] ∧ BookAt t H F A b ∧ H na = some (.lst (nVs (numsOf q))) ∧ fewW q ∧ (∀ a, H a = none → F a) ∧ AnsPost t H Q F A b q
def spAnswers (K : PySem.W.Frag) (tb : Addr) : Sp := fun vs H Q _ => ∃ (cl : Addr) (l : List Int), vs = [.ref cl] ∧ H tb = some (.tbl #[]) ∧ CallsAt K H cl (zVs l) ∧ PySi37.answers_asked l = true ∧ ∀ (H' : Hp) (p : Addr), H' p = some (.lst (zVs (PySi37.answers l))) → Q (.ref p) H'
theorem sc_answers : FnScope ["calls", "book", "answered", "place", "numbers_begin", "numbers_end", "answer"] ["calls"] (defScope s_answers) := ⟨rfl, rfl, rfl, by decide +kernel, rfl, by decide +kernel, by decide +kernel⟩
theorem ok_answers {n : Nat} (hn : 4 ≤ n) {f : Addr} {fd : FuncData} (F : Fun K "answers" "answers" s_answers f fd) (T : Txt K mg t) (MB : Mkr P w K mg base 2 "Book" t.CB ["self", "frame"] (spBInit t)) (G1 : Fn P w K mg base 3 "first_frame" [] (spFirst t))
    (G2 : Fn P w K mg base n "answer_call" ["book", "call", "numbers"] (spACall t)) : FnOk P w K mg base CX0 (n + 1) f fd ["calls"] (spAnswers K t.FT) := by
  refine F.ok sc_answers (fun vs H Q E h => ?_) (fun cdv A outer s H vs Q E hr h => ?_)
  · obtain ⟨_, _, rfl, _⟩ := h
    rfl
  · obtain ⟨cl, l, rfl, htb, hcl, hask, k⟩ := h
    have hr3 : Room 3 _ := hr.mono (by omega)
    obtain ⟨qs, hl, hfew, hlen, hans, hsz⟩ := asked_line hask
    have hzl : zVs l = nVs (qs.flatMap encQ) := by rw [hl, zVs_nats]
    rw [hans] at k
    rw [hzl] at hcl
    refine ⟨_, pss_cons (ps_set (i := 1) sc_answers.nd rfl (Or.inl rfl) (pe_mkr MB hr3 (pa_cons (pe_fn0 G1 hr3) pa_nil)))
      (pss_cons (ps_set (i := 2) sc_answers.nd rfl (Or.inl rfl) (pe_lst pa_nil))
      (pss_cons (ps_set (i := 3) sc_answers.nd rfl (Or.inl rfl) pe_int)
      (pss_cons (ps_while PassesOwn.never (pt_cmpR op_lt (pv 3) (pe_callB call_len_seq (by rfl) T.len PySem.boot_len (pa_cons (pv 0) pa_nil)) (nomark _))
        (pss_cons (ps_set (i := 4) sc_answers.nd rfl (Or.inl rfl) (pe_op op_add (pv 3) pe_int))
        (pss_cons (ps_set (i := 5) sc_answers.nd rfl (Or.inl rfl) (pe_op op_add (pv 4) (pe_ix ix_list (pv 0) (pe_op op_add (pv 3) pe_int) (fun _ _ => rfl))))
        (pss_cons (ps_set (i := 6) sc_answers.nd rfl (Or.inl rfl) (pe_fn G2 hr (pa_cons (pv 1) (pa_cons (pe_ix ix_list (pv 0) (pv 3) (fun _ _ => rfl)) (pa_cons (pe_slice sl_list (pv 0) (po_some (pv 4)) (po_some (pv 5))) pa_nil)))))
        (pss_cons (ps_expr (pe_bm PySem.F.plainAttrs_list PySem.F.slot_list_append PySem.F.type_list_append mt_append (pv 2) (pa_cons (pe_callB call_len_seq (by rfl) T.len PySem.boot_len (pa_cons (pv 6) pa_nil)) pa_nil)))
        (pss_cons (ps_expr (pe_bm PySem.F.plainAttrs_list PySem.F.slot_list_extend PySem.F.type_list_extend mt_extend (pv 2) (pa_cons (pv 6) pa_nil)))
        (pss_one (ps_set (i := 3) sc_answers.nd rfl (Or.inl rfl) (pe_op op_add (pv 5) pe_int)))))))))
      (pss_one (ps_ret (pv 2)))))), ?_⟩
    refine ⟨rfl, fun H1 fr s1 n1 hF => ?_⟩
    intro bk dx hbk hdx ndx
    have s2 : Same H1 (upd (upd H1 dx (.own bk)) bk (.ins t.CB dx [])) := ((Same.refl _).new hdx).new (by rw [upd_ne (Ne.symm ndx)]; exact hbk)
    refine ⟨bk, dx, fr, rfl, upd_same, fun H2 wl od md h1 h2 h3 h4 w1 w2 w3 nom kp => ⟨rfl, ?_⟩⟩
    have s3 : Same H1 H2 := fun a o e => kp a o (s2 a o e) (ne_of_none e hbk)
    have s13 := s1.trans s3
    refine ⟨Nat.zero_le _, fun x hx => ?_⟩
    have s4 : Same H2 (upd H2 x (.lst [])) := (Same.refl _).new hx
    have B0 : BookAt t (upd H2 x (.lst [])) (fun a => a ≠ x) ⟨bk, dx, fr, wl, od, md, [], .non⟩ Si37.init := by
      refine ⟨wf_init, s4 _ _ h1, (hF.same s3).same s4, s4 _ _ h2, ne_of_none h2 hx, ⟨rfl, fun i a wd e => by simp at e⟩, ⟨[], s4 _ _ h3, Nat.zero_le _, fun i => ?_⟩, ⟨[], s4 _ _ h4, Nat.zero_le _, fun _ _ => rfl⟩, nom, .inl rfl, ⟨[], s4 _ _ h3, rfl⟩, .inl (s4 _ _ (s13 _ _ htb))⟩
      show none = match (flags [])[i]? with
        | some (some pg) => some (V.int (if pg = true then 1 else 0))
        | _ => none
      rw [show (flags []) = [] from rfl, List.getElem?_nil]
    have hcl0 : CallsAt K (upd H2 x (.lst [])) cl (nVs (qs.flatMap encQ)) := hcl.keep fun b ob u e => s4 _ _ (s13 _ _ e)
    refine while_by (fun σ H' => ∃ (done rest : List Si37.Call) (b : Si37.Book) (A : BA) (out : List Int) (v4 v5 v6 : Option V), σ = [some (.ref cl), some (.ref bk), some (.ref x), some (.int (((done.flatMap encQ).length : Nat) : Int)), v4, v5, v6] ∧ qs = done ++ rest ∧ A.bk = bk ∧
        BookAt t H' (fun a => a ≠ x) A b ∧ H' x = some (.lst (zVs out)) ∧ out ++ toldQ b rest = toldQ Si37.init qs ∧ CallsAt K H' cl (nVs (qs.flatMap encQ)))
      (fun σ _ => match σ with | [_, _, _, some (.int p), _, _, _] => (qs.flatMap encQ).length - p.toNat | _ => 0) ?_ ?_ ?_
    · exact ⟨[], qs, Si37.init, ⟨bk, dx, fr, wl, od, md, [], .non⟩, [], none, none, none, rfl, rfl, rfl, B0, upd_same, rfl, hcl0⟩
    · rintro σ H' ⟨done, rest, b, A, out, v4, v5, v6, rfl, hqs, hAbk, B, hx', hout, hcl'⟩
      refine ⟨_, rfl, _, rfl, cl, _, rfl, .inl hcl'.sq, _, _, rfl, rfl, _, rfl, iteD (fun h0 => ?_) (fun h0 => ?_)⟩
      · have h0 : (((done.flatMap encQ).length : Nat) : Int) < ((nVs (qs.flatMap encQ)).length : Int) := h0
        rw [nVs_length] at h0
        cases rest with
        | nil =>
          rw [hqs, List.append_nil] at h0
          omega
        | cons q rest =>
          have eL : qs.flatMap encQ = (done.flatMap encQ) ++ (numOf q :: (numsOf q).length :: (numsOf q ++ [0])) ++ rest.flatMap encQ := by
            rw [hqs, List.flatMap_append, List.flatMap_cons, List.append_assoc]
            rfl
          obtain ⟨g1, g2, g3, g4⟩ := line_at (D := done.flatMap encQ) (R := rest.flatMap encQ) (ns := numsOf q) (a := numOf q)
          rw [← eL] at g1 g2 g3 g4
          generalize hL : qs.flatMap encQ = L at g1 g2 g3 g4 hcl' h0
          generalize hpl : (done.flatMap encQ).length = pl at g1 g2 g3 g4 h0
          refine ⟨_, rfl, _, _, rfl, rfl, ?_⟩
          refine ⟨_, rfl, _, rfl, _, rfl, _, _, rfl, rfl, cl, _, _, _, rfl, rfl, hcl'.sq, at_of (j := pl + 1) (by omega) (nVs_get g2), _, _, rfl, rfl, ?_⟩
          refine ⟨_, rfl, _, rfl, _, rfl, cl, _, _, _, rfl, rfl, hcl'.sq, atI_nat (nVs_get g1), _, rfl, _, rfl, _, rfl, _, rfl, _, rfl, cl, _, rfl, hcl'.sq, fun na hna => ?_⟩
          have hcut : cutV (nVs L) (some ((pl : Int) + 2)) (some ((pl : Int) + 2 + ((numsOf q).length : Int))) = nVs (numsOf q) := by
            unfold cutV
            rw [nVs_length, show (pl : Int) + 2 = ((pl + 2 : Nat) : Int) by omega, show ((pl + 2 : Nat) : Int) + ((numsOf q).length : Int) = ((pl + 2 + (numsOf q).length : Nat) : Int) by omega, HT.sIx_nat, HT.sIx_nat,
              show min (pl + 2) L.length = pl + 2 by omega, show min (pl + 2 + (numsOf q).length) L.length = pl + 2 + (numsOf q).length by omega, show pl + 2 + (numsOf q).length - (pl + 2) = (numsOf q).length by omega]
            unfold nVs
            rw [← List.map_drop, ← List.map_take, g3]
          rw [hcut]
          have s5 : Same H' (upd H' na (.lst (nVs (numsOf q)))) := (Same.refl _).new hna
          have B5 := B.same s5
          have hx5 := s5 _ _ hx'
          have hnx : ¬ (fun a => a ≠ x) x := fun z => z rfl
          refine ⟨A, (fun a => a ≠ x), b, q, na, ?_, B5, upd_same, hfew q (by rw [hqs]; exact List.mem_append_right _ List.mem_cons_self), fun a ha => (ne_of_none hx5 ha).symm, fun H6 p A6 B6 hA6 hp e6 kp6 => ?_⟩
          · rw [hAbk]; rfl
          have hx6 : H6 x = some (.lst (zVs out)) := kp6 _ _ hx5 (Own.not_lst B5 hx5 hnx)
          have npx : p ≠ x := (ne_of_none hx5 hp).symm
          have hcl6 : CallsAt K H6 cl (nVs L) := (hcl'.keep fun b ob u e => s5 _ _ e).keep fun b ob u e => kp6 _ _ e (Own.not_frz B5 e)
          rw [toldQ_cons] at hout
          have hsz1 : out.length + (1 + ((ansOf b q).length + (toldQ (Si37.step b q).1 rest).length)) ≤ 1000059 := by
            rw [← hout] at hsz
            simp only [List.length_append, List.length_cons] at hsz
            omega
          have hbig : 1000059 < sizeLine := by rw [sizeLine_eq]; decide
          refine ⟨_, rfl, .inl ⟨rfl, _, SqL.of hx6⟩, _, rfl, p, _, rfl, .inl (SqL.of e6), x, _, _, rfl, rfl, hx6, ?_, ?_⟩
          · show (zVs out).length < sizeLine
            unfold zVs
            rw [List.length_map]
            omega
          generalize hH7 : upd H6 x (.lst (zVs out ++ [V.int ((zVs (ansOf b q)).length : Int)])) = H7
          have hx7 : H7 x = some (.lst (zVs (out ++ [((ansOf b q).length : Int)]))) := by
            rw [← hH7, upd_same]
            unfold zVs
            rw [List.map_append, List.length_map]
            rfl
          have kp7 : ∀ a o, H6 a = some o → a ≠ x → H7 a = some o := fun a o e ha => by rw [← hH7, upd_ne ha]; exact e
          refine ⟨_, rfl, .inl ⟨rfl, _, SqL.of hx7⟩, _, rfl, x, p, _, _, rfl, rfl, hx7, kp7 _ _ e6 npx, ?_, ?_⟩
          · unfold zVs
            rw [List.length_map, List.length_map, List.length_append, List.length_singleton]
            omega
          generalize hH8 : upd H7 x (.lst (zVs (out ++ [((ansOf b q).length : Int)]) ++ zVs (ansOf b q))) = H8
          have hx8 : H8 x = some (.lst (zVs (out ++ [((ansOf b q).length : Int)] ++ ansOf b q))) := by
            rw [← hH8, upd_same]
            unfold zVs
            rw [List.map_append (l₁ := out ++ [((ansOf b q).length : Int)])]
          have kp8 : ∀ a o, H6 a = some o → a ≠ x → H8 a = some o := fun a o e ha => by rw [← hH8, upd_ne ha]; exact kp7 a o e ha
          refine ⟨_, rfl, _, _, rfl, rfl, ?_⟩
          have ePl : ((done ++ [q]).flatMap encQ).length = pl + 2 + (numsOf q).length + 1 := by
            rw [List.flatMap_append, List.length_append, hpl]
            show pl + ((encQ q) ++ []).length = _
            rw [List.append_nil]
            unfold encQ
            rw [List.length_cons, List.length_cons, List.length_append]
            simp only [List.length_cons, List.length_nil]
            omega
          refine ⟨⟨done ++ [q], rest, (Si37.step b q).1, A6, out ++ [((ansOf b q).length : Int)] ++ ansOf b q, some (V.int ((pl : Int) + 2)), some (V.int ((pl : Int) + 2 + ((numsOf q).length : Int))), some (V.ref p), ?_, ?_, hA6.trans hAbk, B6.keep hx6 (fun a h => h) kp8, hx8, ?_, ?_⟩, ?_⟩
          · rw [ePl]
            show [some (V.ref cl), some (V.ref bk), some (V.ref x), some (V.int ((pl : Int) + 2 + ((numsOf q).length : Int) + 1)), some (V.int ((pl : Int) + 2)), some (V.int ((pl : Int) + 2 + ((numsOf q).length : Int))), some (V.ref p)] = _
            rw [show (((pl + 2 + (numsOf q).length + 1 : Nat)) : Int) = (pl : Int) + 2 + ((numsOf q).length : Int) + 1 by omega]
          · rw [hqs, List.append_assoc]; rfl
          · rw [← hout]
            simp only [List.append_assoc, List.cons_append, List.nil_append]
          · exact hcl6.keep fun b ob u e => kp8 _ _ e (ne_of e hx6 (by intro z; cases z))
          · show L.length - ((pl : Int) + 2 + ((numsOf q).length : Int) + 1).toNat < L.length - ((pl : Int)).toNat
            omega
      · have h0 : ¬ (((done.flatMap encQ).length : Nat) : Int) < ((nVs (qs.flatMap encQ)).length : Int) := h0
        rw [nVs_length] at h0
        cases rest with
        | cons q rest =>
          rw [hqs, List.flatMap_append, List.flatMap_cons, List.length_append, List.length_append] at h0
          have : 0 < (encQ q).length := by unfold encQ; rw [List.length_cons]; omega
          omega
        | nil =>
          refine ⟨_, rfl, ?_⟩
          have e : out = toldQ Si37.init qs := by rw [← hout]; exact (List.append_nil _).symm
          rw [e] at hx'
          exact k H' x hx'
    · intro σ H' Q1 Q2 hq h
      obtain ⟨v, e, v', e', p, ys, h1, h2, i, j, h3, h4, kk, h5, h6⟩ := h
      exact ⟨v, e, v', e', p, ys, h1, h2, i, j, h3, h4, kk, h5, hq _ _ h6⟩
end
end Tr

set_option Elab.async false
set_option linter.all false
set_option maxRecDepth 100000
set_option maxHeartbeats 4000000
namespace Tr
open PySem PySem.Spec PyProof.Rows L2
section
variable {P : Program} {w : World} {K : PySem.W.Frag} {mg : Str → Option Value} {base : Heap} {t : Ad}
theorem sc_aCall : FnScope ["book", "call", "numbers"] ["book", "call", "numbers"] (defScope s_answer_call) := ⟨rfl, rfl, rfl, by decide +kernel, rfl, by decide +kernel, by decide +kernel⟩
theorem ok_aCall {f : Addr} {fd : FuncData} (F : Fun K "answer_call" "answer_call" s_answer_call f fd) (T : Txt K mg t) (G0 : Fn P w K mg base 4 "answer_begins" ["book", "numbers"] (spABegins t)) (G1 : Fn P w K mg base 4 "answer_para" ["book", "numbers"] (spAPara t)) (G2 : Fn P w K mg base 9 "answer_behind_passes" ["book", "call", "n"] (spBehindA t))
    (G3 : Fn P w K mg base 9 "answer_settles" ["book"] (spASettles t)) (G6 : Fn P w K mg base 8 "answer_trues" ["book"] (spATrues t)) (G7 : Fn P w K mg base 2 "answer_missing_marks" ["book"] (spAOpen t)) : FnOk P w K mg base CX0 10 f fd ["book", "call", "numbers"] (spACall t) := by
  refine F.ok sc_aCall (fun vs H Q E h => ?_) (fun cdv A outer s H vs Q E hr h => ?_)
  · obtain ⟨_, _, _, _, _, rfl, _⟩ := h
    rfl
  · obtain ⟨A, Fo, b, q, na, rfl, B, hn, hfew, hFo, k⟩ := h
    have hr4 : Room 4 _ := hr.mono (by decide)
    have hr8 : Room 8 _ := hr.mono (by decide)
    have hr2 : Room 2 _ := hr.mono (by decide)
    refine ⟨_, pss_cons (ps_if (pt_cmpR op_eq (pv 1) (pe_gint T.cBEGINS) (nomark _)) (pss_one (ps_ret (pe_fn G0 hr4 (pa_cons (pv 0) (pa_cons (pv 2) pa_nil))))) pss_nil)
      (pss_cons (ps_if (pt_cmpR op_eq (pv 1) (pe_gint T.cPARA) (nomark _)) (pss_one (ps_ret (pe_fn G1 hr4 (pa_cons (pv 0) (pa_cons (pv 2) pa_nil))))) pss_nil)
      (pss_cons (ps_if (pt_cmpR op_in_seq (pv 1) (pe_tup (pa_cons (pe_gint T.cPASS) (pa_cons (pe_gint T.cLINES) (pa_cons (pe_gint T.cSHOWN) pa_nil)))) rfl) (pss_one (ps_ret (pe_fn G2 hr (pa_cons (pv 0) (pa_cons (pv 1) (pa_cons (pe_ix ix_list (pv 2) pe_int (fun _ _ => rfl)) pa_nil)))))) pss_nil)
      (pss_cons (ps_if (pt_cmpR op_eq (pv 1) (pe_gint T.cSETTLES) (nomark _)) (pss_one (ps_ret (pe_fn G3 hr (pa_cons (pv 0) pa_nil)))) pss_nil)
      (pss_cons (ps_if (pt_cmpR op_eq (pv 1) (pe_gint T.cTRUES) (nomark _)) (pss_one (ps_ret (pe_fn G6 hr8 (pa_cons (pv 0) pa_nil)))) pss_nil)
      (pss_one (ps_ret (pe_fn G7 hr2 (pa_cons (pv 0) pa_nil)))))))), ?_⟩
    refine ⟨_, rfl, rfl, _, rfl, iteI (fun h0 => ?_) (fun h0 => ?_)⟩
    · cases q with
      | begins fm => exact ⟨_, rfl, _, rfl, A, Fo, b, fm, na, rfl, B, hn, hFo, k⟩
      | _ => exact absurd h0 (by simp [numOf])
    · refine ⟨_, rfl, rfl, _, rfl, iteI (fun h1 => ?_) (fun h1 => ?_)⟩
      · cases q with
        | para pa => exact ⟨_, rfl, _, rfl, A, Fo, b, pa, na, rfl, B, hn, hfew, hFo, k⟩
        | _ => exact absurd h1 (by simp [numOf])
      · refine ⟨_, rfl, (by show 3 ≤ sizeLine; decide), fun tp htp => ?_⟩
        have s1 : Same H (upd H tp (.tup [V.int 2, V.int 4, V.int 5])) := (Same.refl H).new htp
        have B1 := B.same s1
        have hn1 := s1 _ _ hn
        have k1 := k.up s1
        have hF1 : ∀ a, (upd H tp (.tup [V.int 2, V.int 4, V.int 5])) a = none → Fo a := fun a ha => hFo a (s1.free ha)
        refine ⟨tp, _, rfl, .inr (SqT.of upd_same), rfl, rfl, _, rfl, ?_⟩
        cases q with
        | begins fm => exact absurd rfl h0
        | para pa => exact absurd rfl h1
        | pass n => exact iteT ⟨_, rfl, _, rfl, _, rfl, na, _, _, _, rfl, rfl, SqL.of hn1, atI_nat (j := 0) rfl, A, Fo, b, .pass n, n, rfl, B1, .inl rfl, hF1, k1⟩
        | lines n => exact iteT ⟨_, rfl, _, rfl, _, rfl, na, _, _, _, rfl, rfl, SqL.of hn1, atI_nat (j := 0) rfl, A, Fo, b, .lines n, n, rfl, B1, .inr (.inl rfl), hF1, k1⟩
        | shown n => exact iteT ⟨_, rfl, _, rfl, _, rfl, na, _, _, _, rfl, rfl, SqL.of hn1, atI_nat (j := 0) rfl, A, Fo, b, .shown n, n, rfl, B1, .inr (.inr rfl), hF1, k1⟩
        | settles => exact iteF ⟨_, rfl, rfl, _, rfl, iteT ⟨_, rfl, A, Fo, b, rfl, B1, hF1, k1⟩⟩
        | trues => exact iteF ⟨_, rfl, rfl, _, rfl, iteF ⟨_, rfl, rfl, _, rfl, iteT ⟨_, rfl, A, Fo, b, rfl, B1, k1⟩⟩⟩
        | open_ => exact iteF ⟨_, rfl, rfl, _, rfl, iteF ⟨_, rfl, rfl, _, rfl, iteF ⟨_, rfl, A, Fo, b, rfl, B1, k1⟩⟩⟩
end
end Tr

set_option Elab.async false
set_option linter.all false
set_option maxRecDepth 100000
set_option maxHeartbeats 0
namespace Tr
open PySem PySem.W PySem.Calls PyProof.Rows L2
noncomputable section
def tu (l : List Value) : Obj := ⟨.type "tuple", none, .seq ⟨l⟩ 0, #[]⟩
def fl (c : Value) (l : List Value) : Obj := ⟨c, none, .fields ⟨l⟩, #[]⟩
def kv (P : Params) (x : Str) (t : Nat) (v : Value) : DictEntry := ⟨PyData.keyHash P x, .str x t, v⟩
def nf (n q : Str) (s : Stmt) : Obj := ⟨.none, none, .func ⟨n, q, defArgs s, .stmts (defBody s), defScope s, 0, [], .none, .none, .none, .none, none, .none, .none, 0⟩, #[]⟩
def fo (n q : Str) (s : Stmt) (m : Str) (t c : Nat) : Obj := ⟨.type "function", none, .func (PySem.W.fnOf n q (defArgs s) (defBody s) (defScope s) .none .none .none (.str m t) none (.ref c) .none), #[]⟩
def cd (n q : Str) (a : Nat) (l x y z u : Int) (r : Nat) (b : Bool) (e : Nat) (i j k h : Value) (t : Nat) : Obj :=
  ⟨.type "code", none, .fields #[.str n a, .str q (a + 1), .str "/claim/cut.py" (a + 2), .int l 0, .int x 0, .int y 0, .int z 0, .int u 0, .ref r, .bool b, .int 181 0, .ref e, i, j, k, h, .int (Int.ofNat t) 0, .int l 0, .str "/claim/cut.py" (t + 1)], #[]⟩
def o3 (P : Params) : Obj := let k := kv P; ⟨(.type "dict"), none, (.dict #[k "__name__" 165 (.str "truerefs.book" 588), k "__doc__" 166 .none, k "__package__" 167 .none, k "__loader__" 168 (.builtin "__main__.__loader__#opaque"), k "__spec__" 169 .none, k "__annotations__" 170 (.ref 6), k "__builtins__" 171 (.ref 4), k "__file__" 173 (.str "/claim/cut.py" 172), k "__cached__" 174 .none, k "MOST_WIDE" 190 (.int 200 189), k "MOST_HIGH" 192 (.int 100 191), k "MOST_FIRST_PAGE" 194 (.int 3000 193), k "MOST_PHRASE" 196 (.int 50 195), k "Frame" 235 (.ref 31), k "first_frame" 241 (.ref 42), k "frame_of" 248 (.ref 49), k "frame_is_allowed" 255 (.ref 56), k "PLAIN" 259 (.int 0 258), k "DIGITS" 261 (.int 1 260), k "ROMAN" 263 (.int 2 262), k "HOW_FAR" 265 (.int 3 264), k "MOST_LENGTH" 267 (.int 200 266), k "MOST_MARK" 269 (.int 20 268), k "NO_MARK" 271 (.int 0 270), k "Word" 304 (.ref 73), k "words_told" 310 (.ref 82), k "word_is_allowed" 318 (.ref 89), k "has_mark_twice" 324 (.ref 94), k "marks_told_of" 333 (.ref 101), k "NOT_KNOWN" 337 (.int 0 336), k "LENGTH_NOT_KNOWN" 339 (.int 1 338), k "TELLS_NOTHING" 341 (.int 0 340), k "TELLS_PAGE" 343 (.int 1 342), k "TELLS_HERE" 345 (.int 2 344), k "TELLS_NEXT_PAGE" 347 (.int 3 346), k "ROMAN_SIGNS" 358 (.ref 102), k "digits_length" 365 (.ref 109), k "roman_length" 374 (.ref 116), k "number_length" 383 (.ref 123), k "what_is_told" 392 (.ref 130), k "reference_length" 403 (.ref 137), k "mark_page_in" 412 (.ref 144), k "word_lengths" 426 (.ref 151), k "MOST_PASSES" 430 (.int 400 429), k "paragraph_line" 440 (.ref 158), k "word_lines" 454 (.ref 165), k "page_of_line" 462 (.ref 172), k "lines_by" 471 (.ref 179), k "next_setting" 477 (.ref 184), k "Course" 523 (.ref 215), k "course_of" 529 (.ref 224), k "MOST_COUNTING" 533 (.int 3 532), k "MOST_PAGES_ABOVE" 535 (.int 30 534), k "words_that_count" 541 (.ref 229), k "last_page_there_may_be" 554 (.ref 236), k "has_too_many_tries" 562 (.ref 243), k "rising_pages" 568 (.ref 248), k "setting_with" 574 (.ref 253), k "true_settings" 580 (.ref 258), k "first_setting" 587 (.ref 265), k "BEGINS" 591 (.int 0 590), k "PARA" 593 (.int 1 592), k "PASS" 595 (.int 2 594), k "SETTLES" 597 (.int 3 596), k "LINES" 599 (.int 4 598), k "SHOWN" 601 (.int 5 600), k "TRUES" 603 (.int 6 602), k "OUT_OF_RANGE" 606 (.int (-1) 605), k "MARK_TWICE" 609 (.int (-3) 608), k "TOO_MANY" 612 (.int (-5) 611), k "NEVER_AGAIN" 615 (.int (-7) 614), k "MOST_WORDS" 617 (.int 200 616), k "Book" 675 (.ref 303), k "answer_begins" 684 (.ref 314), k "answer_para" 690 (.ref 319), k "last_page" 697 (.ref 326), k "answer_settles" 705 (.ref 333), k "pages_answered" 712 (.ref 340), k "lines_answered" 718 (.ref 345), k "what_reference_tells" 730 (.ref 352), k "references_answered" 736 (.ref 357), k "answer_behind_passes" 746 (.ref 364), k "answer_trues" 754 (.ref 371), k "answer_missing_marks" 760 (.ref 376), k "answer_call" 769 (.ref 383), k "answers" 782 (.ref 390)] 86), #[]⟩
def o11 := tu []
def o12 := fl .none [.int 6 0, .int 0 0, .ref 20, .int 15 0, .int 0 0, .ref 41, .int 17 0, .int 0 0, .ref 48, .int 19 0, .int 0 0, .ref 55, .int 29 0, .int 0 0, .ref 62, .int 35 0, .int 0 0, .ref 81, .int 37 0, .int 0 0, .ref 88, .int 40 0, .int 0 0, .ref 93, .int 45 0, .int 0 0, .ref 100, .int 59 0, .int 0 0, .ref 108, .int 61 0, .int 0 0, .ref 115, .int 68 0, .int 0 0, .ref 122, .int 74 0, .int 0 0, .ref 129, .int 86 0, .int 0 0, .ref 136, .int 95 0, .int 0 0, .ref 143, .int 99 0, .int 0 0, .ref 150, .int 110 0, .int 0 0, .ref 157, .int 115 0, .int 0 0, .ref 164, .int 130 0, .int 0 0, .ref 171, .int 132 0, .int 0 0, .ref 178, .int 135 0, .int 0 0, .ref 183, .int 137 0, .int 0 0, .ref 190, .int 150 0, .int 0 0, .ref 223, .int 165 0, .int 0 0, .ref 228, .int 168 0, .int 0 0, .ref 235, .int 176 0, .int 0 0, .ref 242, .int 179 0, .int 0 0, .ref 247, .int 188 0, .int 0 0, .ref 252, .int 193 0, .int 0 0, .ref 257, .int 201 0, .int 0 0, .ref 264, .int 216 0, .int 0 0, .ref 271, .int 240 0, .int 0 0, .ref 313, .int 246 0, .int 0 0, .ref 318, .int 256 0, .int 0 0, .ref 325, .int 260 0, .int 0 0, .ref 332, .int 267 0, .int 0 0, .ref 339, .int 269 0, .int 0 0, .ref 344, .int 277 0, .int 0 0, .ref 351, .int 284 0, .int 0 0, .ref 356, .int 292 0, .int 0 0, .ref 363, .int 301 0, .int 0 0, .ref 370, .int 308 0, .int 0 0, .ref 375, .int 311 0, .int 0 0, .ref 382, .int 323 0, .int 0 0, .ref 389]
def o13 := cd "<module>" "<module>" 182 1 0 0 0 0 11 false 12 .none .none .none .none 185
def o14 := (⟨(.type "frame"), none, .plain, #[(some (.ref 13)), (some (.ref 3)), (some (.ref 3)), none, (some (.str "__main__" 164)), none, (some (.ref 0))]⟩ : Obj)
def o15 := tu []
def o16 := fl (.type "builtin_function_or_method") [.builtin "type.__prepare__", .type "type"]
def o17 (P : Params) : Obj := let k := kv P; ⟨(.type "dict"), none, (.dict #[k "__module__" 204 (.str "truerefs.frame" 187), k "__qualname__" 206 (.str "Frame" 205), k "__firstlineno__" 208 (.int 6 207), k "__init__" 221 (.ref 28), k "__static_attributes__" 228 (.ref 29)] 5), #[]⟩
def o18 := tu []
def o19 := fl .none [.int 8 0, .int 4 0, .ref 27]
def o20 := cd "Frame" "Frame" 199 6 0 0 0 0 18 false 19 .none .none .none .none 202
def o21 := (⟨(.type "frame"), none, .plain, #[(some (.ref 20)), (some (.ref 3)), (some (.ref 17)), none, (some (.str "truerefs.frame" 187)), none, (some (.ref 0))]⟩ : Obj)
def o22 := tu []
def o23 := fl .none []
def o24 := tu [.str "self" 212, .str "wide" 213, .str "high" 214, .str "first_page" 215, .str "here" 216, .str "next_page" 217, .str "before" 218]
def o25 := tu []
def o26 := nf "__init__" "Frame.__init__" s_Frame_init
def o27 := cd "__init__" "Frame.__init__" 209 8 7 0 0 3 22 true 23 .none (.ref 24) (.ref 25) (.ref 26) 219
def o28 := fo "__init__" "Frame.__init__" s_Frame_init "truerefs.frame" 187 27
def o29 := tu [.str "before" 222, .str "first_page" 223, .str "here" 224, .str "high" 225, .str "next_page" 226, .str "wide" 227]
def o30 (P : Params) : Obj := let k := kv P; ⟨(.type "dict"), none, (.dict #[k "__module__" 204 (.str "truerefs.frame" 187), k "__firstlineno__" 208 (.int 6 207), k "__init__" 221 (.ref 28), k "__static_attributes__" 228 (.ref 29), k "__dict__" 230 (.ref 32), k "__weakref__" 232 (.ref 33), k "__doc__" 233 .none] 4), #[]⟩
def o31 := (⟨(.type "type"), none, (.cls ⟨"Frame", [(.type "object")], [(.ref 31), (.type "object")], 30, "Frame", true, [], [], false, none, false⟩), #[none, none, (some (.str "Frame" 197)), (some (.str "Frame" 205)), (some (.builtin "object.__new__")), (some (.bool true))]⟩ : Obj)
def o32 := fl (.type "getset_descriptor") [.str "__dict__" 229, .ref 31, .builtin "function.__dict__", .builtin "function.__dict__#set"]
def o33 := fl (.type "getset_descriptor") [.str "__weakref__" 231, .ref 31, .builtin "ExceptionGroup.__weakref__", .none]
def o34 := fl (.type "super") [.ref 31, .ref 31, .ref 31]
def o35 := fl (.type "builtin_function_or_method") [.builtin "object.__init_subclass__", .ref 31]
def o36 := tu []
def o37 := fl .none []
def o38 := tu []
def o39 := tu []
def o40 := nf "first_frame" "first_frame" s_first_frame
def o41 := cd "first_frame" "first_frame" 236 15 0 0 0 3 36 true 37 .none (.ref 38) (.ref 39) (.ref 40) 239
def o42 := fo "first_frame" "first_frame" s_first_frame "truerefs.frame" 187 41
def o43 := tu []
def o44 := fl .none []
def o45 := tu [.str "numbers" 245]
def o46 := tu []
def o47 := nf "frame_of" "frame_of" s_frame_of
def o48 := cd "frame_of" "frame_of" 242 17 1 0 0 3 43 true 44 .none (.ref 45) (.ref 46) (.ref 47) 246
def o49 := fo "frame_of" "frame_of" s_frame_of "truerefs.frame" 187 48
def o50 := tu []
def o51 := fl .none []
def o52 := tu [.str "frame" 252]
def o53 := tu []
def o54 := nf "frame_is_allowed" "frame_is_allowed" s_frame_is_allowed
def o55 := cd "frame_is_allowed" "frame_is_allowed" 249 19 1 0 0 3 50 true 51 .none (.ref 52) (.ref 53) (.ref 54) 253
def o56 := fo "frame_is_allowed" "frame_is_allowed" s_frame_is_allowed "truerefs.frame" 187 55
def o57 := tu []
def o58 := fl (.type "builtin_function_or_method") [.builtin "type.__prepare__", .type "type"]
def o59 (P : Params) : Obj := let k := kv P; ⟨(.type "dict"), none, (.dict #[k "__module__" 279 (.str "truerefs.words" 256), k "__qualname__" 281 (.str "Word" 280), k "__firstlineno__" 283 (.int 29 282), k "__init__" 293 (.ref 70), k "__static_attributes__" 297 (.ref 71)] 5), #[]⟩
def o60 := tu []
def o61 := fl .none [.int 31 0, .int 4 0, .ref 69]
def o62 := cd "Word" "Word" 274 29 0 0 0 0 60 false 61 .none .none .none .none 277
def o63 := (⟨(.type "frame"), none, .plain, #[(some (.ref 62)), (some (.ref 3)), (some (.ref 59)), none, (some (.str "truerefs.words" 256)), none, (some (.ref 0))]⟩ : Obj)
def o64 := tu []
def o65 := fl .none []
def o66 := tu [.str "self" 287, .str "kind" 288, .str "told" 289, .str "own_mark" 290]
def o67 := tu []
def o68 := nf "__init__" "Word.__init__" s_Word_init
def o69 := cd "__init__" "Word.__init__" 284 31 4 0 0 3 64 true 65 .none (.ref 66) (.ref 67) (.ref 68) 291
def o70 := fo "__init__" "Word.__init__" s_Word_init "truerefs.words" 256 69
def o71 := tu [.str "kind" 294, .str "own_mark" 295, .str "told" 296]
def o72 (P : Params) : Obj := let k := kv P; ⟨(.type "dict"), none, (.dict #[k "__module__" 279 (.str "truerefs.words" 256), k "__firstlineno__" 283 (.int 29 282), k "__init__" 293 (.ref 70), k "__static_attributes__" 297 (.ref 71), k "__dict__" 299 (.ref 74), k "__weakref__" 301 (.ref 75), k "__doc__" 302 .none] 4), #[]⟩
def o73 := (⟨(.type "type"), none, (.cls ⟨"Word", [(.type "object")], [(.ref 73), (.type "object")], 72, "Word", true, [], [], false, none, false⟩), #[none, none, (some (.str "Word" 272)), (some (.str "Word" 280)), (some (.builtin "object.__new__")), (some (.bool true))]⟩ : Obj)
def o74 := fl (.type "getset_descriptor") [.str "__dict__" 298, .ref 73, .builtin "function.__dict__", .builtin "function.__dict__#set"]
def o75 := fl (.type "getset_descriptor") [.str "__weakref__" 300, .ref 73, .builtin "ExceptionGroup.__weakref__", .none]
def o76 := fl (.type "super") [.ref 73, .ref 73, .ref 73]
def o77 := fl (.type "builtin_function_or_method") [.builtin "object.__init_subclass__", .ref 73]
def o78 := tu []
def o79 := fl .none []
def o80 := nf "words_told" "words_told" s_words_told
def o81 := cd "words_told" "words_told" 305 35 1 0 0 3 78 true 79 .none .none .none (.ref 80) 308
def o82 := fo "words_told" "words_told" s_words_told "truerefs.words" 256 81
def o83 := tu []
def o84 := fl .none []
def o85 := tu [.str "word" 314, .str "most" 315]
def o86 := tu []
def o87 := nf "word_is_allowed" "word_is_allowed" s_word_is_allowed
def o88 := cd "word_is_allowed" "word_is_allowed" 311 37 1 0 0 3 83 true 84 .none (.ref 85) (.ref 86) (.ref 87) 316
def o89 := fo "word_is_allowed" "word_is_allowed" s_word_is_allowed "truerefs.words" 256 88
def o90 := tu []
def o91 := fl .none []
def o92 := nf "has_mark_twice" "has_mark_twice" s_has_mark_twice
def o93 := cd "has_mark_twice" "has_mark_twice" 319 40 2 0 0 3 90 true 91 .none .none .none (.ref 92) 322
def o94 := fo "has_mark_twice" "has_mark_twice" s_has_mark_twice "truerefs.words" 256 93
def o95 := tu []
def o96 := fl .none []
def o97 := tu [.str "words" 328, .str "told_of" 329, .str "word" 330]
def o98 := tu []
def o99 := nf "marks_told_of" "marks_told_of" s_marks_told_of
def o100 := cd "marks_told_of" "marks_told_of" 325 45 1 0 0 3 95 true 96 .none (.ref 97) (.ref 98) (.ref 99) 331
def o101 := fo "marks_told_of" "marks_told_of" s_marks_told_of "truerefs.words" 256 100
def o102 := tu [.int 0 348, .int 1 349, .int 2 350, .int 3 351, .int 2 352, .int 1 353, .int 2 354, .int 3 355, .int 4 356, .int 2 357]
def o103 := tu []
def o104 := fl .none []
def o105 := tu [.str "page" 362]
def o106 := tu []
def o107 := nf "digits_length" "digits_length" s_digits_length
def o108 := cd "digits_length" "digits_length" 359 59 1 0 0 3 103 true 104 .none (.ref 105) (.ref 106) (.ref 107) 363
def o109 := fo "digits_length" "digits_length" s_digits_length "truerefs.lengths" 334 108
def o110 := tu []
def o111 := fl .none []
def o112 := tu [.str "page" 369, .str "length" 370, .str "rest" 371]
def o113 := tu []
def o114 := nf "roman_length" "roman_length" s_roman_length
def o115 := cd "roman_length" "roman_length" 366 61 1 0 0 3 110 true 111 .none (.ref 112) (.ref 113) (.ref 114) 372
def o116 := fo "roman_length" "roman_length" s_roman_length "truerefs.lengths" 334 115
def o117 := tu []
def o118 := fl .none []
def o119 := tu [.str "frame" 378, .str "kind" 379, .str "page" 380]
def o120 := tu []
def o121 := nf "number_length" "number_length" s_number_length
def o122 := cd "number_length" "number_length" 375 68 3 0 0 3 117 true 118 .none (.ref 119) (.ref 120) (.ref 121) 381
def o123 := fo "number_length" "number_length" s_number_length "truerefs.lengths" 334 122
def o124 := tu []
def o125 := fl .none []
def o126 := tu [.str "kind" 387, .str "own_page" 388, .str "mark_page" 389]
def o127 := tu []
def o128 := nf "what_is_told" "what_is_told" s_what_is_told
def o129 := cd "what_is_told" "what_is_told" 384 74 3 0 0 3 124 true 125 .none (.ref 126) (.ref 127) (.ref 128) 390
def o130 := fo "what_is_told" "what_is_told" s_what_is_told "truerefs.lengths" 334 129
def o131 := tu []
def o132 := fl .none []
def o133 := tu [.str "frame" 396, .str "kind" 397, .str "own_page" 398, .str "mark_page" 399, .str "told" 400]
def o134 := tu []
def o135 := nf "reference_length" "reference_length" s_reference_length
def o136 := cd "reference_length" "reference_length" 393 86 4 0 0 3 131 true 132 .none (.ref 133) (.ref 134) (.ref 135) 401
def o137 := fo "reference_length" "reference_length" s_reference_length "truerefs.lengths" 334 136
def o138 := tu []
def o139 := fl .none []
def o140 := tu [.str "marks" 407, .str "mark" 408, .str "setting" 409]
def o141 := tu []
def o142 := nf "mark_page_in" "mark_page_in" s_mark_page_in
def o143 := cd "mark_page_in" "mark_page_in" 404 95 3 0 0 3 138 true 139 .none (.ref 140) (.ref 141) (.ref 142) 410
def o144 := fo "mark_page_in" "mark_page_in" s_mark_page_in "truerefs.lengths" 334 143
def o145 := tu []
def o146 := fl .none []
def o147 := tu [.str "frame" 416, .str "words" 417, .str "marks" 418, .str "setting" 419, .str "lengths" 420, .str "word" 421, .str "own_page" 422, .str "mark_page" 423]
def o148 := tu []
def o149 := nf "word_lengths" "word_lengths" s_word_lengths
def o150 := cd "word_lengths" "word_lengths" 413 99 4 0 0 3 145 true 146 .none (.ref 147) (.ref 148) (.ref 149) 424
def o151 := fo "word_lengths" "word_lengths" s_word_lengths "truerefs.lengths" 334 150
def o152 := tu []
def o153 := fl .none []
def o154 := tu [.str "frame" 434, .str "line" 435, .str "begins_page" 436, .str "pages_before" 437]
def o155 := tu []
def o156 := nf "paragraph_line" "paragraph_line" s_paragraph_line
def o157 := cd "paragraph_line" "paragraph_line" 431 110 3 0 0 3 152 true 153 .none (.ref 154) (.ref 155) (.ref 156) 438
def o158 := fo "paragraph_line" "paragraph_line" s_paragraph_line "truerefs.passes" 427 157
def o159 := tu []
def o160 := fl .none []
def o161 := tu [.str "frame" 444, .str "openings" 445, .str "lengths" 446, .str "lines" 447, .str "line" 448, .str "used" 449, .str "number" 450, .str "length" 451]
def o162 := tu []
def o163 := nf "word_lines" "word_lines" s_word_lines
def o164 := cd "word_lines" "word_lines" 441 115 3 0 0 3 159 true 160 .none (.ref 161) (.ref 162) (.ref 163) 452
def o165 := fo "word_lines" "word_lines" s_word_lines "truerefs.passes" 427 164
def o166 := tu []
def o167 := fl .none []
def o168 := tu [.str "frame" 458, .str "line" 459]
def o169 := tu []
def o170 := nf "page_of_line" "page_of_line" s_page_of_line
def o171 := cd "page_of_line" "page_of_line" 455 130 2 0 0 3 166 true 167 .none (.ref 168) (.ref 169) (.ref 170) 460
def o172 := fo "page_of_line" "page_of_line" s_page_of_line "truerefs.passes" 427 171
def o173 := tu []
def o174 := fl .none []
def o175 := tu [.str "book" 466, .str "setting" 467, .str "lengths" 468]
def o176 := tu []
def o177 := nf "lines_by" "lines_by" s_lines_by
def o178 := cd "lines_by" "lines_by" 463 132 2 0 0 3 173 true 174 .none (.ref 175) (.ref 176) (.ref 177) 469
def o179 := fo "lines_by" "lines_by" s_lines_by "truerefs.passes" 427 178
def o180 := tu []
def o181 := fl .none []
def o182 := nf "next_setting" "next_setting" s_next_setting
def o183 := cd "next_setting" "next_setting" 472 135 2 0 0 3 180 true 181 .none .none .none (.ref 182) 475
def o184 := fo "next_setting" "next_setting" s_next_setting "truerefs.passes" 427 183
def o185 := tu []
def o186 := fl (.type "builtin_function_or_method") [.builtin "type.__prepare__", .type "type"]
def o187 (P : Params) : Obj := let k := kv P; ⟨(.type "dict"), none, (.dict #[k "__module__" 485 (.str "truerefs.passes" 427), k "__qualname__" 487 (.str "Course" 486), k "__firstlineno__" 489 (.int 137 488), k "__init__" 498 (.ref 198), k "ring_length" 505 (.ref 205), k "setting_behind" 513 (.ref 212), k "__static_attributes__" 516 (.ref 213)] 7), #[]⟩
def o188 := tu []
def o189 := fl .none [.int 139 0, .int 4 0, .ref 197, .int 143 0, .int 4 0, .ref 204, .int 146 0, .int 4 0, .ref 211]
def o190 := cd "Course" "Course" 480 137 0 0 0 0 188 false 189 .none .none .none .none 483
def o191 := (⟨(.type "frame"), none, .plain, #[(some (.ref 190)), (some (.ref 3)), (some (.ref 187)), none, (some (.str "truerefs.passes" 427)), none, (some (.ref 0))]⟩ : Obj)
def o192 := tu []
def o193 := fl .none []
def o194 := tu [.str "self" 493, .str "settings" 494, .str "back" 495]
def o195 := tu []
def o196 := nf "__init__" "Course.__init__" s_Course_init
def o197 := cd "__init__" "Course.__init__" 490 139 3 0 0 3 192 true 193 .none (.ref 194) (.ref 195) (.ref 196) 496
def o198 := fo "__init__" "Course.__init__" s_Course_init "truerefs.passes" 427 197
def o199 := tu []
def o200 := fl .none []
def o201 := tu [.str "self" 502]
def o202 := tu []
def o203 := nf "ring_length" "Course.ring_length" s_Course_ring_length
def o204 := cd "ring_length" "Course.ring_length" 499 143 1 0 0 3 199 true 200 .none (.ref 201) (.ref 202) (.ref 203) 503
def o205 := fo "ring_length" "Course.ring_length" s_Course_ring_length "truerefs.passes" 427 204
def o206 := tu []
def o207 := fl .none []
def o208 := tu [.str "self" 509, .str "n" 510]
def o209 := tu []
def o210 := nf "setting_behind" "Course.setting_behind" s_Course_setting_behind
def o211 := cd "setting_behind" "Course.setting_behind" 506 146 2 0 0 3 206 true 207 .none (.ref 208) (.ref 209) (.ref 210) 511
def o212 := fo "setting_behind" "Course.setting_behind" s_Course_setting_behind "truerefs.passes" 427 211
def o213 := tu [.str "back" 514, .str "settings" 515]
def o214 (P : Params) : Obj := let k := kv P; ⟨(.type "dict"), none, (.dict #[k "__module__" 485 (.str "truerefs.passes" 427), k "__firstlineno__" 489 (.int 137 488), k "__init__" 498 (.ref 198), k "ring_length" 505 (.ref 205), k "setting_behind" 513 (.ref 212), k "__static_attributes__" 516 (.ref 213), k "__dict__" 518 (.ref 216), k "__weakref__" 520 (.ref 217), k "__doc__" 521 .none] 4), #[]⟩
def o215 := (⟨(.type "type"), none, (.cls ⟨"Course", [(.type "object")], [(.ref 215), (.type "object")], 214, "Course", true, [], [], false, none, false⟩), #[none, none, (some (.str "Course" 478)), (some (.str "Course" 486)), (some (.builtin "object.__new__")), (some (.bool true))]⟩ : Obj)
def o216 := fl (.type "getset_descriptor") [.str "__dict__" 517, .ref 215, .builtin "function.__dict__", .builtin "function.__dict__#set"]
def o217 := fl (.type "getset_descriptor") [.str "__weakref__" 519, .ref 215, .builtin "ExceptionGroup.__weakref__", .none]
def o218 := fl (.type "super") [.ref 215, .ref 215, .ref 215]
def o219 := fl (.type "builtin_function_or_method") [.builtin "object.__init_subclass__", .ref 215]
def o220 := tu []
def o221 := fl .none []
def o222 := nf "course_of" "course_of" s_course_of
def o223 := cd "course_of" "course_of" 524 150 1 0 0 3 220 true 221 .none .none .none (.ref 222) 527
def o224 := fo "course_of" "course_of" s_course_of "truerefs.passes" 427 223
def o225 := tu []
def o226 := fl .none []
def o227 := nf "words_that_count" "words_that_count" s_words_that_count
def o228 := cd "words_that_count" "words_that_count" 536 165 1 0 0 3 225 true 226 .none .none .none (.ref 227) 539
def o229 := fo "words_that_count" "words_that_count" s_words_that_count "truerefs.trues" 530 228
def o230 := tu []
def o231 := fl .none []
def o232 := tu [.str "book" 545, .str "page" 546, .str "begins" 547, .str "ends" 548, .str "begin" 549, .str "end" 550, .str "full_pages" 551]
def o233 := tu []
def o234 := nf "last_page_there_may_be" "last_page_there_may_be" s_last_page_there_may_be
def o235 := cd "last_page_there_may_be" "last_page_there_may_be" 542 168 1 0 0 3 230 true 231 .none (.ref 232) (.ref 233) (.ref 234) 552
def o236 := fo "last_page_there_may_be" "last_page_there_may_be" s_last_page_there_may_be "truerefs.trues" 530 235
def o237 := tu []
def o238 := fl .none []
def o239 := tu [.str "book" 558, .str "pages_above" 559]
def o240 := tu []
def o241 := nf "has_too_many_tries" "has_too_many_tries" s_has_too_many_tries
def o242 := cd "has_too_many_tries" "has_too_many_tries" 555 176 1 0 0 3 237 true 238 .none (.ref 239) (.ref 240) (.ref 241) 560
def o243 := fo "has_too_many_tries" "has_too_many_tries" s_has_too_many_tries "truerefs.trues" 530 242
def o244 := tu []
def o245 := fl .none []
def o246 := nf "rising_pages" "rising_pages" s_rising_pages
def o247 := cd "rising_pages" "rising_pages" 563 179 3 0 0 3 244 true 245 .none .none .none (.ref 246) 566
def o248 := fo "rising_pages" "rising_pages" s_rising_pages "truerefs.trues" 530 247
def o249 := tu []
def o250 := fl .none []
def o251 := nf "setting_with" "setting_with" s_setting_with
def o252 := cd "setting_with" "setting_with" 569 188 3 0 0 3 249 true 250 .none .none .none (.ref 251) 572
def o253 := fo "setting_with" "setting_with" s_setting_with "truerefs.trues" 530 252
def o254 := tu []
def o255 := fl .none []
def o256 := nf "true_settings" "true_settings" s_true_settings
def o257 := cd "true_settings" "true_settings" 575 193 1 0 0 3 254 true 255 .none .none .none (.ref 256) 578
def o258 := fo "true_settings" "true_settings" s_true_settings "truerefs.trues" 530 257
def o259 := tu []
def o260 := fl .none []
def o261 := tu [.str "settings" 584]
def o262 := tu []
def o263 := nf "first_setting" "first_setting" s_first_setting
def o264 := cd "first_setting" "first_setting" 581 201 1 0 0 3 259 true 260 .none (.ref 261) (.ref 262) (.ref 263) 585
def o265 := fo "first_setting" "first_setting" s_first_setting "truerefs.trues" 530 264
def o266 := tu []
def o267 := fl (.type "builtin_function_or_method") [.builtin "type.__prepare__", .type "type"]
def o268 (P : Params) : Obj := let k := kv P; ⟨(.type "dict"), none, (.dict #[k "__module__" 625 (.str "truerefs.book" 588), k "__qualname__" 627 (.str "Book" 626), k "__firstlineno__" 629 (.int 216 628), k "__init__" 637 (.ref 279), k "begin_again" 645 (.ref 286), k "add_paragraph" 655 (.ref 293), k "course" 662 (.ref 300), k "__static_attributes__" 668 (.ref 301)] 8), #[]⟩
def o269 := tu []
def o270 := fl .none [.int 218 0, .int 4 0, .ref 278, .int 221 0, .int 4 0, .ref 285, .int 228 0, .int 4 0, .ref 292, .int 236 0, .int 4 0, .ref 299]
def o271 := cd "Book" "Book" 620 216 0 0 0 0 269 false 270 .none .none .none .none 623
def o272 := (⟨(.type "frame"), none, .plain, #[(some (.ref 271)), (some (.ref 3)), (some (.ref 268)), none, (some (.str "truerefs.book" 588)), none, (some (.ref 0))]⟩ : Obj)
def o273 := tu []
def o274 := fl .none []
def o275 := tu [.str "self" 633, .str "frame" 634]
def o276 := tu []
def o277 := nf "__init__" "Book.__init__" s_Book_init
def o278 := cd "__init__" "Book.__init__" 630 218 2 0 0 3 273 true 274 .none (.ref 275) (.ref 276) (.ref 277) 635
def o279 := fo "__init__" "Book.__init__" s_Book_init "truerefs.book" 588 278
def o280 := tu []
def o281 := fl .none []
def o282 := tu [.str "self" 641, .str "frame" 642]
def o283 := tu []
def o284 := nf "begin_again" "Book.begin_again" s_Book_begin_again
def o285 := cd "begin_again" "Book.begin_again" 638 221 2 0 0 3 280 true 281 .none (.ref 282) (.ref 283) (.ref 284) 643
def o286 := fo "begin_again" "Book.begin_again" s_Book_begin_again "truerefs.book" 588 285
def o287 := tu []
def o288 := fl .none []
def o289 := tu [.str "self" 649, .str "begins_page" 650, .str "added" 651, .str "word" 652]
def o290 := tu []
def o291 := nf "add_paragraph" "Book.add_paragraph" s_Book_add_paragraph
def o292 := cd "add_paragraph" "Book.add_paragraph" 646 228 3 0 0 3 287 true 288 .none (.ref 289) (.ref 290) (.ref 291) 653
def o293 := fo "add_paragraph" "Book.add_paragraph" s_Book_add_paragraph "truerefs.book" 588 292
def o294 := tu []
def o295 := fl .none []
def o296 := tu [.str "self" 659]
def o297 := tu []
def o298 := nf "course" "Book.course" s_Book_course
def o299 := cd "course" "Book.course" 656 236 1 0 0 3 294 true 295 .none (.ref 296) (.ref 297) (.ref 298) 660
def o300 := fo "course" "Book.course" s_Book_course "truerefs.book" 588 299
def o301 := tu [.str "frame" 663, .str "known_course" 664, .str "marks" 665, .str "openings" 666, .str "words" 667]
def o302 (P : Params) : Obj := let k := kv P; ⟨(.type "dict"), none, (.dict #[k "__module__" 625 (.str "truerefs.book" 588), k "__firstlineno__" 629 (.int 216 628), k "__init__" 637 (.ref 279), k "begin_again" 645 (.ref 286), k "add_paragraph" 655 (.ref 293), k "course" 662 (.ref 300), k "__static_attributes__" 668 (.ref 301), k "__dict__" 670 (.ref 304), k "__weakref__" 672 (.ref 305), k "__doc__" 673 .none] 4), #[]⟩
def o303 := (⟨(.type "type"), none, (.cls ⟨"Book", [(.type "object")], [(.ref 303), (.type "object")], 302, "Book", true, [], [], false, none, false⟩), #[none, none, (some (.str "Book" 618)), (some (.str "Book" 626)), (some (.builtin "object.__new__")), (some (.bool true))]⟩ : Obj)
def o304 := fl (.type "getset_descriptor") [.str "__dict__" 669, .ref 303, .builtin "function.__dict__", .builtin "function.__dict__#set"]
def o305 := fl (.type "getset_descriptor") [.str "__weakref__" 671, .ref 303, .builtin "ExceptionGroup.__weakref__", .none]
def o306 := fl (.type "super") [.ref 303, .ref 303, .ref 303]
def o307 := fl (.type "builtin_function_or_method") [.builtin "object.__init_subclass__", .ref 303]
def o308 := tu []
def o309 := fl .none []
def o310 := tu [.str "book" 679, .str "numbers" 680, .str "frame" 681]
def o311 := tu []
def o312 := nf "answer_begins" "answer_begins" s_answer_begins
def o313 := cd "answer_begins" "answer_begins" 676 240 2 0 0 3 308 true 309 .none (.ref 310) (.ref 311) (.ref 312) 682
def o314 := fo "answer_begins" "answer_begins" s_answer_begins "truerefs.book" 588 313
def o315 := tu []
def o316 := fl .none []
def o317 := nf "answer_para" "answer_para" s_answer_para
def o318 := cd "answer_para" "answer_para" 685 246 2 0 0 3 315 true 316 .none .none .none (.ref 317) 688
def o319 := fo "answer_para" "answer_para" s_answer_para "truerefs.book" 588 318
def o320 := tu []
def o321 := fl .none []
def o322 := tu [.str "setting" 694]
def o323 := tu []
def o324 := nf "last_page" "last_page" s_last_page
def o325 := cd "last_page" "last_page" 691 256 1 0 0 3 320 true 321 .none (.ref 322) (.ref 323) (.ref 324) 695
def o326 := fo "last_page" "last_page" s_last_page "truerefs.book" 588 325
def o327 := tu []
def o328 := fl .none []
def o329 := tu [.str "book" 701, .str "course" 702]
def o330 := tu []
def o331 := nf "answer_settles" "answer_settles" s_answer_settles
def o332 := cd "answer_settles" "answer_settles" 698 260 1 0 0 3 327 true 328 .none (.ref 329) (.ref 330) (.ref 331) 703
def o333 := fo "answer_settles" "answer_settles" s_answer_settles "truerefs.book" 588 332
def o334 := tu []
def o335 := fl .none []
def o336 := tu [.str "setting" 709]
def o337 := tu []
def o338 := nf "pages_answered" "pages_answered" s_pages_answered
def o339 := cd "pages_answered" "pages_answered" 706 267 1 0 0 3 334 true 335 .none (.ref 336) (.ref 337) (.ref 338) 710
def o340 := fo "pages_answered" "pages_answered" s_pages_answered "truerefs.book" 588 339
def o341 := tu []
def o342 := fl .none []
def o343 := nf "lines_answered" "lines_answered" s_lines_answered
def o344 := cd "lines_answered" "lines_answered" 713 269 2 0 0 3 341 true 342 .none .none .none (.ref 343) 716
def o345 := fo "lines_answered" "lines_answered" s_lines_answered "truerefs.book" 588 344
def o346 := tu []
def o347 := fl .none []
def o348 := tu [.str "book" 722, .str "setting" 723, .str "number" 724, .str "word" 725, .str "mark_page" 726, .str "told" 727]
def o349 := tu []
def o350 := nf "what_reference_tells" "what_reference_tells" s_what_reference_tells
def o351 := cd "what_reference_tells" "what_reference_tells" 719 277 3 0 0 3 346 true 347 .none (.ref 348) (.ref 349) (.ref 350) 728
def o352 := fo "what_reference_tells" "what_reference_tells" s_what_reference_tells "truerefs.book" 588 351
def o353 := tu []
def o354 := fl .none []
def o355 := nf "references_answered" "references_answered" s_references_answered
def o356 := cd "references_answered" "references_answered" 731 284 2 0 0 3 353 true 354 .none .none .none (.ref 355) 734
def o357 := fo "references_answered" "references_answered" s_references_answered "truerefs.book" 588 356
def o358 := tu []
def o359 := fl .none []
def o360 := tu [.str "book" 740, .str "call" 741, .str "n" 742, .str "setting" 743]
def o361 := tu []
def o362 := nf "answer_behind_passes" "answer_behind_passes" s_answer_behind_passes
def o363 := cd "answer_behind_passes" "answer_behind_passes" 737 292 3 0 0 3 358 true 359 .none (.ref 360) (.ref 361) (.ref 362) 744
def o364 := fo "answer_behind_passes" "answer_behind_passes" s_answer_behind_passes "truerefs.book" 588 363
def o365 := tu []
def o366 := fl .none []
def o367 := tu [.str "book" 750, .str "settings" 751]
def o368 := tu []
def o369 := nf "answer_trues" "answer_trues" s_answer_trues
def o370 := cd "answer_trues" "answer_trues" 747 301 1 0 0 3 365 true 366 .none (.ref 367) (.ref 368) (.ref 369) 752
def o371 := fo "answer_trues" "answer_trues" s_answer_trues "truerefs.book" 588 370
def o372 := tu []
def o373 := fl .none []
def o374 := nf "answer_missing_marks" "answer_missing_marks" s_answer_missing_marks
def o375 := cd "answer_missing_marks" "answer_missing_marks" 755 308 1 0 0 3 372 true 373 .none .none .none (.ref 374) 758
def o376 := fo "answer_missing_marks" "answer_missing_marks" s_answer_missing_marks "truerefs.book" 588 375
def o377 := tu []
def o378 := fl .none []
def o379 := tu [.str "book" 764, .str "call" 765, .str "numbers" 766]
def o380 := tu []
def o381 := nf "answer_call" "answer_call" s_answer_call
def o382 := cd "answer_call" "answer_call" 761 311 3 0 0 3 377 true 378 .none (.ref 379) (.ref 380) (.ref 381) 767
def o383 := fo "answer_call" "answer_call" s_answer_call "truerefs.book" 588 382
def o384 := tu []
def o385 := fl .none []
def o386 := tu [.str "calls" 773, .str "book" 774, .str "answered" 775, .str "place" 776, .str "numbers_begin" 777, .str "numbers_end" 778, .str "answer" 779]
def o387 := tu []
def o388 := nf "answers" "answers" s_answers
def o389 := cd "answers" "answers" 770 323 1 0 0 3 384 true 385 .none (.ref 386) (.ref 387) (.ref 388) 780
def o390 := fo "answers" "answers" s_answers "truerefs.book" 588 389
def H1 : Params → Heap := fun P => ⟨⟨[PySem.W.boot_o_0 P, PySem.W.boot_o_1 P, PySem.W.boot_o_2 P, o3 P, PySem.W.boot_o_4 P, PySem.W.boot_o_5 P, PySem.W.boot_o_6 P, PySem.W.boot_o_7 P, PySem.W.boot_o_8 P, PySem.W.boot_o_9 P, PySem.W.boot_o_10 P, o11, o12, o13, o14, o15, o16, o17 P, o18, o19, o20, o21, o22, o23, o24, o25, o26, o27, o28, o29, o30 P, o31, o32, o33, o34, o35, o36, o37, o38, o39, o40, o41, o42, o43, o44, o45, o46, o47, o48, o49, o50, o51, o52, o53, o54, o55, o56, o57, o58, o59 P, o60, o61, o62, o63, o64, o65, o66, o67, o68, o69, o70, o71, o72 P, o73, o74, o75, o76, o77, o78, o79, o80, o81, o82, o83, o84, o85, o86, o87, o88, o89, o90, o91, o92, o93, o94, o95, o96, o97, o98, o99, o100, o101, o102, o103, o104, o105, o106, o107, o108, o109, o110, o111, o112, o113, o114, o115, o116, o117, o118, o119, o120, o121, o122, o123, o124, o125, o126, o127, o128, o129, o130, o131, o132, o133, o134, o135, o136, o137, o138, o139, o140, o141, o142, o143, o144, o145, o146, o147, o148, o149, o150, o151, o152, o153, o154, o155, o156, o157, o158, o159, o160, o161, o162, o163, o164, o165, o166, o167, o168, o169, o170, o171, o172, o173, o174, o175, o176, o177, o178, o179, o180, o181, o182, o183, o184, o185, o186, o187 P, o188, o189, o190, o191, o192, o193, o194, o195, o196, o197, o198, o199, o200, o201, o202, o203, o204, o205, o206, o207, o208, o209, o210, o211, o212, o213, o214 P, o215, o216, o217, o218, o219, o220, o221, o222, o223, o224, o225, o226, o227, o228, o229, o230, o231, o232, o233, o234, o235, o236, o237, o238, o239, o240, o241, o242, o243, o244, o245, o246, o247, o248, o249, o250, o251, o252, o253, o254, o255, o256, o257, o258, o259, o260, o261, o262, o263, o264, o265, o266, o267, o268 P, o269, o270, o271, o272, o273, o274, o275, o276, o277, o278, o279, o280, o281, o282, o283, o284, o285, o286, o287, o288, o289, o290, o291, o292, o293, o294, o295, o296, o297, o298, o299, o300, o301, o302 P, o303, o304, o305, o306, o307, o308, o309, o310, o311, o312, o313, o314, o315, o316, o317, o318, o319, o320, o321, o322, o323, o324, o325, o326, o327, o328, o329, o330, o331, o332, o333, o334, o335, o336, o337, o338, o339, o340, o341, o342, o343, o344, o345, o346, o347, o348, o349, o350, o351, o352, o353, o354, o355, o356, o357, o358, o359, o360, o361, o362, o363, o364, o365, o366, o367, o368, o369, o370, o371, o372, o373, o374, o375, o376, o377, o378, o379, o380, o381, o382, o383, o384, o385, o386, o387, o388, o389, o390]⟩, (PySem.W.boot_heap P).life⟩
def K0 : Params → PySem.W.Frag := fun P => ([(nat_lit 2, PySem.W.boot_o_2 P), (nat_lit 3, o3 P), (nat_lit 22, o22), (nat_lit 24, o24), (nat_lit 25, o25), (nat_lit 27, o27), (nat_lit 28, o28), (nat_lit 29, o29), (nat_lit 30, o30 P), (nat_lit 31, o31), (nat_lit 32, o32), (nat_lit 33, o33), (nat_lit 36, o36), (nat_lit 38, o38), (nat_lit 39, o39), (nat_lit 41, o41), (nat_lit 42, o42), (nat_lit 43, o43), (nat_lit 45, o45), (nat_lit 46, o46), (nat_lit 48, o48), (nat_lit 49, o49), (nat_lit 50, o50), (nat_lit 52, o52), (nat_lit 53, o53), (nat_lit 55, o55), (nat_lit 56, o56), (nat_lit 64, o64), (nat_lit 66, o66), (nat_lit 67, o67), (nat_lit 69, o69), (nat_lit 70, o70), (nat_lit 71, o71), (nat_lit 72, o72 P), (nat_lit 73, o73), (nat_lit 74, o74), (nat_lit 75, o75), (nat_lit 78, o78), (nat_lit 81, o81), (nat_lit 82, o82), (nat_lit 83, o83), (nat_lit 85, o85), (nat_lit 86, o86), (nat_lit 88, o88), (nat_lit 89, o89), (nat_lit 90, o90), (nat_lit 93, o93), (nat_lit 94, o94), (nat_lit 95, o95), (nat_lit 97, o97), (nat_lit 98, o98), (nat_lit 100, o100), (nat_lit 101, o101), (nat_lit 102, o102), (nat_lit 103, o103), (nat_lit 105, o105), (nat_lit 106, o106), (nat_lit 108, o108), (nat_lit 109, o109), (nat_lit 110, o110), (nat_lit 112, o112), (nat_lit 113, o113), (nat_lit 115, o115), (nat_lit 116, o116), (nat_lit 117, o117), (nat_lit 119, o119), (nat_lit 120, o120), (nat_lit 122, o122), (nat_lit 123, o123), (nat_lit 124, o124), (nat_lit 126, o126), (nat_lit 127, o127), (nat_lit 129, o129), (nat_lit 130, o130), (nat_lit 131, o131), (nat_lit 133, o133), (nat_lit 134, o134), (nat_lit 136, o136), (nat_lit 137, o137), (nat_lit 138, o138), (nat_lit 140, o140), (nat_lit 141, o141), (nat_lit 143, o143), (nat_lit 144, o144), (nat_lit 145, o145), (nat_lit 147, o147), (nat_lit 148, o148), (nat_lit 150, o150), (nat_lit 151, o151), (nat_lit 152, o152), (nat_lit 154, o154), (nat_lit 155, o155), (nat_lit 157, o157), (nat_lit 158, o158), (nat_lit 159, o159), (nat_lit 161, o161), (nat_lit 162, o162), (nat_lit 164, o164), (nat_lit 165, o165), (nat_lit 166, o166), (nat_lit 168, o168), (nat_lit 169, o169), (nat_lit 171, o171), (nat_lit 172, o172), (nat_lit 173, o173), (nat_lit 175, o175), (nat_lit 176, o176), (nat_lit 178, o178), (nat_lit 179, o179), (nat_lit 180, o180), (nat_lit 183, o183), (nat_lit 184, o184), (nat_lit 192, o192), (nat_lit 194, o194), (nat_lit 195, o195), (nat_lit 197, o197), (nat_lit 198, o198), (nat_lit 199, o199), (nat_lit 201, o201), (nat_lit 202, o202), (nat_lit 204, o204), (nat_lit 205, o205), (nat_lit 206, o206), (nat_lit 208, o208), (nat_lit 209, o209), (nat_lit 211, o211), (nat_lit 212, o212), (nat_lit 213, o213), (nat_lit 214, o214 P), (nat_lit 215, o215), (nat_lit 216, o216), (nat_lit 217, o217), (nat_lit 220, o220), (nat_lit 223, o223), (nat_lit 224, o224), (nat_lit 225, o225), (nat_lit 228, o228), (nat_lit 229, o229), (nat_lit 230, o230), (nat_lit 232, o232), (nat_lit 233, o233), (nat_lit 235, o235), (nat_lit 236, o236), (nat_lit 237, o237), (nat_lit 239, o239), (nat_lit 240, o240), (nat_lit 242, o242), (nat_lit 243, o243), (nat_lit 244, o244), (nat_lit 247, o247), (nat_lit 248, o248), (nat_lit 249, o249), (nat_lit 252, o252), (nat_lit 253, o253), (nat_lit 254, o254), (nat_lit 257, o257), (nat_lit 258, o258), (nat_lit 259, o259), (nat_lit 261, o261), (nat_lit 262, o262), (nat_lit 264, o264), (nat_lit 265, o265), (nat_lit 273, o273), (nat_lit 275, o275), (nat_lit 276, o276), (nat_lit 278, o278), (nat_lit 279, o279), (nat_lit 280, o280), (nat_lit 282, o282), (nat_lit 283, o283), (nat_lit 285, o285), (nat_lit 286, o286), (nat_lit 287, o287), (nat_lit 289, o289), (nat_lit 290, o290), (nat_lit 292, o292), (nat_lit 293, o293), (nat_lit 294, o294), (nat_lit 296, o296), (nat_lit 297, o297), (nat_lit 299, o299), (nat_lit 300, o300), (nat_lit 301, o301), (nat_lit 302, o302 P), (nat_lit 303, o303), (nat_lit 304, o304), (nat_lit 305, o305), (nat_lit 308, o308), (nat_lit 310, o310), (nat_lit 311, o311), (nat_lit 313, o313), (nat_lit 314, o314), (nat_lit 315, o315), (nat_lit 318, o318), (nat_lit 319, o319), (nat_lit 320, o320), (nat_lit 322, o322), (nat_lit 323, o323), (nat_lit 325, o325), (nat_lit 326, o326), (nat_lit 327, o327), (nat_lit 329, o329), (nat_lit 330, o330), (nat_lit 332, o332), (nat_lit 333, o333), (nat_lit 334, o334), (nat_lit 336, o336), (nat_lit 337, o337), (nat_lit 339, o339), (nat_lit 340, o340), (nat_lit 341, o341), (nat_lit 344, o344), (nat_lit 345, o345), (nat_lit 346, o346), (nat_lit 348, o348), (nat_lit 349, o349), (nat_lit 351, o351), (nat_lit 352, o352), (nat_lit 353, o353), (nat_lit 356, o356), (nat_lit 357, o357), (nat_lit 358, o358), (nat_lit 360, o360), (nat_lit 361, o361), (nat_lit 363, o363), (nat_lit 364, o364), (nat_lit 365, o365), (nat_lit 367, o367), (nat_lit 368, o368), (nat_lit 370, o370), (nat_lit 371, o371), (nat_lit 372, o372), (nat_lit 375, o375), (nat_lit 376, o376), (nat_lit 377, o377), (nat_lit 379, o379), (nat_lit 380, o380), (nat_lit 382, o382), (nat_lit 383, o383), (nat_lit 384, o384), (nat_lit 386, o386), (nat_lit 387, o387), (nat_lit 389, o389), (nat_lit 390, o390)] : List (Nat × Obj))
def as0 : List Addr := [nat_lit 2, nat_lit 3, nat_lit 22, nat_lit 24, nat_lit 25, nat_lit 27, nat_lit 28, nat_lit 29, nat_lit 30, nat_lit 31, nat_lit 32, nat_lit 33, nat_lit 36, nat_lit 38, nat_lit 39, nat_lit 41, nat_lit 42, nat_lit 43, nat_lit 45, nat_lit 46, nat_lit 48, nat_lit 49, nat_lit 50, nat_lit 52, nat_lit 53, nat_lit 55, nat_lit 56, nat_lit 64, nat_lit 66, nat_lit 67, nat_lit 69, nat_lit 70, nat_lit 71, nat_lit 72, nat_lit 73, nat_lit 74, nat_lit 75, nat_lit 78, nat_lit 81, nat_lit 82, nat_lit 83, nat_lit 85, nat_lit 86, nat_lit 88, nat_lit 89, nat_lit 90, nat_lit 93, nat_lit 94, nat_lit 95, nat_lit 97, nat_lit 98, nat_lit 100, nat_lit 101, nat_lit 102, nat_lit 103, nat_lit 105, nat_lit 106, nat_lit 108, nat_lit 109, nat_lit 110, nat_lit 112, nat_lit 113, nat_lit 115, nat_lit 116, nat_lit 117, nat_lit 119, nat_lit 120, nat_lit 122, nat_lit 123, nat_lit 124, nat_lit 126, nat_lit 127, nat_lit 129, nat_lit 130, nat_lit 131, nat_lit 133, nat_lit 134, nat_lit 136, nat_lit 137, nat_lit 138, nat_lit 140, nat_lit 141, nat_lit 143, nat_lit 144, nat_lit 145, nat_lit 147, nat_lit 148, nat_lit 150, nat_lit 151, nat_lit 152, nat_lit 154, nat_lit 155, nat_lit 157, nat_lit 158, nat_lit 159, nat_lit 161, nat_lit 162, nat_lit 164, nat_lit 165, nat_lit 166, nat_lit 168, nat_lit 169, nat_lit 171, nat_lit 172, nat_lit 173, nat_lit 175, nat_lit 176, nat_lit 178, nat_lit 179, nat_lit 180, nat_lit 183, nat_lit 184, nat_lit 192, nat_lit 194, nat_lit 195, nat_lit 197, nat_lit 198, nat_lit 199, nat_lit 201, nat_lit 202, nat_lit 204, nat_lit 205, nat_lit 206, nat_lit 208, nat_lit 209, nat_lit 211, nat_lit 212, nat_lit 213, nat_lit 214, nat_lit 215, nat_lit 216, nat_lit 217, nat_lit 220, nat_lit 223, nat_lit 224, nat_lit 225, nat_lit 228, nat_lit 229, nat_lit 230, nat_lit 232, nat_lit 233, nat_lit 235, nat_lit 236, nat_lit 237, nat_lit 239, nat_lit 240, nat_lit 242, nat_lit 243, nat_lit 244, nat_lit 247, nat_lit 248, nat_lit 249, nat_lit 252, nat_lit 253, nat_lit 254, nat_lit 257, nat_lit 258, nat_lit 259, nat_lit 261, nat_lit 262, nat_lit 264, nat_lit 265, nat_lit 273, nat_lit 275, nat_lit 276, nat_lit 278, nat_lit 279, nat_lit 280, nat_lit 282, nat_lit 283, nat_lit 285, nat_lit 286, nat_lit 287, nat_lit 289, nat_lit 290, nat_lit 292, nat_lit 293, nat_lit 294, nat_lit 296, nat_lit 297, nat_lit 299, nat_lit 300, nat_lit 301, nat_lit 302, nat_lit 303, nat_lit 304, nat_lit 305, nat_lit 308, nat_lit 310, nat_lit 311, nat_lit 313, nat_lit 314, nat_lit 315, nat_lit 318, nat_lit 319, nat_lit 320, nat_lit 322, nat_lit 323, nat_lit 325, nat_lit 326, nat_lit 327, nat_lit 329, nat_lit 330, nat_lit 332, nat_lit 333, nat_lit 334, nat_lit 336, nat_lit 337, nat_lit 339, nat_lit 340, nat_lit 341, nat_lit 344, nat_lit 345, nat_lit 346, nat_lit 348, nat_lit 349, nat_lit 351, nat_lit 352, nat_lit 353, nat_lit 356, nat_lit 357, nat_lit 358, nat_lit 360, nat_lit 361, nat_lit 363, nat_lit 364, nat_lit 365, nat_lit 367, nat_lit 368, nat_lit 370, nat_lit 371, nat_lit 372, nat_lit 375, nat_lit 376, nat_lit 377, nat_lit 379, nat_lit 380, nat_lit 382, nat_lit 383, nat_lit 384, nat_lit 386, nat_lit 387, nat_lit 389, nat_lit 390]

end
theorem as0_K0 : ∀ P, as0 = (K0 P).map (·.1) := fun P => by kernel_rfl
noncomputable def q0 : Program := { PySem.Challenge.pw_truerefs_s01_answers with main := { PySem.Challenge.pw_truerefs_s01_answers.main with body := [top 1, top 2, top 3, top 4, top 5, top 6, top 7, top 8, top 10, top 11, top 12, top 13, top 14, top 15, top 16, top 17, top 18, top 19, top 20, top 21, top 23, top 24, top 25, top 26, top 27, top 28, top 29, top 30, top 31, top 32, top 33, top 34, top 35, top 36, top 38, top 39, top 40, top 41, top 42, top 43, top 44, top 45, top 47, top 48, top 49, top 50, top 51, top 52, top 53, top 54, top 55, top 57, top 58, top 59, top 60, top 61, top 62, top 63, top 64, top 65, top 66, top 67, top 68, top 69, top 70, top 71, top 72, top 73, top 74, top 75, top 76, top 77, top 78, top 79, top 80, top 81, top 82] } }
theorem run0 : ∀ (w : World) (os : OsState), topRun treeTable PySem.Challenge.pw_truerefs_s01_answers w 11 (some (.ref 6)) 2700 ⟨boot_heap w.params, ⟨[]⟩, boot_drawn, boot_toks, os⟩ (topStub PySem.Challenge.pw_truerefs_s01_answers) = some ⟨H1 w.params, ⟨[]⟩, boot_drawn, 783, os⟩ := fun w os => by kernel_rfl
theorem size0 : ∀ w : World, ((boot_heap w.params).isNs mainGlobals && (⟨[]⟩ : Array GenState).size == 0, (boot_heap w.params).objs.size, (boot_heap w.params).nsMap mainGlobals "__annotations__") = (true, 11, some (.ref 6)) := fun w => by kernel_rfl
theorem looks0 : ∀ w : World, (fun os => ((staticsOk (importedModules PySem.Challenge.pw_truerefs_s01_answers.main.body) (boot_heap w.params) (H1 w.params) && namesBound PySem.Challenge.pw_truerefs_s01_answers (H1 w.params) && gensDone ⟨H1 w.params, ⟨[]⟩, boot_drawn, 783, os⟩ && laidKept (boot_heap w.params) (H1 w.params)),
    openSeen q0 [] (importedModules PySem.Challenge.pw_truerefs_s01_answers.main.body) (fun s => xlAt q0 [] s && recOk [] s) true ⟨H1 w.params, ⟨[]⟩, boot_drawn, 783, os⟩, (kHook K0 as0 as0_K0).obs ⟨H1 w.params, ⟨[]⟩, boot_drawn, 783, os⟩)) = fun _ => (true, openGood q0 [], (kHook K0 as0 as0_K0).val w) := fun w => by kernel_rfl
theorem left0 : LeftO PySem.Challenge.pw_truerefs_s01_answers q0 [] (fun s => xlAt q0 [] s && recOk [] s) (kHook K0 as0 as0_K0).obs (kHook K0 as0 as0_K0).val 2700 :=
  LeftO.of_pieces (boot_open (by kernel_rfl) (by rfl) (fun s => by kernel_rfl)) size0 run0 (by rfl) looks0
end Tr

set_option Elab.async false
set_option linter.all false
set_option maxRecDepth 100000
set_option maxHeartbeats 4000000
namespace Tr
open PySem PySem.Spec PyProof.Rows L2
def BindsAs (x q : Str) (st : Stmt) (ps : List Str) : Prop := ∀ (kV doc pm : Value) (an : Option Addr) (cdv ct : Value) (us : List Value), us.length = ps.length → bindArgs (PySem.W.fnOf x q (defArgs st) (defBody st) (defScope st) .none kV doc pm an cdv ct) ⟨us, []⟩ = pure (ps.zip us)
def ModFn (K : PySem.W.Frag) (x : Str) (st : Stmt) : Prop := ∃ (f : Addr) (oc : Value) (od : Option Addr) (kV doc pm : Value) (an : Option Addr) (cdv ct : Value) (osl : Array (Option Value)),
  PySem.W.nsIn K mainGlobals x = some (some (.ref f)) ∧ K.lookup f = some ⟨oc, od, .func (PySem.W.fnOf x x (defArgs st) (defBody st) (defScope st) .none kV doc pm an cdv ct), osl⟩ ∧ PySem.W.codeIn K cdv x = true ∧ PySem.W.keepIn K (.ref f) = true
def MetFn (K : PySem.W.Frag) (C : Addr) (m q : Str) (st : Stmt) : Prop := ∃ (f : Addr) (oc : Value) (od : Option Addr) (kV doc pm : Value) (an : Option Addr) (cdv ct : Value) (osl : Array (Option Value)),
  PySem.W.findIn K (.ref C) m = some (some (.ref f)) ∧ PySem.W.isFn K (.ref f) = true ∧ K.lookup f = some ⟨oc, od, .func (PySem.W.fnOf m q (defArgs st) (defBody st) (defScope st) .none kV doc pm an cdv ct), osl⟩ ∧ PySem.W.codeIn K cdv q = true ∧ PySem.W.keepIn K (.ref f) = true
def KInt (K : PySem.W.Frag) (x : Str) (z : Int) : Prop := ∃ u, PySem.W.nsIn K mainGlobals x = some (some (.int z u))
def KTup (K : PySem.W.Frag) (x : Str) (s : List Nat) : Prop := ∃ (a : Addr) (d : Option Addr) (its : Array Value) (n : Nat) (sl : Array (Option Value)),
  PySem.W.nsIn K mainGlobals x = some (some (.ref a)) ∧ K.lookup a = some ⟨.type "tuple", d, .seq its n, sl⟩ ∧ its.size ≤ 1000 ∧ Vals (nVs s) its.toList
theorem mod_mk {K : PySem.W.Frag} {x : Str} {st : Stmt} {f : Addr} {oc : Value} {od : Option Addr} {kV doc pm : Value} {an : Option Addr} {cdv ct : Value} {osl : Array (Option Value)} (a : PySem.W.nsIn K mainGlobals x = some (some (.ref f)))
    (l : K.lookup f = some ⟨oc, od, .func (PySem.W.fnOf x x (defArgs st) (defBody st) (defScope st) .none kV doc pm an cdv ct), osl⟩) (c : PySem.W.codeIn K cdv x = true) (k : PySem.W.keepIn K (.ref f) = true) : ModFn K x st := ⟨f, oc, od, kV, doc, pm, an, cdv, ct, osl, a, l, c, k⟩
def ModFnC (K : PySem.W.Frag) (x : Str) (st : Stmt) (cc : Addr) : Prop := ∃ (f : Addr) (oc : Value) (od : Option Addr) (kV doc pm : Value) (an : Option Addr) (ct : Value) (osl : Array (Option Value)),
  PySem.W.nsIn K mainGlobals x = some (some (.ref f)) ∧ K.lookup f = some ⟨oc, od, .func (PySem.W.fnOf x x (defArgs st) (defBody st) (defScope st) .none kV doc pm an (.ref cc) ct), osl⟩ ∧ PySem.W.codeIn K (.ref cc) x = true ∧ PySem.W.keepIn K (.ref f) = true
theorem modc_mk {K : PySem.W.Frag} {x : Str} {st : Stmt} {f cc : Addr} {oc : Value} {od : Option Addr} {kV doc pm : Value} {an : Option Addr} {ct : Value} {osl : Array (Option Value)} (a : PySem.W.nsIn K mainGlobals x = some (some (.ref f)))
    (l : K.lookup f = some ⟨oc, od, .func (PySem.W.fnOf x x (defArgs st) (defBody st) (defScope st) .none kV doc pm an (.ref cc) ct), osl⟩) (c : PySem.W.codeIn K (.ref cc) x = true) (k : PySem.W.keepIn K (.ref f) = true) : ModFnC K x st cc := ⟨f, oc, od, kV, doc, pm, an, ct, osl, a, l, c, k⟩
def CdTab (K : PySem.W.Frag) (cc tb : Addr) : Prop := ∃ (oc : Value) (od : Option Addr) (vs : Array Value) (sl : Array (Option Value)), K.lookup cc = some ⟨oc, od, .fields vs, sl⟩ ∧ vs[11]? = some (.ref tb)
theorem cd_mk {K : PySem.W.Frag} {cc tb : Addr} {oc : Value} {od : Option Addr} {vs : Array Value} {sl : Array (Option Value)} (l : K.lookup cc = some ⟨oc, od, .fields vs, sl⟩) (v : vs[11]? = some (.ref tb)) : CdTab K cc tb := ⟨oc, od, vs, sl, l, v⟩
theorem met_mk {K : PySem.W.Frag} {C : Addr} {m q : Str} {st : Stmt} {f : Addr} {oc : Value} {od : Option Addr} {kV doc pm : Value} {an : Option Addr} {cdv ct : Value} {osl : Array (Option Value)} (a : PySem.W.findIn K (.ref C) m = some (some (.ref f))) (i : PySem.W.isFn K (.ref f) = true)
    (l : K.lookup f = some ⟨oc, od, .func (PySem.W.fnOf m q (defArgs st) (defBody st) (defScope st) .none kV doc pm an cdv ct), osl⟩) (c : PySem.W.codeIn K cdv q = true) (k : PySem.W.keepIn K (.ref f) = true) : MetFn K C m q st := ⟨f, oc, od, kV, doc, pm, an, cdv, ct, osl, a, i, l, c, k⟩
theorem int_mk {K : PySem.W.Frag} {x : Str} {z : Int} {u : Tok} (a : PySem.W.nsIn K mainGlobals x = some (some (.int z u))) : KInt K x z := ⟨u, a⟩
theorem tup_mk {K : PySem.W.Frag} {x : Str} {s : List Nat} {a : Addr} {d : Option Addr} {its : Array Value} {n : Nat} {sl : Array (Option Value)} (e : PySem.W.nsIn K mainGlobals x = some (some (.ref a))) (l : K.lookup a = some ⟨.type "tuple", d, .seq its n, sl⟩) (z : its.size ≤ 1000) (v : Vals (nVs s) its.toList) : KTup K x s := ⟨a, d, its, n, sl, e, l, z, v⟩
section
variable {P : Program} {w : World} {K : PySem.W.Frag} {h : Heap} {mg : Str → Option Value} {base : Heap}
theorem KInt.gl {x : Str} {z : Int} (e : KInt K x z) (X : K.In h) (G : h.Ns mainGlobals mg) : GInt mg x z := let ⟨u, e⟩ := e; ⟨u, PySem.W.mg_of X G e⟩
theorem KTup.gl {x : Str} {s : List Nat} (e : KTup K x s) (X : K.In h) (G : h.Ns mainGlobals mg) : GTup K mg x s := by
  obtain ⟨a, d, its, n, sl, e, l, z, v⟩ := e
  exact ⟨a, PySem.W.mg_of X G e, fun H => .inr ⟨_, its, n, l, rfl, rfl, Nat.le_trans z (by rw [sizeLine_eq]; decide), v⟩⟩
theorem fn_top {x : Str} {st : Stmt} {ps : List Str} {k : Nat} {sp : Sp} (X : K.In h) (G : h.Ns mainGlobals mg) (M : ModFn K x st) (hb : BindsAs x x st ps) (ok : ∀ (f : Addr) (fd : FuncData), Fun K x x st f fd → FnOk P w K mg base CX0 k f fd ps sp) : Fn P w K mg base k x ps sp := by
  obtain ⟨f, oc, od, kV, doc, pm, an, cdv, ct, osl, a, l, c, kp⟩ := M
  have F := fun_mk (st := st) l c kp
  exact ⟨f, _, ok _ _ F, PySem.W.mg_of X G a, kp, F.binds hb⟩
theorem fn_topC {x : Str} {st : Stmt} {cc : Addr} {ps : List Str} {k : Nat} {sp : Sp} (X : K.In h) (G : h.Ns mainGlobals mg) (M : ModFnC K x st cc) (hb : BindsAs x x st ps) (ok : ∀ (f : Addr) (fd : FuncData), Fun K x x st f fd → fd.code = .ref cc → FnOk P w K mg base CX0 k f fd ps sp) : Fn P w K mg base k x ps sp := by
  obtain ⟨f, oc, od, kV, doc, pm, an, ct, osl, a, l, c, kp⟩ := M
  have F := fun_mk (st := st) l c kp
  exact ⟨f, _, ok _ _ F rfl, PySem.W.mg_of X G a, kp, F.binds hb⟩
theorem mth_top {C : Addr} {m q : Str} {st : Stmt} {ps : List Str} {k : Nat} {sp : Sp} (M : MetFn K C m q st) (hb : BindsAs m q st ps) (ok : ∀ (f : Addr) (fd : FuncData), Fun K m q st f fd → FnOk P w K mg base CX0 k f fd ps sp) : Mth P w K mg base k C m ps sp := by
  obtain ⟨f, oc, od, kV, doc, pm, an, cdv, ct, osl, a, i, l, c, kp⟩ := M
  have F := fun_mk (st := st) l c kp
  exact ⟨f, _, ⟨a, i, kp⟩, ok _ _ F, F.binds hb⟩
theorem mkr_top {x q : Str} {C : Addr} {st : Stmt} {ps : List Str} {k : Nat} {sp : Sp} (X : K.In h) (G : h.Ns mainGlobals mg) (aC : PySem.W.nsIn K mainGlobals x = some (some (.ref C))) (mk : PySem.W.makesIn K C = true) (kc : PySem.W.keepIn K (.ref C) = true) (M : MetFn K C "__init__" q st) (hb : BindsAs "__init__" q st ps)
    (ok : ∀ (f : Addr) (fd : FuncData), Fun K "__init__" q st f fd → FnOk P w K mg base CX0 k f fd ps sp) : Mkr P w K mg base k x C ps sp := by
  obtain ⟨f, oc, od, kV, doc, pm, an, cdv, ct, osl, a, i, l, c, kp⟩ := M
  have F := fun_mk (st := st) l c kp
  exact ⟨f, _, ⟨mk, a, i, kc⟩, ok _ _ F, PySem.W.mg_of X G aC, F.binds hb⟩
end
theorem bs_Frame_init : BindsAs "__init__" "Frame.__init__" s_Frame_init ["self", "wide", "high", "first_page", "here", "next_page", "before"] := fun _ _ _ _ _ _ us hl => match us, hl with | [_, _, _, _, _, _, _], _ => rfl
theorem bs_first_frame : BindsAs "first_frame" "first_frame" s_first_frame [] := fun _ _ _ _ _ _ us hl => match us, hl with | [], _ => rfl
theorem bs_frame_of : BindsAs "frame_of" "frame_of" s_frame_of ["numbers"] := fun _ _ _ _ _ _ us hl => match us, hl with | [_], _ => rfl
theorem bs_frame_is_allowed : BindsAs "frame_is_allowed" "frame_is_allowed" s_frame_is_allowed ["frame"] := fun _ _ _ _ _ _ us hl => match us, hl with | [_], _ => rfl
theorem bs_Word_init : BindsAs "__init__" "Word.__init__" s_Word_init ["self", "kind", "told", "own_mark"] := fun _ _ _ _ _ _ us hl => match us, hl with | [_, _, _, _], _ => rfl
theorem bs_words_told : BindsAs "words_told" "words_told" s_words_told ["numbers"] := fun _ _ _ _ _ _ us hl => match us, hl with | [_], _ => rfl
theorem bs_word_is_allowed : BindsAs "word_is_allowed" "word_is_allowed" s_word_is_allowed ["word"] := fun _ _ _ _ _ _ us hl => match us, hl with | [_], _ => rfl
theorem bs_has_mark_twice : BindsAs "has_mark_twice" "has_mark_twice" s_has_mark_twice ["marks", "words"] := fun _ _ _ _ _ _ us hl => match us, hl with | [_, _], _ => rfl
theorem bs_marks_told_of : BindsAs "marks_told_of" "marks_told_of" s_marks_told_of ["words"] := fun _ _ _ _ _ _ us hl => match us, hl with | [_], _ => rfl
theorem bs_digits_length : BindsAs "digits_length" "digits_length" s_digits_length ["page"] := fun _ _ _ _ _ _ us hl => match us, hl with | [_], _ => rfl
theorem bs_roman_length : BindsAs "roman_length" "roman_length" s_roman_length ["page"] := fun _ _ _ _ _ _ us hl => match us, hl with | [_], _ => rfl
theorem bs_number_length : BindsAs "number_length" "number_length" s_number_length ["frame", "kind", "page"] := fun _ _ _ _ _ _ us hl => match us, hl with | [_, _, _], _ => rfl
theorem bs_what_is_told : BindsAs "what_is_told" "what_is_told" s_what_is_told ["kind", "own_page", "mark_page"] := fun _ _ _ _ _ _ us hl => match us, hl with | [_, _, _], _ => rfl
theorem bs_reference_length : BindsAs "reference_length" "reference_length" s_reference_length ["frame", "kind", "own_page", "mark_page"] := fun _ _ _ _ _ _ us hl => match us, hl with | [_, _, _, _], _ => rfl
theorem bs_mark_page_in : BindsAs "mark_page_in" "mark_page_in" s_mark_page_in ["marks", "mark", "setting"] := fun _ _ _ _ _ _ us hl => match us, hl with | [_, _, _], _ => rfl
theorem bs_word_lengths : BindsAs "word_lengths" "word_lengths" s_word_lengths ["frame", "words", "marks", "setting"] := fun _ _ _ _ _ _ us hl => match us, hl with | [_, _, _, _], _ => rfl
theorem bs_paragraph_line : BindsAs "paragraph_line" "paragraph_line" s_paragraph_line ["frame", "line", "begins_page"] := fun _ _ _ _ _ _ us hl => match us, hl with | [_, _, _], _ => rfl
theorem bs_word_lines : BindsAs "word_lines" "word_lines" s_word_lines ["frame", "openings", "lengths"] := fun _ _ _ _ _ _ us hl => match us, hl with | [_, _, _], _ => rfl
theorem bs_page_of_line : BindsAs "page_of_line" "page_of_line" s_page_of_line ["frame", "line"] := fun _ _ _ _ _ _ us hl => match us, hl with | [_, _], _ => rfl
theorem bs_lines_by : BindsAs "lines_by" "lines_by" s_lines_by ["book", "setting"] := fun _ _ _ _ _ _ us hl => match us, hl with | [_, _], _ => rfl
theorem bs_next_setting : BindsAs "next_setting" "next_setting" s_next_setting ["book", "setting"] := fun _ _ _ _ _ _ us hl => match us, hl with | [_, _], _ => rfl
theorem bs_Course_init : BindsAs "__init__" "Course.__init__" s_Course_init ["self", "settings", "back"] := fun _ _ _ _ _ _ us hl => match us, hl with | [_, _, _], _ => rfl
theorem bs_Course_ring_length : BindsAs "ring_length" "Course.ring_length" s_Course_ring_length ["self"] := fun _ _ _ _ _ _ us hl => match us, hl with | [_], _ => rfl
theorem bs_Course_setting_behind : BindsAs "setting_behind" "Course.setting_behind" s_Course_setting_behind ["self", "n"] := fun _ _ _ _ _ _ us hl => match us, hl with | [_, _], _ => rfl
theorem bs_course_of : BindsAs "course_of" "course_of" s_course_of ["book"] := fun _ _ _ _ _ _ us hl => match us, hl with | [_], _ => rfl
theorem bs_words_that_count : BindsAs "words_that_count" "words_that_count" s_words_that_count ["words"] := fun _ _ _ _ _ _ us hl => match us, hl with | [_], _ => rfl
theorem bs_last_page_there_may_be : BindsAs "last_page_there_may_be" "last_page_there_may_be" s_last_page_there_may_be ["book"] := fun _ _ _ _ _ _ us hl => match us, hl with | [_], _ => rfl
theorem bs_has_too_many_tries : BindsAs "has_too_many_tries" "has_too_many_tries" s_has_too_many_tries ["book"] := fun _ _ _ _ _ _ us hl => match us, hl with | [_], _ => rfl
theorem bs_rising_pages : BindsAs "rising_pages" "rising_pages" s_rising_pages ["first", "last", "many"] := fun _ _ _ _ _ _ us hl => match us, hl with | [_, _, _], _ => rfl
theorem bs_setting_with : BindsAs "setting_with" "setting_with" s_setting_with ["words", "numbers", "pages"] := fun _ _ _ _ _ _ us hl => match us, hl with | [_, _, _], _ => rfl
theorem bs_true_settings : BindsAs "true_settings" "true_settings" s_true_settings ["book"] := fun _ _ _ _ _ _ us hl => match us, hl with | [_], _ => rfl
theorem bs_first_setting : BindsAs "first_setting" "first_setting" s_first_setting ["settings"] := fun _ _ _ _ _ _ us hl => match us, hl with | [_], _ => rfl
theorem bs_Book_init : BindsAs "__init__" "Book.__init__" s_Book_init ["self", "frame"] := fun _ _ _ _ _ _ us hl => match us, hl with | [_, _], _ => rfl
theorem bs_Book_begin_again : BindsAs "begin_again" "Book.begin_again" s_Book_begin_again ["self", "frame"] := fun _ _ _ _ _ _ us hl => match us, hl with | [_, _], _ => rfl
theorem bs_Book_add_paragraph : BindsAs "add_paragraph" "Book.add_paragraph" s_Book_add_paragraph ["self", "begins_page", "added"] := fun _ _ _ _ _ _ us hl => match us, hl with | [_, _, _], _ => rfl
theorem bs_Book_course : BindsAs "course" "Book.course" s_Book_course ["self"] := fun _ _ _ _ _ _ us hl => match us, hl with | [_], _ => rfl
theorem bs_answer_begins : BindsAs "answer_begins" "answer_begins" s_answer_begins ["book", "numbers"] := fun _ _ _ _ _ _ us hl => match us, hl with | [_, _], _ => rfl
theorem bs_answer_para : BindsAs "answer_para" "answer_para" s_answer_para ["book", "numbers"] := fun _ _ _ _ _ _ us hl => match us, hl with | [_, _], _ => rfl
theorem bs_last_page : BindsAs "last_page" "last_page" s_last_page ["setting"] := fun _ _ _ _ _ _ us hl => match us, hl with | [_], _ => rfl
theorem bs_answer_settles : BindsAs "answer_settles" "answer_settles" s_answer_settles ["book"] := fun _ _ _ _ _ _ us hl => match us, hl with | [_], _ => rfl
theorem bs_pages_answered : BindsAs "pages_answered" "pages_answered" s_pages_answered ["setting"] := fun _ _ _ _ _ _ us hl => match us, hl with | [_], _ => rfl
theorem bs_lines_answered : BindsAs "lines_answered" "lines_answered" s_lines_answered ["book", "setting"] := fun _ _ _ _ _ _ us hl => match us, hl with | [_, _], _ => rfl
theorem bs_what_reference_tells : BindsAs "what_reference_tells" "what_reference_tells" s_what_reference_tells ["book", "setting", "number"] := fun _ _ _ _ _ _ us hl => match us, hl with | [_, _, _], _ => rfl
theorem bs_references_answered : BindsAs "references_answered" "references_answered" s_references_answered ["book", "setting"] := fun _ _ _ _ _ _ us hl => match us, hl with | [_, _], _ => rfl
theorem bs_answer_behind_passes : BindsAs "answer_behind_passes" "answer_behind_passes" s_answer_behind_passes ["book", "call", "n"] := fun _ _ _ _ _ _ us hl => match us, hl with | [_, _, _], _ => rfl
theorem bs_answer_trues : BindsAs "answer_trues" "answer_trues" s_answer_trues ["book"] := fun _ _ _ _ _ _ us hl => match us, hl with | [_], _ => rfl
theorem bs_answer_missing_marks : BindsAs "answer_missing_marks" "answer_missing_marks" s_answer_missing_marks ["book"] := fun _ _ _ _ _ _ us hl => match us, hl with | [_], _ => rfl
theorem bs_answer_call : BindsAs "answer_call" "answer_call" s_answer_call ["book", "call", "numbers"] := fun _ _ _ _ _ _ us hl => match us, hl with | [_, _, _], _ => rfl
theorem bs_answers : BindsAs "answers" "answers" s_answers ["calls"] := fun _ _ _ _ _ _ us hl => match us, hl with | [_], _ => rfl
structure Has (K : PySem.W.Frag) (CF CW CC CB FC FT : Addr) : Prop where
  aFrame : PySem.W.nsIn K mainGlobals "Frame" = some (some (.ref CF))
  pgFrame : PySem.W.plainGet K CF Str.empty = true
  hdFrame : PySem.W.hasDictIn K CF = true
  poFrame : PySem.W.plainOver K CF = true
  saFrame : PySem.W.findIn K (.ref CF) "__setattr__" = some (some (.builtin "object.__setattr__"))
  mkFrame : PySem.W.makesIn K CF = true
  kcFrame : PySem.W.keepIn K (.ref CF) = true
  nFrame_wide : PySem.W.findIn K (.ref CF) "wide" = some none
  nFrame_high : PySem.W.findIn K (.ref CF) "high" = some none
  nFrame_first_page : PySem.W.findIn K (.ref CF) "first_page" = some none
  nFrame_here : PySem.W.findIn K (.ref CF) "here" = some none
  nFrame_next_page : PySem.W.findIn K (.ref CF) "next_page" = some none
  nFrame_before : PySem.W.findIn K (.ref CF) "before" = some none
  aWord : PySem.W.nsIn K mainGlobals "Word" = some (some (.ref CW))
  pgWord : PySem.W.plainGet K CW Str.empty = true
  hdWord : PySem.W.hasDictIn K CW = true
  poWord : PySem.W.plainOver K CW = true
  saWord : PySem.W.findIn K (.ref CW) "__setattr__" = some (some (.builtin "object.__setattr__"))
  mkWord : PySem.W.makesIn K CW = true
  kcWord : PySem.W.keepIn K (.ref CW) = true
  nWord_kind : PySem.W.findIn K (.ref CW) "kind" = some none
  nWord_told : PySem.W.findIn K (.ref CW) "told" = some none
  nWord_own_mark : PySem.W.findIn K (.ref CW) "own_mark" = some none
  aCourse : PySem.W.nsIn K mainGlobals "Course" = some (some (.ref CC))
  pgCourse : PySem.W.plainGet K CC Str.empty = true
  hdCourse : PySem.W.hasDictIn K CC = true
  poCourse : PySem.W.plainOver K CC = true
  saCourse : PySem.W.findIn K (.ref CC) "__setattr__" = some (some (.builtin "object.__setattr__"))
  mkCourse : PySem.W.makesIn K CC = true
  kcCourse : PySem.W.keepIn K (.ref CC) = true
  nCourse_settings : PySem.W.findIn K (.ref CC) "settings" = some none
  nCourse_back : PySem.W.findIn K (.ref CC) "back" = some none
  aBook : PySem.W.nsIn K mainGlobals "Book" = some (some (.ref CB))
  pgBook : PySem.W.plainGet K CB Str.empty = true
  hdBook : PySem.W.hasDictIn K CB = true
  poBook : PySem.W.plainOver K CB = true
  saBook : PySem.W.findIn K (.ref CB) "__setattr__" = some (some (.builtin "object.__setattr__"))
  mkBook : PySem.W.makesIn K CB = true
  kcBook : PySem.W.keepIn K (.ref CB) = true
  nBook_frame : PySem.W.findIn K (.ref CB) "frame" = some none
  nBook_words : PySem.W.findIn K (.ref CB) "words" = some none
  nBook_openings : PySem.W.findIn K (.ref CB) "openings" = some none
  nBook_marks : PySem.W.findIn K (.ref CB) "marks" = some none
  nBook_known_course : PySem.W.findIn K (.ref CB) "known_course" = some none
  m_Frame_init : MetFn K CF "__init__" "Frame.__init__" s_Frame_init
  m_first_frame : ModFn K "first_frame" s_first_frame
  m_frame_of : ModFn K "frame_of" s_frame_of
  m_frame_is_allowed : ModFn K "frame_is_allowed" s_frame_is_allowed
  m_Word_init : MetFn K CW "__init__" "Word.__init__" s_Word_init
  m_words_told : ModFn K "words_told" s_words_told
  m_word_is_allowed : ModFn K "word_is_allowed" s_word_is_allowed
  m_has_mark_twice : ModFn K "has_mark_twice" s_has_mark_twice
  m_marks_told_of : ModFn K "marks_told_of" s_marks_told_of
  m_digits_length : ModFn K "digits_length" s_digits_length
  m_roman_length : ModFn K "roman_length" s_roman_length
  m_number_length : ModFn K "number_length" s_number_length
  m_what_is_told : ModFn K "what_is_told" s_what_is_told
  m_reference_length : ModFn K "reference_length" s_reference_length
  m_mark_page_in : ModFn K "mark_page_in" s_mark_page_in
  m_word_lengths : ModFn K "word_lengths" s_word_lengths
  m_paragraph_line : ModFn K "paragraph_line" s_paragraph_line
  m_word_lines : ModFn K "word_lines" s_word_lines
  m_page_of_line : ModFn K "page_of_line" s_page_of_line
  m_lines_by : ModFn K "lines_by" s_lines_by
  m_next_setting : ModFn K "next_setting" s_next_setting
  m_Course_init : MetFn K CC "__init__" "Course.__init__" s_Course_init
  m_Course_ring_length : MetFn K CC "ring_length" "Course.ring_length" s_Course_ring_length
  m_Course_setting_behind : MetFn K CC "setting_behind" "Course.setting_behind" s_Course_setting_behind
  m_course_of : ModFn K "course_of" s_course_of
  m_words_that_count : ModFn K "words_that_count" s_words_that_count
  m_last_page_there_may_be : ModFn K "last_page_there_may_be" s_last_page_there_may_be
  m_has_too_many_tries : ModFn K "has_too_many_tries" s_has_too_many_tries
  m_rising_pages : ModFn K "rising_pages" s_rising_pages
  m_setting_with : ModFn K "setting_with" s_setting_with
  m_true_settings : ModFn K "true_settings" s_true_settings
  m_first_setting : ModFnC K "first_setting" s_first_setting FC
  lkFC : CdTab K FC FT
  cdFirst : PySem.W.codeHdIn K FC FT = true
  tabFirst : PySem.W.tabIn K "first_setting" = some (FC, FT)
  noFT : K.lookup FT = none
  m_Book_init : MetFn K CB "__init__" "Book.__init__" s_Book_init
  m_Book_begin_again : MetFn K CB "begin_again" "Book.begin_again" s_Book_begin_again
  m_Book_add_paragraph : MetFn K CB "add_paragraph" "Book.add_paragraph" s_Book_add_paragraph
  m_Book_course : MetFn K CB "course" "Book.course" s_Book_course
  m_answer_begins : ModFn K "answer_begins" s_answer_begins
  m_answer_para : ModFn K "answer_para" s_answer_para
  m_last_page : ModFn K "last_page" s_last_page
  m_answer_settles : ModFn K "answer_settles" s_answer_settles
  m_pages_answered : ModFn K "pages_answered" s_pages_answered
  m_lines_answered : ModFn K "lines_answered" s_lines_answered
  m_what_reference_tells : ModFn K "what_reference_tells" s_what_reference_tells
  m_references_answered : ModFn K "references_answered" s_references_answered
  m_answer_behind_passes : ModFn K "answer_behind_passes" s_answer_behind_passes
  m_answer_trues : ModFn K "answer_trues" s_answer_trues
  m_answer_missing_marks : ModFn K "answer_missing_marks" s_answer_missing_marks
  m_answer_call : ModFn K "answer_call" s_answer_call
  m_answers : ModFn K "answers" s_answers
  b_any : PySem.W.nsIn K mainGlobals "any" = some none
  b_list : PySem.W.nsIn K mainGlobals "list" = some none
  b_len : PySem.W.nsIn K mainGlobals "len" = some none
  b_zip : PySem.W.nsIn K mainGlobals "zip" = some none
  b_enumerate : PySem.W.nsIn K mainGlobals "enumerate" = some none
  b_min : PySem.W.nsIn K mainGlobals "min" = some none
  b_str : PySem.W.nsIn K mainGlobals "str" = some none
  b_tuple : PySem.W.nsIn K mainGlobals "tuple" = some none
  b_range : PySem.W.nsIn K mainGlobals "range" = some none
  b_set : PySem.W.nsIn K mainGlobals "set" = some none
  b_max : PySem.W.nsIn K mainGlobals "max" = some none
  b_all : PySem.W.nsIn K mainGlobals "all" = some none
  cMOST_WIDE : KInt K "MOST_WIDE" 200
  cMOST_HIGH : KInt K "MOST_HIGH" 100
  cMOST_FIRST_PAGE : KInt K "MOST_FIRST_PAGE" 3000
  cMOST_PHRASE : KInt K "MOST_PHRASE" 50
  cPLAIN : KInt K "PLAIN" 0
  cDIGITS : KInt K "DIGITS" 1
  cROMAN : KInt K "ROMAN" 2
  cHOW_FAR : KInt K "HOW_FAR" 3
  cMOST_LENGTH : KInt K "MOST_LENGTH" 200
  cMOST_MARK : KInt K "MOST_MARK" 20
  cNO_MARK : KInt K "NO_MARK" 0
  cNOT_KNOWN : KInt K "NOT_KNOWN" 0
  cLENGTH_NOT_KNOWN : KInt K "LENGTH_NOT_KNOWN" 1
  cTELLS_NOTHING : KInt K "TELLS_NOTHING" 0
  cTELLS_PAGE : KInt K "TELLS_PAGE" 1
  cTELLS_HERE : KInt K "TELLS_HERE" 2
  cTELLS_NEXT_PAGE : KInt K "TELLS_NEXT_PAGE" 3
  cMOST_PASSES : KInt K "MOST_PASSES" 400
  cMOST_COUNTING : KInt K "MOST_COUNTING" 3
  cMOST_PAGES_ABOVE : KInt K "MOST_PAGES_ABOVE" 30
  cBEGINS : KInt K "BEGINS" 0
  cPARA : KInt K "PARA" 1
  cPASS : KInt K "PASS" 2
  cSETTLES : KInt K "SETTLES" 3
  cLINES : KInt K "LINES" 4
  cSHOWN : KInt K "SHOWN" 5
  cTRUES : KInt K "TRUES" 6
  cOUT_OF_RANGE : KInt K "OUT_OF_RANGE" (-1)
  cMARK_TWICE : KInt K "MARK_TWICE" (-3)
  cTOO_MANY : KInt K "TOO_MANY" (-5)
  cNEVER_AGAIN : KInt K "NEVER_AGAIN" (-7)
  cMOST_WORDS : KInt K "MOST_WORDS" 200
  cROMAN_SIGNS : KTup K "ROMAN_SIGNS" [0, 1, 2, 3, 2, 1, 2, 3, 4, 2]
theorem txt_mk {K : PySem.W.Frag} {h : Heap} {mg : Str → Option Value} {t : Ad} (X : K.In h) (G : h.Ns mainGlobals mg) (A : Has K t.CF t.CW t.CC t.CB t.FC t.FT) : Txt K mg t where
  clF := ⟨A.pgFrame, A.hdFrame, A.poFrame, A.saFrame⟩
  nWide := A.nFrame_wide
  nHigh := A.nFrame_high
  nFirst := A.nFrame_first_page
  nHere := A.nFrame_here
  nNext := A.nFrame_next_page
  nBefore := A.nFrame_before
  clW := ⟨A.pgWord, A.hdWord, A.poWord, A.saWord⟩
  nKind := A.nWord_kind
  nTold := A.nWord_told
  nOwn := A.nWord_own_mark
  clC := ⟨A.pgCourse, A.hdCourse, A.poCourse, A.saCourse⟩
  nSettings := A.nCourse_settings
  nBack := A.nCourse_back
  clB := ⟨A.pgBook, A.hdBook, A.poBook, A.saBook⟩
  nFrame := A.nBook_frame
  nWords := A.nBook_words
  nOpenings := A.nBook_openings
  nMarks := A.nBook_marks
  nCourse := A.nBook_known_course
  cdFirst := A.cdFirst
  any := PySem.W.mg_none_of X G A.b_any
  list := PySem.W.mg_none_of X G A.b_list
  len := PySem.W.mg_none_of X G A.b_len
  zip := PySem.W.mg_none_of X G A.b_zip
  enumerate := PySem.W.mg_none_of X G A.b_enumerate
  min := PySem.W.mg_none_of X G A.b_min
  str := PySem.W.mg_none_of X G A.b_str
  tuple := PySem.W.mg_none_of X G A.b_tuple
  range := PySem.W.mg_none_of X G A.b_range
  set := PySem.W.mg_none_of X G A.b_set
  max := PySem.W.mg_none_of X G A.b_max
  all := PySem.W.mg_none_of X G A.b_all
  cMOST_WIDE := A.cMOST_WIDE.gl X G
  cMOST_HIGH := A.cMOST_HIGH.gl X G
  cMOST_FIRST_PAGE := A.cMOST_FIRST_PAGE.gl X G
  cMOST_PHRASE := A.cMOST_PHRASE.gl X G
  cPLAIN := A.cPLAIN.gl X G
  cDIGITS := A.cDIGITS.gl X G
  cROMAN := A.cROMAN.gl X G
  cHOW_FAR := A.cHOW_FAR.gl X G
  cMOST_LENGTH := A.cMOST_LENGTH.gl X G
  cMOST_MARK := A.cMOST_MARK.gl X G
  cNO_MARK := A.cNO_MARK.gl X G
  cNOT_KNOWN := A.cNOT_KNOWN.gl X G
  cLENGTH_NOT_KNOWN := A.cLENGTH_NOT_KNOWN.gl X G
  cTELLS_NOTHING := A.cTELLS_NOTHING.gl X G
  cTELLS_PAGE := A.cTELLS_PAGE.gl X G
  cTELLS_HERE := A.cTELLS_HERE.gl X G
  cTELLS_NEXT_PAGE := A.cTELLS_NEXT_PAGE.gl X G
  cMOST_PASSES := A.cMOST_PASSES.gl X G
  cMOST_COUNTING := A.cMOST_COUNTING.gl X G
  cMOST_PAGES_ABOVE := A.cMOST_PAGES_ABOVE.gl X G
  cBEGINS := A.cBEGINS.gl X G
  cPARA := A.cPARA.gl X G
  cPASS := A.cPASS.gl X G
  cSETTLES := A.cSETTLES.gl X G
  cLINES := A.cLINES.gl X G
  cSHOWN := A.cSHOWN.gl X G
  cTRUES := A.cTRUES.gl X G
  cOUT_OF_RANGE := A.cOUT_OF_RANGE.gl X G
  cMARK_TWICE := A.cMARK_TWICE.gl X G
  cTOO_MANY := A.cTOO_MANY.gl X G
  cNEVER_AGAIN := A.cNEVER_AGAIN.gl X G
  cMOST_WORDS := A.cMOST_WORDS.gl X G
  cROMAN_SIGNS := A.cROMAN_SIGNS.gl X G
theorem has0 (P : Params) : Has (K0 P) 31 73 215 303 264 260 where
  aFrame := by kernel_rfl
  pgFrame := by kernel_rfl
  hdFrame := by kernel_rfl
  poFrame := by kernel_rfl
  saFrame := by kernel_rfl
  mkFrame := by kernel_rfl
  kcFrame := by kernel_rfl
  nFrame_wide := by kernel_rfl
  nFrame_high := by kernel_rfl
  nFrame_first_page := by kernel_rfl
  nFrame_here := by kernel_rfl
  nFrame_next_page := by kernel_rfl
  nFrame_before := by kernel_rfl
  aWord := by kernel_rfl
  pgWord := by kernel_rfl
  hdWord := by kernel_rfl
  poWord := by kernel_rfl
  saWord := by kernel_rfl
  mkWord := by kernel_rfl
  kcWord := by kernel_rfl
  nWord_kind := by kernel_rfl
  nWord_told := by kernel_rfl
  nWord_own_mark := by kernel_rfl
  aCourse := by kernel_rfl
  pgCourse := by kernel_rfl
  hdCourse := by kernel_rfl
  poCourse := by kernel_rfl
  saCourse := by kernel_rfl
  mkCourse := by kernel_rfl
  kcCourse := by kernel_rfl
  nCourse_settings := by kernel_rfl
  nCourse_back := by kernel_rfl
  aBook := by kernel_rfl
  pgBook := by kernel_rfl
  hdBook := by kernel_rfl
  poBook := by kernel_rfl
  saBook := by kernel_rfl
  mkBook := by kernel_rfl
  kcBook := by kernel_rfl
  nBook_frame := by kernel_rfl
  nBook_words := by kernel_rfl
  nBook_openings := by kernel_rfl
  nBook_marks := by kernel_rfl
  nBook_known_course := by kernel_rfl
  m_Frame_init := met_mk (f := 28) (oc := .type "function") (od := none) (kV := .none) (doc := .none) (pm := (.str "truerefs.frame" 187)) (an := none) (cdv := (.ref 27)) (ct := .none) (osl := #[]) (by kernel_rfl) (by kernel_rfl) (by kernel_rfl) (by kernel_rfl) (by kernel_rfl)
  m_first_frame := mod_mk (f := 42) (oc := .type "function") (od := none) (kV := .none) (doc := .none) (pm := (.str "truerefs.frame" 187)) (an := none) (cdv := (.ref 41)) (ct := .none) (osl := #[]) (by kernel_rfl) (by kernel_rfl) (by kernel_rfl) (by kernel_rfl)
  m_frame_of := mod_mk (f := 49) (oc := .type "function") (od := none) (kV := .none) (doc := .none) (pm := (.str "truerefs.frame" 187)) (an := none) (cdv := (.ref 48)) (ct := .none) (osl := #[]) (by kernel_rfl) (by kernel_rfl) (by kernel_rfl) (by kernel_rfl)
  m_frame_is_allowed := mod_mk (f := 56) (oc := .type "function") (od := none) (kV := .none) (doc := .none) (pm := (.str "truerefs.frame" 187)) (an := none) (cdv := (.ref 55)) (ct := .none) (osl := #[]) (by kernel_rfl) (by kernel_rfl) (by kernel_rfl) (by kernel_rfl)
  m_Word_init := met_mk (f := 70) (oc := .type "function") (od := none) (kV := .none) (doc := .none) (pm := (.str "truerefs.words" 256)) (an := none) (cdv := (.ref 69)) (ct := .none) (osl := #[]) (by kernel_rfl) (by kernel_rfl) (by kernel_rfl) (by kernel_rfl) (by kernel_rfl)
  m_words_told := mod_mk (f := 82) (oc := .type "function") (od := none) (kV := .none) (doc := .none) (pm := (.str "truerefs.words" 256)) (an := none) (cdv := (.ref 81)) (ct := .none) (osl := #[]) (by kernel_rfl) (by kernel_rfl) (by kernel_rfl) (by kernel_rfl)
  m_word_is_allowed := mod_mk (f := 89) (oc := .type "function") (od := none) (kV := .none) (doc := .none) (pm := (.str "truerefs.words" 256)) (an := none) (cdv := (.ref 88)) (ct := .none) (osl := #[]) (by kernel_rfl) (by kernel_rfl) (by kernel_rfl) (by kernel_rfl)
  m_has_mark_twice := mod_mk (f := 94) (oc := .type "function") (od := none) (kV := .none) (doc := .none) (pm := (.str "truerefs.words" 256)) (an := none) (cdv := (.ref 93)) (ct := .none) (osl := #[]) (by kernel_rfl) (by kernel_rfl) (by kernel_rfl) (by kernel_rfl)
  m_marks_told_of := mod_mk (f := 101) (oc := .type "function") (od := none) (kV := .none) (doc := .none) (pm := (.str "truerefs.words" 256)) (an := none) (cdv := (.ref 100)) (ct := .none) (osl := #[]) (by kernel_rfl) (by kernel_rfl) (by kernel_rfl) (by kernel_rfl)
  m_digits_length := mod_mk (f := 109) (oc := .type "function") (od := none) (kV := .none) (doc := .none) (pm := (.str "truerefs.lengths" 334)) (an := none) (cdv := (.ref 108)) (ct := .none) (osl := #[]) (by kernel_rfl) (by kernel_rfl) (by kernel_rfl) (by kernel_rfl)
  m_roman_length := mod_mk (f := 116) (oc := .type "function") (od := none) (kV := .none) (doc := .none) (pm := (.str "truerefs.lengths" 334)) (an := none) (cdv := (.ref 115)) (ct := .none) (osl := #[]) (by kernel_rfl) (by kernel_rfl) (by kernel_rfl) (by kernel_rfl)
  m_number_length := mod_mk (f := 123) (oc := .type "function") (od := none) (kV := .none) (doc := .none) (pm := (.str "truerefs.lengths" 334)) (an := none) (cdv := (.ref 122)) (ct := .none) (osl := #[]) (by kernel_rfl) (by kernel_rfl) (by kernel_rfl) (by kernel_rfl)
  m_what_is_told := mod_mk (f := 130) (oc := .type "function") (od := none) (kV := .none) (doc := .none) (pm := (.str "truerefs.lengths" 334)) (an := none) (cdv := (.ref 129)) (ct := .none) (osl := #[]) (by kernel_rfl) (by kernel_rfl) (by kernel_rfl) (by kernel_rfl)
  m_reference_length := mod_mk (f := 137) (oc := .type "function") (od := none) (kV := .none) (doc := .none) (pm := (.str "truerefs.lengths" 334)) (an := none) (cdv := (.ref 136)) (ct := .none) (osl := #[]) (by kernel_rfl) (by kernel_rfl) (by kernel_rfl) (by kernel_rfl)
  m_mark_page_in := mod_mk (f := 144) (oc := .type "function") (od := none) (kV := .none) (doc := .none) (pm := (.str "truerefs.lengths" 334)) (an := none) (cdv := (.ref 143)) (ct := .none) (osl := #[]) (by kernel_rfl) (by kernel_rfl) (by kernel_rfl) (by kernel_rfl)
  m_word_lengths := mod_mk (f := 151) (oc := .type "function") (od := none) (kV := .none) (doc := .none) (pm := (.str "truerefs.lengths" 334)) (an := none) (cdv := (.ref 150)) (ct := .none) (osl := #[]) (by kernel_rfl) (by kernel_rfl) (by kernel_rfl) (by kernel_rfl)
  m_paragraph_line := mod_mk (f := 158) (oc := .type "function") (od := none) (kV := .none) (doc := .none) (pm := (.str "truerefs.passes" 427)) (an := none) (cdv := (.ref 157)) (ct := .none) (osl := #[]) (by kernel_rfl) (by kernel_rfl) (by kernel_rfl) (by kernel_rfl)
  m_word_lines := mod_mk (f := 165) (oc := .type "function") (od := none) (kV := .none) (doc := .none) (pm := (.str "truerefs.passes" 427)) (an := none) (cdv := (.ref 164)) (ct := .none) (osl := #[]) (by kernel_rfl) (by kernel_rfl) (by kernel_rfl) (by kernel_rfl)
  m_page_of_line := mod_mk (f := 172) (oc := .type "function") (od := none) (kV := .none) (doc := .none) (pm := (.str "truerefs.passes" 427)) (an := none) (cdv := (.ref 171)) (ct := .none) (osl := #[]) (by kernel_rfl) (by kernel_rfl) (by kernel_rfl) (by kernel_rfl)
  m_lines_by := mod_mk (f := 179) (oc := .type "function") (od := none) (kV := .none) (doc := .none) (pm := (.str "truerefs.passes" 427)) (an := none) (cdv := (.ref 178)) (ct := .none) (osl := #[]) (by kernel_rfl) (by kernel_rfl) (by kernel_rfl) (by kernel_rfl)
  m_next_setting := mod_mk (f := 184) (oc := .type "function") (od := none) (kV := .none) (doc := .none) (pm := (.str "truerefs.passes" 427)) (an := none) (cdv := (.ref 183)) (ct := .none) (osl := #[]) (by kernel_rfl) (by kernel_rfl) (by kernel_rfl) (by kernel_rfl)
  m_Course_init := met_mk (f := 198) (oc := .type "function") (od := none) (kV := .none) (doc := .none) (pm := (.str "truerefs.passes" 427)) (an := none) (cdv := (.ref 197)) (ct := .none) (osl := #[]) (by kernel_rfl) (by kernel_rfl) (by kernel_rfl) (by kernel_rfl) (by kernel_rfl)
  m_Course_ring_length := met_mk (f := 205) (oc := .type "function") (od := none) (kV := .none) (doc := .none) (pm := (.str "truerefs.passes" 427)) (an := none) (cdv := (.ref 204)) (ct := .none) (osl := #[]) (by kernel_rfl) (by kernel_rfl) (by kernel_rfl) (by kernel_rfl) (by kernel_rfl)
  m_Course_setting_behind := met_mk (f := 212) (oc := .type "function") (od := none) (kV := .none) (doc := .none) (pm := (.str "truerefs.passes" 427)) (an := none) (cdv := (.ref 211)) (ct := .none) (osl := #[]) (by kernel_rfl) (by kernel_rfl) (by kernel_rfl) (by kernel_rfl) (by kernel_rfl)
  m_course_of := mod_mk (f := 224) (oc := .type "function") (od := none) (kV := .none) (doc := .none) (pm := (.str "truerefs.passes" 427)) (an := none) (cdv := (.ref 223)) (ct := .none) (osl := #[]) (by kernel_rfl) (by kernel_rfl) (by kernel_rfl) (by kernel_rfl)
  m_words_that_count := mod_mk (f := 229) (oc := .type "function") (od := none) (kV := .none) (doc := .none) (pm := (.str "truerefs.trues" 530)) (an := none) (cdv := (.ref 228)) (ct := .none) (osl := #[]) (by kernel_rfl) (by kernel_rfl) (by kernel_rfl) (by kernel_rfl)
  m_last_page_there_may_be := mod_mk (f := 236) (oc := .type "function") (od := none) (kV := .none) (doc := .none) (pm := (.str "truerefs.trues" 530)) (an := none) (cdv := (.ref 235)) (ct := .none) (osl := #[]) (by kernel_rfl) (by kernel_rfl) (by kernel_rfl) (by kernel_rfl)
  m_has_too_many_tries := mod_mk (f := 243) (oc := .type "function") (od := none) (kV := .none) (doc := .none) (pm := (.str "truerefs.trues" 530)) (an := none) (cdv := (.ref 242)) (ct := .none) (osl := #[]) (by kernel_rfl) (by kernel_rfl) (by kernel_rfl) (by kernel_rfl)
  m_rising_pages := mod_mk (f := 248) (oc := .type "function") (od := none) (kV := .none) (doc := .none) (pm := (.str "truerefs.trues" 530)) (an := none) (cdv := (.ref 247)) (ct := .none) (osl := #[]) (by kernel_rfl) (by kernel_rfl) (by kernel_rfl) (by kernel_rfl)
  m_setting_with := mod_mk (f := 253) (oc := .type "function") (od := none) (kV := .none) (doc := .none) (pm := (.str "truerefs.trues" 530)) (an := none) (cdv := (.ref 252)) (ct := .none) (osl := #[]) (by kernel_rfl) (by kernel_rfl) (by kernel_rfl) (by kernel_rfl)
  m_true_settings := mod_mk (f := 258) (oc := .type "function") (od := none) (kV := .none) (doc := .none) (pm := (.str "truerefs.trues" 530)) (an := none) (cdv := (.ref 257)) (ct := .none) (osl := #[]) (by kernel_rfl) (by kernel_rfl) (by kernel_rfl) (by kernel_rfl)
  m_first_setting := modc_mk (f := 265) (oc := .type "function") (od := none) (kV := .none) (doc := .none) (pm := (.str "truerefs.trues" 530)) (an := none) (ct := .none) (osl := #[]) (by kernel_rfl) (by kernel_rfl) (by kernel_rfl) (by kernel_rfl)
  lkFC := cd_mk (oc := .type "code") (od := none) (vs := #[(.str "first_setting" 581), (.str "first_setting" 582), (.str "/claim/cut.py" 583), (.int 201 0), (.int 1 0), (.int 0 0), (.int 0 0), (.int 3 0), (.ref 259), (.bool true), (.int 181 0), (.ref 260), .none, (.ref 261), (.ref 262), (.ref 263), (.int 585 0), (.int 201 0), (.str "/claim/cut.py" 586)]) (sl := #[]) (by kernel_rfl) rfl
  cdFirst := by kernel_rfl
  tabFirst := by kernel_rfl
  noFT := by kernel_rfl
  m_Book_init := met_mk (f := 279) (oc := .type "function") (od := none) (kV := .none) (doc := .none) (pm := (.str "truerefs.book" 588)) (an := none) (cdv := (.ref 278)) (ct := .none) (osl := #[]) (by kernel_rfl) (by kernel_rfl) (by kernel_rfl) (by kernel_rfl) (by kernel_rfl)
  m_Book_begin_again := met_mk (f := 286) (oc := .type "function") (od := none) (kV := .none) (doc := .none) (pm := (.str "truerefs.book" 588)) (an := none) (cdv := (.ref 285)) (ct := .none) (osl := #[]) (by kernel_rfl) (by kernel_rfl) (by kernel_rfl) (by kernel_rfl) (by kernel_rfl)
  m_Book_add_paragraph := met_mk (f := 293) (oc := .type "function") (od := none) (kV := .none) (doc := .none) (pm := (.str "truerefs.book" 588)) (an := none) (cdv := (.ref 292)) (ct := .none) (osl := #[]) (by kernel_rfl) (by kernel_rfl) (by kernel_rfl) (by kernel_rfl) (by kernel_rfl)
  m_Book_course := met_mk (f := 300) (oc := .type "function") (od := none) (kV := .none) (doc := .none) (pm := (.str "truerefs.book" 588)) (an := none) (cdv := (.ref 299)) (ct := .none) (osl := #[]) (by kernel_rfl) (by kernel_rfl) (by kernel_rfl) (by kernel_rfl) (by kernel_rfl)
  m_answer_begins := mod_mk (f := 314) (oc := .type "function") (od := none) (kV := .none) (doc := .none) (pm := (.str "truerefs.book" 588)) (an := none) (cdv := (.ref 313)) (ct := .none) (osl := #[]) (by kernel_rfl) (by kernel_rfl) (by kernel_rfl) (by kernel_rfl)
  m_answer_para := mod_mk (f := 319) (oc := .type "function") (od := none) (kV := .none) (doc := .none) (pm := (.str "truerefs.book" 588)) (an := none) (cdv := (.ref 318)) (ct := .none) (osl := #[]) (by kernel_rfl) (by kernel_rfl) (by kernel_rfl) (by kernel_rfl)
  m_last_page := mod_mk (f := 326) (oc := .type "function") (od := none) (kV := .none) (doc := .none) (pm := (.str "truerefs.book" 588)) (an := none) (cdv := (.ref 325)) (ct := .none) (osl := #[]) (by kernel_rfl) (by kernel_rfl) (by kernel_rfl) (by kernel_rfl)
  m_answer_settles := mod_mk (f := 333) (oc := .type "function") (od := none) (kV := .none) (doc := .none) (pm := (.str "truerefs.book" 588)) (an := none) (cdv := (.ref 332)) (ct := .none) (osl := #[]) (by kernel_rfl) (by kernel_rfl) (by kernel_rfl) (by kernel_rfl)
  m_pages_answered := mod_mk (f := 340) (oc := .type "function") (od := none) (kV := .none) (doc := .none) (pm := (.str "truerefs.book" 588)) (an := none) (cdv := (.ref 339)) (ct := .none) (osl := #[]) (by kernel_rfl) (by kernel_rfl) (by kernel_rfl) (by kernel_rfl)
  m_lines_answered := mod_mk (f := 345) (oc := .type "function") (od := none) (kV := .none) (doc := .none) (pm := (.str "truerefs.book" 588)) (an := none) (cdv := (.ref 344)) (ct := .none) (osl := #[]) (by kernel_rfl) (by kernel_rfl) (by kernel_rfl) (by kernel_rfl)
  m_what_reference_tells := mod_mk (f := 352) (oc := .type "function") (od := none) (kV := .none) (doc := .none) (pm := (.str "truerefs.book" 588)) (an := none) (cdv := (.ref 351)) (ct := .none) (osl := #[]) (by kernel_rfl) (by kernel_rfl) (by kernel_rfl) (by kernel_rfl)
  m_references_answered := mod_mk (f := 357) (oc := .type "function") (od := none) (kV := .none) (doc := .none) (pm := (.str "truerefs.book" 588)) (an := none) (cdv := (.ref 356)) (ct := .none) (osl := #[]) (by kernel_rfl) (by kernel_rfl) (by kernel_rfl) (by kernel_rfl)
  m_answer_behind_passes := mod_mk (f := 364) (oc := .type "function") (od := none) (kV := .none) (doc := .none) (pm := (.str "truerefs.book" 588)) (an := none) (cdv := (.ref 363)) (ct := .none) (osl := #[]) (by kernel_rfl) (by kernel_rfl) (by kernel_rfl) (by kernel_rfl)
  m_answer_trues := mod_mk (f := 371) (oc := .type "function") (od := none) (kV := .none) (doc := .none) (pm := (.str "truerefs.book" 588)) (an := none) (cdv := (.ref 370)) (ct := .none) (osl := #[]) (by kernel_rfl) (by kernel_rfl) (by kernel_rfl) (by kernel_rfl)
  m_answer_missing_marks := mod_mk (f := 376) (oc := .type "function") (od := none) (kV := .none) (doc := .none) (pm := (.str "truerefs.book" 588)) (an := none) (cdv := (.ref 375)) (ct := .none) (osl := #[]) (by kernel_rfl) (by kernel_rfl) (by kernel_rfl) (by kernel_rfl)
  m_answer_call := mod_mk (f := 383) (oc := .type "function") (od := none) (kV := .none) (doc := .none) (pm := (.str "truerefs.book" 588)) (an := none) (cdv := (.ref 382)) (ct := .none) (osl := #[]) (by kernel_rfl) (by kernel_rfl) (by kernel_rfl) (by kernel_rfl)
  m_answers := mod_mk (f := 390) (oc := .type "function") (od := none) (kV := .none) (doc := .none) (pm := (.str "truerefs.book" 588)) (an := none) (cdv := (.ref 389)) (ct := .none) (osl := #[]) (by kernel_rfl) (by kernel_rfl) (by kernel_rfl) (by kernel_rfl)
  b_any := by kernel_rfl
  b_list := by kernel_rfl
  b_len := by kernel_rfl
  b_zip := by kernel_rfl
  b_enumerate := by kernel_rfl
  b_min := by kernel_rfl
  b_str := by kernel_rfl
  b_tuple := by kernel_rfl
  b_range := by kernel_rfl
  b_set := by kernel_rfl
  b_max := by kernel_rfl
  b_all := by kernel_rfl
  cMOST_WIDE := int_mk (u := 189) (by kernel_rfl)
  cMOST_HIGH := int_mk (u := 191) (by kernel_rfl)
  cMOST_FIRST_PAGE := int_mk (u := 193) (by kernel_rfl)
  cMOST_PHRASE := int_mk (u := 195) (by kernel_rfl)
  cPLAIN := int_mk (u := 258) (by kernel_rfl)
  cDIGITS := int_mk (u := 260) (by kernel_rfl)
  cROMAN := int_mk (u := 262) (by kernel_rfl)
  cHOW_FAR := int_mk (u := 264) (by kernel_rfl)
  cMOST_LENGTH := int_mk (u := 266) (by kernel_rfl)
  cMOST_MARK := int_mk (u := 268) (by kernel_rfl)
  cNO_MARK := int_mk (u := 270) (by kernel_rfl)
  cNOT_KNOWN := int_mk (u := 336) (by kernel_rfl)
  cLENGTH_NOT_KNOWN := int_mk (u := 338) (by kernel_rfl)
  cTELLS_NOTHING := int_mk (u := 340) (by kernel_rfl)
  cTELLS_PAGE := int_mk (u := 342) (by kernel_rfl)
  cTELLS_HERE := int_mk (u := 344) (by kernel_rfl)
  cTELLS_NEXT_PAGE := int_mk (u := 346) (by kernel_rfl)
  cMOST_PASSES := int_mk (u := 429) (by kernel_rfl)
  cMOST_COUNTING := int_mk (u := 532) (by kernel_rfl)
  cMOST_PAGES_ABOVE := int_mk (u := 534) (by kernel_rfl)
  cBEGINS := int_mk (u := 590) (by kernel_rfl)
  cPARA := int_mk (u := 592) (by kernel_rfl)
  cPASS := int_mk (u := 594) (by kernel_rfl)
  cSETTLES := int_mk (u := 596) (by kernel_rfl)
  cLINES := int_mk (u := 598) (by kernel_rfl)
  cSHOWN := int_mk (u := 600) (by kernel_rfl)
  cTRUES := int_mk (u := 602) (by kernel_rfl)
  cOUT_OF_RANGE := int_mk (u := 605) (by kernel_rfl)
  cMARK_TWICE := int_mk (u := 608) (by kernel_rfl)
  cTOO_MANY := int_mk (u := 611) (by kernel_rfl)
  cNEVER_AGAIN := int_mk (u := 614) (by kernel_rfl)
  cMOST_WORDS := int_mk (u := 616) (by kernel_rfl)
  cROMAN_SIGNS := tup_mk (a := 102) (d := none) (its := #[(.int 0 348), (.int 1 349), (.int 2 350), (.int 3 351), (.int 2 352), (.int 1 353), (.int 2 354), (.int 3 355), (.int 4 356), (.int 2 357)]) (n := 0) (sl := #[]) (by kernel_rfl) (by kernel_rfl) (by decide) (by repeat' (first | exact .nil | refine .cons ⟨_, rfl⟩ ?_))
theorem all_mk {P : Program} {w : World} {K : PySem.W.Frag} {h : Heap} {mg : Str → Option Value} {fa CF CW CC CB FC FT : Addr} (X : K.In h) (G : h.Ns mainGlobals mg) (hfa : mg "answers" = some (.ref fa)) (A : Has K CF CW CC CB FC FT) :
    ∃ (fd : FuncData) (cc tb : Addr), PySem.W.tabIn K "first_setting" = some (cc, tb) ∧ K.lookup tb = none ∧ (∀ (s : Shared) (us : List Value), us.length = (["calls"] : List Str).length → BindsTo s fd ⟨us, []⟩ ((["calls"] : List Str).zip us)) ∧
      ∀ base : Heap, K.In base → base.Ns mainGlobals mg → base.BuiltinsAt mg tb → FnOk P w K mg base CX0 11 fa fd ["calls"] (spAnswers K tb) := by
  generalize ht : (⟨CF, CW, CC, CB, FC, FT⟩ : Ad) = t
  have A : Has K t.CF t.CW t.CC t.CB t.FC t.FT := by rw [← ht]; exact A
  have T : Txt K mg t := txt_mk X G A
  obtain ⟨f, oc, od, kV, doc, pm, an, cdv, ct, osl, a, l, c, kp⟩ := A.m_answers
  have e := hfa.symm.trans (PySem.W.mg_of X G a)
  cases e
  have F := fun_mk (st := s_answers) l c kp
  refine ⟨PySem.W.fnOf "answers" "answers" (defArgs s_answers) (defBody s_answers) (defScope s_answers) .none kV doc pm an cdv ct, t.FC, t.FT, A.tabFirst, A.noFT, fun s us hu => match us, hu with | [_], _ => .of_eq rfl, fun base hKb _ hBb => ?_⟩
  have gDigits : Fn P w K mg base 1 "digits_length" ["page"] spDigits := fn_top X G A.m_digits_length bs_digits_length fun _ _ F => ok_digits F T
  have gRoman : Fn P w K mg base 1 "roman_length" ["page"] spRoman := fn_top X G A.m_roman_length bs_roman_length fun _ _ F => ok_roman F T
  have gNumber : Fn P w K mg base 2 "number_length" ["frame", "kind", "page"] (spNumber t) := fn_top X G A.m_number_length bs_number_length fun _ _ F => ok_number F T gDigits gRoman
  have gWhat : Fn P w K mg base 1 "what_is_told" ["kind", "own_page", "mark_page"] spWhat := fn_top X G A.m_what_is_told bs_what_is_told fun _ _ F => ok_what F T
  have gMark : Fn P w K mg base 1 "mark_page_in" ["marks", "mark", "setting"] spMarkPage := fn_top X G A.m_mark_page_in bs_mark_page_in fun _ _ F => ok_markPage F T
  have gRef : Fn P w K mg base 3 "reference_length" ["frame", "kind", "own_page", "mark_page"] (spRef t) := fn_top X G A.m_reference_length bs_reference_length fun _ _ F => ok_ref F T gWhat gNumber
  have gLongs : Fn P w K mg base 4 "word_lengths" ["frame", "words", "marks", "setting"] (spLongs t) := fn_top X G A.m_word_lengths bs_word_lengths fun _ _ F => ok_longs F T gMark gRef
  have gParLine : Fn P w K mg base 1 "paragraph_line" ["frame", "line", "begins_page"] (spParLine t) := fn_top X G A.m_paragraph_line bs_paragraph_line fun _ _ F => ok_parLine F T
  have gLines : Fn P w K mg base 2 "word_lines" ["frame", "openings", "lengths"] (spLines t) := fn_top X G A.m_word_lines bs_word_lines fun _ _ F => ok_lines F T gParLine
  have gPage : Fn P w K mg base 1 "page_of_line" ["frame", "line"] (spPage t) := fn_top X G A.m_page_of_line bs_page_of_line fun _ _ F => ok_page F T
  have gLinesBy : Fn P w K mg base 5 "lines_by" ["book", "setting"] (spLinesBy t) := fn_top X G A.m_lines_by bs_lines_by fun _ _ F => ok_linesBy F T gLongs gLines
  have gNext : Fn P w K mg base 6 "next_setting" ["book", "setting"] (spNext t) := fn_top X G A.m_next_setting bs_next_setting fun _ _ F => ok_next F T gLinesBy gPage
  have gCInit : Mkr P w K mg base 1 "Course" t.CC ["self", "settings", "back"] (spCInit t) := mkr_top X G A.aCourse A.mkCourse A.kcCourse A.m_Course_init bs_Course_init fun _ _ F => ok_cInit F T
  have gRing : Mth P w K mg base 1 t.CC "ring_length" ["self"] (spRingLen t) := mth_top A.m_Course_ring_length bs_Course_ring_length fun _ _ F => ok_ringLen F T
  have gBehind : Mth P w K mg base 2 t.CC "setting_behind" ["self", "n"] (spBehind t) := mth_top A.m_Course_setting_behind bs_Course_setting_behind fun _ _ F => ok_behind F T gRing
  have gCourse : Fn P w K mg base 7 "course_of" ["book"] (spCourse t) := fn_top X G A.m_course_of bs_course_of fun _ _ F => ok_courseOf F T gCInit gNext
  have gFInit : Mkr P w K mg base 1 "Frame" t.CF ["self", "wide", "high", "first_page", "here", "next_page", "before"] (spFInit t) := mkr_top X G A.aFrame A.mkFrame A.kcFrame A.m_Frame_init bs_Frame_init fun _ _ F => ok_fInit F T
  have gFirst : Fn P w K mg base 3 "first_frame" [] (spFirst t) := fn_top X G A.m_first_frame bs_first_frame fun _ _ F => ok_first F T gFInit
  have gFrameOf : Fn P w K mg base 3 "frame_of" ["numbers"] (spFrameOf t) := fn_top X G A.m_frame_of bs_frame_of fun _ _ F => ok_frameOf F T gFInit
  have gAllowed : Fn P w K mg base 1 "frame_is_allowed" ["frame"] (spAllowed t) := fn_top X G A.m_frame_is_allowed bs_frame_is_allowed fun _ _ F => ok_allowed F T
  have gWInit : Mkr P w K mg base 1 "Word" t.CW ["self", "kind", "told", "own_mark"] (spWInit t) := mkr_top X G A.aWord A.mkWord A.kcWord A.m_Word_init bs_Word_init fun _ _ F => ok_wInit F T
  have gTold : Fn P w K mg base 3 "words_told" ["numbers"] (spWordsTold t) := fn_top X G A.m_words_told bs_words_told fun _ _ F => ok_told F T gWInit
  have gWAllowed : Fn P w K mg base 1 "word_is_allowed" ["word"] (spWAllowed t) := fn_top X G A.m_word_is_allowed bs_word_is_allowed fun _ _ F => ok_wAllowed F T
  have gTwice : Fn P w K mg base 1 "has_mark_twice" ["marks", "words"] (spTwice t) := fn_top X G A.m_has_mark_twice bs_has_mark_twice fun _ _ F => ok_twice F T
  have gBegin : Mth P w K mg base 1 t.CB "begin_again" ["self", "frame"] (spBegin t) := mth_top A.m_Book_begin_again bs_Book_begin_again fun _ _ F => ok_begin F T
  have gBInit : Mkr P w K mg base 2 "Book" t.CB ["self", "frame"] (spBInit t) := mkr_top X G A.aBook A.mkBook A.kcBook A.m_Book_init bs_Book_init fun _ _ F => ok_bInit F T gBegin
  have gAdd : Mth P w K mg base 1 t.CB "add_paragraph" ["self", "begins_page", "added"] (spAdd t) := mth_top A.m_Book_add_paragraph bs_Book_add_paragraph fun _ _ F => ok_add F T
  have gGet : Mth P w K mg base 8 t.CB "course" ["self"] (spGet t) := mth_top A.m_Book_course bs_Book_course fun _ _ F => ok_get F T gCourse
  have gLast : Fn P w K mg base 1 "last_page" ["setting"] spLast := fn_top X G A.m_last_page bs_last_page fun _ _ F => ok_last F T
  have aBegins : Fn P w K mg base 4 "answer_begins" ["book", "numbers"] (spABegins t) := fn_top X G A.m_answer_begins bs_answer_begins fun _ _ F => ok_aBegins F T gFrameOf gAllowed gBegin
  have aPara : Fn P w K mg base 4 "answer_para" ["book", "numbers"] (spAPara t) := fn_top X G A.m_answer_para bs_answer_para fun _ _ F => ok_aPara F T gTold gWAllowed gTwice gAdd
  have aSettles : Fn P w K mg base 9 "answer_settles" ["book"] (spASettles t) := fn_top X G A.m_answer_settles bs_answer_settles fun _ _ F => ok_aSettles F T gGet gRing gLast
  have gToldOf : Fn P w K mg base 1 "marks_told_of" ["words"] (spToldOf t) := fn_top X G A.m_marks_told_of bs_marks_told_of fun _ _ F => ok_toldOf F T
  have gCount : Fn P w K mg base 2 "words_that_count" ["words"] (spCount t) := fn_top X G A.m_words_that_count bs_words_that_count fun _ _ F => ok_count F T gToldOf
  have gLastPage : Fn P w K mg base 1 "last_page_there_may_be" ["book"] (spLastPage t) := fn_top X G A.m_last_page_there_may_be bs_last_page_there_may_be fun _ _ F => ok_lastPage F T
  have gMany : Fn P w K mg base 3 "has_too_many_tries" ["book"] (spMany t) := fn_top X G A.m_has_too_many_tries bs_has_too_many_tries fun _ _ F => ok_many F T gLastPage gCount
  have gRise : Fn P w K mg base 1 "rising_pages" ["first", "last", "many"] spRise := fn_top X G A.m_rising_pages bs_rising_pages fun _ _ F => ok_rise F T
  have gWith : Fn P w K mg base 1 "setting_with" ["words", "numbers", "pages"] spWith := fn_top X G A.m_setting_with bs_setting_with fun _ _ F => ok_with F T
  have gTrues : Fn P w K mg base 7 "true_settings" ["book"] (spTrues t) := fn_top X G A.m_true_settings bs_true_settings fun _ _ F => ok_trues F T gCount gLastPage gRise gWith gNext
  have gFirstS : Fn P w K mg base 3 "first_setting" ["settings"] (spFirstS t) := fn_topC X G A.m_first_setting bs_first_setting fun _ _ F hc => ok_firstS F hc T hBb hKb
  have gPages : Fn P w K mg base 1 "pages_answered" ["setting"] spPages := fn_top X G A.m_pages_answered bs_pages_answered fun _ _ F => ok_pages F T
  have gLinesA : Fn P w K mg base 6 "lines_answered" ["book", "setting"] (spLinesA t) := fn_top X G A.m_lines_answered bs_lines_answered fun _ _ F => ok_linesA F T gLinesBy gPage
  have gTells : Fn P w K mg base 2 "what_reference_tells" ["book", "setting", "number"] (spTells t) := fn_top X G A.m_what_reference_tells bs_what_reference_tells fun _ _ F => ok_tells F T gMark gWhat
  have gRefsA : Fn P w K mg base 5 "references_answered" ["book", "setting"] (spRefsA t) := fn_top X G A.m_references_answered bs_references_answered fun _ _ F => ok_refsA F T gLongs gTells
  have aBehind : Fn P w K mg base 9 "answer_behind_passes" ["book", "call", "n"] (spBehindA t) := fn_top X G A.m_answer_behind_passes bs_answer_behind_passes fun _ _ F => ok_behindA F T gGet gBehind gPages gLinesA gRefsA
  have aTrues : Fn P w K mg base 8 "answer_trues" ["book"] (spATrues t) := fn_top X G A.m_answer_trues bs_answer_trues fun _ _ F => ok_aTrues F T gMany gTrues gFirstS
  have aOpen : Fn P w K mg base 2 "answer_missing_marks" ["book"] (spAOpen t) := fn_top X G A.m_answer_missing_marks bs_answer_missing_marks fun _ _ F => ok_aOpen F T gToldOf
  have aCall : Fn P w K mg base 10 "answer_call" ["book", "call", "numbers"] (spACall t) := fn_top X G A.m_answer_call bs_answer_call fun _ _ F => ok_aCall F T aBegins aPara aBehind aSettles aTrues aOpen
  exact ok_answers (by decide) F T gBInit gFirst aCall
end Tr
open PySem PySem.W PyProof.Rows
set_option maxRecDepth 100000 in
set_option maxHeartbeats 0 in
theorem PySem.Challenge.cw_truerefs_s01_answers_holds : PySem.Challenge.rw_truerefs_s01_answers.Holds := by
  w_on
  refine PySem.W.holds_os (q := Tr.q0) (loose := []) (Xt := fun s => xlAt Tr.q0 [] s && recOk [] s) (XP := XL Tr.q0 []) (Yf := Hook.obs (kHook Tr.K0 Tr.as0 Tr.as0_K0)) (Ya := Hook.val (kHook Tr.K0 Tr.as0 Tr.as0_K0)) (YP := Hook.says (kHook Tr.K0 Tr.as0 Tr.as0_K0)) (N := 2700) Tr.left0 (Hook.of _) (Hook.keeps _) (fun s e => xl_of s (Bool.and_eq_true_iff.mp e).1) XL.keeps (by rfl) (by rfl) (by rfl) (fun s e => recFacts_of (Bool.and_eq_true_iff.mp e).2) os_shapes (by first | assumption | decide +kernel) (by decide +kernel) ⟨rfl, rfl, rfl, rfl, rfl, by decide +kernel⟩ ?hw ?hc
  case hw => exact ⟨[.list [.int 3, .int 0, .int 0]], by decide +kernel, by decide +kernel⟩
  k_fillS
  refine' Tr.walk_specT (r := PySem.Challenge.rw_truerefs_s01_answers) (k := 11) (CX := L2.CX0) (ps := ["calls"]) (sp := Tr.spAnswers) (x := "first_setting") (by decide +kernel) rfl rfl ⟨rfl, by decide, by decide⟩ ?R (fun w h Y => PySem.W.kIn_of Y) ?F ?S (fun _ _ _ _ z => z)
  case R => exact (by first | exact rfl | kernel_rfl)
  case F =>
    intro w mg fa h Y KX G hmg
    exact Tr.all_mk KX G hmg (Tr.has0 _)
  case S =>
    intro K tb H xs a hO hwi hask hx
    cases hx with
    | cons h1 h2 =>
      cases h2
      cases h1 with
      | lst hs ha =>
        have e := L2.ints_dw a.1 _ ha
        subst e
        exact ⟨_, a.1, rfl, hO.1, Tr.CallsAt.of hs hO, hask, fun H' p hp => .lst (L2.SqL.of hp) (L2.dw_ints _)⟩

