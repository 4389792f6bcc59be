import PyProof.Rows.All
import Wide.All
import OpenK.AllK
import Wide.FinOn
import PyProof.EqAt
import PyProof.EqKinds
import PyProof.TupleCall
import KE.BitLaws
import KE.OsGo
import Open.SpecLaws
import PyKp176
import PySem.Challenge.RW_sheettexts_s02_ru_work
set_option Elab.async false
set_option linter.all false
set_option maxRecDepth 100000
namespace L2
open PySem PySem.Spec PyProof.Rows

abbrev Key := Sum Int Str
def keyIs : Key → Value → Bool
  | .inl k, v => Value.isInt k v
  | .inr x, v => Value.isStrOf x v
def keyH (w : World) : Key → Int
  | .inl k => hashInt k
  | .inr x => hashStr w x
theorem keyIs_shape : ∀ {k : Key} {v : Value}, keyIs k v = true → (∃ i t, k = Sum.inl i ∧ v = Value.int i t) ∨ (∃ x t, k = Sum.inr x ∧ v = Value.str x t)
  | .inl i, v, h => by
    obtain ⟨t, e⟩ := Value.isInt_shape (k := i) (v := v) h
    exact .inl ⟨i, t, rfl, e⟩
  | .inr x, v, h => by
    obtain ⟨t, e⟩ := Value.isStrOf_shape (x := x) (v := v) h
    exact .inr ⟨x, t, rfl, e⟩
theorem keyIs_int (i : Int) (t : Tok) : keyIs (.inl i) (.int i t) = true := by simp [keyIs, Value.isInt]
theorem keyIs_str (x : Str) (t : Tok) : keyIs (.inr x) (.str x t) = true := by simp [keyIs, Value.isStrOf]
theorem key_ll (a b : Int) : decide ((Sum.inl a : Key) = Sum.inl b) = (a == b) := by
  by_cases e : a = b
  · subst e; simp
  · have h : ¬ (Sum.inl a : Key) = Sum.inl b := fun q => e (Sum.inl.inj q)
    rw [decide_eq_false h]
    exact (beq_eq_false_iff_ne.mpr e).symm
theorem key_rr (a b : Str) : decide ((Sum.inr a : Key) = Sum.inr b) = decide (a = b) := by
  by_cases e : a = b
  · subst e; simp
  · have h : ¬ (Sum.inr a : Key) = Sum.inr b := fun q => e (Sum.inr.inj q)
    rw [decide_eq_false h, decide_eq_false e]
theorem key_lr (a : Int) (b : Str) : decide ((Sum.inl a : Key) = Sum.inr b) = false := decide_eq_false (fun q => nomatch q)
theorem key_rl (a : Str) (b : Int) : decide ((Sum.inr a : Key) = Sum.inl b) = false := decide_eq_false (fun q => nomatch q)

def mixKind (prog : Program) (w : World) : PySem.KeyKind prog w Key where
  is := keyIs
  hash := keyH w
  inj := fun v a b ha hb => by
    rcases keyIs_shape ha with ⟨i, t, rfl, rfl⟩ | ⟨x, t, rfl, rfl⟩
    · rcases keyIs_shape hb with ⟨j, u, rfl, e⟩ | ⟨y, u, rfl, e⟩
      · injection e with e1 _; rw [e1]
      · exact nomatch e
    · rcases keyIs_shape hb with ⟨j, u, rfl, e⟩ | ⟨y, u, rfl, e⟩
      · exact nomatch e
      · injection e with e1 _; rw [e1]
  byValue := fun k v h => by
    rcases keyIs_shape h with ⟨i, t, rfl, rfl⟩ | ⟨x, t, rfl, rfl⟩ <;> rfl
  pyHash := fun hv h => by
    rcases keyIs_shape hv with ⟨i, t, rfl, rfl⟩ | ⟨x, t, rfl, rfl⟩
    · exact wpAny_pyHash_int h
    · exact wpAny_pyHash_str h
  eqBool := fun hu hv h => by
    rcases keyIs_shape hu with ⟨i, t, rfl, rfl⟩ | ⟨x, t, rfl, rfl⟩
    · rcases keyIs_shape hv with ⟨j, u, rfl, rfl⟩ | ⟨y, u, rfl, rfl⟩
      · rw [key_ll] at h; exact wpAny_eqBool_int h
      · rw [key_lr] at h; exact SeqAt.EqAt.int_str i t y u _ _ _ _ h
    · rcases keyIs_shape hv with ⟨j, u, rfl, rfl⟩ | ⟨y, u, rfl, rfl⟩
      · rw [key_rl] at h; exact SeqAt.EqAt.str_int x t j u _ _ _ _ h
      · rw [key_rr] at h; exact wpAny_eqBool_str h
  «strs» := fun k x t v h => by
    rcases keyIs_shape h with ⟨i, u, rfl, e⟩ | ⟨y, u, rfl, e⟩
    · exact nomatch e
    · injection e with e1 _
      subst e1
      cases v <;> rfl

theorem mixKind_int (prog : Program) (w : World) (i : Int) (t : Tok) : (mixKind prog w).is (.inl i) (.int i t) = true := keyIs_int i t
theorem mixKind_str (prog : Program) (w : World) (x : Str) (t : Tok) : (mixKind prog w).is (.inr x) (.str x t) = true := keyIs_str x t
end L2

namespace L2
open PySem PySem.Spec PyProof.Rows

inductive V where
  | non | bl (b : Bool) | int (i : Int) | str (x : Str) | byt (b : Array UInt8) | flt (b : UInt64) | ref (a : Addr) | ty (n : String)
  deriving DecidableEq

def RelV : V → Value → Prop
  | .non, u => u = Value.none
  | .bl b, u => u = Value.bool b
  | .int i, u => ∃ t, u = Value.int i t
  | .str x, u => ∃ t, u = Value.str x t
  | .byt b, u => ∃ t, u = Value.bytes b t
  | .flt b, u => ∃ t, u = Value.float b t
  | .ref a, u => u = Value.ref a
  | .ty n, u => u = Value.type n

abbrev Vals : List V → List Value → Prop := Paired RelV
theorem Vals.length {xs : List V} {us : List Value} (r : Vals xs us) : xs.length = us.length := Paired.length r
theorem Vals.get : ∀ {xs : List V} {us : List Value} {i : Nat} {x : V}, Vals xs us → xs[i]? = some x → ∃ u, us[i]? = some u ∧ RelV x u
  | _, _, _, _, .nil, e => by simp at e
  | _, _, 0, _, .cons r _, e => by simp at e; subst e; exact ⟨_, rfl, r⟩
  | _, _, i + 1, x, .cons _ t, e => by
    obtain ⟨u, h1, h2⟩ := Vals.get (i := i) (x := x) t (by simpa using e)
    exact ⟨u, by simpa using h1, h2⟩
theorem Vals.set {x : V} {u : Value} (r : RelV x u) : ∀ {xs : List V} {us : List Value} (i : Nat), Vals xs us → Vals (xs.set i x) (us.set i u)
  | _, _, _, .nil => .nil
  | _, _, 0, .cons _ t => .cons r t
  | _, _, i + 1, .cons q t => .cons q (Vals.set r i t)
theorem Vals.append : ∀ {xs ys : List V} {us ws : List Value}, Vals xs us → Vals ys ws → Vals (xs ++ ys) (us ++ ws)
  | _, _, _, _, .nil, s => s
  | _, _, _, _, .cons r t, s => .cons r (Vals.append t s)
theorem Vals.take : ∀ {xs : List V} {us : List Value} (n : Nat), Vals xs us → Vals (xs.take n) (us.take n)
  | _, _, 0, _ => .nil
  | _, _, _ + 1, .nil => .nil
  | _, _, n + 1, .cons r t => .cons r (Vals.take n t)
theorem Vals.drop : ∀ {xs : List V} {us : List Value} (n : Nat), Vals xs us → Vals (xs.drop n) (us.drop n)
  | _, _, 0, r => r
  | _, _, _ + 1, .nil => .nil
  | _, _, n + 1, .cons _ t => Vals.drop n t
def RelO : Option V → Option Value → Prop
  | some v, some u => RelV v u
  | none, none => True
  | _, _ => False
def KV {κ : Type} : List (κ × V) → List (κ × Value) → Prop := Paired fun (p : κ × V) (q : κ × Value) => p.1 = q.1 ∧ RelV p.2 q.2

def kV : Key → V
  | .inl i => .int i
  | .inr x => .str x

inductive HO where
  /-- a list -/
  | lst (xs : List V)
  /-- a tuple (never changes) -/
  | tup (xs : List V)
  /-- a dict whose keys are ints and texts; one whose keys are tuples of ints and texts (the empty one is both) -/
  | dK (kvs : List (Key × V)) | dT (kvs : List (List Key × V))
  /-- a set of ints: its members, its size -/
  | set (S : Int → Bool) (n : Nat)
  /-- an instance of the class at C, its dict at dx, its attributes -/
  | ins (C dx : Addr) (fs : List (Str × V))
  /-- the dict of the instance at x -/
  | own (x : Addr)
  /-- the dict of an exception -/
  | xd (fs : List (Str × V))
  /-- a bound method, f of x -/
  | met (f x : Addr)
  /-- a range object lo, lo + 1, .. below hi -/
  | rng (lo hi : Int)
  /-- a thing that is known to the object (the script; a dict while a loop walks it): read, never written while it is so -/
  | frz (o : Obj) (u : HO)
  /-- a code object's table -/
  | tbl (ps : Array Value)
  /-- any other thing, by what is true of its one object (a def of one's own: SetO a S n := HO.ext fun h => ..) -/
  | ext (φ : Heap → Prop)

abbrev Hp := Addr → Option HO
def upd (H : Hp) (a : Addr) (o : HO) : Hp := fun b => if b = a then some o else H b
theorem upd_same {H : Hp} {a : Addr} {o : HO} : upd H a o a = some o := by unfold upd; rw [if_pos rfl]
theorem upd_ne {H : Hp} {a b : Addr} {o : HO} (h : b ≠ a) : upd H a o b = H b := by unfold upd; rw [if_neg h]
theorem upd_upd {H : Hp} {a : Addr} {o u : HO} : upd (upd H a o) a u = upd H a u := by
  funext b; unfold upd; split <;> rfl
theorem ne_of {H : Hp} {a b : Addr} {o u : HO} (h : H a = some o) (h' : H b = some u) (d : o ≠ u) : a ≠ b := by
  intro e; subst e; rw [h] at h'; exact d (Option.some.inj h')
theorem ne_of_none {H : Hp} {a b : Addr} {o : HO} (h : H a = some o) (h' : H b = none) : a ≠ b := by
  intro e; subst e; rw [h] at h'; cases h'

section
variable (P : Program) (w : World)
def ObjOk (H : Hp) (h : Heap) (a : Addr) : HO → Prop
  | .lst xs => xs.length ≤ sizeLine ∧ ∃ (its : List Value) (n : Nat), Vals xs its ∧ h.get? a = some { cls := .type "list", data := .seq its.toArray n }
  | .tup xs => xs.length ≤ sizeLine ∧ ∃ its : List Value, Vals xs its ∧ IsTup h a its.toArray
  | .dK kvs => kvs.length ≤ sizeLine ∧ (a == sysModules) = false ∧ ∃ vs, KV kvs vs ∧ h.DictOf (mixKind P w) a vs
  | .dT kvs => kvs.length ≤ sizeLine ∧ (a == sysModules) = false ∧ ∃ xs : List (List Key × Addr × Value),
      Paired (fun (p : List Key × V) (q : List Key × Addr × Value) => p.1 = q.1 ∧ H q.2.1 = some (.tup (p.1.map kV)) ∧ RelV p.2 q.2.2) kvs xs ∧
      ∃ o es ep, h.get? a = some o ∧ o.ExactDict ∧ o.data = .dict es ep ∧ es.toList = xs.map (entryOfKey (tupleKind (mixKind P w))) ∧ (xs.map (·.1)).Nodup
  | .set S n => h.SetOf (intKind P w) a S n
  | .ins C dx fs => H dx = some (.own a) ∧ fs.length ≤ 1000 ∧ dx ≠ a ∧ h.get? a = some (PySem.W.instObj C dx) ∧
      ∃ mA, h.Ns1 dx mA ∧ (∀ f, RelO (fs.lookup f) (mA f)) ∧ PySem.Within mA (fs.map (·.1))
  | .own _ => ∃ o, h.get? a = some o
  | .xd fs => ∃ mA, h.Ns1 a mA ∧ ∀ f, RelO (fs.lookup f) (mA f)
  | .rng lo hi => ∃ t u v, h.get? a = some { cls := .type "range", data := .fields #[.int lo t, .int hi u, .int 1 v] }
  | .frz o u => h.get? a = some o ∧ ObjOk H h a u
  | .tbl ps => h.get? a = some { cls := .none, data := .fields ps }
  | .met f x => h.get? a = some (PySem.W.methodObj (.ref f) (.ref x))
  | .ext φ => φ h ∧ (∃ o, h.get? a = some o) ∧ ∀ h1 h2 : Heap, φ h1 → (∀ o, h1.get? a = some o → h2.get? a = some o) → φ h2
def HOk (H : Hp) (h : Heap) : Prop := ∀ a o, H a = some o → ObjOk P w H h a o
end

section
variable {P : Program} {w : World} {H H' : Hp} {h h' : Heap} {a : Addr} {o : HO}
theorem ObjOk.lt (x : ObjOk P w H h a o) : a < h.objs.size := by
  cases o with
  | lst xs => obtain ⟨_, _, _, _, e⟩ := x; exact Heap.lt_size e
  | tup xs => obtain ⟨_, _, _, p⟩ := x; exact p.lt
  | dK kvs => obtain ⟨_, _, _, _, o, _, _, e, _⟩ := x; exact Heap.lt_size e
  | dT kvs => obtain ⟨_, _, _, _, o, _, _, e, _⟩ := x; exact Heap.lt_size e
  | set S n => obtain ⟨o, _, _, _, e, _⟩ := x; exact Heap.lt_size e
  | ins C dx fs => obtain ⟨_, _, _, e, _⟩ := x; exact Heap.lt_size e
  | own y => obtain ⟨_, e⟩ := x; exact Heap.lt_size e
  | xd fs => obtain ⟨_, ⟨_, _, _, e, _⟩, _⟩ := x; exact Heap.lt_size e
  | rng lo hi => obtain ⟨_, _, _, e⟩ := x; exact Heap.lt_size e
  | frz ob u => obtain ⟨e, _⟩ := x; exact Heap.lt_size e
  | tbl ps => exact Heap.lt_size (show h.get? a = some _ from x)
  | met f y => exact Heap.lt_size (show h.get? a = some _ from x)
  | ext φ => obtain ⟨_, ⟨_, e⟩, _⟩ := x; exact Heap.lt_size e
theorem Paired.mapP {α β : Type} {F G : α → β → Prop} : ∀ {l₁ : List α} {l₂ : List β}, Paired F l₁ l₂ → (∀ a b, F a b → G a b) → Paired G l₁ l₂
  | _, _, .nil, _ => .nil
  | _, _, .cons r t, f => .cons (f _ _ r) (Paired.mapP t f)
theorem ObjOk.stay (x : ObjOk P w H h a o) (k : ∀ b u, (b = a ∨ H b = some (.own a)) → h.get? b = some u → h'.get? b = some u)
    (ho : ∀ b, H b = some (.own a) → H' b = some (.own a)) (ht : ∀ b xs, H b = some (.tup xs) → H' b = some (.tup xs)) : ObjOk P w H' h' a o := by
  induction o with
  | lst xs => obtain ⟨z, its, n, r, e⟩ := x; exact ⟨z, its, n, r, k _ _ (.inl rfl) e⟩
  | tup xs => obtain ⟨z, its, r, ob, e, c⟩ := x; exact ⟨z, its, r, ob, k _ _ (.inl rfl) e, c⟩
  | dK kvs => obtain ⟨z, y, vs, r, ob, es, ep, e, c⟩ := x; exact ⟨z, y, vs, r, ob, es, ep, k _ _ (.inl rfl) e, c⟩
  | dT kvs =>
    obtain ⟨z, y, xs, r, ob, es, ep, e, c⟩ := x
    exact ⟨z, y, xs, Paired.mapP r fun p q z => ⟨z.1, ht _ _ z.2.1, z.2.2⟩, ob, es, ep, k _ _ (.inl rfl) e, c⟩
  | set S n => obtain ⟨ob, es, ep, t, e, c⟩ := x; exact ⟨ob, es, ep, t, k _ _ (.inl rfl) e, c⟩
  | ins C dx fs =>
    obtain ⟨d, z, ne, e, mA, ⟨od, es, ep, e2, c⟩, r⟩ := x
    exact ⟨ho _ d, z, ne, k _ _ (.inl rfl) e, mA, ⟨od, es, ep, k _ _ (.inr d) e2, c⟩, r⟩
  | own y => obtain ⟨ob, e⟩ := x; exact ⟨ob, k _ _ (.inl rfl) e⟩
  | xd fs => obtain ⟨mA, ⟨od, es, ep, e, c⟩, r⟩ := x; exact ⟨mA, ⟨od, es, ep, k _ _ (.inl rfl) e, c⟩, r⟩
  | rng lo hi => obtain ⟨t, u, v, e⟩ := x; exact ⟨t, u, v, k _ _ (.inl rfl) e⟩
  | frz ob u ih => obtain ⟨e, q⟩ := x; exact ⟨k _ _ (.inl rfl) e, ih q⟩
  | tbl ps =>
    have e : h.get? a = some { cls := .none, data := .fields ps } := x
    show h'.get? a = some { cls := .none, data := .fields ps }
    exact k a _ (.inl rfl) e
  | met f y =>
    have e : h.get? a = some (PySem.W.methodObj (.ref f) (.ref y)) := x
    show h'.get? a = some (PySem.W.methodObj (.ref f) (.ref y))
    exact k a _ (.inl rfl) e
  | ext φ => obtain ⟨p, ⟨o, e⟩, st⟩ := x; exact ⟨st _ _ p fun o q => k _ _ (.inl rfl) q, ⟨o, k _ _ (.inl rfl) e⟩, st⟩
theorem HOk.lt (x : HOk P w H h) (e : H a = some o) : a < h.objs.size := (x a o e).lt
theorem HOk.fresh (x : HOk P w H h) (e : h.objs.size ≤ a) : H a = none := by
  cases q : H a with
  | none => rfl
  | some u => exact absurd (Nat.lt_of_lt_of_le (x.lt q) e) (Nat.lt_irrefl _)
theorem HOk.kept (x : HOk P w H h) (k : ∀ b u, h.get? b = some u → h'.get? b = some u) : HOk P w H h' := fun a o e =>
  (x a o e).stay (fun b u _ q => k b u q) (fun _ q => q) fun _ _ q => q
theorem HOk.laid (x : HOk P w H h) (k : ∀ b u, h.get? b = some u → h'.get? b = some u) (hp : h.objs.size ≤ a) (new : ObjOk P w (upd H a o) h' a o) : HOk P w (upd H a o) h' := fun b u e => by
  have hn := x.fresh hp
  by_cases hb : b = a
  · subst hb; rw [upd_same] at e; cases e; exact new
  · rw [upd_ne hb] at e
    exact (x b u e).stay (fun c v _ q => k c v q) (fun c q => by rw [upd_ne (ne_of_none q hn)]; exact q) fun c xs q => by rw [upd_ne (ne_of_none q hn)]; exact q
end

def Rd (H : Hp) (a : Addr) (u : HO) : Prop := H a = some u ∨ ∃ o, H a = some (.frz o u)
theorem Rd.ok {P : Program} {w : World} {H : Hp} {h : Heap} {a : Addr} {u : HO} (r : Rd H a u) (x : HOk P w H h) : ObjOk P w H h a u := by
  rcases r with r | ⟨o, r⟩
  · exact x a u r
  · obtain ⟨_, q⟩ := x a _ r
    exact q
def Mut : Option HO → Prop
  | some (.lst _) => True
  | some (.dK _) => True
  | some (.dT _) => True
  | some (.set _ _) => True
  | some (.ins _ _ _) => True
  | some (.ext _) => True
  | _ => False
section
variable {P : Program} {w : World} {H : Hp} {h h' : Heap} {x e : Addr} {o' : HO}
theorem HOk.write (ok : HOk P w H h) (mu : Mut (H x)) (he : e = x ∨ H e = some (.own x)) (k : ∀ b u, b ≠ e → h.get? b = some u → h'.get? b = some u) (heo : ∃ u, h'.get? e = some u)
    (new : ObjOk P w (upd H x o') h' x o') : HOk P w (upd H x o') h' := fun b u q => by
  have nown : ∀ c y, H c = some (.own y) → c ≠ x := fun c y r z => by subst z; rw [r] at mu; exact mu
  have ntup : ∀ c xs, H c = some (.tup xs) → c ≠ x := fun c xs r z => by subst z; rw [r] at mu; exact mu
  by_cases hb : b = x
  · subst hb; rw [upd_same] at q; cases q; exact new
  · rw [upd_ne hb] at q
    by_cases hbe : b = e
    · have q' : H b = some (.own x) := by
        rcases he with z | z
        · exact absurd (hbe.trans z) hb
        · rw [hbe]; exact z
      rw [q] at q'; cases q'
      obtain ⟨v, hv⟩ := heo
      exact ⟨v, by rw [hbe]; exact hv⟩
    · refine (ok b u q).stay (fun c v hc r => k c v ?_ r) (fun c r => by rw [upd_ne (nown c b r)]; exact r) fun c xs r => by rw [upd_ne (ntup c xs r)]; exact r
      rcases hc with rfl | hc
      · exact hbe
      · rintro rfl
        rcases he with z | z
        · exact nown c b hc z
        · rw [hc] at z; cases z; exact hb rfl
end

structure Un (fs ex : List Addr) (H H' : Hp) (h h' : Heap) : Prop where
  keep : ∀ b o, h.get? b = some o → H b = none → b ∉ fs → b ∉ ex → h'.get? b = some o
  slot : ∀ b o, h.get? b = some o → H b = none → b ∈ fs → b ∉ ex → ∃ sl, h'.get? b = some { o with slots := sl }
  free : ∀ b o, h.get? b = some o → H b = none → b ∉ ex → H' b = none
  there : ∀ b o, h.get? b = some o → b ∉ ex → ∃ o', h'.get? b = some o'
  tups : ∀ b xs, H b = some (.tup xs) → H' b = some (.tup xs)
  frzs : ∀ b o u, H b = some (.frz o u) → H' b = some (.frz o u)
  tbls : ∀ b ps, H b = some (.tbl ps) → ∃ more, H' b = some (.tbl (ps ++ more))
section
variable {fs fs' ex ex' : List Addr} {H H1 H2 : Hp} {h h1 h2 h' : Heap} {a x e : Addr} {o : HO}
theorem Un.any (u : Un fs ex H H1 h h1) {b : Addr} {ob : Obj} (q : h.get? b = some ob) (n : H b = none) (hx : b ∉ ex) : ∃ sl, h1.get? b = some { ob with slots := sl } := by
  by_cases hb : b ∈ fs
  · exact u.slot b ob q n hb hx
  · exact ⟨ob.slots, u.keep b ob q n hb hx⟩
theorem Un.kept (k : ∀ b u, h.get? b = some u → h'.get? b = some u) : Un fs ex H H h h' :=
  ⟨fun b ob q _ _ _ => k b ob q, fun b ob q _ _ _ => ⟨ob.slots, k b ob q⟩, fun _ _ _ n _ => n, fun b ob q _ => ⟨ob, k b ob q⟩, fun _ _ q => q, fun _ _ _ q => q, fun _ ps q => ⟨#[], by rw [q]; simp⟩⟩
theorem Un.refl : Un fs ex H H h h := Un.kept fun _ _ q => q
theorem Un.laid (k : ∀ b u, h.get? b = some u → h'.get? b = some u) (hp : h.objs.size ≤ a) (hn : H a = none) : Un fs ex H (upd H a o) h h' where
  keep := fun b u q _ _ _ => k b u q
  slot := fun b u q _ _ _ => ⟨u.slots, k b u q⟩
  free := fun b u q n _ => by rw [upd_ne (Nat.ne_of_lt (Nat.lt_of_lt_of_le (Heap.lt_size q) hp))]; exact n
  there := fun b u q _ => ⟨u, k b u q⟩
  tups := fun b xs q => by rw [upd_ne (ne_of_none q hn)]; exact q
  frzs := fun b u xs q => by rw [upd_ne (ne_of_none q hn)]; exact q
  tbls := fun b ps q => ⟨#[], by rw [upd_ne (ne_of_none q hn), q]; simp⟩
theorem Un.write (mu : Mut (H x)) (he : e = x ∨ H e = some (.own x)) (k : ∀ b u, b ≠ e → h.get? b = some u → h'.get? b = some u) (heo : ∃ u, h'.get? e = some u) : Un fs ex H (upd H x o) h h' := by
  have hx : ∀ b, H b = none → b ≠ x := fun b n z => by subst z; rw [n] at mu; exact mu
  have hb : ∀ b, H b = none → b ≠ e := fun b n z => by
    subst z
    rcases he with r | r
    · exact hx b n r
    · rw [n] at r; cases r
  have hm : ∀ b u, H b = some u → ¬ Mut (some u) → b ≠ x := fun b u q nm z => by subst z; rw [q] at mu; exact nm mu
  refine ⟨fun b u q n _ _ => k b u (hb b n) q, fun b u q n _ _ => ⟨u.slots, k b u (hb b n) q⟩, fun b u q n _ => by rw [upd_ne (hx b n)]; exact n, fun b u q _ => ?_,
    fun b xs q => by rw [upd_ne (hm b _ q fun z => z)]; exact q, fun b u xs q => by rw [upd_ne (hm b _ q fun z => z)]; exact q, fun b ps q => ⟨#[], by rw [upd_ne (hm b _ q fun z => z), q]; simp⟩⟩
  by_cases hbe : b = e
  · subst hbe; exact heo
  · exact ⟨u, k b u hbe q⟩
end

def trk (h : Heap) (H : Hp) : List Addr := (List.range h.objs.size).filter fun a => (H a).isSome
def hidT (h : Heap) (H : Hp) : Heap := PySem.W.hideAll h (trk h H)
theorem hidT_size (h : Heap) (H : Hp) : (hidT h H).objs.size = h.objs.size := PySem.W.hideAll_size _ _
theorem hidT_get {h : Heap} {H : Hp} {b : Addr} {o : Obj} (e : h.get? b = some o) (n : H b = none) : (hidT h H).get? b = some o :=
  PySem.W.hideAll_get _ e fun hm => by
    have q : (H b).isSome = true := (List.mem_filter.mp hm).2
    rw [n] at q; simp at q
theorem of_hidT {h : Heap} {H : Hp} {b : Addr} {o : Obj} (e : (hidT h H).get? b = some o) : h.get? b = some o ∧ H b = none := by
  have e' : h.get? b = some o := PySem.W.of_hideAll (trk h H) e
  refine ⟨e', ?_⟩
  cases q : H b with
  | none => rfl
  | some x =>
    have hm : b ∈ trk h H := List.mem_filter.mpr ⟨List.mem_range.mpr (Heap.lt_size e'), by simp [q]⟩
    have z : (hidT h H).get? b = none := PySem.W.hideAll_none (trk h H) hm
    rw [z] at e; cases e

def allNews (g h : Heap) (L : Addr) : List (Addr × Obj) := (List.range h.objs.size).filterMap fun a => if a = L ∨ (g.get? a).isSome = true then none else (h.get? a).map fun o => (a, o)
def rest (g h : Heap) (L d : Addr) : List (Addr × Obj) := (allNews g h L).filter fun p => decide (p.1 ≠ d)
end L2

namespace L2
open PySem PySem.Spec PyProof.Rows

structure Mod (K : PySem.W.Frag) (mg : Str → Option Value) (base : Heap) : Prop where
  kin : K.In base
  glob : base.Ns mainGlobals mg
  blt : ∃ mb, base.Ns builtinsNs mb ∧ ∀ x : Str, x ≠ "__name__" → mb x = bootBuiltins x
  nolimit : base.NoLimit

structure Cx where
  prog : Program
  w : World
  K : PySem.W.Frag
  mg : Str → Option Value
  base : Heap
  A : Around
  N : List Str
  s_0 : Shared
  H_0 : Hp
  env : Env
  outer : List Env
  stack : List Env
  ex : List Addr
  fn : Str → Bool
  calm : Bool
  pn : List (Addr × Obj)
  xe : Value → Shared → Prop
def frs (l : List Env) : List Addr := l.filterMap (·.frame)
abbrev Cx.fs (X : Cx) : List Addr := frs X.outer

def Vis (sc : Scope) (x : Str) : Prop := sc.names.lookup x = some .local ∨ sc.names.lookup x = some .cell ∨ sc.names.lookup x = some .free
def Loc (sc : Scope) (x : Str) : Prop := sc.names.lookup x = some .local ∨ sc.names.lookup x = some .cell
def Look (env : Env) (h : Heap) (m : Str → Option Value) (x : Str) (u : Value) : Prop :=
  (env.kindOf x = some .local ∧ m x = some u) ∨ ((env.kindOf x = some .cell ∨ env.kindOf x = some .free) ∧ ∃ c, env.cells.lookup x = some c ∧ h.IsCell c (some u))

structure Cx.Ok (X : Cx) : Prop where
  mod : Mod X.K X.mg X.base
  kind : X.env.scope.kind = .function
  glob : X.env.globals = mainGlobals
  blt : X.env.builtins = builtinsNs
  above : X.s_0.heap.objs.size ≤ X.env.locals
  inj : ∀ x y c, X.env.cells.lookup x = some c → X.env.cells.lookup y = some c → x = y
  has : ∀ x, (X.env.kindOf x = some .cell ∨ X.env.kindOf x = some .free) → ∃ c, X.env.cells.lookup x = some c
  cab : ∀ x c, X.fn x = true → X.env.cells.lookup x = some c → X.s_0.heap.objs.size ≤ c
  hd : X.calm = true → X.A.handled = none
  frames : X.A.frames = some X.stack
  stk : X.stack = X.outer ∨ (X.stack = X.env :: X.outer ∧ X.env.frame = some X.env.locals)
  exf : ∀ b ∈ X.ex, b ≠ X.env.locals ∧ ∀ x c, X.env.cells.lookup x = some c → c ≠ b
  bs : ∀ b o, X.base.get? b = some o → X.s_0.heap.get? b = some o ∧ X.H_0 b = none
  bsz : X.base.objs.size ≤ X.s_0.heap.objs.size
  noex : ∀ b o, X.base.get? b = some o → b ∉ X.ex
  exfs : ∀ b ∈ X.ex, b ∉ X.fs
  funs : X.s_0.heap.FunFrames X.base X.outer
  frf : ∀ b ∈ X.fs, X.H_0 b = none

structure Inv (X : Cx) (pins : List (Addr × Obj)) (σ : List (Option V)) (H : Hp) (s : Shared) : Prop where
  ok : X.Ok
  os : s.os = X.s_0.os
  bare : AllBare s.gens
  base : Un X.fs X.ex X.H_0 H X.s_0.heap s.heap
  loc : ∃ m, s.heap.Ns X.env.locals m ∧ ∀ (i : Nat) (x : Str) (v : V), X.N[i]? = some x → σ[i]? = some (some v) → Vis X.env.scope x → ∃ u, RelV v u ∧ Look X.env s.heap m x u
  cell : ∀ x c, X.env.cells.lookup x = some c → ∃ v, s.heap.IsCell c v
  free : H X.env.locals = none
  freeC : ∀ x c, X.env.cells.lookup x = some c → H c = none
  pin : ∀ p ∈ X.pn ++ pins, s.heap.get? p.1 = some p.2 ∧ H p.1 = none ∧ p.1 ≠ X.env.locals ∧ p.1 ∉ X.fs ∧ ∀ v, p.2.data ≠ .cell v
  hok : HOk X.prog X.w H s.heap
  len : σ.length = X.N.length

section
variable {X : Cx} {pins : List (Addr × Obj)} {σ : List (Option V)} {H H' : Hp} {s : Shared} {h' : Heap}

theorem Cx.Ok.nofr (ok : X.Ok) {b : Addr} {o : Obj} (e : X.base.get? b = some o) : b ∉ X.fs := fun hb => by
  have := (ok.funs.mem hb).1
  rw [e] at this; cases this
theorem Inv.bs (I : Inv X pins σ H s) : ∀ b o, X.base.get? b = some o → s.heap.get? b = some o ∧ H b = none := fun b o e =>
  ⟨I.base.keep b o (I.ok.bs b o e).1 (I.ok.bs b o e).2 (I.ok.nofr e) (I.ok.noex b o e), I.base.free b o (I.ok.bs b o e).1 (I.ok.bs b o e).2 (I.ok.noex b o e)⟩
theorem Inv.bk (I : Inv X pins σ H s) : ∀ b o, X.base.get? b = some o → s.heap.get? b = some o := fun b o e => (I.bs b o e).1
theorem Inv.mod (I : Inv X pins σ H s) : Mod X.K X.mg X.base := I.ok.mod
theorem Inv.kIn (I : Inv X pins σ H s) : X.K.In s.heap := I.ok.mod.kin.keeps I.bk
theorem Inv.fr (I : Inv X pins σ H s) : ∃ m, Fr X.base X.env.locals s.heap m :=
  let ⟨m, hn, _⟩ := I.loc
  ⟨m, hn, I.bk, Nat.le_trans I.ok.bsz I.ok.above⟩
theorem Inv.lt (I : Inv X pins σ H s) : X.env.locals < s.heap.objs.size := let ⟨_, hn, _⟩ := I.loc; hn.lt
theorem Inv.sz (I : Inv X pins σ H s) : X.s_0.heap.objs.size ≤ s.heap.objs.size := Nat.le_trans I.ok.above (Nat.le_of_lt I.lt)
theorem Inv.nofs (I : Inv X pins σ H s) {a : Addr} (h : s.heap.objs.size ≤ a) : a ∉ X.fs := fun hb => by
  obtain ⟨_, o, ho, _⟩ := I.ok.funs.mem hb
  exact absurd (Nat.lt_of_lt_of_le (Heap.lt_size ho) (Nat.le_trans I.sz h)) (Nat.lt_irrefl _)
theorem Inv.cne (I : Inv X pins σ H s) : ∀ x c, X.env.cells.lookup x = some c → c ≠ X.env.locals := fun x c e z => by
  obtain ⟨v, o, ho, hd⟩ := I.cell x c e
  obtain ⟨m, ⟨o', es, ep, ho', hd', _⟩, _⟩ := I.loc
  rw [z, ho'] at ho; cases ho; rw [hd'] at hd; cases hd
theorem Inv.funs (I : Inv X pins σ H s) : s.heap.FunFrames X.base X.outer := by
  have all : ∀ (l : List Env), (∀ b ∈ frs l, b ∈ X.fs) → X.s_0.heap.FunFrames X.base l → s.heap.FunFrames X.base l := by
    intro l
    induction l with
    | nil => intro _ _; trivial
    | cons env r ih =>
      intro hs hl
      obtain ⟨hk, ⟨L, o, hf, hn, ho, hd⟩, hr⟩ := hl
      have hL : L ∈ X.fs := hs L (by unfold frs; rw [List.filterMap_cons, hf]; exact List.mem_cons_self)
      obtain ⟨sl, e⟩ := I.base.slot L o ho (I.ok.frf L hL) hL fun z => I.ok.exfs L z hL
      exact ⟨hk, ⟨L, _, hf, hn, e, hd⟩, ih (fun b hb => hs b (by unfold frs; rw [List.filterMap_cons, hf]; exact List.mem_cons_of_mem _ hb)) hr⟩
  exact all X.outer (fun _ hb => hb) I.ok.funs

theorem Inv.stack (I : Inv X pins σ H s) : s.heap.FunFrames X.base X.stack := by
  rcases I.ok.stk with e | ⟨e, hf⟩
  · rw [e]; exact I.funs
  · rw [e]
    obtain ⟨m, hn, _⟩ := I.loc
    refine .cons (by rw [I.ok.kind]; decide) hf hn ?_ I.funs
    exact Heap.get?_none_of_le (Nat.le_trans I.ok.bsz I.ok.above)
theorem Inv.stkSub (I : Inv X pins σ H s) : ∀ b ∈ frs X.stack, b ∈ X.env.locals :: X.fs := fun b hb => by
  rcases I.ok.stk with e | ⟨e, hf⟩
  · rw [e] at hb; exact List.mem_cons_of_mem _ hb
  · rw [e] at hb
    unfold frs at hb
    rw [List.filterMap_cons, hf] at hb
    exact hb
theorem Inv.stkFree (I : Inv X pins σ H s) : ∀ b ∈ frs X.stack, H b = none := fun b hb => by
  rcases List.mem_cons.mp (I.stkSub b hb) with e | hb
  · rw [e]; exact I.free
  · obtain ⟨_, o, ho, _⟩ := I.ok.funs.mem hb
    exact I.base.free b o ho (I.ok.frf b hb) fun z => I.ok.exfs b z hb

theorem Inv.step {g' : Array GenState} {t' : Nat} {d' : Drawn} {ch : List Addr} (I : Inv X pins σ H s)
    (hch : ∀ b ∈ ch, (b ∈ X.ex ∨ X.s_0.heap.objs.size ≤ b) ∧ b ≠ X.env.locals ∧ (∀ x c, X.env.cells.lookup x = some c → c ≠ b) ∧ ∀ p ∈ X.pn ++ pins, p.1 ≠ b)
    (keep : ∀ b o, b ≠ X.env.locals → b ∉ X.fs → b ∉ ch → s.heap.get? b = some o → H b = none → h'.get? b = some o)
    (slot : ∀ b o, b ≠ X.env.locals → b ∈ X.fs → b ∉ ch → s.heap.get? b = some o → H b = none → ∃ sl, h'.get? b = some { o with slots := sl }) (free : ∀ b o, b ∉ ch → s.heap.get? b = some o → H b = none → H' b = none)
    (there : ∀ b o, b ∉ ch → s.heap.get? b = some o → ∃ o', h'.get? b = some o')
    (tups : ∀ b xs, H b = some (.tup xs) → H' b = some (.tup xs)) (frzs : ∀ b o u, H b = some (.frz o u) → H' b = some (.frz o u)) (tbls : ∀ b ps, H b = some (.tbl ps) → ∃ more, H' b = some (.tbl (ps ++ more)))
    (ns : ∀ m, s.heap.Ns X.env.locals m → h'.Ns X.env.locals m) (hok : HOk X.prog X.w H' h') (hg : AllBare g') :
    Inv X pins σ H' { s with heap := h', gens := g', drawn := d', toks := t' } := by
  have neL : ∀ b o, X.s_0.heap.get? b = some o → b ≠ X.env.locals := fun b o e => Nat.ne_of_lt (Nat.lt_of_lt_of_le (Heap.lt_size e) I.ok.above)
  have neC : ∀ b o, X.s_0.heap.get? b = some o → b ∉ X.ex → b ∉ ch := fun b o e hx hb => by
    rcases (hch b hb).1 with z | z
    · exact hx z
    · exact absurd (Nat.lt_of_lt_of_le (Heap.lt_size e) z) (Nat.lt_irrefl _)
  have cellK : ∀ x c, X.env.cells.lookup x = some c → ∀ v, s.heap.IsCell c v → h'.IsCell c v := fun x c e v ⟨o, ho, hd⟩ => by
    have nch : c ∉ ch := fun z => (hch c z).2.2.1 x c e rfl
    by_cases hc : c ∈ X.fs
    · obtain ⟨sl, q⟩ := slot c o (I.cne x c e) hc nch ho (I.freeC x c e)
      exact ⟨_, q, hd⟩
    · exact ⟨o, keep c o (I.cne x c e) hc nch ho (I.freeC x c e), hd⟩
  refine ⟨I.ok, I.os, hg, ⟨fun b o e n hb hx => ?_, fun b o e n hb hx => ?_, fun b o e n hx => ?_, fun b o e hx => ?_, fun b xs e => tups b xs (I.base.tups b xs e), fun b o xs e => frzs b o xs (I.base.frzs b o xs e), fun b ps e => ?_⟩, ?_, fun x c e => ?_, ?_, fun x c e => ?_, fun p hp => ?_, hok, I.len⟩
  · exact keep b o (neL b o e) hb (neC b o e hx) (I.base.keep b o e n hb hx) (I.base.free b o e n hx)
  · obtain ⟨sl, e1⟩ := I.base.slot b o e n hb hx
    obtain ⟨sl', e2⟩ := slot b _ (neL b o e) hb (neC b o e hx) e1 (I.base.free b o e n hx)
    exact ⟨sl', e2⟩
  · obtain ⟨o', e1⟩ := I.base.there b o e hx
    exact free b o' (neC b o e hx) e1 (I.base.free b o e n hx)
  · obtain ⟨o', e1⟩ := I.base.there b o e hx
    exact there b o' (neC b o e hx) e1
  · obtain ⟨m1, e1⟩ := I.base.tbls b ps e
    obtain ⟨m2, e2⟩ := tbls b _ e1
    exact ⟨m1 ++ m2, by rw [e2, Array.append_assoc]⟩
  · obtain ⟨m, hn, hl⟩ := I.loc
    refine ⟨m, ns m hn, fun i x v e1 e2 e3 => ?_⟩
    obtain ⟨u, r, l⟩ := hl i x v e1 e2 e3
    refine ⟨u, r, ?_⟩
    rcases l with l | ⟨k, c, e, z⟩
    · exact .inl l
    · exact .inr ⟨k, c, e, cellK x c e _ z⟩
  · obtain ⟨v, z⟩ := I.cell x c e
    exact ⟨v, cellK x c e v z⟩
  · obtain ⟨m, ⟨o, _, _, ho, _⟩, _⟩ := I.loc
    exact free _ o (fun z => (hch _ z).2.1 rfl) ho I.free
  · obtain ⟨v, o, ho, hd⟩ := I.cell x c e
    exact free c o (fun z => (hch c z).2.2.1 x c e rfl) ho (I.freeC x c e)
  · obtain ⟨e, n, ne, nf, d⟩ := I.pin p hp
    have nch : p.1 ∉ ch := fun z => (hch p.1 z).2.2.2 p hp rfl
    exact ⟨keep p.1 p.2 ne nf nch e n, free p.1 p.2 nch e n, ne, nf, d⟩
theorem Inv.un {t' : Nat} (I : Inv X pins σ H s) (u : Un X.fs [] H H' s.heap h') (hok : HOk X.prog X.w H' h') : Inv X pins σ H' { s with heap := h', toks := t' } := by
  obtain ⟨m, ⟨o, es, ep, ho, r⟩, _⟩ := id I.loc
  obtain ⟨sl, hL⟩ := u.any ho I.free (by simp)
  exact I.step (g' := s.gens) (d' := s.drawn) (ch := []) (fun _ z => nomatch z) (fun b o _ hb _ e n => u.keep b o e n hb (by simp)) (fun b o _ hb _ e n => u.slot b o e n hb (by simp)) (fun b o _ e n => u.free b o e n (by simp)) (fun b o _ e => u.there b o e (by simp)) u.tups u.frzs u.tbls (fun m' hm => by
    obtain ⟨o', es', ep', ho', r'⟩ := hm
    rw [ho] at ho'; cases ho'
    exact ⟨_, es', ep', hL, r'⟩) hok I.bare
theorem Inv.call {g' : Array GenState} {t' : Nat} {d' : Drawn} {ch : List Addr} (I : Inv X pins σ H s) (u : Un (frs X.stack) ch H H' s.heap h') (hok : HOk X.prog X.w H' h') (hg : AllBare g')
    (hch : ∀ b ∈ ch, (b ∈ X.ex ∨ X.s_0.heap.objs.size ≤ b) ∧ b ≠ X.env.locals ∧ (∀ x c, X.env.cells.lookup x = some c → c ≠ b) ∧ ∀ p ∈ X.pn ++ pins, p.1 ≠ b) :
    Inv X pins σ H' { s with heap := h', gens := g', drawn := d', toks := t' } := by
  obtain ⟨m, ⟨o, es, ep, ho, r⟩, _⟩ := id I.loc
  obtain ⟨sl, hL⟩ := u.any ho I.free fun z => (hch _ z).2.1 rfl
  exact I.step (ch := ch) hch (fun b o hL hb hc e n => u.keep b o e n (fun z => (List.mem_cons.mp (I.stkSub b z)).elim hL hb) hc) (fun b o _ _ hc e n => u.any e n hc) (fun b o hc e n => u.free b o e n hc) (fun b o hc e => u.there b o e hc) u.tups u.frzs u.tbls (fun m' hm => by
    obtain ⟨o', es', ep', ho', r'⟩ := hm
    rw [ho] at ho'; cases ho'
    exact ⟨_, es', ep', hL, r'⟩) hok hg
theorem Inv.turned {t' : Nat} {it : Addr} (I : Inv X pins σ H s) (k : ∀ b o, b ≠ it → s.heap.get? b = some o → h'.get? b = some o) (hn : H it = none) (hL : it ≠ X.env.locals)
    (h1 : it ∈ X.ex ∨ X.s_0.heap.objs.size ≤ it) (h2 : ∀ x c, X.env.cells.lookup x = some c → c ≠ it) (h3 : ∀ p ∈ X.pn ++ pins, p.1 ≠ it) : Inv X pins σ H { s with heap := h', toks := t' } := by
  have nit : ∀ b u, H b = some u → b ≠ it := fun b u e z => by rw [z, hn] at e; cases e
  refine I.step (g' := s.gens) (d' := s.drawn) (ch := [it]) (fun b hb => ?_) (fun b o _ _ hc e _ => k b o (fun z => hc (by simp [z])) e) (fun b o _ _ hc e _ => ⟨o.slots, k b o (fun z => hc (by simp [z])) e⟩) (fun _ _ _ _ n => n)
    (fun b o hc e => ⟨o, k b o (fun z => hc (by simp [z])) e⟩) (fun _ _ e => e) (fun _ _ _ e => e) (fun b ps e => ⟨#[], by rw [e]; simp⟩) (fun m hm => ?_) (fun b u e => ?_) I.bare
  · have e : b = it := by simpa using hb
    subst e
    exact ⟨h1, hL, h2, h3⟩
  · obtain ⟨o, es, ep, ho, r⟩ := hm
    exact ⟨o, es, ep, k _ o (Ne.symm hL) ho, r⟩
  · refine (I.hok b u e).stay (fun c v hc q => k c v ?_ q) (fun _ q => q) fun _ _ q => q
    rcases hc with z | z
    · rw [z]; exact nit b u e
    · exact nit c _ z
theorem Inv.tok (I : Inv X pins σ H s) (t : Nat) : Inv X pins σ H { s with toks := t } := I.un (h' := s.heap) (t' := t) Un.refl I.hok
theorem Inv.kept {t' : Nat} (I : Inv X pins σ H s) (k : ∀ b u, s.heap.get? b = some u → h'.get? b = some u) : Inv X pins σ H { s with heap := h', toks := t' } := I.un (Un.kept k) (I.hok.kept k)
theorem Inv.laid {a : Addr} {o : HO} {t' : Nat} (I : Inv X pins σ H s) (k : ∀ b u, s.heap.get? b = some u → h'.get? b = some u) (hp : s.heap.objs.size ≤ a) (new : ObjOk X.prog X.w (upd H a o) h' a o) :
    Inv X pins σ (upd H a o) { s with heap := h', toks := t' } := I.un (Un.laid k hp (I.hok.fresh hp)) (I.hok.laid k hp new)
theorem Inv.write {x e : Addr} {o : HO} {t' : Nat} (I : Inv X pins σ H s) (mu : Mut (H x)) (he : e = x ∨ H e = some (.own x)) (k : ∀ b u, b ≠ e → s.heap.get? b = some u → h'.get? b = some u) (heo : ∃ u, h'.get? e = some u)
    (new : ObjOk X.prog X.w (upd H x o) h' x o) : Inv X pins σ (upd H x o) { s with heap := h', toks := t' } := I.un (Un.write mu he k heo) (I.hok.write mu he k heo new)
theorem Inv.weak {σ' : List (Option V)} (I : Inv X pins σ H s) (hl : σ'.length = σ.length) (w : ∀ (i : Nat) v, σ'[i]? = some (some v) → σ[i]? = some (some v)) : Inv X pins σ' H s :=
  ⟨I.ok, I.os, I.bare, I.base, let ⟨m, hn, hl'⟩ := I.loc; ⟨m, hn, fun i x v e1 e2 e3 => hl' i x v e1 (w i v e2) e3⟩, I.cell, I.free, I.freeC, I.pin, I.hok, hl.trans I.len⟩
theorem Inv.pins_of {pins' : List (Addr × Obj)} (I : Inv X pins σ H s) (h : ∀ p ∈ pins', s.heap.get? p.1 = some p.2 ∧ H p.1 = none ∧ p.1 ≠ X.env.locals ∧ p.1 ∉ X.fs ∧ ∀ v, p.2.data ≠ .cell v) : Inv X pins' σ H s :=
  ⟨I.ok, I.os, I.bare, I.base, I.loc, I.cell, I.free, I.freeC, fun p hp => (List.mem_append.mp hp).elim (fun z => I.pin p (List.mem_append_left _ z)) (h p), I.hok, I.len⟩

theorem nodup_ix {N : List Str} (hN : N.Nodup) {i j : Nat} {x : Str} (a : N[i]? = some x) (b : N[j]? = some x) : i = j := by
  obtain ⟨h1, e1⟩ := List.getElem?_eq_some_iff.mp a
  obtain ⟨h2, e2⟩ := List.getElem?_eq_some_iff.mp b
  exact (List.getElem_inj hN).mp (e1.trans e2.symm)

theorem store_ok2 {M : Model} {A : Around} {E : Value → Shared → Prop} {i : Nat} {x : Str} {v : V} {u : Value} {Q : Unit → Shared → Prop} (I : Inv X pins σ H s) (hN : X.N.Nodup) (hi : X.N[i]? = some x) (hx : Loc X.env.scope x) (r : RelV v u)
    (h : ∀ s', Inv X pins (σ.set i (some v)) H s' → (∃ a, Heap.SameBut a s.heap s'.heap ∧ (a = X.env.locals ∨ X.env.cells.lookup x = some a)) → Q () s') (hf : X.fn x = true ∨ X.env.scope.names.lookup x = some .local := by first | exact .inl rfl | exact .inr rfl | assumption) : wpAny M A (storeName X.env x u) Q E s := by
  obtain ⟨m, hn, hl⟩ := id I.loc
  have hcls : (X.env.scope.kind == .class || (X.env.scope.kind == .module && X.env.locals != X.env.globals)) = false := by rw [I.ok.kind]; rfl
  have hiσ : i < σ.length := by rw [I.len]; exact (List.getElem?_eq_some_iff.mp hi).1
  have cne := I.cne
  have tracked : ∀ {a : Addr} {h' : Heap}, (∃ o, s.heap.get? a = some o ∧ H a = none) → Heap.SameBut a s.heap h' → HOk X.prog X.w H h' := fun {a h'} ha hs b ob e => by
    obtain ⟨_, _, hfree⟩ := ha
    refine (I.hok b ob e).stay (fun c w' hc q => (hs.2 c ?_).trans q) (fun _ q => q) fun _ _ q => q
    rintro rfl
    rcases hc with rfl | hc
    · rw [hfree] at e; cases e
    · rw [hfree] at hc; cases hc
  rcases hx with hk | hk
  · refine wpAny_storeName_local hk hn (fun h' hn' hs => ?_) hcls
    obtain ⟨oL, _, _, hoL, _⟩ := id hn
    refine h _ ⟨I.ok, I.os, I.bare, ⟨fun b o e n hb hx => ?_, fun b o e n hb hx => ?_, I.base.free, fun b o e hx => ?_, I.base.tups, I.base.frzs, I.base.tbls⟩, ⟨_, hn', fun j y v' e1 e2 e3 => ?_⟩, fun y c e => ?_, I.free, I.freeC, fun p hp => ?_, tracked ⟨oL, hoL, I.free⟩ hs, by simpa using I.len⟩ ⟨_, hs, .inl rfl⟩
    · exact (hs.2 b (Nat.ne_of_lt (Nat.lt_of_lt_of_le (Heap.lt_size e) I.ok.above))).trans (I.base.keep b o e n hb hx)
    · obtain ⟨sl, e1⟩ := I.base.slot b o e n hb hx
      exact ⟨sl, (hs.2 b (Nat.ne_of_lt (Nat.lt_of_lt_of_le (Heap.lt_size e) I.ok.above))).trans e1⟩
    · obtain ⟨o', e1⟩ := I.base.there b o e hx
      exact ⟨o', (hs.2 b (Nat.ne_of_lt (Nat.lt_of_lt_of_le (Heap.lt_size e) I.ok.above))).trans e1⟩
    · by_cases hj : j = i
      · subst hj
        rw [hi] at e1; cases e1
        rw [List.getElem?_set_self hiσ] at e2
        cases e2
        exact ⟨u, r, .inl ⟨hk, by simp⟩⟩
      · rw [List.getElem?_set_ne (Ne.symm hj)] at e2
        obtain ⟨u', r', q⟩ := hl j y v' e1 e2 e3
        refine ⟨u', r', ?_⟩
        rcases q with ⟨k, e⟩ | ⟨k, c, e, z⟩
        · refine .inl ⟨k, ?_⟩
          have : y ≠ x := fun e => hj (nodup_ix hN e1 (e ▸ hi))
          simp [this, e]
        · exact .inr ⟨k, c, e, z.sameBut hs (cne y c e)⟩
    · obtain ⟨w', z⟩ := I.cell y c e
      exact ⟨w', z.sameBut hs (cne y c e)⟩
    · obtain ⟨e, n, ne, nf, d⟩ := I.pin p hp
      exact ⟨(hs.2 p.1 ne).trans e, n, ne, nf, d⟩
  · have hfn : X.fn x = true := by
      rcases hf with z | z
      · exact z
      · rw [z] at hk; cases hk
    obtain ⟨c, hc⟩ := I.ok.has x (.inl hk)
    obtain ⟨w', z⟩ := I.cell x c hc
    refine wpAny_storeName_cell I.ok.kind hk hc z (fun h' hc' hs => ?_)
    obtain ⟨oc, hoc, hocd⟩ := id z
    refine h { s with heap := h' } ⟨I.ok, I.os, I.bare, ⟨fun b o e n hb hx => ?_, fun b o e n hb hx => ?_, I.base.free, fun b o e hx => ?_, I.base.tups, I.base.frzs, I.base.tbls⟩, ⟨m, hn.sameBut hs (Ne.symm (cne x c hc)), fun j y v' e1 e2 e3 => ?_⟩, fun y c' e => ?_, I.free, I.freeC, fun p hp => ?_, tracked ⟨oc, hoc, I.freeC x c hc⟩ hs, by simpa using I.len⟩ ⟨c, hs, .inr hc⟩
    · exact (hs.2 b (Nat.ne_of_lt (Nat.lt_of_lt_of_le (Heap.lt_size e) (I.ok.cab x c hfn hc)))).trans (I.base.keep b o e n hb hx)
    · obtain ⟨sl, e1⟩ := I.base.slot b o e n hb hx
      exact ⟨sl, (hs.2 b (Nat.ne_of_lt (Nat.lt_of_lt_of_le (Heap.lt_size e) (I.ok.cab x c hfn hc)))).trans e1⟩
    · obtain ⟨o', e1⟩ := I.base.there b o e hx
      exact ⟨o', (hs.2 b (Nat.ne_of_lt (Nat.lt_of_lt_of_le (Heap.lt_size e) (I.ok.cab x c hfn hc)))).trans e1⟩
    · by_cases hj : j = i
      · subst hj
        rw [hi] at e1; cases e1
        rw [List.getElem?_set_self hiσ] at e2
        cases e2
        exact ⟨u, r, .inr ⟨.inl hk, c, hc, hc'⟩⟩
      · rw [List.getElem?_set_ne (Ne.symm hj)] at e2
        obtain ⟨u', r', q⟩ := hl j y v' e1 e2 e3
        refine ⟨u', r', ?_⟩
        rcases q with q | ⟨k, c', e, z'⟩
        · exact .inl q
        · refine .inr ⟨k, c', e, z'.sameBut hs ?_⟩
          rintro rfl
          exact hj (nodup_ix hN e1 (I.ok.inj _ _ _ e hc ▸ hi))
    · by_cases hcc : c' = c
      · subst hcc; exact ⟨_, hc'⟩
      · obtain ⟨w2, z2⟩ := I.cell y c' e
        exact ⟨w2, z2.sameBut hs hcc⟩
    · obtain ⟨e, n, ne, nf, d⟩ := I.pin p hp
      refine ⟨(hs.2 p.1 ?_).trans e, n, ne, nf, d⟩
      intro q
      rw [q, hoc] at e
      have q' : oc = p.2 := Option.some.inj e
      exact d w' (by rw [← q']; exact hocd)
theorem store_ok {M : Model} {A : Around} {E : Value → Shared → Prop} {i : Nat} {x : Str} {v : V} {u : Value} {Q : Unit → Shared → Prop} (I : Inv X pins σ H s) (hN : X.N.Nodup) (hi : X.N[i]? = some x) (hx : Loc X.env.scope x) (r : RelV v u)
    (h : ∀ s', Inv X pins (σ.set i (some v)) H s' → Q () s') (hf : X.fn x = true ∨ X.env.scope.names.lookup x = some .local := by first | exact .inl rfl | exact .inr rfl | assumption) : wpAny M A (storeName X.env x u) Q E s :=
  store_ok2 I hN hi hx r (fun s' I' _ => h s' I') hf
theorem Inv.call' {s' : Shared} {ch : List Addr} (I : Inv X pins σ H s) (ho : s'.os = s.os) (u : Un (frs X.stack) ch H H' s.heap s'.heap) (hok : HOk X.prog X.w H' s'.heap) (hg : AllBare s'.gens)
    (hch : ∀ b ∈ ch, (b ∈ X.ex ∨ X.s_0.heap.objs.size ≤ b) ∧ b ≠ X.env.locals ∧ (∀ x c, X.env.cells.lookup x = some c → c ≠ b) ∧ ∀ p ∈ X.pn ++ pins, p.1 ≠ b) : Inv X pins σ H' s' := by
  obtain ⟨h', g', d', t', o'⟩ := s'
  have e : o' = s.os := ho
  subst e
  exact I.call (g' := g') (t' := t') (d' := d') u hok hg hch
end

abbrev XK := Value → Option Addr → Hp → Prop
abbrev St := List (Option V)
abbrev VK := V → Hp → Prop
abbrev TE := St → Hp → VK → Prop
abbrev TT := St → Hp → (Bool → Hp → Prop) → Prop
abbrev TA := St → Hp → (List V → Hp → Prop) → Prop
structure Ends where
  nx : St → Hp → Prop
  rt : VK
  bk : St → Hp → Prop := fun _ _ => False
  ct : St → Hp → Prop := fun _ _ => False
abbrev TS := Ends → St → Hp → Prop

def EP (X : Cx) (pins : List (Addr × Obj)) (σ : St) (Q : VK) (u : Value) (s' : Shared) : Prop := ∃ v H', Inv X pins σ H' s' ∧ RelV v u ∧ Q v H'
def TP (X : Cx) (pins : List (Addr × Obj)) (σ : St) (Q : Bool → Hp → Prop) (b : Bool) (s' : Shared) : Prop := ∃ H', Inv X pins σ H' s' ∧ Q b H'
def AP (X : Cx) (pins : List (Addr × Obj)) (σ : St) (Q : List V → Hp → Prop) (us : List Value) (s' : Shared) : Prop := ∃ vs H', Inv X pins σ H' s' ∧ Vals vs us ∧ Q vs H'
def SP (X : Cx) (pins : List (Addr × Obj)) (D : Ends) (f : Flow) (s' : Shared) : Prop :=
  match f with
  | .next => ∃ σ' H', Inv X pins σ' H' s' ∧ D.nx σ' H'
  | .brk => ∃ σ' H', Inv X pins σ' H' s' ∧ D.bk σ' H'
  | .cont => ∃ σ' H', Inv X pins σ' H' s' ∧ D.ct σ' H'
  | .ret u => ∃ v σ' H', Inv X pins σ' H' s' ∧ RelV v u ∧ D.rt v H'

def PE (X : Cx) (e : Expr) (t : TE) : Prop :=
  ∀ (pins : List (Addr × Obj)) (s : Shared) (σ : St) (H : Hp) (Q : VK), Inv X pins σ H s → t σ H Q → wpAny (model X.prog X.w) X.A (eval e X.env) (EP X pins σ Q) X.xe s
def PT (X : Cx) (e : Expr) (t : TT) : Prop :=
  ∀ (pins : List (Addr × Obj)) (s : Shared) (σ : St) (H : Hp) (Q : Bool → Hp → Prop), Inv X pins σ H s → t σ H Q → wpAny (model X.prog X.w) X.A (isTrue e X.env (eval e X.env)) (TP X pins σ Q) X.xe s
def PW (X : Cx) (e : Expr) (t : TT) : Prop :=
  ∀ (whole : Sem Value) (pins : List (Addr × Obj)) (s : Shared) (σ : St) (H : Hp) (Q : Bool → Hp → Prop), Inv X pins σ H s → t σ H Q → wpAny (model X.prog X.w) X.A (isTrue e X.env whole) (TP X pins σ Q) X.xe s
theorem PW.pt {X : Cx} {e : Expr} {t : TT} (h : PW X e t) : PT X e t := h _
def PA (X : Cx) (es : List Expr) (t : TA) : Prop :=
  ∀ (pos : Pos) (pins : List (Addr × Obj)) (s : Shared) (σ : St) (H : Hp) (Q : List V → Hp → Prop), Inv X pins σ H s → t σ H Q → wpAny (model X.prog X.w) X.A (spliced (backTo pos (starEach es X.env))) (AP X pins σ Q) X.xe s
def PS (X : Cx) (st : Stmt) (t : TS) : Prop :=
  ∀ (pins : List (Addr × Obj)) (s : Shared) (σ : St) (H : Hp) (D : Ends), Inv X pins σ H s → t D σ H → wpAny (model X.prog X.w) X.A (exec st X.env) (SP X pins D) X.xe s
def PSs (X : Cx) (st : List Stmt) (t : TS) : Prop :=
  ∀ (pins : List (Addr × Obj)) (s : Shared) (σ : St) (H : Hp) (D : Ends), Inv X pins σ H s → t D σ H → wpAny (model X.prog X.w) X.A (execs st X.env) (SP X pins D) X.xe s
theorem thn {α : Type} {t : Sem α} {Q Q' : α → Shared → Prop} {M : Model} {A : Around} {E : Value → Shared → Prop} {s : Shared} (h : wpAny M A t Q E s) (hQ : ∀ a s, Q a s → Q' a s) : wpAny M A t Q' E s := wpAny_mono h hQ fun _ _ x => x
end L2

namespace L2
open PySem PySem.Spec PyProof.Rows
section
variable {X : Cx}

theorem bin {a b : Expr} {ta tb : TE} (ha : PE X a ta) (hb : PE X b tb) {pins : List (Addr × Obj)} {s : Shared} {σ : St} {H : Hp} {R : V → V → Hp → Prop} (I : Inv X pins σ H s) (h : ta σ H fun x H1 => tb σ H1 fun y H2 => R x y H2)
    {α : Type} {Q : α → Shared → Prop} {f : Value → Value → Sem α}
    (hf : ∀ v u s2 x y H2, Inv X pins σ H2 s2 → RelV x v → RelV y u → R x y H2 → wpAny (model X.prog X.w) X.A (f v u) Q X.xe s2) :
    wpAny (model X.prog X.w) X.A (eval a X.env) (fun v s₁ => wpAny (model X.prog X.w) X.A (eval b X.env) (fun u s₂ => wpAny (model X.prog X.w) X.A (f v u) Q X.xe s₂) X.xe s₁) X.xe s := by
  refine thn (ha pins s σ H _ I h) fun v s1 ⟨x, H1, I1, r1, q1⟩ => ?_
  refine thn (hb pins s1 σ H1 _ I1 q1) fun u s2 ⟨y, H2, I2, r2, q2⟩ => ?_
  exact hf v u s2 x y H2 I2 r1 r2 q2

def tVar (i : Nat) : TE := fun σ H Q => ∃ v, σ[i]? = some (some v) ∧ Q v H
def tC (v : V) : TE := fun _ H Q => Q v H
theorem pe_var {i : Nat} {x : Str} {pos : Pos} (hN : X.N[i]? = some x) (hv : Vis X.env.scope x) (hd : (x == ("__debug__" : Str)) = false := by decide) (hcd : (x == ("__classdict__" : Str)) = false := by decide) : PE X (.Name x pos) (tVar i) := by
  intro pins s σ H Q I h
  obtain ⟨v, e, h⟩ := h
  obtain ⟨m, hn, hl⟩ := I.loc
  obtain ⟨u, r, l⟩ := hl i x v hN e hv
  have fin : EP X pins σ Q u s := ⟨v, H, I, r, h⟩
  rcases l with ⟨hk, hm⟩ | ⟨hk, c, hc, hcell⟩
  · exact wpAny_Name (wpAny_loadName_local I.ok.kind hk hn hm fin) hd
  · rcases hk with hk | hk
    · exact wpAny_Name (wpAny_loadName_cell I.ok.kind hk hc hcell fin) hd
    · exact wpAny_Name (wpAny_loadName_free I.ok.kind hk hc hcell fin hcd) hd
theorem pe_int {i j pos} : PE X (.Constant (.int i) j pos) (tC (.int i)) := fun _ _ _ H _ I h => wpAny_Constant_int ⟨.int i, H, I.tok _, ⟨_, rfl⟩, h⟩
theorem pe_bl {b j pos} : PE X (.Constant (.bool b) j pos) (tC (.bl b)) := fun _ _ _ H _ I h => Constant_bool ⟨.bl b, H, I, rfl, h⟩
theorem pe_non {j pos} : PE X (.Constant .none j pos) (tC .non) := fun _ _ _ H _ I h => Constant_none ⟨.non, H, I, rfl, h⟩
theorem pe_str {x j pos} : PE X (.Constant (.str x) j pos) (tC (.str x)) := fun _ _ _ H _ I h => Calls.Constant_str ⟨.str x, H, I.tok _, ⟨_, rfl⟩, h⟩

def Gl (X : Cx) (x : Str) : Prop := X.env.kindOf x = some .globalImplicit
theorem ld_glob {E : Value → Shared → Prop} {pins : List (Addr × Obj)} {s : Shared} {σ : St} {H : Hp} {x : Str} {u : Value} {pos : Pos} {Q : Value → Shared → Prop} (I : Inv X pins σ H s) (hg : Gl X x) (hm : X.mg x = some u) (h : Q u s)
    (hd : (x == ("__debug__" : Str)) = false := by decide) : wpAny (model X.prog X.w) X.A (eval (.Name x pos) X.env) Q E s :=
  Calls.Name_function_global I.ok.kind hg (Calls.loadGlobal_global (by rw [I.ok.glob]; exact I.mod.glob.keeps I.bk) hm h) hd
theorem ld_blt {E : Value → Shared → Prop} {pins : List (Addr × Obj)} {s : Shared} {σ : St} {H : Hp} {x : Str} {u : Value} {pos : Pos} {Q : Value → Shared → Prop} (I : Inv X pins σ H s) (hg : Gl X x) (hm : X.mg x = none) (hv : bootBuiltins x = some u) (h : Q u s)
    (hn : x ≠ "__name__" := by decide) (hd : (x == ("__debug__" : Str)) = false := by decide) : wpAny (model X.prog X.w) X.A (eval (.Name x pos) X.env) Q E s := by
  obtain ⟨mb, h1, h2⟩ := I.mod.blt
  exact Calls.Name_function_global I.ok.kind hg (Calls.loadGlobal_builtin (by rw [I.ok.glob]; exact I.mod.glob.keeps I.bk) hm (by rw [I.ok.blt]; exact h1.keeps I.bk) ((h2 x hn).trans hv) h) hd
theorem pe_glob {x : Str} {v : V} {u : Value} {pos : Pos} (hg : Gl X x) (hm : X.mg x = some u) (r : RelV v u) (hd : (x == ("__debug__" : Str)) = false := by decide) : PE X (.Name x pos) (tC v) :=
  fun _ _ _ H _ I h => ld_glob I hg hm ⟨v, H, I, r, h⟩ hd
def t2I (ta tb : TE) (k : Int → Int → Hp → Prop) : St → Hp → Prop := fun σ H => ta σ H fun x H1 => tb σ H1 fun y H2 => ∃ i j, x = .int i ∧ y = .int j ∧ k i j H2
def tAdd (ta tb : TE) : TE := fun σ H Q => t2I ta tb (fun i j H2 => Q (.int (i + j)) H2) σ H
def tSub (ta tb : TE) : TE := fun σ H Q => t2I ta tb (fun i j H2 => Q (.int (i - j)) H2) σ H
def tMul (ta tb : TE) : TE := fun σ H Q => t2I ta tb (fun i j H2 => (-(2 ^ 64) < i ∧ i < 2 ^ 64) ∧ Q (.int (i * j)) H2) σ H
variable {a b : Expr} {ta tb : TE} {pos : Pos}
def PC (X : Cx) (op : CmpOp) (a b : Expr) (t : TE) : Prop :=
  ∀ (pins : List (Addr × Obj)) (s : Shared) (σ : St) (H : Hp) (Q : VK), Inv X pins σ H s → t σ H Q →
    wpAny (model X.prog X.w) X.A (eval a X.env) (fun v s₁ => wpAny (model X.prog X.w) X.A (eval b X.env) (fun u s₂ => wpAny (model X.prog X.w) X.A (compareOp op v u) (EP X pins σ Q) X.xe s₂) X.xe s₁) X.xe s
def tCmp (p : Int → Int → Bool) (ta tb : TE) : TE := fun σ H Q => t2I ta tb (fun i j H2 => Q (.bl (p i j)) H2) σ H
abbrev tLt : TE → TE → TE := tCmp fun i j => decide (i < j)
abbrev tLe : TE → TE → TE := tCmp fun i j => decide (i ≤ j)
abbrev tGt : TE → TE → TE := tCmp fun i j => decide (j < i)
abbrev tGe : TE → TE → TE := tCmp fun i j => decide (j ≤ i)
abbrev tEqI : TE → TE → TE := tCmp fun i j => decide (i = j)
abbrev tNeI : TE → TE → TE := tCmp fun i j => !decide (i = j)
def tIsN (ta : TE) : TE := fun σ H Q => ta σ H fun x H1 => Q (.bl (decide (x = .non))) H1
def tNotN (ta : TE) : TE := fun σ H Q => ta σ H fun x H1 => Q (.bl (!decide (x = .non))) H1
def tB (t : TE) : TT := fun σ H Q => t σ H fun x H1 => ∃ c, x = .bl c ∧ Q c H1
theorem pt_cmp {op : CmpOp} {t : TE} (h : PC X op a b t) (h1 : behindInMarks op b = false := by first | exact nobehind _ (by decide) (by decide) | rfl) : PT X (.Compare a [op] [b] pos) (tB t) := by
  intro pins s σ H Q I hw
  refine wpAny_isTrue_Compare1 (thn (h pins s σ H _ I hw) fun v s1 h1 => thn h1 fun u s2 h2 => thn h2 fun c s3 ⟨x, H1, I1, r1, q1⟩ => ?_) h1
  obtain ⟨d, rfl, q⟩ := q1
  cases r1
  exact wpAny_truthy_bool ⟨H1, I1, q⟩
theorem pt_val {e : Expr} {t : TE} (h : PE X e t) (he : ∀ whole, isTrue e X.env whole = (do let v ← whole; standAt e.pos; holding [v] (truthy v)) := by intro _; rfl) : PT X e (tB t) := by
  intro pins s σ H Q I hw
  refine isTrue_plain (thn (h pins s σ H _ I hw) fun v s1 ⟨x, H1, I1, r1, q1⟩ => ?_) (he _)
  obtain ⟨d, rfl, q⟩ := q1
  cases r1
  exact wpAny_truthy_bool ⟨H1, I1, q⟩

variable {tA tB' : TT} {rest : List Expr}
def tAnd (t u : TT) : TT := fun σ H Q => t σ H fun c H1 => if c = true then u σ H1 Q else Q false H1
def tOr (t u : TT) : TT := fun σ H Q => t σ H fun c H1 => if c = true then Q true H1 else u σ H1 Q
def tNot (t : TT) : TT := fun σ H Q => t σ H fun c H1 => Q (!c) H1
theorem pw_and1 (ha : PT X a tA) : PW X (.BoolOp .And [a] pos) tA := by
  intro wh pins s σ H Q I h
  refine isTrue_and (thn (ha pins s σ H Q I h) fun c s1 e => ?_)
  cases c with
  | true => exact isTrue_and_nil e
  | false => exact e
theorem pw_or1 (ha : PT X a tA) : PW X (.BoolOp .Or [a] pos) tA := by
  intro wh pins s σ H Q I h
  refine isTrue_or (thn (ha pins s σ H Q I h) fun c s1 e => ?_)
  cases c with
  | false => exact isTrue_or_nil e
  | true => exact e
theorem pw_and (ha : PT X a tA) (hb : PW X (.BoolOp .And (b :: rest) pos) tB') : PW X (.BoolOp .And (a :: b :: rest) pos) (tAnd tA tB') := by
  intro wh pins s σ H Q I h
  refine isTrue_and (thn (ha pins s σ H _ I h) fun c s1 ⟨H1, I1, q1⟩ => ?_)
  cases c with
  | true => exact hb wh pins s1 σ H1 Q I1 q1
  | false => exact ⟨H1, I1, q1⟩
theorem pw_or (ha : PT X a tA) (hb : PW X (.BoolOp .Or (b :: rest) pos) tB') : PW X (.BoolOp .Or (a :: b :: rest) pos) (tOr tA tB') := by
  intro wh pins s σ H Q I h
  refine isTrue_or (thn (ha pins s σ H _ I h) fun c s1 ⟨H1, I1, q1⟩ => ?_)
  cases c with
  | true => exact ⟨H1, I1, q1⟩
  | false => exact hb wh pins s1 σ H1 Q I1 q1
def tAndV (ta tb : TE) : TE := fun σ H Q => ta σ H fun x H1 => ∃ c, x = .bl c ∧ if c = true then tb σ H1 Q else Q (.bl false) H1
def tOrV (ta tb : TE) : TE := fun σ H Q => ta σ H fun x H1 => ∃ c, x = .bl c ∧ if c = true then Q (.bl true) H1 else tb σ H1 Q
def tNotV (ta : TE) : TE := fun σ H Q => ta σ H fun x H1 => ∃ c, x = .bl c ∧ Q (.bl (!c)) H1
theorem pe_one {op} {t : TE} (h : PE X a t) : PE X (.BoolOp op [a] pos) t := fun pins s σ H Q I hw => BoolOp_one (h pins s σ H Q I hw)
theorem pe_or (ha : PE X a ta) (hb : PE X (.BoolOp .Or (b :: rest) pos) tb) : PE X (.BoolOp .Or (a :: b :: rest) pos) (tOrV ta tb) := by
  intro pins s σ H Q I h
  refine BoolOp_or (thn (ha pins s σ H _ I h) fun v s1 ⟨x, H1, I1, r1, q1⟩ => ?_)
  obtain ⟨c, rfl, q1⟩ := q1
  cases r1
  refine wpAny_truthy_bool ?_
  cases c with
  | false => exact hb pins s1 σ H1 Q I1 q1
  | true => exact ⟨.bl true, H1, I1, rfl, q1⟩
def tIf (t : TT) (ta tb : TE) : TE := fun σ H Q => t σ H fun c H1 => if c = true then ta σ H1 Q else tb σ H1 Q
theorem pe_ifExp {c : Expr} (hc : PT X c tA) (ha : PE X a ta) (hb : PE X b tb) : PE X (.IfExp c a b pos) (tIf tA ta tb) := by
  intro pins s σ H Q I h
  refine wpAny_IfExp (thn (hc pins s σ H _ I h) fun d s1 ⟨H1, I1, q1⟩ => ?_)
  cases d with
  | true => exact ha pins s1 σ H1 Q I1 q1
  | false => exact hb pins s1 σ H1 Q I1 q1
end
end L2

namespace L2
open PySem PySem.Spec PyProof.Rows

def SqL (K : PySem.W.Frag) (H : Hp) (a : Addr) (xs : List V) : Prop :=
  Rd H a (.lst xs) ∨
    ∃ (o : Obj) (its : Array Value) (n : Nat), K.lookup a = some o ∧ o.cls = .type "list" ∧ o.dict = none ∧ o.data = .seq its n ∧ its.size ≤ sizeLine ∧ Vals xs its.toList
def SqT (K : PySem.W.Frag) (H : Hp) (a : Addr) (xs : List V) : Prop :=
  Rd H a (.tup xs) ∨
    ∃ (o : Obj) (its : Array Value) (n : Nat), K.lookup a = some o ∧ o.cls = .type "tuple" ∧ o.data = .seq its n ∧ its.size ≤ sizeLine ∧ Vals xs its.toList
def absV : Value → Option V
  | .none => some .non
  | .bool b => some (.bl b)
  | .int i _ => some (.int i)
  | .str x _ => some (.str x)
  | .bytes b _ => some (.byt b)
  | .float b _ => some (.flt b)
  | .ref a => some (.ref a)
  | .type n => some (.ty n)
  | _ => none
theorem RelV.abs {x : V} {u : Value} (r : RelV x u) : absV u = some x := by
  cases x with
  | non => cases r; rfl
  | bl _ => cases r; rfl
  | int _ => obtain ⟨t, rfl⟩ := r; rfl
  | str _ => obtain ⟨t, rfl⟩ := r; rfl
  | byt _ => obtain ⟨t, rfl⟩ := r; rfl
  | flt _ => obtain ⟨t, rfl⟩ := r; rfl
  | ref _ => cases r; rfl
  | ty _ => cases r; rfl
theorem RelV.inj {x y : V} {u : Value} (r : RelV x u) (q : RelV y u) : x = y := Option.some.inj (r.abs.symm.trans q.abs)
theorem Vals.inj : ∀ {xs ys : List V} {us : List Value}, Vals xs us → Vals ys us → xs = ys
  | _, _, _, .nil, .nil => rfl
  | _, _, _, .cons r t, .cons r' t' => by rw [r.inj r', Vals.inj t t']
section
variable {X : Cx} {pins : List (Addr × Obj)} {σ : St} {H : Hp} {s : Shared} {a : Addr} {xs ys : List V}
theorem SqL.of {K : PySem.W.Frag} (h : H a = some (.lst xs)) : SqL K H a xs := .inl (.inl h)
theorem SqT.of {K : PySem.W.Frag} (h : H a = some (.tup xs)) : SqT K H a xs := .inl (.inl h)
theorem Inv.list (I : Inv X pins σ H s) (h : SqL X.K H a xs) : ∃ its : List Value, Vals xs its ∧ PlainL s.heap a its.toArray ∧ xs.length ≤ sizeLine := by
  rcases h with h | ⟨o, its, n, hk, hc, hd, hs, hz, r⟩
  · obtain ⟨z, its, n, r, e⟩ := h.ok I.hok
    exact ⟨its, r, ⟨_, n, e, rfl, rfl, rfl⟩, z⟩
  · refine ⟨its.toList, r, ⟨o, n, I.kIn a o hk, hc, hd, by simpa using hs⟩, ?_⟩
    have e := r.length
    simp only [Array.length_toList] at e
    omega
theorem Inv.tuple (I : Inv X pins σ H s) (h : SqT X.K H a xs) : ∃ its : List Value, Vals xs its ∧ IsTup s.heap a its.toArray ∧ xs.length ≤ sizeLine := by
  rcases h with h | ⟨o, its, n, hk, hc, hs, hz, r⟩
  · obtain ⟨z, its, r, p⟩ := h.ok I.hok
    exact ⟨its, r, p, z⟩
  · refine ⟨its.toList, r, ⟨o, I.kIn a o hk, hc, n, by simpa using hs⟩, ?_⟩
    have e := r.length
    simp only [Array.length_toList] at e
    omega
theorem Inv.list_inj (I : Inv X pins σ H s) (h : SqL X.K H a xs) (h' : SqL X.K H a ys) : xs = ys := by
  obtain ⟨its, r, ⟨o, n, e, _, _, d⟩, _⟩ := I.list h
  obtain ⟨its', r', ⟨o', n', e', _, _, d'⟩, _⟩ := I.list h'
  rw [e] at e'; cases e'
  rw [d] at d'
  injection d' with d1 _
  have : its = its' := by simpa using congrArg Array.toList d1
  subst this
  exact r.inj r'
theorem Inv.tuple_inj (I : Inv X pins σ H s) (h : SqT X.K H a xs) (h' : SqT X.K H a ys) : xs = ys := by
  obtain ⟨its, r, ⟨o, e, _, n, d⟩, _⟩ := I.tuple h
  obtain ⟨its', r', ⟨o', e', _, n', d'⟩, _⟩ := I.tuple h'
  rw [e] at e'; cases e'
  rw [d] at d'
  injection d' with d1 _
  have : its = its' := by simpa using congrArg Array.toList d1
  subst this
  exact r.inj r'
end

abbrev Cx.wish (X : Cx) (E : Value → Shared → Prop) : Cx := { X with xe := E }
abbrev Cx.nox (X : Cx) : Cx := X.wish fun _ _ => False
theorem Cx.Ok.wish {X : Cx} (ok : X.Ok) (E : Value → Shared → Prop) : (X.wish E).Ok :=
  ⟨ok.mod, ok.kind, ok.glob, ok.blt, ok.above, ok.inj, ok.has, ok.cab, ok.hd, ok.frames, ok.stk, ok.exf, ok.bs, ok.bsz, ok.noex, ok.exfs, ok.funs, ok.frf⟩
theorem Cx.Ok.unwish {X : Cx} {E : Value → Shared → Prop} (ok : (X.wish E).Ok) : X.Ok :=
  ⟨ok.mod, ok.kind, ok.glob, ok.blt, ok.above, ok.inj, ok.has, ok.cab, ok.hd, ok.frames, ok.stk, ok.exf, ok.bs, ok.bsz, ok.noex, ok.exfs, ok.funs, ok.frf⟩
section
variable {X : Cx} {pins : List (Addr × Obj)} {σ : St} {H : Hp} {s : Shared} {E : Value → Shared → Prop}
theorem Inv.wish (I : Inv X pins σ H s) (E : Value → Shared → Prop) : Inv (X.wish E) pins σ H s := ⟨I.ok.wish E, I.os, I.bare, I.base, I.loc, I.cell, I.free, I.freeC, I.pin, I.hok, I.len⟩
theorem Inv.unwish (I : Inv (X.wish E) pins σ H s) : Inv X pins σ H s := ⟨I.ok.unwish, I.os, I.bare, I.base, I.loc, I.cell, I.free, I.freeC, I.pin, I.hok, I.len⟩
theorem SP.unwish {D : Ends} {f : Flow} {s' : Shared} (h : SP (X.wish E) pins D f s') : SP X pins D f s' := by
  cases f with
  | next => obtain ⟨σ', H', I, q⟩ := h; exact ⟨σ', H', I.unwish, q⟩
  | brk => obtain ⟨σ', H', I, q⟩ := h; exact ⟨σ', H', I.unwish, q⟩
  | cont => obtain ⟨σ', H', I, q⟩ := h; exact ⟨σ', H', I.unwish, q⟩
  | ret u => obtain ⟨v, σ', H', I, r, q⟩ := h; exact ⟨v, σ', H', I.unwish, r, q⟩
theorem PSs.nox {st : List Stmt} {t : TS} (h : PSs X.nox st t) : PSs X st t := fun pins s σ H D I hw =>
  wpAny_mono (h pins s σ H D (I.wish _) hw) (fun _ _ q => q.unwish) fun _ _ z => False.elim z
end

section
variable {X : Cx} {st : Stmt} {rest : List Stmt} {t u : TS} {e : Expr} {te : TE} {pos : Pos}
def tNext : TS := fun D σ H => D.nx σ H
def tSeq (t u : TS) : TS := fun D σ H => t { D with nx := u D } σ H
theorem pss_nil : PSs X [] tNext := fun _ _ σ H _ I h => wpAny_execs_nil ⟨σ, H, I, h⟩
theorem pss_cons (h1 : PS X st t) (h2 : PSs X rest u) : PSs X (st :: rest) (tSeq t u) := by
  intro pins s σ H D I h
  refine wpAny_execs_cons (thn (h1 pins s σ H { D with nx := u D } I h) fun f s1 q => ?_)
  cases f with
  | next =>
    obtain ⟨σ', H', I', q⟩ := q
    exact h2 pins s1 σ' H' D I' q
  | ret v => exact q
  | brk => exact q
  | cont => exact q
theorem pss_one (h1 : PS X st t) : PSs X [st] t := by
  intro pins s σ H D I h
  refine wpAny_execs_cons (thn (h1 pins s σ H D I h) fun f s1 q => ?_)
  cases f with
  | next => exact wpAny_execs_nil q
  | ret v => exact q
  | brk => exact q
  | cont => exact q
def tBreak : TS := fun D σ H => D.bk σ H
def tCont : TS := fun D σ H => D.ct σ H
theorem Inv.quiet {pins : List (Addr × Obj)} {σ : St} {H : Hp} {s : Shared} (I : Inv X pins σ H s) : interactive X.env = false := by simp [interactive, I.ok.kind]
def tDrop (te : TE) : TS := fun D σ H => te σ H fun _ H1 => D.nx σ H1
theorem ps_expr (he : PE X e te) (hs : swapsWith e none pos.line X.env = pure false := by rfl) : PS X (.Expr e pos) (tDrop te) := by
  intro pins s σ H D I h
  exact wpAny_Expr_any (thn (he pins s σ H _ I h) fun v s1 ⟨x, H1, I1, r1, q1⟩ => ⟨σ, H1, I1, q1⟩) I.quiet hs
def tRet (te : TE) : TS := fun D σ H => te σ H D.rt
theorem ps_ret (he : PE X e te) : PS X (.Return (some e) pos) (tRet te) := by
  intro pins s σ H D I h
  exact wpAny_Return_some (thn (he pins s σ H _ I h) fun v s1 ⟨x, H1, I1, r1, q1⟩ => ⟨x, σ, H1, I1, r1, q1⟩)
def tRetN : TS := fun D _ H => D.rt .non H
def tIfS (c : TT) (t u : TS) : TS := fun D σ H => c σ H fun b H1 => if b = true then t D σ H1 else u D σ H1
theorem ps_if {c : Expr} {a b : List Stmt} {tc : TT} (hc : PT X c tc) (ha : PSs X a t) (hb : PSs X b u) : PS X (.If c a b pos) (tIfS tc t u) := by
  intro pins s σ H D I h
  refine wpAny_If (thn (hc pins s σ H _ I h) fun d s1 ⟨H1, I1, q1⟩ => ?_)
  cases d with
  | true => exact ha pins s1 σ H1 D I1 q1
  | false => exact hb pins s1 σ H1 D I1 q1
def tNever : TS := fun _ _ _ => False
theorem ps_never : PS X st tNever := fun _ _ _ _ _ _ h => h.elim
end

abbrev TG := V → St → Hp → (St → Hp → Prop) → Prop
abbrev TGs := List V → St → Hp → (St → Hp → Prop) → Prop
def PG (X : Cx) (target : Expr) (t : TG) : Prop :=
  ∀ (pins : List (Addr × Obj)) (s : Shared) (σ : St) (H : Hp) (v : V) (u : Value) (Q : St → Hp → Prop), Inv X pins σ H s → RelV v u → t v σ H Q →
    wpAny (model X.prog X.w) X.A (assign target X.env u) (fun _ s' => ∃ σ' H', Inv X pins σ' H' s' ∧ Q σ' H') X.xe s
def PGs (X : Cx) (ts : List Expr) (t : TGs) : Prop :=
  ∀ (pins : List (Addr × Obj)) (s : Shared) (σ : St) (H : Hp) (vs : List V) (us : List Value) (Q : St → Hp → Prop), Inv X pins σ H s → Vals vs us → t vs σ H Q →
    wpAny (model X.prog X.w) X.A (assignInOrder ((assignEach ts X.env).map (·.2)) us) (fun _ s' => ∃ σ' H', Inv X pins σ' H' s' ∧ Q σ' H') X.xe s
abbrev TSet := V → V → V → Hp → (Hp → Prop) → Prop
def PSet (X : Cx) (t : TSet) : Prop :=
  ∀ (pins : List (Addr × Obj)) (s : Shared) (σ : St) (H : Hp) (o i v : V) (ov iv u : Value) (Q : Hp → Prop), Inv X pins σ H s → RelV o ov → RelV i iv → RelV v u → t o i v H Q →
    wpAny (model X.prog X.w) X.A (setItem ov iv u) (fun _ s' => ∃ H', Inv X pins σ H' s' ∧ Q H') X.xe s
abbrev TIp := V → V → Hp → VK → Prop
def PIp (X : Cx) (op : Operator) (t : TIp) : Prop :=
  ∀ (pins : List (Addr × Obj)) (s : Shared) (σ : St) (H : Hp) (x y : V) (v u : Value) (Q : VK), Inv X pins σ H s → RelV x v → RelV y u → t x y H Q →
    wpAny (model X.prog X.w) X.A (inplaceOp op v u) (EP X pins σ Q) X.xe s
section
variable {X : Cx} {pos : Pos}
def gName (i : Nat) : TG := fun v σ H Q => Q (σ.set i (some v)) H
theorem pg_name {i : Nat} {x : Str} (hN : X.N.Nodup) (hi : X.N[i]? = some x) (hx : Loc X.env.scope x) (hf : X.fn x = true ∨ X.env.scope.names.lookup x = some .local := by first | exact .inl rfl | exact .inr rfl | assumption) : PG X (.Name x pos) (gName i) := by
  intro pins s σ H v u Q I r h
  exact wpAny_assign_Name (store_ok I hN hi hx r (fun s' I' => ⟨_, H, I', h⟩) hf)
def gNil : TGs := fun vs σ H Q => vs = [] ∧ Q σ H
def gCons (t : TG) (u : TGs) : TGs := fun vs σ H Q => ∃ v r, vs = v :: r ∧ t v σ H fun σ' H' => u r σ' H' Q
theorem pgs_nil : PGs X [] gNil := by
  intro pins s σ H vs us Q I r h
  obtain ⟨e, h⟩ := h
  subst e
  cases r
  exact assignInOrder_nil ⟨σ, H, I, h⟩
theorem pgs_cons {e : Expr} {es : List Expr} {t : TG} {u : TGs} (h1 : PG X e t) (h2 : PGs X es u)
    (hs : (assignEach (e :: es) X.env).map (·.2) = assign e X.env :: (assignEach es X.env).map (·.2) := by rfl) : PGs X (e :: es) (gCons t u) := by
  intro pins s σ H vs us Q I r h
  obtain ⟨v, vr, e1, h⟩ := h
  subst e1
  cases r with
  | cons r rr =>
    rw [hs]
    refine assignInOrder_cons (thn (h1 pins s σ H _ _ _ I r h) fun _ s1 ⟨σ1, H1, I1, q1⟩ => ?_)
    exact h2 pins s1 σ1 H1 _ _ Q I1 rr q1
def gTup (K : PySem.W.Frag) (n : Nat) (t : TGs) : TG := fun v σ H Q => ∃ a xs, v = .ref a ∧ SqT K H a xs ∧ xs.length = n ∧ t xs σ H Q
theorem pg_tup {es : List Expr} {k : Nat} {t : TGs} {n : Nat} (hc : X.calm = true) (h : PGs X es t)
    (hn : (assignEach es X.env).length = n := by rfl) (hst : (assignEach es X.env).findIdx? (·.1) = none := by rfl) : PG X (.Tuple es k pos) (gTup X.K n t) := by
  intro pins s σ H v u Q I r hw
  obtain ⟨a, xs, e1, hq, hl, hw⟩ := hw
  subst e1
  cases r
  obtain ⟨its, rv, ht, hz⟩ := I.tuple hq
  refine assign_Tuple_tuple (I.ok.hd hc) ht (by simp [hn, ← hl, rv.length]) hst fun h' hx => ?_
  have I1 : Inv X pins σ H { s with heap := h' } := I.kept (t' := s.toks) fun b o e => hx b o (Nat.ne_of_lt (Heap.lt_size e)) e
  exact h pins _ σ H xs _ Q I1 (by simpa using rv) hw
def gSub (to ti : TE) (t : TSet) : TG := fun v σ H Q => to σ H fun o H1 => ti σ H1 fun i H2 => t o i v H2 fun H3 => Q σ H3
theorem pg_sub {o i : Expr} {to ti : TE} {t : TSet} (ho : PE X o to) (hi : PE X i ti) (hs : PSet X t)
    (ha : ∀ v, assign (.Subscript o i pos) X.env v = (do
      let ov ← holding [v] (eval o X.env)
      let iv ← holding [v, ov] (eval i X.env)
      standAt pos
      holding [v, ov, iv] (setItem ov iv v)
      release [v, ov, iv] []) := by intro _; rfl) : PG X (.Subscript o i pos) (gSub to ti t) := by
  intro pins s σ H v u Q I r h
  rw [ha]
  refine wpAny_bind (wpAny_holding (thn (ho pins s σ H _ I h) fun ov s1 ⟨x, H1, I1, r1, q1⟩ => ?_))
  refine wpAny_bind (wpAny_holding (thn (hi pins s1 σ H1 _ I1 q1) fun iv s2 ⟨y, H2, I2, r2, q2⟩ => ?_))
  refine wpAny_bind (wpAny_standAt (wpAny_bind (wpAny_holding (thn (hs pins s2 σ H2 x y v ov iv u _ I2 r1 r2 r q2) fun _ s3 ⟨H3, I3, q3⟩ => ?_))))
  exact wpAny_release ⟨σ, H3, I3, q3⟩
def tAsg (te : TE) (g : TG) : TS := fun D σ H => te σ H fun x H1 => g x σ H1 D.nx
theorem ps_asg {tg e : Expr} {te : TE} {g : TG} (he : PE X e te) (hg : PG X tg g) (hs : swapsWithSole [tg] e pos.line X.env = pure false := by rfl) (hw : swappedStores [tg] e X.env = pure none := by rfl)
    (h1 : (assignEach [tg] X.env).map (·.2) = [assign tg X.env] := by rfl) : PS X (.Assign [tg] e pos) (tAsg te g) := by
  intro pins s σ H D I h
  refine wpAny_Assign_stores (thn (he pins s σ H _ I h) fun v s1 ⟨x, H1, I1, r1, q1⟩ => ?_) hs hw
  rw [h1]
  exact thn (hg pins s1 σ H1 x v _ I1 r1 q1) fun _ s2 q => q
theorem ps_set {i : Nat} {x : Str} {e : Expr} {te : TE} {pos' : Pos} (hN : X.N.Nodup) (hi : X.N[i]? = some x) (hx : Loc X.env.scope x) (he : PE X e te) (hs : swapsWith e (some (.Name x pos')) pos.line X.env = pure false := by rfl) (hf : X.fn x = true ∨ X.env.scope.names.lookup x = some .local := by first | exact .inl rfl | exact .inr rfl | assumption) :
    PS X (.Assign [.Name x pos'] e pos) (tAsg te (gName i)) := by
  intro pins s σ H D I h
  refine wpAny_Assign_Name (thn (he pins s σ H _ I h) fun v s1 ⟨y, H1, I1, r1, q1⟩ => ?_) hs
  exact store_ok I1 hN hi hx r1 (fun s2 I2 => ⟨_, H1, I2, q1⟩) hf
def tPar (i j : Nat) (ta : TA) : TS := fun D σ H => ta σ H fun vs H1 => ∃ v w, vs = [v, w] ∧ D.nx ((σ.set i (some v)).set j (some w)) H1
def tAug (i : Nat) (te : TE) (ti : TIp) : TS := fun D σ H => ∃ x, σ[i]? = some (some x) ∧ te σ H fun y H1 => ti x y H1 fun z H2 => D.nx (σ.set i (some z)) H2
def tAugS (to ti te : TE) (tget : V → V → Hp → VK → Prop) (tip : TIp) (tset : TSet) : TS := fun D σ H => to σ H fun o H1 => ti σ H1 fun i H2 => tget o i H2 fun x H3 => te σ H3 fun y H4 => tip x y H4 fun z H5 => tset o i z H5 fun H6 => D.nx σ H6
def PGet (X : Cx) (t : V → V → Hp → VK → Prop) : Prop :=
  ∀ (pins : List (Addr × Obj)) (s : Shared) (σ : St) (H : Hp) (o i : V) (ov iv : Value) (Q : VK), Inv X pins σ H s → RelV o ov → RelV i iv → t o i H Q →
    wpAny (model X.prog X.w) X.A (getItem ov iv) (EP X pins σ Q) X.xe s
def ipI (f : Int → Int → Int) : TIp := fun x y H Q => ∃ i j, x = .int i ∧ y = .int j ∧ Q (.int (f i j)) H
end

section
variable {X : Cx} {pos : Pos}
def tWhile (c : TT) (tb : TS) : TS := fun D σ H => ∃ W : Nat → St → Hp → Prop, (∃ m, W m σ H) ∧ ∀ m σ H, W m σ H →
  c σ H fun b H1 => if b = true then ∃ N : St → Hp → Prop, (∀ σ' H', N σ' H' → ∃ m', m' < m ∧ W m' σ' H') ∧ tb { D with nx := N, ct := N, bk := D.nx } σ H1 else D.nx σ H1
theorem ps_while {c : Expr} {body : List Stmt} {tc : TT} {tb : TS} (hp : PassesOwn (model X.prog X.w) X.A X.env X.xe) (hc : PT X c tc) (hb : PSs X body tb) : PS X (.While c body [] pos) (tWhile tc tb) := by
  intro pins s σ H D I h
  obtain ⟨W, ⟨m0, w0⟩, turn⟩ := h
  refine wpAny_While (codeAny_whileLoop (fun n s' => ∃ σ' H', Inv X pins σ' H' s' ∧ W n σ' H') ?_ m0 ⟨σ, H, I, w0⟩)
  rintro n s1 ⟨σ1, H1, I1, w1⟩
  refine wpAny_passesOwn hp (thn (hc pins s1 σ1 H1 _ I1 (turn n σ1 H1 w1)) fun b s2 ⟨H2, I2, q2⟩ => ?_)
  cases b with
  | true =>
    obtain ⟨N, hN, q2⟩ := q2
    rw [if_pos rfl]
    refine wpAny_passesOwn hp (thn (hb pins s2 σ1 H2 _ I2 q2) fun f s3 q3 => ?_)
    cases f with
    | next =>
      obtain ⟨σ3, H3, I3, n3⟩ := q3
      obtain ⟨m', hm, w3⟩ := hN σ3 H3 n3
      exact ⟨m', hm, σ3, H3, I3, w3⟩
    | cont =>
      obtain ⟨σ3, H3, I3, n3⟩ := q3
      obtain ⟨m', hm, w3⟩ := hN σ3 H3 n3
      exact ⟨m', hm, σ3, H3, I3, w3⟩
    | brk => exact q3
    | ret v => exact q3
  | false =>
    rw [if_neg Bool.false_ne_true]
    exact wpAny_execs_nil ⟨σ1, H2, I2, q2⟩
end

structure It where
  go : Nat → Hp → Prop
  yld : Nat → Hp → V → Hp → Prop
  stop : Nat → Hp → Prop
def FpOk (X : Cx) (pins : List (Addr × Obj)) (H : Hp) (b : Addr) : Prop :=
  H b = none ∧ b ≠ X.env.locals ∧ b ∉ X.fs ∧ (b ∈ X.ex ∨ X.s_0.heap.objs.size ≤ b) ∧ (∀ x c, X.env.cells.lookup x = some c → c ≠ b) ∧ ∀ p ∈ X.pn ++ pins, p.1 ≠ b
theorem Inv.fpOk {X : Cx} {pins : List (Addr × Obj)} {σ : St} {H H' : Hp} {s : Shared} {b : Addr} (I : Inv X pins σ H s) (hb : s.heap.objs.size ≤ b) (hn : H' b = none) : FpOk X pins H' b := by
  refine ⟨hn, Nat.ne_of_gt (Nat.lt_of_lt_of_le I.lt hb), I.nofs hb, .inr (Nat.le_trans I.sz hb), fun x c e z => ?_, fun p hp z => ?_⟩
  · obtain ⟨v, q⟩ := I.cell x c e
    exact absurd (Nat.lt_of_lt_of_le q.lt (by rw [z]; exact hb)) (Nat.lt_irrefl _)
  · exact absurd (Nat.lt_of_lt_of_le (Heap.lt_size (I.pin p hp).1) (by rw [z]; exact hb)) (Nat.lt_irrefl _)
structure Turn (P : Program) (w : World) (K : PySem.W.Frag) (tg : Expr) (J : It) (fp : List Addr) (it : Addr) (tn : Nat → Heap → Prop) : Prop where
  mem : it ∈ fp
  obj : ∀ i h, tn i h → ∀ b ∈ fp, ∃ o, h.get? b = some o ∧ ∀ v, o.data ≠ .cell v
  keep : ∀ i h h', tn i h → (∀ b ∈ fp, ∀ o, h.get? b = some o → h'.get? b = some o) → tn i h'
  item : ∀ (X : Cx), X.prog = P → X.w = w → X.K = K → X.calm = true → ∀ (i : Nat) (pins : List (Addr × Obj)) (s : Shared) (σ : St) (H : Hp) (E : Value → Shared → Prop), Inv X pins σ H s → (∀ b ∈ fp, FpOk X pins H b) → tn i s.heap → J.go i H →
    wpAny (model P w) X.A (pyNext (.ref it)) (fun r s1 => ∃ u, r = some u ∧
      wpAny (model P w) X.A (letOwnedTupleGo tg (.ref it) u) (fun _ s2 => ∃ x H', Inv X pins σ H' s2 ∧ RelV x u ∧ J.yld i H x H' ∧ tn (i + 1) s2.heap ∧ ∀ b ∈ fp, H' b = none) E s1) E s
  done : ∀ (X : Cx), X.prog = P → X.w = w → X.K = K → X.calm = true → ∀ (i : Nat) (pins : List (Addr × Obj)) (s : Shared) (σ : St) (H : Hp) (E : Value → Shared → Prop), Inv X pins σ H s → (∀ b ∈ fp, FpOk X pins H b) → tn i s.heap → J.stop i H →
    wpAny (model P w) X.A (pyNext (.ref it)) (fun r s1 => r = none ∧ Inv X pins σ H s1) E s
  self : ∀ (A : Around) (i : Nat) (s : Shared) (Q : Value → Shared → Prop) (E : Value → Shared → Prop), tn i s.heap → Q (.ref it) s → wpAny (model P w) A (pyIter (.ref it)) Q E s
abbrev TI := St → Hp → (It → Hp → Prop) → Prop
def PIE (X : Cx) (pins : List (Addr × Obj)) (σ : St) (tg : Expr) (R : It → Hp → Prop) (itv : Value) (s2 : Shared) : Prop :=
  ∃ (it : Addr) (fp : List Addr) (tn : Nat → Heap → Prop) (J : It) (H' : Hp), itv = .ref it ∧ Inv X pins σ H' s2 ∧ Turn X.prog X.w X.K tg J fp it tn ∧ tn 0 s2.heap ∧ (∀ b ∈ fp, FpOk X pins H' b) ∧ R J H'
def PI (X : Cx) (tg iter : Expr) (wi : TI) : Prop :=
  ∀ (pins : List (Addr × Obj)) (s : Shared) (σ : St) (H : Hp) (R : It → Hp → Prop), Inv X pins σ H s → wi σ H R →
    wpAny (model X.prog X.w) X.A (eval iter X.env) (fun v s1 => wpAny (model X.prog X.w) X.A (pyIter v) (PIE X pins σ tg R) X.xe s1) X.xe s

theorem go_of {M : Model} {A : Around} {E : Value → Shared → Prop} {s : Shared} {tg : Expr} {it : Addr} {u : Value} {o : Obj} {n : String} {vs : Array Value} {Q : Unit → Shared → Prop} (ho : s.heap.get? it = some o) (hc : o.cls = .type n) (hd : o.data = .fields vs)
    (hn : ["enumerate", "zip", "dict_itemiterator", "dict_reverseitemiterator", "odict_iterator", "itertools.zip_longest", "itertools.pairwise"].contains n = false) (hQ : Q () s) : wpAny M A (letOwnedTupleGo tg (.ref it) u) Q E s := by
  unfold letOwnedTupleGo
  cases tg <;> first
    | exact wpAny_pure hQ
    | (cases u <;> first
        | exact wpAny_pure hQ
        | (refine wpAny_bind (wpAny_load ho ?_)
           rw [hc, hd]
           show wpAny M A (if (["enumerate", "zip", "dict_itemiterator", "dict_reverseitemiterator", "odict_iterator", "itertools.zip_longest", "itertools.pairwise"].contains n && vs[0]? == some (rawInt _)) = true then _ else _) Q E s
           rw [if_neg (by intro h; rw [hn, Bool.false_and] at h; cases h)]
           exact wpAny_pure hQ))

def Itl (K : PySem.W.Frag) (a : Addr) : It :=
  ⟨fun i H => ∃ xs x, SqL K H a xs ∧ xs[i]? = some x, fun i H x H' => H' = H ∧ ∀ xs, SqL K H a xs → xs[i]? = some x, fun i H => ∃ xs, SqL K H a xs ∧ xs.length ≤ i⟩
def Itt (K : PySem.W.Frag) (a : Addr) : It :=
  ⟨fun i H => ∃ xs x, SqT K H a xs ∧ xs[i]? = some x, fun i H x H' => H' = H ∧ ∀ xs, SqT K H a xs → xs[i]? = some x, fun i H => ∃ xs, SqT K H a xs ∧ xs.length ≤ i⟩
def Itr (lo : Int) (n : Nat) : It := ⟨fun i _ => i < n, fun i H x H' => H' = H ∧ x = .int (lo + i), fun i _ => n ≤ i⟩
theorem turn_list {P : Program} {w : World} {K : PySem.W.Frag} {tg : Expr} (a it : Addr) : Turn P w K tg (Itl K a) [it] it (fun i h => h.IsListIter it a i) where
  mem := by simp
  obj := fun i h st b hb => by
    have e : b = it := by simpa using hb
    subst e
    obtain ⟨o, e, c, d⟩ := st
    exact ⟨o, e, fun v z => by rw [d] at z; cases z⟩
  keep := fun i h h' st k => st.at fun o e => k it (by simp) o e
  item := by
    intro X hP hw hK hc i pins s σ H E I hf st hg
    subst hP hw hK
    obtain ⟨xs, x, hq, hx⟩ := hg
    obtain ⟨its, rv, p, hz⟩ := I.list hq
    obtain ⟨u, hu, ru⟩ := rv.get hx
    obtain ⟨f0, f1, f2, f3, f4, f5⟩ := hf it (by simp)
    refine wpAny_pyNext_list_item st p.isList (x := u) (by simpa using hu) fun h' st' sb => ?_
    have I1 : Inv X pins σ H { s with heap := h' } := I.turned (t' := s.toks) (fun b o hb e => (sb.2 b hb).trans e) f0 f1 f3 f4 f5
    obtain ⟨o, e, c, d⟩ := id st'
    exact ⟨u, rfl, go_of (s := { s with heap := h' }) e c d (by decide) ⟨x, H, I1, ru, ⟨rfl, fun ys hy => by rw [I.list_inj hy hq]; exact hx⟩, st', fun b hb => (hf b hb).1⟩⟩
  done := by
    intro X hP hw hK hc i pins s σ H E I hf st hg
    subst hP hw hK
    obtain ⟨xs, hq, hx⟩ := hg
    obtain ⟨its, rv, p, hz⟩ := I.list hq
    obtain ⟨f0, f1, f2, f3, f4, f5⟩ := hf it (by simp)
    have hl := rv.length
    exact wpAny_pyNext_list_end (I.ok.hd hc) st p.isList (by simp; omega) fun h' eb => ⟨rfl, I.turned (t' := s.toks) (fun b o hb e => eb b o hb e) f0 f1 f3 f4 f5⟩
  self := fun _ _ _ _ _ st h => wpAny_pyIter_listiter st h
theorem turn_tuple {P : Program} {w : World} {K : PySem.W.Frag} {tg : Expr} (a it : Addr) : Turn P w K tg (Itt K a) [it] it (fun i h => h.IsTupleIter it a i) where
  mem := by simp
  obj := fun i h st b hb => by
    have e : b = it := by simpa using hb
    subst e
    obtain ⟨o, e, c, d⟩ := st
    exact ⟨o, e, fun v z => by rw [d] at z; cases z⟩
  keep := fun i h h' st k => st.at fun o e => k it (by simp) o e
  item := by
    intro X hP hw hK hc i pins s σ H E I hf st hg
    subst hP hw hK
    obtain ⟨xs, x, hq, hx⟩ := hg
    obtain ⟨its, rv, p, hz⟩ := I.tuple hq
    obtain ⟨u, hu, ru⟩ := rv.get hx
    obtain ⟨f0, f1, f2, f3, f4, f5⟩ := hf it (by simp)
    refine wpAny_pyNext_tuple_item st (show s.heap.IsTuple a its.toArray from p) (x := u) (by simpa using hu) fun h' st' sb => ?_
    have I1 : Inv X pins σ H { s with heap := h' } := I.turned (t' := s.toks) (fun b o hb e => (sb.2 b hb).trans e) f0 f1 f3 f4 f5
    obtain ⟨o, e, c, d⟩ := id st'
    exact ⟨u, rfl, go_of (s := { s with heap := h' }) e c d (by decide) ⟨x, H, I1, ru, ⟨rfl, fun ys hy => by rw [I.tuple_inj hy hq]; exact hx⟩, st', fun b hb => (hf b hb).1⟩⟩
  done := by
    intro X hP hw hK hc i pins s σ H E I hf st hg
    subst hP hw hK
    obtain ⟨xs, hq, hx⟩ := hg
    obtain ⟨its, rv, p, hz⟩ := I.tuple hq
    obtain ⟨f0, f1, f2, f3, f4, f5⟩ := hf it (by simp)
    have hl := rv.length
    exact wpAny_pyNext_tuple_end (I.ok.hd hc) st (show s.heap.IsTuple a its.toArray from p) (by simp; omega) fun h' eb => ⟨rfl, I.turned (t' := s.toks) (fun b o hb e => eb b o hb e) f0 f1 f3 f4 f5⟩
  self := fun _ _ _ _ _ st h => wpAny_pyIter_tupleiter st h
end L2

namespace L2
open PySem PySem.Spec PyProof.Rows
section
variable {X : Cx} {tg : Expr}
def iList (K : PySem.W.Frag) (tl : TE) : TI := fun σ H R => tl σ H fun x H1 => ∃ a, x = .ref a ∧ (∃ xs, SqL K H1 a xs) ∧ R (Itl K a) H1
def iTup (K : PySem.W.Frag) (tl : TE) : TI := fun σ H R => tl σ H fun x H1 => ∃ a, x = .ref a ∧ (∃ xs, SqT K H1 a xs) ∧ R (Itt K a) H1
theorem pi_list {l : Expr} {tl : TE} (hl : PE X l tl) : PI X tg l (iList X.K tl) := by
  intro pins s σ H R I h
  refine thn (hl pins s σ H _ I h) fun v s1 ⟨x, H1, I1, r1, q1⟩ => ?_
  obtain ⟨a, e, ⟨xs, hq⟩, q⟩ := q1
  subst e
  cases r1
  obtain ⟨its, rv, p, hz⟩ := I1.list hq
  refine wpAny_pyIter_list p.isList ?_
  refine ⟨s1.heap.objs.size, [s1.heap.objs.size], _, _, H1, rfl, I1.kept (t' := s1.toks) fun b o e => Heap.get?_push_of_some _ e, turn_list a _, ⟨_, Heap.get?_push_size _ rfl, rfl, rfl⟩, fun b hb => ?_, q⟩
  have e : b = s1.heap.objs.size := by simpa using hb
  subst e
  exact I1.fpOk (Nat.le_refl _) (I1.hok.fresh (Nat.le_refl _))
theorem pi_tup {l : Expr} {tl : TE} (hl : PE X l tl) : PI X tg l (iTup X.K tl) := by
  intro pins s σ H R I h
  refine thn (hl pins s σ H _ I h) fun v s1 ⟨x, H1, I1, r1, q1⟩ => ?_
  obtain ⟨a, e, ⟨xs, hq⟩, q⟩ := q1
  subst e
  cases r1
  obtain ⟨its, rv, p, hz⟩ := I1.tuple hq
  refine wpAny_pyIter_tuple (show s1.heap.IsTuple a its.toArray from p) ?_
  refine ⟨s1.heap.objs.size, [s1.heap.objs.size], _, _, H1, rfl, I1.kept (t' := s1.toks) fun b o e => Heap.get?_push_of_some _ e, turn_tuple a _, ⟨_, Heap.get?_push_size _ rfl, rfl, rfl⟩, fun b hb => ?_, q⟩
  have e : b = s1.heap.objs.size := by simpa using hb
  subst e
  exact I1.fpOk (Nat.le_refl _) (I1.hok.fresh (Nat.le_refl _))
def iRng1 (ta : TA) : TI := fun σ H R => ta σ H fun vs H1 => ∃ j : Int, vs = [.int j] ∧ -(2 ^ 62) ≤ j ∧ j < 2 ^ 62 ∧ R (Itr 0 j.toNat) H1
def iRng2 (ta : TA) : TI := fun σ H R => ta σ H fun vs H1 => ∃ i j : Int, vs = [.int i, .int j] ∧ (-(2 ^ 62) ≤ i ∧ i < 2 ^ 62 ∧ -(2 ^ 62) ≤ j ∧ j < 2 ^ 62) ∧ R (Itr i (j - i).toNat) H1
def tFor (wi : TI) (g : TG) (tb : TS) : TS := fun D σ H => wi σ H fun J H1 => ∃ W : Nat → Nat → St → Hp → Prop, (∃ m, W 0 m σ H1) ∧ ∀ i m σ H, W i m σ H →
  (J.stop i H ∧ D.nx σ H) ∨ (J.go i H ∧ ∃ N : St → Hp → Prop, (∀ σ' H', N σ' H' → ∃ m', m' < m ∧ W (i + 1) m' σ' H') ∧ ∀ x H', J.yld i H x H' → g x σ H' fun σ2 H2 => tb { D with nx := N, ct := N, bk := D.nx } σ2 H2)
def pinsAt (fp : List Addr) (h : Heap) : List (Addr × Obj) := fp.filterMap fun b => (h.get? b).map fun o => (b, o)
theorem mem_pinsAt {fp : List Addr} {h : Heap} {b : Addr} {o : Obj} (hb : b ∈ fp) (e : h.get? b = some o) : (b, o) ∈ pinsAt fp h := List.mem_filterMap.mpr ⟨b, hb, by rw [e]; rfl⟩
theorem of_pinsAt {fp : List Addr} {h : Heap} {p : Addr × Obj} (hp : p ∈ pinsAt fp h) : p.1 ∈ fp ∧ h.get? p.1 = some p.2 := by
  obtain ⟨b, hb, e⟩ := List.mem_filterMap.mp hp
  cases q : h.get? b with
  | none => rw [q] at e; cases e
  | some o =>
    rw [q] at e
    have e' : (b, o) = p := Option.some.inj e
    subst e'
    exact ⟨hb, q⟩
theorem Inv.pinned {pins : List (Addr × Obj)} {σ : St} {H : Hp} {s : Shared} {fp : List Addr} (I : Inv X pins σ H s) (hf : ∀ b ∈ fp, FpOk X pins H b) (ho : ∀ b ∈ fp, ∃ o, s.heap.get? b = some o ∧ ∀ v, o.data ≠ .cell v) : Inv X (pins ++ pinsAt fp s.heap) σ H s :=
  I.pins_of fun p hp => (List.mem_append.mp hp).elim (fun z => I.pin p (List.mem_append_right _ z)) fun z => by
    obtain ⟨hb, e⟩ := of_pinsAt z
    obtain ⟨f0, f1, f2, _⟩ := hf p.1 hb
    obtain ⟨o, e', d⟩ := ho p.1 hb
    rw [e] at e'; cases e'
    exact ⟨e, f0, f1, f2, d⟩
theorem Inv.unpinned {pins pl : List (Addr × Obj)} {σ : St} {H : Hp} {s : Shared} (I : Inv X (pins ++ pl) σ H s) : Inv X pins σ H s := I.pins_of fun p hp => I.pin p (List.mem_append_right _ (List.mem_append_left _ hp))
theorem ps_for {iter : Expr} {body : List Stmt} {wi : TI} {g : TG} {tb : TS} {pos : Pos} (hp : PassesOwn (model X.prog X.w) X.A X.env X.xe) (hc : X.calm = true) (hi : PI X tg iter wi) (hg : PG X tg g) (hb : PSs X body tb)
    (hs : ∀ x, foldedSetIterable iter X.env x = pure x := by intro _; rfl) : PS X (.For tg iter body [] pos) (tFor wi g tb) := by
  intro pins s σ H D I h
  refine wpAny_For (thn (hi pins s σ H _ I h) fun v s1 h1 => thn h1 fun itv s2 h2 => ?_) hs
  obtain ⟨it, fp, tn, J, H2, e, I2, T, st2, f2, W, ⟨m0, w0⟩, turn⟩ := h2
  subst e
  -- what stays true of the iterator's objects through the loop
  have stat : ∀ {H' : Hp}, (∀ b ∈ fp, H' b = none) → ∀ b ∈ fp, FpOk X pins H' b := fun hn b hb => ⟨hn b hb, (f2 b hb).2⟩
  refine codeAny_forLoop_any (fun n s' => ∃ i σ' H', Inv X pins σ' H' s' ∧ tn i s'.heap ∧ (∀ b ∈ fp, H' b = none) ∧ W i n σ' H') ?_ m0 ⟨0, σ, H2, I2, st2, fun b hb => (f2 b hb).1, w0⟩
  rintro n s3 ⟨i, σ3, H3, I3, st3, fr3, w3⟩
  rcases turn i n σ3 H3 w3 with ⟨stop, qn⟩ | ⟨go, N, hN, step⟩
  · refine wpAny_passesOwn hp (thn (T.done X rfl rfl rfl hc i pins s3 σ3 H3 X.xe I3 (stat fr3) st3 stop) fun r s4 ⟨hr, I4⟩ => ?_)
    subst hr
    exact wpAny_execs_nil ⟨σ3, H3, I4, qn⟩
  · refine wpAny_passesOwn hp (thn (T.item X rfl rfl rfl hc i pins s3 σ3 H3 X.xe I3 (stat fr3) st3 go) fun r s4 ⟨u, hr, h4⟩ => ?_)
    subst hr
    refine wpAny_passesOwn hp (thn h4 fun _ s5 ⟨x, H5, I5, r5, y5, st5, fr5⟩ => ?_)
    have I5' := I5.pinned (stat fr5) (T.obj _ _ st5)
    refine wpAny_passesOwn hp (thn (hg _ s5 σ3 H5 x u _ I5' r5 (step x H5 y5)) fun _ s6 ⟨σ6, H6, I6, q6⟩ => ?_)
    refine wpAny_passesOwn hp (thn (hb _ s6 σ6 H6 _ I6 q6) fun f s7 q7 => ?_)
    have again : ∀ {σ7 : St} {H7 : Hp}, Inv X (pins ++ pinsAt fp s5.heap) σ7 H7 s7 → N σ7 H7 → ∃ m, m < n ∧ ∃ i σ' H', Inv X pins σ' H' s7 ∧ tn i s7.heap ∧ (∀ b ∈ fp, H' b = none) ∧ W i m σ' H' := fun {σ7 H7} I7 n7 => by
      obtain ⟨m', hm, w7⟩ := hN σ7 H7 n7
      refine ⟨m', hm, i + 1, σ7, H7, I7.unpinned, T.keep _ _ _ st5 fun b hb o e => (I7.pin (b, o) (List.mem_append_right _ (List.mem_append_right _ (mem_pinsAt hb e)))).1, fun b hb => ?_, w7⟩
      obtain ⟨o, e, d⟩ := T.obj _ _ st5 b hb
      exact (I7.pin (b, o) (List.mem_append_right _ (List.mem_append_right _ (mem_pinsAt hb e)))).2.1
    cases f with
    | next => obtain ⟨σ7, H7, I7, n7⟩ := q7; exact again I7 n7
    | cont => obtain ⟨σ7, H7, I7, n7⟩ := q7; exact again I7 n7
    | brk => obtain ⟨σ7, H7, I7, q7⟩ := q7; exact ⟨σ7, H7, I7.unpinned, q7⟩
    | ret v => obtain ⟨x7, σ7, H7, I7, r7, q7⟩ := q7; exact ⟨x7, σ7, H7, I7.unpinned, r7, q7⟩
end

theorem for_list {K : PySem.W.Frag} {a : Addr} {xs : List V} {g : TG} {tb : TS} {D : Ends} {σ : St} {H : Hp} (Pv : Nat → St → Hp → Prop) (h0 : Pv 0 σ H) (hl : ∀ i σ H, i ≤ xs.length → Pv i σ H → SqL K H a xs)
    (hs : ∀ i x σ H, xs[i]? = some x → Pv i σ H → g x σ H fun σ2 H2 => tb { D with nx := Pv (i + 1), ct := Pv (i + 1), bk := D.nx } σ2 H2) (hd : ∀ σ H, Pv xs.length σ H → D.nx σ H) :
    ∃ W : Nat → Nat → St → Hp → Prop, (∃ m, W 0 m σ H) ∧ ∀ i m σ H, W i m σ H →
      ((Itl K a).stop i H ∧ D.nx σ H) ∨ ((Itl K a).go i H ∧ ∃ N : St → Hp → Prop, (∀ σ' H', N σ' H' → ∃ m', m' < m ∧ W (i + 1) m' σ' H') ∧ ∀ x H', (Itl K a).yld i H x H' → g x σ H' fun σ2 H2 => tb { D with nx := N, ct := N, bk := D.nx } σ2 H2) := by
  refine ⟨fun i m σ H => m = xs.length - i ∧ i ≤ xs.length ∧ Pv i σ H, ⟨xs.length, by simp, Nat.zero_le _, h0⟩, ?_⟩
  rintro i m σ H ⟨rfl, hi, p⟩
  have q := hl i σ H hi p
  by_cases hlt : i < xs.length
  · refine .inr ⟨⟨xs, xs[i], q, by simp [hlt]⟩, Pv (i + 1), fun σ' H' p' => ⟨xs.length - (i + 1), by omega, rfl, hlt, p'⟩, fun x H' y => ?_⟩
    obtain ⟨e, y⟩ := y
    subst e
    exact hs i x σ _ (y xs q) p
  · have e : i = xs.length := by omega
    subst e
    exact .inl ⟨⟨xs, q, Nat.le_refl _⟩, hd σ H p⟩
theorem for_tup {K : PySem.W.Frag} {a : Addr} {xs : List V} {g : TG} {tb : TS} {D : Ends} {σ : St} {H : Hp} (Pv : Nat → St → Hp → Prop) (h0 : Pv 0 σ H) (hl : ∀ i σ H, i ≤ xs.length → Pv i σ H → SqT K H a xs)
    (hs : ∀ i x σ H, xs[i]? = some x → Pv i σ H → g x σ H fun σ2 H2 => tb { D with nx := Pv (i + 1), ct := Pv (i + 1), bk := D.nx } σ2 H2) (hd : ∀ σ H, Pv xs.length σ H → D.nx σ H) :
    ∃ W : Nat → Nat → St → Hp → Prop, (∃ m, W 0 m σ H) ∧ ∀ i m σ H, W i m σ H →
      ((Itt K a).stop i H ∧ D.nx σ H) ∨ ((Itt K a).go i H ∧ ∃ N : St → Hp → Prop, (∀ σ' H', N σ' H' → ∃ m', m' < m ∧ W (i + 1) m' σ' H') ∧ ∀ x H', (Itt K a).yld i H x H' → g x σ H' fun σ2 H2 => tb { D with nx := N, ct := N, bk := D.nx } σ2 H2) := by
  refine ⟨fun i m σ H => m = xs.length - i ∧ i ≤ xs.length ∧ Pv i σ H, ⟨xs.length, by simp, Nat.zero_le _, h0⟩, ?_⟩
  rintro i m σ H ⟨rfl, hi, p⟩
  have q := hl i σ H hi p
  by_cases hlt : i < xs.length
  · refine .inr ⟨⟨xs, xs[i], q, by simp [hlt]⟩, Pv (i + 1), fun σ' H' p' => ⟨xs.length - (i + 1), by omega, rfl, hlt, p'⟩, fun x H' y => ?_⟩
    obtain ⟨e, y⟩ := y
    subst e
    exact hs i x σ _ (y xs q) p
  · have e : i = xs.length := by omega
    subst e
    exact .inl ⟨⟨xs, q, Nat.le_refl _⟩, hd σ H p⟩
end L2

namespace L2
open PySem PySem.Spec PyProof.Rows

abbrev R2 := V → V → Hp → VK → Prop
def OpR (X : Cx) (f : Value → Value → Sem Value) (r : R2) : Prop :=
  ∀ (pins : List (Addr × Obj)) (s : Shared) (σ : St) (H : Hp) (x y : V) (v u : Value) (Q : VK), Inv X pins σ H s → RelV x v → RelV y u → r x y H Q →
    wpAny (model X.prog X.w) X.A (f v u) (EP X pins σ Q) X.xe s
def UnR (X : Cx) (f : Value → Sem Value) (r : V → Hp → VK → Prop) : Prop :=
  ∀ (pins : List (Addr × Obj)) (s : Shared) (σ : St) (H : Hp) (x : V) (v : Value) (Q : VK), Inv X pins σ H s → RelV x v → r x H Q →
    wpAny (model X.prog X.w) X.A (f v) (EP X pins σ Q) X.xe s
def CallR (X : Cx) (f : Value) (r : List V → Hp → VK → Prop) : Prop :=
  ∀ (pins : List (Addr × Obj)) (s : Shared) (σ : St) (H : Hp) (xs : List V) (us : List Value) (Q : VK), Inv X pins σ H s → Vals xs us → r xs H Q →
    wpAny (model X.prog X.w) X.A (call f us) (EP X pins σ Q) X.xe s
def TruR (X : Cx) (r : V → Hp → (Bool → Hp → Prop) → Prop) : Prop :=
  ∀ (pins : List (Addr × Obj)) (s : Shared) (σ : St) (H : Hp) (x : V) (v : Value) (Q : Bool → Hp → Prop), Inv X pins σ H s → RelV x v → r x H Q →
    wpAny (model X.prog X.w) X.A (truthy v) (TP X pins σ Q) X.xe s

def tOp (r : R2) (ta tb : TE) : TE := fun σ H Q => ta σ H fun x H1 => tb σ H1 fun y H2 => r x y H2 Q
def tUn (r : V → Hp → VK → Prop) (ta : TE) : TE := fun σ H Q => ta σ H fun x H1 => r x H1 Q
def rI (C : Int → Int → Prop) (g : Int → Int → V) : R2 := fun x y H Q => ∃ i j, x = .int i ∧ y = .int j ∧ C i j ∧ Q (g i j) H
def rI0 (g : Int → Int → V) : R2 := fun x y H Q => ∃ i j, x = .int i ∧ y = .int j ∧ Q (g i j) H
def rU (g : Int → V) : V → Hp → VK → Prop := fun x H Q => ∃ i, x = .int i ∧ Q (g i) H

section
variable {X : Cx} {a b c : Expr} {ta tb tc : TE} {pos : Pos}

theorem binT (ha : PE X a ta) (hb : PE X b tb) {pins : List (Addr × Obj)} {s : Shared} {σ : St} {H : Hp} {R : V → V → Hp → Prop} (I : Inv X pins σ H s)
    (h : ta σ H fun x H1 => tb σ H1 fun y H2 => R x y H2) {Q : Value → Shared → Prop} {f : Value → Value → Sem Value}
    (hf : ∀ v u s2 x y H2, Inv X pins σ H2 s2 → RelV x v → RelV y u → R x y H2 → wpAny (model X.prog X.w) X.A (f v u) Q X.xe s2) :
    wpAny (model X.prog X.w) X.A (eval a X.env) (fun v s₁ => wpAny (model X.prog X.w) X.A (eval b X.env) (fun u s₂ => wpAny (model X.prog X.w) X.A (f v u) Q X.xe s₂) X.xe s₁) X.xe s := by
  refine thn (ha pins s σ H _ I h) fun v s1 ⟨x, H1, I1, r1, q1⟩ => ?_
  refine thn (hb pins s1 σ H1 _ I1 q1) fun u s2 ⟨y, H2, I2, r2, q2⟩ => ?_
  exact hf v u s2 x y H2 I2 r1 r2 q2

theorem pe_op {op : Operator} {r : R2} (ho : OpR X (binaryOp op) r) (ha : PE X a ta) (hb : PE X b tb) : PE X (.BinOp a op b pos) (tOp r ta tb) := by
  intro pins s σ H Q I h
  exact wpAny_BinOp (binT ha hb I h fun v u s2 x y H2 I2 rx ry q => ho pins s2 σ H2 x y v u Q I2 rx ry q)
theorem pe_un {op : UnaryOp} {r : V → Hp → VK → Prop} (ho : UnR X (unaryOp op) r) (ha : PE X a ta) : PE X (.UnaryOp op a pos) (tUn r ta) := by
  intro pins s σ H Q I h
  exact UnaryOp_ (thn (ha pins s σ H _ I h) fun v s1 ⟨x, H1, I1, r1, q1⟩ => ho pins s1 σ H1 x v Q I1 r1 q1)
theorem opI {f : Value → Value → Sem Value} {C : Int → Int → Prop} {g : Int → Int → Int}
    (rule : ∀ (i j : Int) (t u : Tok) (s : Shared) (Q : Value → Shared → Prop) (E : Value → Shared → Prop), C i j → Q (.int (g i j) s.toks) { s with toks := s.toks + 1 } → wpAny (model X.prog X.w) X.A (f (.int i t) (.int j u)) Q E s) :
    OpR X f (rI C fun i j => .int (g i j)) := by
  intro pins s σ H x y v u Q I rx ry h
  obtain ⟨i, j, rfl, rfl, hc, q⟩ := h
  obtain ⟨t, rfl⟩ := rx
  obtain ⟨t', rfl⟩ := ry
  exact rule i j t t' s _ _ hc ⟨.int (g i j), H, I.tok _, ⟨_, rfl⟩, q⟩
theorem opI0 {f : Value → Value → Sem Value} {g : Int → Int → Int}
    (rule : ∀ (i j : Int) (t u : Tok) (s : Shared) (Q : Value → Shared → Prop) (E : Value → Shared → Prop), Q (.int (g i j) s.toks) { s with toks := s.toks + 1 } → wpAny (model X.prog X.w) X.A (f (.int i t) (.int j u)) Q E s) :
    OpR X f (rI0 fun i j => .int (g i j)) := by
  intro pins s σ H x y v u Q I rx ry h
  obtain ⟨i, j, rfl, rfl, q⟩ := h
  obtain ⟨t, rfl⟩ := rx
  obtain ⟨t', rfl⟩ := ry
  exact rule i j t t' s _ _ ⟨.int (g i j), H, I.tok _, ⟨_, rfl⟩, q⟩
theorem opB0 {f : Value → Value → Sem Value} {g : Int → Int → Bool}
    (rule : ∀ (i j : Int) (t u : Tok) (s : Shared) (Q : Value → Shared → Prop) (E : Value → Shared → Prop), Q (.bool (g i j)) s → wpAny (model X.prog X.w) X.A (f (.int i t) (.int j u)) Q E s) :
    OpR X f (rI0 fun i j => .bl (g i j)) := by
  intro pins s σ H x y v u Q I rx ry h
  obtain ⟨i, j, rfl, rfl, q⟩ := h
  obtain ⟨t, rfl⟩ := rx
  obtain ⟨t', rfl⟩ := ry
  exact rule i j t t' s _ _ ⟨.bl (g i j), H, I, rfl, q⟩

def CDiv (i j : Int) : Prop := 0 < j ∧ j < 1073741824
def CDivN (i j : Int) : Prop := j ≠ 0 ∧ j.natAbs < 1073741824
def CPow (i j : Int) : Prop := 0 ≤ j ∧ j ≤ 1000000 ∧ i.natAbs < 2 ^ 64
def CMul (i j : Int) : Prop := (-(2 ^ 64) < i ∧ i < 2 ^ 64) ∨ (-(2 ^ 64) < j ∧ j < 2 ^ 64)
theorem CMul.ok {i j : Int} (h : CMul i j) : IntMulOk i j := by
  rcases h with ⟨h1, h2⟩ | ⟨h1, h2⟩
  · exact .of_left (intBits_le_64 h1 h2)
  · exact .of_right (intBits_le_64 h1 h2)
theorem op_add : OpR X (binaryOp .Add) (rI0 fun i j => .int (i + j)) := opI0 fun _ _ _ _ _ _ _ q => add_int q
theorem op_sub : OpR X (binaryOp .Sub) (rI0 fun i j => .int (i - j)) := opI0 fun _ _ _ _ _ _ _ q => sub_int q
theorem op_mul : OpR X (binaryOp .Mult) (rI CMul fun i j => .int (i * j)) := opI fun _ _ _ _ _ _ _ hc q => mul_int q hc.ok
theorem unI {f : Value → Sem Value} {g : Int → Int}
    (rule : ∀ (i : Int) (t : Tok) (s : Shared) (Q : Value → Shared → Prop) (E : Value → Shared → Prop), Q (.int (g i) s.toks) { s with toks := s.toks + 1 } → wpAny (model X.prog X.w) X.A (f (.int i t)) Q E s) :
    UnR X f (rU fun i => .int (g i)) := by
  intro pins s σ H x v Q I rx h
  obtain ⟨i, rfl, q⟩ := h
  obtain ⟨t, rfl⟩ := rx
  exact rule i t s _ _ ⟨.int (g i), H, I.tok _, ⟨_, rfl⟩, q⟩
theorem un_neg : UnR X (unaryOp .USub) (rU fun i => .int (-i)) := unI fun _ _ _ _ _ q => neg_int q
end

def scal : V → V → Bool
  | .non, .non => true | .non, .int _ => true | .int _, .non => true | .non, .bl _ => true | .bl _, .non => true | .non, .str _ => true | .str _, .non => true
  | .int _, .int _ => true | .bl _, .bl _ => true | .str _, .str _ => true | .byt _, .byt _ => true
  | .int _, .str _ => true | .str _, .int _ => true | .bl _, .str _ => true | .str _, .bl _ => true
  | _, _ => false
def rEq : R2 := fun x y H Q => scal x y = true ∧ Q (.bl (decide (x = y))) H
def rNe : R2 := fun x y H Q => scal x y = true ∧ Q (.bl (!decide (x = y))) H

theorem dec_int {i j : Int} : decide (V.int i = V.int j) = (i == j) := by
  rw [Bool.eq_iff_iff]
  simp
theorem dec_bl {i j : Bool} : decide (V.bl i = V.bl j) = (i == j) := by
  rw [Bool.eq_iff_iff]
  simp
theorem dec_str {i j : Str} : decide (V.str i = V.str j) = (i == j) := by
  rw [Bool.eq_iff_iff]
  simp
theorem dec_byt {i j : Array UInt8} : decide (V.byt i = V.byt j) = (i.toList == j.toList) := by
  rw [Bool.eq_iff_iff]
  cases i
  cases j
  simp

section
variable {X : Cx} {a b c : Expr} {ta tb tc : TE} {pos : Pos}
theorem fin_bl {pins : List (Addr × Obj)} {σ : St} {H : Hp} {s : Shared} {Q : VK} {k k' : Bool} (I : Inv X pins σ H s) (q : Q (.bl k) H) (e : k = k') : EP X pins σ Q (.bool k') s := by
  subst e
  exact ⟨.bl k, H, I, rfl, q⟩
theorem op_eq : OpR X (compareOp .Eq) rEq := by
  intro pins s σ H x y v u Q I rx ry h
  obtain ⟨hs, q⟩ := h
  cases x with
  | non =>
    cases rx
    cases y with
    | non => cases ry; exact PySem.EqNone.eq_none_none (fin_bl I q (by simp))
    | bl j => cases ry; exact PySem.EqNone.eq_none_bool (fin_bl I q (by simp))
    | int j => obtain ⟨t', rfl⟩ := ry; exact PySem.EqNone.eq_none_int (fin_bl I q (by simp))
    | str j => obtain ⟨t', rfl⟩ := ry; exact PySem.EqNone.eq_none_str (fin_bl I q (by simp))
    | _ => exact absurd (show false = true from hs) Bool.false_ne_true
  | bl i =>
    cases rx
    cases y with
    | non => cases ry; exact PySem.EqNone.eq_bool_none (fin_bl I q (by simp))
    | bl j => cases ry; exact eq_bool (fin_bl I q dec_bl)
    | str j => obtain ⟨t', rfl⟩ := ry; exact PySem.EqMixed.eq_bool_str (fin_bl I q (by simp))
    | _ => exact absurd (show false = true from hs) Bool.false_ne_true
  | int i =>
    obtain ⟨t, rfl⟩ := rx
    cases y with
    | non => cases ry; exact PySem.EqNone.eq_int_none (fin_bl I q (by simp))
    | int j => obtain ⟨t', rfl⟩ := ry; exact eq_int (fin_bl I q dec_int)
    | str j => obtain ⟨t', rfl⟩ := ry; exact PySem.EqMixed.eq_int_str (fin_bl I q (by simp))
    | _ => exact absurd (show false = true from hs) Bool.false_ne_true
  | str i =>
    obtain ⟨t, rfl⟩ := rx
    cases y with
    | non => cases ry; exact PySem.EqNone.eq_str_none (fin_bl I q (by simp))
    | bl j => cases ry; exact PySem.EqMixed.eq_str_bool (fin_bl I q (by simp))
    | int j => obtain ⟨t', rfl⟩ := ry; exact PySem.EqMixed.eq_str_int (fin_bl I q (by simp))
    | str j => obtain ⟨t', rfl⟩ := ry; exact eq_str (fin_bl I q dec_str)
    | _ => exact absurd (show false = true from hs) Bool.false_ne_true
  | byt i =>
    obtain ⟨t, rfl⟩ := rx
    cases y with
    | byt j => obtain ⟨t', rfl⟩ := ry; exact PySem.W.eq_bytes (fin_bl I q dec_byt)
    | _ => exact absurd (show false = true from hs) Bool.false_ne_true
  | _ => cases y <;> exact absurd (show false = true from hs) Bool.false_ne_true
theorem op_ne : OpR X (compareOp .NotEq) rNe := by
  intro pins s σ H x y v u Q I rx ry h
  obtain ⟨hs, q⟩ := h
  cases x with
  | non =>
    cases rx
    cases y with
    | non => cases ry; exact PySem.EqNone.ne_none_none (fin_bl I q (by simp))
    | bl j => cases ry; exact PySem.EqNone.ne_none_bool (fin_bl I q (by simp))
    | int j => obtain ⟨t', rfl⟩ := ry; exact PySem.EqNone.ne_none_int (fin_bl I q (by simp))
    | str j => obtain ⟨t', rfl⟩ := ry; exact PySem.EqNone.ne_none_str (fin_bl I q (by simp))
    | _ => exact absurd (show false = true from hs) Bool.false_ne_true
  | bl i =>
    cases rx
    cases y with
    | non => cases ry; exact PySem.EqNone.ne_bool_none (fin_bl I q (by simp))
    | bl j => cases ry; exact ne_bool (fin_bl I q (congrArg not dec_bl))
    | str j => obtain ⟨t', rfl⟩ := ry; exact PySem.EqMixed.ne_bool_str (fin_bl I q (by simp))
    | _ => exact absurd (show false = true from hs) Bool.false_ne_true
  | int i =>
    obtain ⟨t, rfl⟩ := rx
    cases y with
    | non => cases ry; exact PySem.EqNone.ne_int_none (fin_bl I q (by simp))
    | int j => obtain ⟨t', rfl⟩ := ry; exact ne_int (fin_bl I q (congrArg not dec_int))
    | str j => obtain ⟨t', rfl⟩ := ry; exact PySem.EqMixed.ne_int_str (fin_bl I q (by simp))
    | _ => exact absurd (show false = true from hs) Bool.false_ne_true
  | str i =>
    obtain ⟨t, rfl⟩ := rx
    cases y with
    | non => cases ry; exact PySem.EqNone.ne_str_none (fin_bl I q (by simp))
    | bl j => cases ry; exact PySem.EqMixed.ne_str_bool (fin_bl I q (by simp))
    | int j => obtain ⟨t', rfl⟩ := ry; exact PySem.EqMixed.ne_str_int (fin_bl I q (by simp))
    | str j => obtain ⟨t', rfl⟩ := ry; exact ne_str (fin_bl I q (congrArg not dec_str))
    | _ => exact absurd (show false = true from hs) Bool.false_ne_true
  | byt i =>
    obtain ⟨t, rfl⟩ := rx
    cases y with
    | byt j => obtain ⟨t', rfl⟩ := ry; exact PySem.W.ne_bytes (fin_bl I q (congrArg not dec_byt))
    | _ => exact absurd (show false = true from hs) Bool.false_ne_true
  | _ => cases y <;> exact absurd (show false = true from hs) Bool.false_ne_true

theorem op_lt : OpR X (compareOp .Lt) (rI0 fun i j => .bl (decide (i < j))) := opB0 fun _ _ _ _ _ _ _ q => lt_int q
theorem op_le : OpR X (compareOp .LtE) (rI0 fun i j => .bl (decide (i ≤ j))) := opB0 fun _ _ _ _ _ _ _ q => le_int q
theorem op_gt : OpR X (compareOp .Gt) (rI0 fun i j => .bl (decide (j < i))) := opB0 fun _ _ _ _ _ _ _ q => gt_int q
theorem op_notN : OpR X (compareOp .IsNot) (fun x y H Q => y = .non ∧ Q (.bl (!decide (x = .non))) H) := by
  intro pins s σ H x y v u Q I rx ry h
  obtain ⟨rfl, q⟩ := h
  cases ry
  refine isnot_none_gen (fin_bl I q ?_)
  cases x <;> first
    | (cases rx; rfl)
    | (obtain ⟨t, rfl⟩ := rx; rfl)

def isObj : HO → Bool
  | .lst _ => true
  | .ins _ _ _ => true
  | _ => false
theorem nomark (b : Expr) {op : CmpOp} (h : op ≠ .In := by decide) (h2 : op ≠ .NotIn := by decide) : behindInMarks op b = false := by
  have e1 : (op == CmpOp.In) = false := by cases op <;> first | rfl | exact absurd rfl h
  have e2 : (op == CmpOp.NotIn) = false := by cases op <;> first | rfl | exact absurd rfl h2
  cases b <;> simp [behindInMarks, e1, e2]
theorem pe_cmpR {op : CmpOp} {r : R2} (ho : OpR X (compareOp op) r) (ha : PE X a ta) (hb : PE X b tb) (hm : behindInMarks op b = false) : PE X (.Compare a [op] [b] pos) (tOp r ta tb) := by
  intro pins s σ H Q I h
  exact wpAny_Compare1 (binT ha hb I h fun v u s2 x y H2 I2 rx ry q => ho pins s2 σ H2 x y v u Q I2 rx ry q) hm
def tTest (t : TE) : TT := fun σ H Q => t σ H fun x H' => ∃ k, x = .bl k ∧ Q k H'
theorem pt_cmpR {op : CmpOp} {r : R2} (ho : OpR X (compareOp op) r) (ha : PE X a ta) (hb : PE X b tb) (hm : behindInMarks op b = false) : PT X (.Compare a [op] [b] pos) (tTest (tOp r ta tb)) := by
  intro pins s σ H Q I h
  refine wpAny_isTrue_Compare1 (thn (ha pins s σ H _ I h) fun v s1 ⟨x, H1, I1, r1, q1⟩ => thn (hb pins s1 σ H1 _ I1 q1) fun u s2 ⟨y, H2, I2, r2, q2⟩ =>
    thn (ho pins s2 σ H2 x y v u _ I2 r1 r2 q2) fun c s3 ⟨z, H3, I3, r3, k, e, q3⟩ => ?_) hm
  subst e
  cases r3
  exact wpAny_truthy_bool ⟨H3, I3, q3⟩
def tChain (r r' : R2) (ta tb tc : TE) : TE := fun σ H Q => ta σ H fun x H1 => tb σ H1 fun y H2 => r x y H2 fun z H3 => ∃ k, z = .bl k ∧
  (if k = true then tc σ H3 fun w' H4 => r' y w' H4 Q else Q (.bl false) H3)
theorem pe_chain {op op' : CmpOp} {r r' : R2} (ho : OpR X (compareOp op) r) (ho' : OpR X (compareOp op') r') (ha : PE X a ta) (hb : PE X b tb) (hc : PE X c tc)
    (hm : lastMarks [op, op'] [b, c] = false := by with_unfolding_all rfl) : PE X (.Compare a [op, op'] [b, c] pos) (tChain r r' ta tb tc) := by
  intro pins s σ H Q I h
  refine Compare_chain (thn (ha pins s σ H _ I h) fun v s1 ⟨x, H1, I1, r1, q1⟩ => chain_link (thn (hb pins s1 σ H1 _ I1 q1) fun u s2 ⟨y, H2, I2, r2, q2⟩ =>
    thn (ho pins s2 σ H2 x y v u _ I2 r1 r2 q2) fun d s3 ⟨z, H3, I3, r3, k, e, q3⟩ => ?_)) hm
  subst e
  cases r3
  refine wpAny_truthy_bool ?_
  cases k with
  | false => exact ite_ff ⟨.bl false, H3, I3, rfl, q3⟩
  | true => exact ite_tt (chain_last (thn (hc pins s3 σ H3 _ I3 q3) fun w' s4 ⟨z', H4, I4, r4, q4⟩ => ho' pins s4 σ H4 y z' u w' Q I4 r2 r4 q4))
def TruV (K : PySem.W.Frag) (x : V) (H : Hp) (k : Bool) : Prop :=
  match x with
  | .non => k = false
  | .bl b => k = b
  | .int i => k = (i != 0)
  | .str y => y.length ≤ sizeLine ∧ k = ((y.length : Int) != 0)
  | .byt y => y.size ≤ sizeLine ∧ k = ((y.size : Int) != 0)
  | .ref p => (∃ xs, SqL K H p xs ∧ k = !xs.isEmpty) ∨ (∃ xs, SqT K H p xs ∧ k = !xs.isEmpty) ∨ ∃ kvs, H p = some (.dK kvs) ∧ k = !kvs.isEmpty
  | _ => False
theorem line63 : (sizeLine : Nat) < 2 ^ 63 := by rw [sizeLine_eq]; decide
def PlainIxT (b : Expr) : Prop := ∀ o i, subscripted b false o i = operate [o, i] (getItem o i)
theorem vals1 {x : V} {us : List Value} (r : Vals [x] us) : ∃ u, us = [u] ∧ RelV x u := by
  cases r with
  | cons r1 r2 => cases r2; exact ⟨_, rfl, r1⟩
theorem vals2 {x y : V} {us : List Value} (r : Vals [x, y] us) : ∃ u w', us = [u, w'] ∧ RelV x u ∧ RelV y w' := by
  cases r with
  | cons r1 r2 =>
    cases r2 with
    | cons r3 r4 => cases r4; exact ⟨_, _, rfl, r1, r3⟩
theorem call_str_int : CallR X (.type "str") (fun xs H Q => ∃ i, xs = [.int i] ∧ i.natAbs.log2 < 1920 ∧ Q (.str (toString i)) H) := by
  intro pins s σ H xs us Q I r h
  obtain ⟨i, rfl, hz, q⟩ := h
  obtain ⟨u, rfl, t, rfl⟩ := vals1 r
  exact PySem.P.str_of_int hz ⟨.str _, H, I.tok _, ⟨_, rfl⟩, q⟩
theorem call_ord : CallR X (.builtin "ord") (fun xs H Q => ∃ x, xs = [.str x] ∧ x.length = 1 ∧ Q (.int (x.cps.getD 0 0 : Nat)) H) := by
  intro pins s σ H xs us Q I r h
  obtain ⟨x, rfl, hz, q⟩ := h
  obtain ⟨u, rfl, t, rfl⟩ := vals1 r
  exact ord_of_one hz ⟨.int _, H, I.tok _, ⟨_, rfl⟩, q⟩
def LenV (K : PySem.W.Frag) (x : V) (H : Hp) (n : Nat) : Prop :=
  match x with
  | .str y => y.length ≤ sizeLine ∧ n = y.length
  | .byt y => y.size ≤ sizeLine ∧ n = y.size
  | .ref p => (∃ xs, SqL K H p xs ∧ n = xs.length) ∨ ∃ xs, SqT K H p xs ∧ n = xs.length
  | _ => False
end
end L2

namespace L2
open PySem PySem.Spec PyProof.Rows

structure ObjM (h : Heap) (x dx C : Addr) (mA : Str → Option Value) : Prop where
  obj : h.get? x = some (PySem.W.instObj C dx)
  ns : h.Ns1 dx mA
  ne : dx ≠ x

theorem lookIn_ns {h : Heap} {dx : Addr} {mA : Str → Option Value} (n : h.Ns1 dx mA) : ∃ od, h.get? dx = some od ∧ ∀ name, PySem.W.lookIn name od = some (mA name) := by
  obtain ⟨o, es, ep, ho, hd, hk, _, hm⟩ := n
  refine ⟨o, ho, fun name => ?_⟩
  have e := hm name
  unfold nsFind findBy at e
  rw [← Array.find?_toList] at e
  unfold PySem.W.lookIn
  rw [hd]
  dsimp only
  split
  · rename_i y q
    rw [q] at e
    exact congrArg some e
  · rename_i q
    rw [q] at e
    have a : es.toList.any (·.refKey) = false := by
      rw [List.any_eq_false]
      intro y hy
      obtain ⟨z, t, hkey⟩ := hk y (Array.mem_toList_iff.mp hy)
      simp [DictEntry.refKey, hkey]
    have a' : ¬ es.toList.any (·.refKey) = true := by rw [a]; exact Bool.false_ne_true
    rw [if_neg a']
    exact congrArg some e

theorem ObjM.look {h : Heap} {x dx C : Addr} {mA : Str → Option Value} (I : ObjM h x dx C mA) : ∃ od, PySem.W.InstAt h x (PySem.W.instObj C dx) C (some od) ∧ ∀ name, PySem.W.lookIn name od = some (mA name) :=
  let ⟨od, ho, hl⟩ := lookIn_ns I.ns
  ⟨od, ⟨I.obj, rfl, rfl, ho⟩, hl⟩

section
variable {prog : Program} {w : World} {A : Around} {E : Value → Shared → Prop} {s : Shared} {K : PySem.W.Frag} {x dx C f : Addr} {mA : Str → Option Value} {name : Str} {v : Value}

theorem get_map {expr : Bool} {Q : Value → Shared → Prop} (X : K.In s.heap) (I : ObjM s.heap x dx C mA) (hg : PySem.W.plainGet K C name = true) (hh : PySem.W.hasDictIn K C = true)
    (ha : PySem.W.findIn K (.ref C) name = some none) (hv : mA name = some v) (hv' : PySem.W.handedIn v = true) (h : Q v { s with toks := s.toks + 1 }) :
    wpAny (model prog w) A (getAttr (.ref x) name expr) Q E s := by
  obtain ⟨od, J, hl⟩ := I.look
  exact PySem.W.get_value X J (PySem.W.plainGet_of hg).1 (PySem.W.findObj_own hh ha rfl (by rw [hl, hv])) hv' h

theorem set_map {ns : List Str} {Q : Unit → Shared → Prop} (X : K.In s.heap) (I : ObjM s.heap x dx C mA)
    (hs : PySem.W.findIn K (.ref C) "__setattr__" = some (some (.builtin "object.__setattr__"))) (hp : PySem.W.plainOver K C = true) (ht : PySem.W.takerIn K C name = some none) (hh : PySem.W.hasDictIn K C = true)
    (hw : PySem.Within mA ns) (hsz : ns.length ≤ sizeLine)
    (h : ∀ h', ObjM h' x dx C (fun y => if y = name then some v else mA y) → Heap.SameBut dx s.heap h' → Q () { s with heap := h', toks := s.toks + 2 }) :
    wpAny (model prog w) A (setAttr (.ref x) name v) Q E s := by
  obtain ⟨od, J, hl⟩ := I.look
  refine PySem.W.set_plain X J hs (PySem.W.osa_open (s := { s with toks := s.toks + 1 }) (r := none) X J hp ht fun b => ?_)
  obtain ⟨cd, hc, hd'⟩ := PySem.W.any_some hh
  have hx : s.heap.get? x = some ⟨.ref C, some dx, .plain, #[]⟩ := I.obj
  refine wpAny_bind (wpAny_pure (wpAny_bind (wpAny_bind (wpAny_loadPart hx (wpAny_bind (PySem.W.Looks.here (s := { s with toks := s.toks + 1 }) (PySem.W.looks_clsIn X hc) ?_))))))
  rw [hd']
  refine wpAny_pure (a := some dx) (wpAny_bind (wpAny_pure (wpAny_bind ?_)))
  refine wpAny_nsSet1 (s := { s with toks := s.toks + 1 }) I.ns fun h' hn2 hs2 => ?_
  obtain ⟨oD, esD, epD, hoD, hdD, hcD⟩ := hn2.count (PySem.Within.cons name v hw)
  refine wpAny_bind (wpAny_lookBehind hoD (by rw [hdD]; exact pastItsLine_dict (Nat.le_trans hcD (by rw [List.length_cons]; omega))) ?_)
  exact wpAny_pure (h _ ⟨(hs2.2 _ (Ne.symm I.ne)).trans I.obj, hn2, I.ne⟩ hs2)

theorem make_map {R : Result → Shared → Prop} {vs : List Value} {kw : List (Str × Value)} (X : K.In s.heap) (hm : PySem.W.makesIn K C = true)
    (hi : PySem.W.findIn K (.ref C) "__init__" = some (some (.ref f))) (hf : PySem.W.typeIn K (.ref f) = some (.type "function"))
    (h : codeAny (model prog w) (A.under (.builtin "type.__call__" ⟨.ref C :: vs, kw⟩)) (.call (.ref f) ⟨.ref (s.heap.objs.size + 1) :: vs, kw⟩) (PySem.W.InitBack (s.heap.objs.size + 1) R)
      { s with heap := (s.heap.push PySem.W.emptyDict).push (PySem.W.instObj C s.heap.objs.size) }) :
    codeAny (model prog w) A (.call (.ref C) ⟨vs, kw⟩) R s := by
  obtain ⟨hh, g, d, t, os⟩ := s
  exact PySem.W.make_core (PySem.W.makes_of X hm) (PySem.W.looks_findIn X hi) (fun self => PySem.W.bind_fn X self hf) (.inl rfl) h
end

def putF (f : Str) (v : V) : List (Str × V) → List (Str × V)
  | [] => [(f, v)]
  | (g, x) :: r => if g = f then (g, v) :: r else (g, x) :: putF f v r
theorem lookup_putF (f g : Str) (v : V) : ∀ fs : List (Str × V), (putF f v fs).lookup g = if g = f then some v else fs.lookup g
  | [] => by
    show List.lookup g [(f, v)] = _
    by_cases h : g = f
    · have hb : (g == f) = true := beq_iff_eq.mpr h
      simp only [List.lookup, hb, if_pos h]
    · have hb : (g == f) = false := beq_eq_false_iff_ne.mpr h
      simp only [List.lookup, hb, if_neg h]
  | (k, x) :: r => by
    have ih := lookup_putF f g v r
    rw [show putF f v ((k, x) :: r) = (if k = f then (k, v) :: r else (k, x) :: putF f v r) from rfl]
    by_cases hk : k = f
    · rw [if_pos hk]
      by_cases h : g = k
      · have hb : (g == k) = true := beq_iff_eq.mpr h
        simp only [List.lookup, hb, if_pos (h.trans hk)]
      · have hb : (g == k) = false := beq_eq_false_iff_ne.mpr h
        simp only [List.lookup, hb, if_neg (fun e : g = f => h (e.trans hk.symm))]
    · rw [if_neg hk]
      by_cases h : g = k
      · have hb : (g == k) = true := beq_iff_eq.mpr h
        simp only [List.lookup, hb, if_neg (fun e : g = f => hk (h.symm.trans e))]
      · have hb : (g == k) = false := beq_eq_false_iff_ne.mpr h
        simp only [List.lookup, hb]
        exact ih
theorem keys_putF (f : Str) (v : V) : ∀ fs : List (Str × V), f ∈ (putF f v fs).map (·.1) ∧ ∀ g, g ∈ fs.map (·.1) → g ∈ (putF f v fs).map (·.1)
  | [] => ⟨by simp [putF], fun g h => by simp at h⟩
  | (k, x) :: r => by
    obtain ⟨i1, i2⟩ := keys_putF f v r
    rw [show putF f v ((k, x) :: r) = (if k = f then (k, v) :: r else (k, x) :: putF f v r) from rfl]
    by_cases hk : k = f
    · rw [if_pos hk]
      subst hk
      exact ⟨by simp, fun g h => by simpa using h⟩
    · rw [if_neg hk]
      refine ⟨?_, fun g h => ?_⟩
      · rw [List.map_cons]
        exact List.mem_cons_of_mem _ i1
      · rw [List.map_cons] at h ⊢
        rcases List.mem_cons.mp h with e | e
        · exact List.mem_cons.mpr (.inl e)
        · exact List.mem_cons_of_mem _ (i2 g e)
theorem length_putF (f : Str) (v : V) : ∀ fs : List (Str × V), (putF f v fs).length ≤ fs.length + 1
  | [] => by simp [putF]
  | (k, x) :: r => by
    have ih := length_putF f v r
    rw [show putF f v ((k, x) :: r) = (if k = f then (k, v) :: r else (k, x) :: putF f v r) from rfl]
    by_cases hk : k = f
    · rw [if_pos hk, List.length_cons, List.length_cons]; omega
    · rw [if_neg hk, List.length_cons, List.length_cons]; omega

theorem RelO.some_of {v : V} {o : Option Value} (r : RelO (some v) o) : ∃ u, o = some u ∧ RelV v u := by
  cases o with
  | none => exact (show False from r).elim
  | some u => exact ⟨u, rfl, r⟩
theorem handed_of {v : V} {u : Value} (r : RelV v u) : PySem.W.handedIn u = true := by
  cases v with
  | non => cases (show u = Value.none from r); rfl
  | bl b => cases (show u = Value.bool b from r); rfl
  | int i => obtain ⟨t, e⟩ := (show ∃ t, u = Value.int i t from r); cases e; rfl
  | str x => obtain ⟨t, e⟩ := (show ∃ t, u = Value.str x t from r); cases e; rfl
  | byt b => obtain ⟨t, e⟩ := (show ∃ t, u = Value.bytes b t from r); cases e; rfl
  | flt b => obtain ⟨t, e⟩ := (show ∃ t, u = Value.float b t from r); cases e; rfl
  | ref a => cases (show u = Value.ref a from r); rfl
  | ty n => cases (show u = Value.type n from r); rfl

section
variable {P : Program} {w : World} {H H' : Hp} {h h' : Heap} {a C dx : Addr} {fs fs' : List (Str × V)}
theorem ins_get (hok : HOk P w H h) (e : H a = some (.ins C dx fs)) : ∃ mA, ObjM h a dx C mA ∧ (∀ f, RelO (fs.lookup f) (mA f)) ∧ PySem.Within mA (fs.map (·.1)) ∧ fs.length ≤ 1000 ∧ H dx = some (.own a) := by
  obtain ⟨d, z, ne, ob, mA, n, r, q⟩ := (show ObjOk P w H h a (.ins C dx fs) from hok a _ e)
  exact ⟨mA, ⟨ob, n, ne⟩, r, q, z, d⟩
end

structure Cls (K : PySem.W.Frag) (C : Addr) : Prop where
  pg : PySem.W.plainGet K C Str.empty = true
  hd : PySem.W.hasDictIn K C = true
  po : PySem.W.plainOver K C = true
  sa : PySem.W.findIn K (.ref C) "__setattr__" = some (some (.builtin "object.__setattr__"))
theorem Cls.get {K : PySem.W.Frag} {C : Addr} (c : Cls K C) (f : Str) : PySem.W.plainGet K C f = true := c.pg
def NoAttr (K : PySem.W.Frag) (C : Addr) (f : Str) : Prop := PySem.W.findIn K (.ref C) f = some none
theorem NoAttr.taker {K : PySem.W.Frag} {C : Addr} {f : Str} (n : NoAttr K C f) : PySem.W.takerIn K C f = some none := by
  unfold PySem.W.takerIn
  rw [show PySem.W.findIn K (.ref C) f = some none from n]
  rfl
structure Con (K : PySem.W.Frag) (C : Addr) (f : Str) (v : V) (u : Value) : Prop where
  at_ : PySem.W.findIn K (.ref C) f = some (some u)
  rel : RelV v u
  get : PySem.W.specialIn K u "__get__" = some none
  cp : PySem.W.copiedNames.contains f = false
structure Meth (K : PySem.W.Frag) (C : Addr) (m : Str) (f : Addr) : Prop where
  at_ : PySem.W.findIn K (.ref C) m = some (some (.ref f))
  fn : PySem.W.isFn K (.ref f) = true
  kp : PySem.W.keepIn K (.ref f) = true

section
variable {X : Cx} {pins : List (Addr × Obj)} {σ : St} {H : Hp} {s : Shared} {a C dx : Addr} {fs : List (Str × V)} {f : Str} {v : V} {A : Around} {E : Value → Shared → Prop}

theorem getattr_ok {b : Bool} {Q : Value → Shared → Prop} (I : Inv X pins σ H s) (e : H a = some (.ins C dx fs)) (c : Cls X.K C) (n : NoAttr X.K C f) (l : fs.lookup f = some v)
    (h : ∀ u s', Inv X pins σ H s' → RelV v u → Q u s') : wpAny (model X.prog X.w) A (getAttr (.ref a) f b) Q E s := by
  obtain ⟨mA, O, r, _, _, _⟩ := ins_get I.hok e
  obtain ⟨u, hu, ru⟩ := RelO.some_of (v := v) (o := mA f) (by rw [← l]; exact r f)
  exact get_map I.kIn O (c.get f) c.hd n hu (handed_of ru) (h u _ (I.tok _) ru)

theorem setattr_ok {y : V} {u : Value} {Q : Unit → Shared → Prop} (I : Inv X pins σ H s) (e : H a = some (.ins C dx fs)) (c : Cls X.K C) (n : NoAttr X.K C f) (hl : fs.length < 1000) (ry : RelV y u)
    (h : ∀ s', Inv X pins σ (upd H a (.ins C dx (putF f y fs))) s' → Q () s') : wpAny (model X.prog X.w) A (setAttr (.ref a) f u) Q E s := by
  obtain ⟨mA, O, r, wi, _, ho⟩ := ins_get I.hok e
  have hz : (fs.map (·.1)).length ≤ sizeLine := by rw [List.length_map, sizeLine_eq]; omega
  refine set_map I.kIn O c.sa c.po n.taker c.hd wi hz fun h' O' sb => h _ ?_
  have hd : ∃ o, h'.get? dx = some o := let ⟨o, _, _, e', _⟩ := O'.ns; ⟨o, e'⟩
  refine I.write (x := a) (e := dx) (by rw [e]; exact True.intro) (.inr ho) (fun b q hb z => (sb.2 b hb).trans z) hd ?_
  refine ⟨by rw [upd_ne O.ne]; exact ho, ?_, O.ne, O'.obj, _, O'.ns, fun g => ?_, fun g hg => ?_⟩
  · have := length_putF f y fs; omega
  · show RelO ((putF f y fs).lookup g) (if g = f then some u else mA g)
    rw [lookup_putF]
    by_cases q : g = f
    · rw [if_pos q, if_pos q]; exact ry
    · rw [if_neg q, if_neg q]; exact r g
  · by_cases q : g = f
    · rw [q]; exact (keys_putF f y fs).1
    · refine (keys_putF f y fs).2 g (wi g fun z => hg ?_)
      show (if g = f then some u else mA g) = none
      rw [if_neg q]; exact z

theorem Inv.made (I : Inv X pins σ H s) : Inv X pins σ (upd (upd H s.heap.objs.size (.own (s.heap.objs.size + 1))) (s.heap.objs.size + 1) (.ins C s.heap.objs.size []))
    { s with heap := (s.heap.push PySem.W.emptyDict).push (PySem.W.instObj C s.heap.objs.size) } := by
  have e1 : (s.heap.push PySem.W.emptyDict).get? s.heap.objs.size = some PySem.W.emptyDict := Heap.get?_push_size s.heap rfl
  have e2 : ((s.heap.push PySem.W.emptyDict).push (PySem.W.instObj C s.heap.objs.size)).get? (s.heap.objs.size + 1) = some (PySem.W.instObj C s.heap.objs.size) := by
    have := Heap.get?_push_size (s.heap.push PySem.W.emptyDict) (o := PySem.W.instObj C s.heap.objs.size) rfl
    rwa [Heap.size_push] at this
  have e3 : (s.heap.push PySem.W.emptyDict).Ns s.heap.objs.size (fun _ => none) := ⟨PySem.W.emptyDict, #[], _, e1, rfl, (fun e he => absurd he (by simp)), fun _ => rfl⟩
  have I1 := I.laid (a := s.heap.objs.size) (o := .own (s.heap.objs.size + 1)) (h' := s.heap.push PySem.W.emptyDict) (t' := s.toks) (fun b u q => Heap.get?_push_of_some _ q) (Nat.le_refl _) ⟨_, e1⟩
  refine I1.laid (a := s.heap.objs.size + 1) (o := .ins C s.heap.objs.size []) (t' := s.toks) (fun b u q => Heap.get?_push_of_some _ q) (Nat.le_of_eq (Heap.size_push _ _)) ?_
  have ne : s.heap.objs.size ≠ s.heap.objs.size + 1 := Nat.ne_of_lt (Nat.lt_succ_self _)
  refine ⟨by rw [upd_ne ne, upd_same], Nat.zero_le _, ne, e2, fun _ => none, (Heap.Ns1.of_empty e3).at fun o q => Heap.get?_push_of_some _ q, fun _ => True.intro, fun y hy => absurd rfl hy⟩

theorem attr_of {prog : Program} {w : World} {env : Env} {e : Expr} {f : Str} {pos : Pos} {s : Shared} {Q : Value → Shared → Prop} (hb : attributeBase e f env (eval e env) = eval e env)
    (h : wpAny (model prog w) A (eval e env) (fun o s₁ => wpAny (model prog w) A (getAttr o f true) Q E s₁) E s) : wpAny (model prog w) A (eval (.Attribute e f pos) env) Q E s :=
  Attribute_any_ h (by rw [arm_eval_Attribute, hb])
end

def tFld (K : PySem.W.Frag) (ta : TE) (f : Str) : TE := fun σ H Q => ta σ H fun x H1 => ∃ a C dx fs v, x = .ref a ∧ H1 a = some (.ins C dx fs) ∧ Cls K C ∧ NoAttr K C f ∧ fs.lookup f = some v ∧ Q v H1
def tCon (K : PySem.W.Frag) (ta : TE) (f : Str) : TE := fun σ H Q => ta σ H fun x H1 => ∃ a C dx fs v u, x = .ref a ∧ H1 a = some (.ins C dx fs) ∧ Cls K C ∧ Con K C f v u ∧ fs.lookup f = none ∧ Q v H1
def sFld (K : PySem.W.Frag) (ta tv : TE) (f : Str) : TS := fun D σ H => tv σ H fun y H1 => ta σ H1 fun x H2 => ∃ a C dx fs, x = .ref a ∧ H2 a = some (.ins C dx fs) ∧ Cls K C ∧ NoAttr K C f ∧ fs.length < 1000 ∧
  D.nx σ (upd H2 a (.ins C dx (putF f y fs)))
def InOp (X : Cx) (op : Operator) (rd : V → V → Hp → VK → Prop) : Prop :=
  ∀ (pins : List (Addr × Obj)) (s : Shared) (σ : St) (H : Hp) (x y : V) (u v : Value) (Q : VK), Inv X pins σ H s → RelV x u → RelV y v → rd x y H Q → wpAny (model X.prog X.w) X.A (inplaceOp op u v) (EP X pins σ Q) X.xe s
def sFldAug (K : PySem.W.Frag) (ta tv : TE) (rd : V → V → Hp → VK → Prop) (f : Str) : TS := fun D σ H => ta σ H fun x H1 => ∃ a C dx fs v, x = .ref a ∧ H1 a = some (.ins C dx fs) ∧ Cls K C ∧ NoAttr K C f ∧ fs.lookup f = some v ∧
  tv σ H1 fun y H2 => rd v y H2 fun z H3 => ∃ dx' fs', H3 a = some (.ins C dx' fs') ∧ fs'.length < 1000 ∧ D.nx σ (upd H3 a (.ins C dx' (putF f z fs')))

section
variable {X : Cx} {o e value : Expr} {f : Str} {pos pos' tpos : Pos} {ta tv : TE}
theorem pe_fld (he : PE X e ta) (hb : attributeBase e f X.env (eval e X.env) = eval e X.env) : PE X (.Attribute e f pos) (tFld X.K ta f) := by
  intro pins s σ H Q I h
  refine attr_of hb (thn (he pins s σ H _ I h) fun u s1 ⟨x, H1, I1, rx, a, C, dx, fs, v, ex, ea, c, n, l, q⟩ => ?_)
  subst ex
  obtain rfl : u = Value.ref a := rx
  exact getattr_ok I1 ea c n l fun u' s2 I2 ru => ⟨v, H1, I2, ru, q⟩
theorem ps_fld (ha : PE X o ta) (hv : PE X value tv) (hs : swapsWith value (some (.Attribute o f pos')) pos.line X.env = pure false) : PS X (.Assign [.Attribute o f pos'] value pos) (sFld X.K ta tv f) := by
  intro pins s σ H D I h
  refine plainObj_wpAny_Assign_Attribute (thn (hv pins s σ H _ I h) fun u s1 ⟨y, H1, I1, ry, q⟩ => thn (ha pins s1 σ H1 _ I1 q) fun ov s2 ⟨x, H2, I2, rx, a, C, dx, fs, ex, ea, c, n, l, q2⟩ => ?_) hs
  subst ex
  obtain rfl : ov = Value.ref a := rx
  exact setattr_ok I2 ea c n l ry fun s3 I3 => ⟨σ, _, I3, q2⟩
def rAdd : V → V → Hp → VK → Prop := fun x y H Q => ∃ i j, x = .int i ∧ y = .int j ∧ Q (.int (i + j)) H
def rSub : V → V → Hp → VK → Prop := fun x y H Q => ∃ i j, x = .int i ∧ y = .int j ∧ Q (.int (i - j)) H
end

section
variable {X : Cx} {pins : List (Addr × Obj)} {σ : St} {H : Hp} {s : Shared} {A : Around} {E : Value → Shared → Prop} {Q : Value → Shared → Prop} {c : Value} {b : Bool}
inductive TyOf (K : PySem.W.Frag) (H : Hp) : V → Value → Prop where
  | non : TyOf K H .non (.type "NoneType")
  | bl (x : Bool) : TyOf K H (.bl x) (.type "bool")
  | int (i : Int) : TyOf K H (.int i) (.type "int")
  | str (x : Str) : TyOf K H (.str x) (.type "str")
  | flt (x : UInt64) : TyOf K H (.flt x) (.type "float")
  | lst {a : Addr} {xs : List V} (e : H a = some (.lst xs)) : TyOf K H (.ref a) (.type "list")
  | frz {a : Addr} {o : Obj} {xs : List V} (e : H a = some (.frz o (.lst xs))) : TyOf K H (.ref a) (.type "list")
  | tup {a : Addr} {xs : List V} (e : H a = some (.tup xs)) : TyOf K H (.ref a) (.type "tuple")
  | dK {a : Addr} {kvs : List (Key × V)} (e : H a = some (.dK kvs)) : TyOf K H (.ref a) (.type "dict")
  | dT {a : Addr} {kvs : List (List Key × V)} (e : H a = some (.dT kvs)) : TyOf K H (.ref a) (.type "dict")
  | ins {a C dx : Addr} {fs : List (Str × V)} (e : H a = some (.ins C dx fs)) (cl : Cls K C) (ha : PySem.W.findIn K (.ref C) "__class__" = some (some (.builtin "object.__class__")))
      (hn : PySem.W.specialIn K (.builtin "object.__class__") "__get__" = some (some (.builtin "getset_descriptor.__get__"))) (htk : PySem.W.takesIn K (.builtin "object.__class__") = some true)
      (hm : PySem.W.mroIn K C (.type "object") = some true) : TyOf K H (.ref a) (.ref C)
end
end L2

namespace L2
open PySem PySem.Spec PyProof.Rows

structure Room (k : Nat) (A : Around) : Prop where
  hd : A.handled = none
  dp : A.depth + 3 * k + 5 < recursionLimit
  un : A.units + 16 * k + 200 < cLine
theorem Room.mono {j k : Nat} {A : Around} (r : Room k A) (h : j ≤ k) : Room j A := ⟨r.hd, by have := r.dp; omega, by have := r.un; omega⟩
theorem Room.deeper {k : Nat} {A : Around} (r : Room (k + 1) A) (env : Env) : Room k (A.deeper env) :=
  ⟨r.hd, by have := r.dp; show A.depth + 1 + 3 * k + 5 < _; omega, by have := r.un; show A.units + 3 + 16 * k + 200 < _; omega⟩
theorem make_depth {A : Around} {C : Addr} {us : List Value} {kw : List (Str × Value)} : (A.under (.builtin "type.__call__" ⟨.ref C :: us, kw⟩)).depth = A.depth + 1 := by
  first | rfl | simp [Around.under, Code.weight, Code.isCreation, Code.isGuard, Code.isCaller, Code.frames, Code.isFrame, guardIds]
theorem make_units {A : Around} {C : Addr} {us : List Value} {kw : List (Str × Value)} : (A.under (.builtin "type.__call__" ⟨.ref C :: us, kw⟩)).units = A.units + 1 := by
  first | rfl | simp [Around.under, Code.cUnits, Code.frames, Code.isFrame]
theorem Room.make {k : Nat} {A : Around} (r : Room (k + 1) A) (C : Addr) (us : List Value) (kw : List (Str × Value)) : Room k (A.under (.builtin "type.__call__" ⟨.ref C :: us, kw⟩)) :=
  ⟨r.hd, by have := r.dp; rw [make_depth]; omega, by have := r.un; rw [make_units]; omega⟩
theorem Room.depth {k : Nat} {A : Around} (r : Room k A) : A.depth < recursionLimit := by have := r.dp; omega
theorem Room.units {k : Nat} {A : Around} (r : Room k A) : A.units + 64 < cLine := by have := r.un; omega
def tNil : TA := fun _ H Q => Q [] H
def tCons (ta : TE) (tr : TA) : TA := fun σ H Q => ta σ H fun x H1 => tr σ H1 fun xs H2 => Q (x :: xs) H2
section
variable {X : Cx} {e : Expr} {es : List Expr} {te : TE} {t : TA} {pos : Pos}
theorem pa_nil : PA X [] tNil := fun _ _ _ _ H Q I h => Calls.spliced_nil ⟨[], H, I, .nil, h⟩
theorem pa_cons (ha : PE X e te) (hr : PA X es t) (hs : starEach (e :: es) X.env = (false, eval e X.env) :: starEach es X.env := by rfl) : PA X (e :: es) (tCons te t) := by
  intro pos pins s σ H Q I h
  rw [hs]
  show wpAny _ _ (spliced ((false, eval e X.env) :: backTo pos (starEach es X.env))) _ _ s
  refine Calls.spliced_cons (thn (ha pins s σ H _ I h) fun u s1 ⟨x, H1, I1, r1, q1⟩ => ?_)
  exact thn (hr pos pins s1 σ H1 _ I1 q1) fun us s2 ⟨xs, H2, I2, r2, q2⟩ => ⟨x :: xs, H2, I2, .cons r1 r2, q2⟩

def tTup (t : TA) : TE := fun σ H Q => t σ H fun xs H1 => xs.length ≤ sizeLine ∧ ∀ p, H1 p = none → Q (.ref p) (upd H1 p (.tup xs))
def tLst (t : TA) : TE := fun σ H Q => t σ H fun xs H1 => xs.length ≤ sizeLine ∧ ∀ p, H1 p = none → Q (.ref p) (upd H1 p (.lst xs))
theorem pe_tup {x1} (h : PA X es t) : PE X (.Tuple es x1 pos) (tTup t) := by
  intro pins s σ H Q I hq
  refine wpAny_Tuple_spliced (thn (h pos pins s σ H _ I hq) fun us s1 ⟨xs, H1, I1, r, z, q⟩ => ⟨by rw [← r.length]; exact z, ?_⟩)
  have hf : H1 s1.heap.objs.size = none := I1.hok.fresh (Nat.le_refl _)
  refine ⟨.ref s1.heap.objs.size, upd H1 s1.heap.objs.size (.tup xs), I1.laid (t' := s1.toks) (fun b u e => Heap.get?_push_of_some _ e) (Nat.le_refl _) ?_, rfl, q _ hf⟩
  exact ⟨z, us, r, ⟨_, Heap.get?_push_size _ rfl, rfl, _, rfl⟩⟩
theorem pe_lst (h : PA X es t) : PE X (.List es pos) (tLst t) := by
  intro pins s σ H Q I hq
  refine wpAny_List_spliced (thn (h pos pins s σ H _ I hq) fun us s1 ⟨xs, H1, I1, r, z, q⟩ => ⟨by rw [← r.length]; exact z, ?_⟩)
  have hf : H1 s1.heap.objs.size = none := I1.hok.fresh (Nat.le_refl _)
  refine ⟨.ref s1.heap.objs.size, upd H1 s1.heap.objs.size (.lst xs), I1.laid (t' := s1.toks) (fun b u e => Heap.get?_push_of_some _ e) (Nat.le_refl _) ?_, rfl, q _ hf⟩
  exact ⟨z, us, 0, r, Heap.get?_push_size _ rfl⟩
end

abbrev Sp := List V → Hp → VK → XK → Prop
abbrev CXT := List Env → Hp → Shared → XK → Value → Shared → Prop

structure Env0 (P : Program) (w : World) (K : PySem.W.Frag) (mg : Str → Option Value) (base : Heap) (A : Around) (outer : List Env) (s : Shared) (H : Hp) : Prop where
  frames : A.frames = some outer
  mod : Mod K mg base
  bs : ∀ b o, base.get? b = some o → s.heap.get? b = some o ∧ H b = none
  bsz : base.objs.size ≤ s.heap.objs.size
  funs : s.heap.FunFrames base outer
  frf : ∀ b ∈ frs outer, H b = none
  hok : HOk P w H s.heap
  bare : AllBare s.gens
def CE (outer : List Env) (P : Program) (w : World) (H : Hp) (s : Shared) (Q : VK) (u : Value) (s' : Shared) : Prop :=
  ∃ v H', s'.os = s.os ∧ AllBare s'.gens ∧ Un (frs outer) [] H H' s.heap s'.heap ∧ HOk P w H' s'.heap ∧ RelV v u ∧ Q v H'
def CR (CX : CXT) (outer : List Env) (P : Program) (w : World) (H : Hp) (s : Shared) (Q : VK) (E : XK) (r : Result) (s' : Shared) : Prop :=
  match r with
  | .ok (.ret u) => CE outer P w H s Q u s'
  | .ok _ => False
  | .error e => CX outer H s E e s'
structure FnOk (P : Program) (w : World) (K : PySem.W.Frag) (mg : Str → Option Value) (base : Heap) (CX : CXT) (k : Nat) (f : Addr) (fd : FuncData) (ps : List Str) (sp : Sp) : Prop where
  len : ∀ vs H Q E, sp vs H Q E → vs.length = ps.length
  run : ∀ (A : Around) (outer : List Env) (s : Shared) (H : Hp) (args : Args) (us : List Value) (vs : List V) (Q : VK) (E : XK), Room k A → Env0 P w K mg base A outer s H → BindsTo s fd args (ps.zip us) → Vals vs us → sp vs H Q E →
    codeAny (model P w) A (.call (.ref f) args) (CR CX outer P w H s Q E) s
theorem FnOk.mono {P : Program} {w : World} {K : PySem.W.Frag} {mg : Str → Option Value} {base : Heap} {CX : CXT} {j k : Nat} {f : Addr} {fd : FuncData} {ps : List Str} {sp : Sp} (F : FnOk P w K mg base CX j f fd ps sp) (h : j ≤ k) :
    FnOk P w K mg base CX k f fd ps sp := ⟨F.len, fun A outer s H args us vs Q E hr => F.run A outer s H args us vs Q E (hr.mono h)⟩
theorem Env0.make {P : Program} {w : World} {K : PySem.W.Frag} {mg : Str → Option Value} {base : Heap} {A : Around} {outer : List Env} {s : Shared} {H : Hp} (e : Env0 P w K mg base A outer s H) (C : Addr) (us : List Value) (kw : List (Str × Value)) :
    Env0 P w K mg base (A.under (.builtin "type.__call__" ⟨.ref C :: us, kw⟩)) outer s H := ⟨by first | exact e.frames | (simpa [Around.under, Code.envs, Code.isFrame, pushEnvs] using e.frames), e.mod, e.bs, e.bsz, e.funs, e.frf, e.hok, e.bare⟩
section
variable {X : Cx} {pins : List (Addr × Obj)} {σ : St} {H : Hp} {s s' : Shared}
theorem Inv.env0 (I : Inv X pins σ H s) : Env0 X.prog X.w X.K X.mg X.base X.A X.stack s H :=
  ⟨I.ok.frames, I.ok.mod, I.bs, Nat.le_trans I.ok.bsz I.sz, I.stack, I.stkFree, I.hok, I.bare⟩
theorem Inv.after {Q : VK} {u : Value} (I : Inv X pins σ H s) (h : CE X.stack X.prog X.w H s Q u s') : EP X pins σ Q u s' := by
  obtain ⟨v, H', os, bare, un, hok, r, q⟩ := h
  obtain ⟨hh, g, d, t, os'⟩ := s'
  obtain rfl : os' = s.os := os
  exact ⟨v, H', I.call (h' := hh) (g' := g) (d' := d) (t' := t) (ch := []) un hok bare (fun b z => absurd z (by simp)), r, q⟩
end

def tCall (sp : Sp) (dvs : List V) (E : XK) (t : TA) : TE := fun σ H Q => t σ H fun vs H1 => sp (vs ++ dvs) H1 Q E
def tMeth (C : Addr) (m : Str) (sp : Sp) (dvs : List V) (E : XK) (ta : TE) (t : TA) : TE := fun σ H Q => ta σ H fun x H1 => ∃ a dx fs, x = .ref a ∧ H1 a = some (.ins C dx fs) ∧ fs.lookup m = none ∧
  t σ H1 fun vs H2 => sp (x :: (vs ++ dvs)) H2 Q E
def tMake (C : Addr) (sp : Sp) (dvs : List V) (E : XK) (t : TA) : TE := fun σ H Q => t σ H fun vs H1 => ∀ x dx, H1 x = none → H1 dx = none → dx ≠ x →
  sp (.ref x :: (vs ++ dvs)) (upd (upd H1 dx (.own x)) x (.ins C dx [])) (fun v H2 => v = .non ∧ Q (.ref x) H2) E

def Binds (K : PySem.W.Frag) (fd : FuncData) (ps : List Str) (ds : List Value) : Prop :=
  ∀ (s : Shared) (us : List Value), K.In s.heap → (us ++ ds).length = ps.length → BindsTo s fd ⟨us, []⟩ (ps.zip (us ++ ds))
theorem Binds.all {K : PySem.W.Frag} {fd : FuncData} {ps : List Str} (h : ∀ us : List Value, us.length = ps.length → bindArgs fd ⟨us, []⟩ = pure (ps.zip us)) : Binds K fd ps [] := fun s us _ hl => by
  rw [List.append_nil] at hl ⊢
  exact .of_eq (h us hl)

def Passes (CX : CXT) (X : Cx) (E : XK) : Prop := ∀ (pins : List (Addr × Obj)) (σ : St) (H : Hp) (s : Shared) (e : Value) (s' : Shared), Inv X pins σ H s → CX X.stack H s E e s' → X.xe e s'

section
variable {X : Cx} {CX : CXT} {k : Nat} {f C : Addr} {fd : FuncData} {ps : List Str} {sp : Sp} {dvs : List V} {ds : List Value} {E : XK} {x m : Str} {p pos apos : Pos} {e o : Expr} {es : List Expr} {ta : TE} {t : TA}

theorem run_fn {pins : List (Addr × Obj)} {σ : St} {H : Hp} {s : Shared} {Q : VK} {us : List Value} {vs : List V} (F : FnOk X.prog X.w X.K X.mg X.base CX k f fd ps sp) (hr : Room k X.A) (hb : Binds X.K fd ps ds) (hd : Vals dvs ds) (hx : Passes CX X E)
    (I : Inv X pins σ H s) (r : Vals vs us) (h : sp (vs ++ dvs) H Q E) : wpAny (model X.prog X.w) X.A (call (.ref f) us) (EP X pins σ Q) X.xe s := by
  have r2 : Vals (vs ++ dvs) (us ++ ds) := r.append hd
  have hl : (us ++ ds).length = ps.length := by rw [← r2.length]; exact F.len _ _ _ _ h
  refine wpAny_call (codeAny_mono (F.run X.A X.stack s H ⟨us, []⟩ (us ++ ds) (vs ++ dvs) Q E hr I.env0 (hb s us I.kIn hl) r2 h) fun r s' hq => ?_)
  cases r with
  | error e => exact hx pins σ H s e s' I hq
  | ok fl =>
    cases fl with
    | ret u => exact I.after hq
    | next => exact False.elim hq
    | brk => exact False.elim hq
    | cont => exact False.elim hq

theorem pe_call (F : FnOk X.prog X.w X.K X.mg X.base CX k f fd ps sp) (hr : Room k X.A) (hg : Gl X x) (hm : X.mg x = some (.ref f)) (hk : PySem.W.keepIn X.K (.ref f) = true) (hb : Binds X.K fd ps ds) (hd : Vals dvs ds) (hx : Passes CX X E)
    (ha : PA X (e :: es) t) (hdb : (x == ("__debug__" : Str)) = false := by decide) (he : starEach (e :: es) X.env = (false, eval e X.env) :: starEach es X.env := by rfl) (hpl : (backTo pos (starEach es X.env)).any (·.1) = false := by rfl) :
    PE X (.Call (.Name x p) (e :: es) [] pos) (tCall sp dvs E t) := by
  intro pins s σ H Q I h
  refine wpAny_Call_Name_kw (ld_glob I hg hm ?_ hdb)
  refine PySem.W.callWith_K (h₀ := X.base) I.ok.mod.kin hk (thn (ha pos pins s σ H _ I h) fun us s1 ⟨vs, H1, I1, r, q⟩ => ⟨I1.kIn, ?_⟩) he hpl
  exact run_fn F hr hb hd hx I1 r q
structure Mk (K : PySem.W.Frag) (C f : Addr) : Prop where
  makes : PySem.W.makesIn K C = true
  init : PySem.W.findIn K (.ref C) "__init__" = some (some (.ref f))
  fn : PySem.W.isFn K (.ref f) = true
  kp : PySem.W.keepIn K (.ref C) = true

theorem run_make {pins : List (Addr × Obj)} {σ : St} {H : Hp} {s : Shared} {Q : VK} {us : List Value} {vs : List V} (M : Mk X.K C f) (F : FnOk X.prog X.w X.K X.mg X.base CX k f fd ps sp) (hr : Room (k + 1) X.A) (hb : Binds X.K fd ps ds) (hd : Vals dvs ds)
    (hx : Passes CX X E) (I : Inv X pins σ H s) (r : Vals vs us)
    (h : ∀ x dx, H x = none → H dx = none → dx ≠ x → sp (.ref x :: (vs ++ dvs)) (upd (upd H dx (.own x)) x (.ins C dx [])) (fun v H2 => v = .non ∧ Q (.ref x) H2) E) :
    wpAny (model X.prog X.w) X.A (call (.ref C) us) (EP X pins σ Q) X.xe s := by
  have hq := h (s.heap.objs.size + 1) s.heap.objs.size (I.hok.fresh (Nat.le_succ _)) (I.hok.fresh (Nat.le_refl _)) (Nat.ne_of_lt (Nat.lt_succ_self _))
  have I2 := Inv.made (C := C) I
  have r2 : Vals (V.ref (s.heap.objs.size + 1) :: (vs ++ dvs)) (Value.ref (s.heap.objs.size + 1) :: (us ++ ds)) := .cons rfl (r.append hd)
  have hl : (Value.ref (s.heap.objs.size + 1) :: us ++ ds).length = ps.length := by
    have e := r2.length
    rw [F.len _ _ _ _ hq] at e
    exact e.symm
  refine wpAny_call (make_map (f := f) I.kIn M.makes M.init (beq_iff_eq.mp M.fn) (codeAny_mono (F.run _ X.stack _ _ ⟨Value.ref (s.heap.objs.size + 1) :: us, []⟩ (Value.ref (s.heap.objs.size + 1) :: (us ++ ds)) _ _ E (hr.make C us [])
    (I2.env0.make C us []) (hb _ (Value.ref (s.heap.objs.size + 1) :: us) I2.kIn hl) r2 hq) fun r s' hq' => ?_))
  cases r with
  | error e => exact hx pins σ _ _ e s' I2 hq'
  | ok fl =>
    cases fl with
    | ret u =>
      obtain ⟨v, H', I3, rv, ev, q3⟩ := I2.after hq'
      subst ev
      exact ⟨rv, ⟨V.ref (s.heap.objs.size + 1), H', I3, rfl, q3⟩⟩
    | next => exact False.elim hq'
    | brk => exact False.elim hq'
    | cont => exact False.elim hq'
theorem pe_make (M : Mk X.K C f) (F : FnOk X.prog X.w X.K X.mg X.base CX k f fd ps sp) (hr : Room (k + 1) X.A) (hg : Gl X x) (hm : X.mg x = some (.ref C)) (hb : Binds X.K fd ps ds) (hd : Vals dvs ds) (hx : Passes CX X E)
    (ha : PA X (e :: es) t) (hdb : (x == ("__debug__" : Str)) = false := by decide) (he : starEach (e :: es) X.env = (false, eval e X.env) :: starEach es X.env := by rfl) (hpl : (backTo pos (starEach es X.env)).any (·.1) = false := by rfl) :
    PE X (.Call (.Name x p) (e :: es) [] pos) (tMake C sp dvs E t) := by
  intro pins s σ H Q I h
  refine wpAny_Call_Name_kw (ld_glob I hg hm ?_ hdb)
  refine PySem.W.callWith_K (h₀ := X.base) I.ok.mod.kin M.kp (thn (ha pos pins s σ H _ I h) fun us s1 ⟨vs, H1, I1, r, q⟩ => ⟨I1.kIn, ?_⟩) he hpl
  exact run_make M F hr hb hd hx I1 r q
end

def PK (X : Cx) (kws : List Keyword) (t : TA) : Prop :=
  ∀ (pos : Pos) (pins : List (Addr × Obj)) (s : Shared) (σ : St) (H : Hp) (Q : List V → Hp → Prop), Inv X pins σ H s → t σ H Q → wpAny (model X.prog X.w) X.A (evalAll ((backToKw pos (keywordEach kws X.env)).map (·.2))) (AP X pins σ Q) X.xe s
section
variable {X : Cx} {CX : CXT} {k : Nat} {f C : Addr} {fd : FuncData} {ps ks : List Str} {sp : Sp} {E : XK} {x m : Str} {p pos apos kpos : Pos} {e o : Expr} {es : List Expr} {kws : List Keyword} {te ta : TE} {t tk : TA} {nm : Option Str}
structure KBinds (K : PySem.W.Frag) (fd : FuncData) (ps ks : List Str) (g : List Value → List Value → List Value) (gV : List V → List V → List V) : Prop where
  to : ∀ (s : Shared) (us ws : List Value), K.In s.heap → (g us ws).length = ps.length → BindsTo s fd ⟨us, ks.zip ws⟩ (ps.zip (g us ws))
  rel : ∀ {vs : List V} {us : List Value} {zs : List V} {ws : List Value}, Vals vs us → Vals zs ws → Vals (gV vs zs) (g us ws)
def tCallK (sp : Sp) (gV : List V → List V → List V) (E : XK) (t tk : TA) : TE := fun σ H Q => t σ H fun vs H1 => tk σ H1 fun zs H2 => sp (gV vs zs) H2 Q E
variable {g : List Value → List Value → List Value} {gV : List V → List V → List V}
end

structure FnScope (N P : List Str) (sc : Scope) : Prop where
  kind : sc.kind = .function
  co : sc.isCoroutine = false
  gen : sc.isGenerator = false
  nd : N.Nodup
  pre : N.take P.length = P
  par : ∀ x ∈ P, sc.names.lookup x = some .local ∨ sc.names.lookup x = some .cell
  nofree : ∀ y ∈ sc.names, y.2 ≠ .free

theorem bindL_out {kindOf : Str → Option NameKind} {x : Str} : ∀ {binds : List (Str × Value)} {m : Str → Option Value}, (∀ v, (x, v) ∉ binds) → bindL kindOf binds m x = m x
  | [], _, _ => rfl
  | (n, v) :: r, m, h => by
    unfold bindL
    rw [bindL_out fun w hw => h w (List.mem_cons_of_mem _ hw)]
    split
    · have : x ≠ n := by rintro rfl; exact h v List.mem_cons_self
      simp [this]
    · rfl
theorem bindC_out {kindOf : Str → Option NameKind} {x : Str} : ∀ {binds : List (Str × Value)} {m : Str → Option Value}, (∀ v, (x, v) ∉ binds) → bindC kindOf binds m x = m x
  | [], _, _ => rfl
  | (n, v) :: r, m, h => by
    unfold bindC
    rw [bindC_out fun w hw => h w (List.mem_cons_of_mem _ hw)]
    split
    · rfl
    · have : x ≠ n := by rintro rfl; exact h v List.mem_cons_self
      simp [this]
theorem bindL_get {kindOf : Str → Option NameKind} {x : Str} {v : Value} : ∀ {P : List Str} {vs : List Value} {i : Nat} {m : Str → Option Value}, P.Nodup → P[i]? = some x → vs[i]? = some v → kindOf x = some .local →
    bindL kindOf (P.zip vs) m x = some v
  | [], _, _, _, _, h, _, _ => by simp at h
  | _ :: _, [], _, _, _, _, h, _ => by simp at h
  | p :: P, w :: vs, 0, m, nd, h1, h2, hk => by
    simp at h1 h2; subst h1; subst h2
    show bindL kindOf ((p, w) :: P.zip vs) m p = _
    unfold bindL
    rw [bindL_out fun v hv => (List.nodup_cons.mp nd).1 (List.of_mem_zip hv).1, if_pos hk]
    simp
  | p :: P, w :: vs, i + 1, m, nd, h1, h2, hk => by
    show bindL kindOf ((p, w) :: P.zip vs) m x = _
    unfold bindL
    exact bindL_get (i := i) (List.nodup_cons.mp nd).2 (by simpa using h1) (by simpa using h2) hk
theorem bindC_get {kindOf : Str → Option NameKind} {x : Str} {v : Value} : ∀ {P : List Str} {vs : List Value} {i : Nat} {m : Str → Option Value}, P.Nodup → P[i]? = some x → vs[i]? = some v → kindOf x ≠ some .local →
    bindC kindOf (P.zip vs) m x = some v
  | [], _, _, _, _, h, _, _ => by simp at h
  | _ :: _, [], _, _, _, _, h, _ => by simp at h
  | p :: P, w :: vs, 0, m, nd, h1, h2, hk => by
    simp at h1 h2; subst h1; subst h2
    show bindC kindOf ((p, w) :: P.zip vs) m p = _
    unfold bindC
    rw [bindC_out fun v hv => (List.nodup_cons.mp nd).1 (List.of_mem_zip hv).1, if_neg hk]
    simp
  | p :: P, w :: vs, i + 1, m, nd, h1, h2, hk => by
    show bindC kindOf ((p, w) :: P.zip vs) m x = _
    unfold bindC
    exact bindC_get (i := i) (List.nodup_cons.mp nd).2 (by simpa using h1) (by simpa using h2) hk

def start (N : List Str) (vs : List V) : St := vs.map some ++ List.replicate (N.length - vs.length) none

def cxOf (CX : CXT) (P : Program) (w : World) (K : PySem.W.Frag) (mg : Str → Option Value) (base : Heap) (N : List Str) (qual : Str) (scope : Scope) (f : Addr) (cd : Value) (A : Around) (outer : List Env) (s : Shared) (H : Hp) (E : XK) : Cx where
  prog := P
  w := w
  K := K
  mg := mg
  base := base
  A := A.deeper (envOfC qual scope s.heap.objs.size f cd)
  N := N
  s_0 := s
  H_0 := H
  env := envOfC qual scope s.heap.objs.size f cd
  outer := outer
  stack := envOfC qual scope s.heap.objs.size f cd :: outer
  ex := []
  calm := true
  fn := fun _ => true
  pn := []
  xe := fun e s' => wpAny (model P w) (A.deeper (envOfC qual scope s.heap.objs.size f cd)) (leaving (envOfC qual scope s.heap.objs.size f cd) e) (fun _ s'' => CX outer H s E e s'') (fun e' s'' => CX outer H s E e' s'') s'

theorem cell_has {sc : Scope} {n : Nat} {x : Str} (h : sc.names.lookup x = some .cell) : ∃ c, (cellsFrom n sc.names []).lookup x = some c := by
  have q := PySem.W.cellsFrom_some sc.names n [] (.inl h)
  exact Option.isSome_iff_exists.mp q

theorem inv_start {CX : CXT} {P : Program} {w : World} {K : PySem.W.Frag} {mg : Str → Option Value} {base : Heap} {N ps : List Str} {qual : Str} {scope : Scope} {f : Addr} {cd : Value} {A : Around} {outer : List Env} {s s1 : Shared} {H : Hp} {E : XK} {us : List Value} {vs : List V}
    (S : FnScope N ps scope) (hd : A.handled = none) (e0 : Env0 P w K mg base A outer s H) (hl : vs.length = ps.length) (r : Vals vs us)
    (x : InCallC s s.heap.objs.size (bindL (envOfC qual scope s.heap.objs.size f cd).kindOf (ps.zip us) fun _ => none) (cellsFrom (s.heap.objs.size + 1) scope.names []) (bindC (envOfC qual scope s.heap.objs.size f cd).kindOf (ps.zip us) fun _ => none) s1) :
    Inv (cxOf CX P w K mg base N qual scope f cd A outer s H E) [] (start N vs) H s1 := by
  have hpl : ps.length ≤ N.length := by have := congrArg List.length S.pre; rw [List.length_take] at this; omega
  obtain ⟨h1, tk, rfl, hk⟩ := x.done
  have noA : ∀ b : Addr, b ∉ (cxOf CX P w K mg base N qual scope f cd A outer s H E).ex := fun b z => absurd (show b ∈ ([] : List Addr) from z) (by simp)
  refine ⟨⟨e0.mod, S.kind, rfl, rfl, Nat.le_refl _, fun y z c h1 h2 => ?_, fun y hy => ?_, fun y c _ h => ?_, fun _ => hd, Around.frames_deeper e0.frames, .inr ⟨rfl, rfl⟩, fun b z => absurd z (noA b), e0.bs, e0.bsz, fun b _ _ => noA b, fun b z => absurd z (noA b), e0.funs, e0.frf⟩,
    rfl, e0.bare, Un.kept hk, ⟨_, x.toInCall.ns, fun i y v h1 h2 h3 => ?_⟩, fun y c h => ⟨_, x.cell y c h⟩, e0.hok.fresh (Nat.le_refl _), fun y c h => ?_, fun p hp => absurd (show p ∈ ([] : List (Addr × Obj)) from hp) (by simp), e0.hok.kept hk, ?_⟩
  · exact name_of_addr x.apart (PySem.mem_of_lookup h1) (PySem.mem_of_lookup h2)
  · have hy : scope.names.lookup y = some .cell ∨ scope.names.lookup y = some .free := hy
    rcases hy with hy | hy
    · exact cell_has hy
    · exact absurd rfl (S.nofree _ (PySem.mem_of_lookup hy))
  · exact Nat.le_of_lt (x.above y c (PySem.mem_of_lookup h))
  · have hi : i < vs.length := by
      unfold start at h2
      by_cases hi : i < vs.length
      · exact hi
      · rw [List.getElem?_append_right (by simpa using hi)] at h2
        rw [List.getElem?_replicate] at h2
        split at h2 <;> cases h2
    have ha : vs[i]? = some v := by
      unfold start at h2
      rw [List.getElem?_append_left (by simpa using hi), List.getElem?_map] at h2
      cases e : vs[i]? with
      | none => rw [e] at h2; cases h2
      | some a => rw [e] at h2; cases h2; rfl
    obtain ⟨u, hu, rv⟩ := r.get ha
    have hp : ps[i]? = some y := by
      rw [← S.pre, List.getElem?_take_of_lt (by omega)]; exact h1
    have ndP : ps.Nodup := by rw [← S.pre]; exact S.nd.sublist (List.take_sublist _ _)
    refine ⟨u, rv, ?_⟩
    rcases S.par y (List.mem_of_getElem? hp) with k | k
    · exact .inl ⟨k, bindL_get ndP hp hu k⟩
    · obtain ⟨c, e⟩ := cell_has (n := s.heap.objs.size + 1) k
      refine .inr ⟨.inl k, c, e, ?_⟩
      have q := x.cell y c e
      rw [bindC_get ndP hp hu (by show scope.names.lookup y ≠ _; rw [k]; decide)] at q
      exact q
  · exact e0.hok.fresh (Nat.le_of_lt (x.above y c (PySem.mem_of_lookup h)))
  · unfold start
    show _ = N.length
    rw [List.length_append, List.length_map, List.length_replicate]
    omega

theorem fn_of {CX : CXT} {P : Program} {w : World} {K : PySem.W.Frag} {mg : Str → Option Value} {base : Heap} {k : Nat} {f : Addr} {name qual : Str} {params : Arguments} {body : List Stmt} {scope : Scope} {dV kV doc pm cdv ct oc : Value} {an od : Option Addr}
    {osl : Array (Option Value)} {N ps : List Str} {sp : Sp} (lk : K.lookup f = some ⟨oc, od, .func (PySem.W.fnOf name qual params body scope dV kV doc pm an cdv ct), osl⟩) (hcd : PySem.W.codeIn K cdv qual = true) (S : FnScope N ps scope)
    (len : ∀ vs H Q E, sp vs H Q E → vs.length = ps.length)
    (hbody : ∀ (A : Around) (outer : List Env) (s : Shared) (H : Hp) (vs : List V) (Q : VK) (E : XK), Room k (A.deeper (envOfC qual scope s.heap.objs.size f cdv)) → sp vs H Q E →
      ∃ t, PSs (cxOf CX P w K mg base N qual scope f cdv A outer s H E) body t ∧ t { nx := fun _ H' => Q .non H', rt := Q } (start N vs) H) :
    FnOk P w K mg base CX (k + 1) f (PySem.W.fnOf name qual params body scope dV kV doc pm an cdv ct) ps sp := by
  refine ⟨len, fun A outer s H args us vs Q E hr e0 hb r hsp => ?_⟩
  have hl := len _ _ _ _ hsp
  have KX : K.In s.heap := e0.mod.kin.keeps fun b o e => (e0.bs b o e).1
  have lim : s.heap.NoLimit := e0.mod.nolimit.keeps fun b o e => (e0.bs b o e).1
  have hkind : ∀ y ∈ ps.zip us, scope.names.lookup y.1 = some .local ∨ (scope.names.lookup y.1 = some .cell ∧ ((cellsFrom (s.heap.objs.size + 1) scope.names []).lookup y.1).isSome = true) := fun ⟨n, v⟩ hy => by
    rcases S.par n (List.of_mem_zip hy).1 with q | q
    · exact .inl q
    · exact .inr ⟨q, PySem.W.cellsFrom_some _ _ _ (.inl q)⟩
  refine codeAny_call_function hr.depth (KX _ _ lk) rfl S.co S.gen rfl (PySem.W.codeRec_of KX hcd) (hb _ _ _ _ ?_)
  refine wpAny_newFunctionEnv_cells S.kind hkind fun env he s1 x => ?_
  subst he
  refine ⟨lim.keeps x.toInCall.keep, codeAny_func ?_⟩
  obtain ⟨t, ht, hq⟩ := hbody A outer s H vs Q E (hr.deeper _) hsp
  have I : Inv (cxOf CX P w K mg base N qual scope f cdv A outer s H E) [] (start N vs) H s1 := inv_start S hr.hd e0 hl r x
  refine wpAny_mono (ht [] s1 (start N vs) H _ I hq) (fun fl s' hs => ?_) fun e s' hs => hs
  have fin : ∀ {σ' : St} {H' : Hp} {v : V} {u : Value}, Inv (cxOf CX P w K mg base N qual scope f cdv A outer s H E) [] σ' H' s' → RelV v u → Q v H' → CE outer P w H s Q u s' :=
    fun {σ' H' v u} J rv q => ⟨v, H', J.os, J.bare, J.base, J.hok, rv, q⟩
  cases fl with
  | ret u =>
    obtain ⟨v, σ', H', J, rv, q⟩ := hs
    exact fin J rv q
  | next =>
    obtain ⟨σ', H', J, q⟩ := hs
    exact fin (v := V.non) (u := Value.none) J rfl q
  | brk =>
    obtain ⟨_, _, _, q⟩ := hs
    exact False.elim q
  | cont =>
    obtain ⟨_, _, _, q⟩ := hs
    exact False.elim q
end L2

namespace L2
open PySem PySem.Spec PyProof.Rows
section
variable {X : Cx} {x : Str} {p pos : Pos} {e : Expr} {es : List Expr} {t : TA} {id T : String} {r : List V → Hp → VK → Prop}

def tCB (r : List V → Hp → VK → Prop) (t : TA) : TE := fun σ H Q => t σ H fun vs H1 => r vs H1 Q
theorem pe_callB (hc : CallR X (.builtin id) r) (hg : Gl X x) (hm : X.mg x = none) (hv : bootBuiltins x = some (.builtin id)) (ha : PA X (e :: es) t) (hn : x ≠ "__name__" := by decide) (hdb : (x == ("__debug__" : Str)) = false := by decide)
    (he : starEach (e :: es) X.env = (false, eval e X.env) :: starEach es X.env := by rfl) (hpl : (backTo pos (starEach es X.env)).any (·.1) = false := by rfl) : PE X (.Call (.Name x p) (e :: es) [] pos) (tCB r t) := by
  intro pins s σ H Q I h
  refine wpAny_Call_Name_kw (ld_blt I hg hm hv ?_ hn hdb)
  exact PyProof.Rows.callWith_builtin1 (thn (ha pos pins s σ H _ I h) fun us s1 ⟨vs, H1, I1, r1, q1⟩ => hc pins s1 σ H1 vs us Q I1 r1 q1) he hpl
theorem pe_callTy (hc : CallR X (.type T) r) (hg : Gl X x) (hm : X.mg x = none) (hv : bootBuiltins x = some (.type T)) (ha : PA X (e :: es) t) (hn : x ≠ "__name__" := by decide) (hdb : (x == ("__debug__" : Str)) = false := by decide)
    (he : starEach (e :: es) X.env = (false, eval e X.env) :: starEach es X.env := by rfl) (hpl : (backTo pos (starEach es X.env)).any (·.1) = false := by rfl) : PE X (.Call (.Name x p) (e :: es) [] pos) (tCB r t) := by
  intro pins s σ H Q I h
  refine wpAny_Call_Name_kw (ld_blt I hg hm hv ?_ hn hdb)
  exact PyProof.Rows.callWith_type1 (thn (ha pos pins s σ H _ I h) fun us s1 ⟨vs, H1, I1, r1, q1⟩ => hc pins s1 σ H1 vs us Q I1 r1 q1) he hpl
end
end L2

namespace HT
open PySem PyProof.Rows

def lexLt : List Int → List Int → Bool
  | [], [] => false
  | [], _ :: _ => true
  | _ :: _, [] => false
  | x :: xs, y :: ys => if x = y then lexLt xs ys else decide (x < y)
section
open PySem.SeqAt
open PySem.AutoSeq1 (wpAny_loadPart')
open PySem.MeetsSeq PySem.MeetsSeq2 PySem.MeetsSeq3

end

section
variable {prog : Program} {w : World} {A : Around} {E : Value → Shared → Prop} {s : Shared}

def sIx (n d : Nat) : Option Int → Nat
  | none => d
  | some v => if v < 0 then (v + (n : Int)).toNat else min v.toNat n
theorem sIx_none (n d : Nat) : sIx n d none = d := rfl
theorem sIx_nat (n d k : Nat) : sIx n d (some (k : Int)) = min k n := by
  show (if (k : Int) < 0 then ((k : Int) + (n : Int)).toNat else min (k : Int).toNat n) = min k n
  rw [if_neg (by omega), Int.toNat_natCast]
end
end HT

namespace L2
open PySem PySem.Spec PyProof.Rows

abbrev TO := St → Hp → (Option Int → Hp → Prop) → Prop
def PO (X : Cx) (e : Option Expr) (t : TO) : Prop :=
  ∀ (pins : List (Addr × Obj)) (s : Shared) (σ : St) (H : Hp) (Q : Option Int → Hp → Prop), Inv X pins σ H s → t σ H Q →
    wpAny (model X.prog X.w) X.A (evalPart e X.env) (fun u s' => ∃ o H', Inv X pins σ H' s' ∧ IsPart u o ∧ Q o H') X.xe s
def tNoPart : TO := fun _ H Q => Q none H
def tPart (t : TE) : TO := fun σ H Q => t σ H fun x H1 => ∃ i, x = .int i ∧ Q (some i) H1

theorem intsAre_of {ns : List Int} : ∀ {us : List Value}, Vals (ns.map V.int) us → IntsAre us ns := by
  induction ns with
  | nil => intro us r; rw [List.map_nil] at r; cases r; exact .nil
  | cons n ns ih =>
    intro us r
    rw [List.map_cons] at r
    cases r with
    | cons r1 r2 =>
      obtain ⟨t, e⟩ := r1
      subst e
      exact .cons n t (ih r2)

section
variable {X : Cx} {e : Expr} {te : TE} {lo hi : Option Expr} {tl th : TO} {pos p2 : Pos}

theorem po_none : PO X none tNoPart := by
  intro pins s σ H Q I h
  rw [evalPart_none]
  exact wpAny_pure ⟨none, H, I, .none, h⟩
theorem po_some (h : PE X e te) : PO X (some e) (tPart te) := by
  intro pins s σ H Q I hw
  rw [evalPart_some]
  refine thn (h pins s σ H _ I hw) fun u s1 ⟨x, H1, I1, r1, q1⟩ => ?_
  obtain ⟨i, rfl, q⟩ := q1
  obtain ⟨t, rfl⟩ := r1
  exact ⟨some i, H1, I1, .int i t, q⟩

def SlR (X : Cx) (r : V → Option Int → Option Int → Hp → VK → Prop) : Prop :=
  ∀ (pins : List (Addr × Obj)) (s : Shared) (σ : St) (H : Hp) (x : V) (v vl vu : Value) (lo hi : Option Int) (sl : Addr) (Q : VK), Inv X pins σ H s → RelV x v → s.heap.IsSliceOf sl vl vu .none → IsPart vl lo → IsPart vu hi → r x lo hi H Q →
    ∃ T id, typeLookup (.type T) "__getitem__" = pure (some (.builtin id)) ∧ s.TypeIs v T ∧ wpAny (model X.prog X.w) X.A (getItem v (.ref sl)) (EP X pins σ Q) X.xe s
def tSl (r : V → Option Int → Option Int → Hp → VK → Prop) (te : TE) (tl th : TO) : TE := fun σ H Q => te σ H fun x H1 => tl σ H1 fun l H2 => th σ H2 fun u H3 => r x l u H3 Q
theorem pe_slice {r : V → Option Int → Option Int → Hp → VK → Prop} (hr : SlR X r) (he : PE X e te) (hl : PO X lo tl) (hu : PO X hi th) : PE X (.Subscript e (.Slice lo hi none p2) pos) (tSl r te tl th) := by
  intro pins s σ H Q I h
  refine Subscript_ (thn (he pins s σ H _ I h) fun v s1 ⟨x, H1, I1, r1, q1⟩ => ?_)
  refine wpAny_Slice (thn (hl pins s1 σ H1 _ I1 q1) fun vl s2 ⟨l, H2, I2, pl, q2⟩ => thn (hu pins s2 σ H2 _ I2 q2) fun vu s3 ⟨u, H3, I3, pu, q3⟩ => ?_)
  rw [evalPart_none]
  refine wpAny_pure ?_
  have I4 : Inv X pins σ H3 { s3 with heap := s3.heap.push { cls := .type "slice", data := .fields #[vl, vu, .none] } } := I3.kept (t' := s3.toks) fun b ob q => Heap.get?_push_of_some _ q
  obtain ⟨T, id, hT, ht, hg⟩ := hr pins { s3 with heap := s3.heap.push { cls := .type "slice", data := .fields #[vl, vu, .none] } } σ H3 x v vl vu l u s3.heap.objs.size Q I4 r1 (Heap.IsSliceOf.new ..) pl pu q3
  show wpAny (model X.prog X.w) X.A (subscriptTail e (.Slice lo hi none p2) v (.ref s3.heap.objs.size)) (EP X pins σ Q) X.xe { s3 with heap := s3.heap.push { cls := .type "slice", data := .fields #[vl, vu, .none] } }
  exact tail_any (ops := [.ref s3.heap.objs.size, v]) ht hT hg (by with_unfolding_all rfl)

def cutV (xs : List V) (lo hi : Option Int) : List V := (xs.drop (HT.sIx xs.length 0 lo)).take (HT.sIx xs.length xs.length hi - HT.sIx xs.length 0 lo)
theorem cutV_length (xs : List V) (lo hi : Option Int) : (cutV xs lo hi).length ≤ xs.length := by
  unfold cutV
  rw [List.length_take, List.length_drop]
  omega
def rSlT (K : PySem.W.Frag) : V → Option Int → Option Int → Hp → VK → Prop := fun x lo hi H Q => ∃ a xs, x = .ref a ∧ SqT K H a xs ∧
  ¬ (HT.sIx xs.length 0 lo = 0 ∧ HT.sIx xs.length xs.length hi = xs.length) ∧ ∀ p, H p = none → Q (.ref p) (upd H p (.tup (cutV xs lo hi)))
def rLtT (K : PySem.W.Frag) : R2 := fun x y H Q => ∃ a b ns ms, x = .ref a ∧ y = .ref b ∧ SqT K H a (ns.map V.int) ∧ SqT K H b (ms.map V.int) ∧ Q (.bl (HT.lexLt ns ms)) H
def rCatT (K : PySem.W.Frag) : R2 := fun x y H Q => ∃ a b xs ys, x = .ref a ∧ y = .ref b ∧ SqT K H a xs ∧ SqT K H b ys ∧ xs ≠ [] ∧ xs.length + ys.length ≤ sizeLine ∧
  (ys = [] → Q (.ref a) H) ∧ (ys ≠ [] → ∀ p, H p = none → Q (.ref p) (upd H p (.tup (xs ++ ys))))
end
end L2

namespace L2
open PySem PySem.Spec PyProof.Rows

def ixN (n : Nat) (i : Int) : Option Nat := if 0 ≤ i then (if i < n then some i.toNat else none) else if -(n : Int) ≤ i then some (i + n).toNat else none
def atI {α : Type} (xs : List α) (i : Int) : Option α := (ixN xs.length i).bind fun j => xs[j]?
theorem ixN_seq {n : Nat} {i : Int} {j : Nat} (h : ixN n i = some j) : seqIndex? i n = some j ∧ j < n ∧ -(n : Int) ≤ i ∧ i < n := by
  unfold ixN at h
  by_cases h0 : 0 ≤ i
  · rw [if_pos h0] at h
    by_cases h1 : i < n
    · rw [if_pos h1] at h
      have e : i.toNat = j := Option.some.inj h
      exact ⟨by rw [seqIndex_of h0 h1, e], by omega, by omega, h1⟩
    · rw [if_neg h1] at h; cases h
  · rw [if_neg h0] at h
    by_cases h1 : -(n : Int) ≤ i
    · rw [if_pos h1] at h
      have e : (i + n).toNat = j := Option.some.inj h
      exact ⟨by rw [seqIndex_neg (by omega) h1, e], by omega, h1, by omega⟩
    · rw [if_neg h1] at h; cases h
theorem atI_get {α : Type} {xs : List α} {i : Int} {v : α} (h : atI xs i = some v) : ∃ j, seqIndex? i xs.length = some j ∧ xs[j]? = some v ∧ j < xs.length ∧ -(xs.length : Int) ≤ i ∧ i < xs.length := by
  unfold atI at h
  cases e : ixN xs.length i with
  | none => rw [e] at h; cases h
  | some j =>
    rw [e] at h
    obtain ⟨h1, h2, h3, h4⟩ := ixN_seq e
    exact ⟨j, h1, h, h2, h3, h4⟩
theorem atI_nat {α : Type} {xs : List α} {j : Nat} {v : α} (h : xs[j]? = some v) : atI xs (j : Int) = some v := by
  have hj : j < xs.length := (List.getElem?_eq_some_iff.mp h).1
  have e : ixN xs.length (j : Int) = some j := by
    unfold ixN
    rw [if_pos (by omega), if_pos (by omega)]; simp
  unfold atI; rw [e]; exact h
def PlainIx (b : Expr) : Prop := ∀ o i, subscripted b false o i = operate [o, i] (getItem o i)
def IxR (X : Cx) (r : R2) : Prop :=
  ∀ (value slice : Expr) (pins : List (Addr × Obj)) (s : Shared) (σ : St) (H : Hp) (x y : V) (v u : Value) (Q : VK), Inv X pins σ H s → RelV x v → RelV y u → r x y H Q →
    subscripted slice false v u = operate [v, u] (getItem v u) → wpAny (model X.prog X.w) X.A (subscriptTail value slice v u) (EP X pins σ Q) X.xe s
def MtR (X : Cx) (id : String) (r : V → List V → Hp → VK → Prop) : Prop :=
  ∀ (pins : List (Addr × Obj)) (s : Shared) (σ : St) (H : Hp) (x : V) (xs : List V) (v : Value) (us : List Value) (Q : VK), Inv X pins σ H s → RelV x v → Vals xs us → r x xs H Q →
    wpAny (model X.prog X.w) X.A (call (.builtin id) (v :: us)) (EP X pins σ Q) X.xe s
section
variable {X : Cx} {a b : Expr} {ta tb : TE} {pos : Pos}
theorem pe_ix {r : R2} (hr : IxR X r) (ha : PE X a ta) (hb : PE X b tb) (hs : PlainIx b) : PE X (.Subscript a b pos) (tOp r ta tb) := by
  intro pins s σ H Q I h
  exact Subscript_ (binT ha hb I h fun v u s2 x y H2 I2 rx ry q => hr a b pins s2 σ H2 x y v u Q I2 rx ry q (hs _ _))

def rIxL (K : PySem.W.Frag) : R2 := fun x y H Q => ∃ p xs i v, x = .ref p ∧ y = .int i ∧ SqL K H p xs ∧ atI xs i = some v ∧ Q v H
def rIxT (K : PySem.W.Frag) : R2 := fun x y H Q => ∃ p xs i v, x = .ref p ∧ y = .int i ∧ SqT K H p xs ∧ atI xs i = some v ∧ Q v H
def rIxS : R2 := fun x y H Q => ∃ z i c, x = .str z ∧ y = .int i ∧ z.length ≤ sizeLine ∧ atI z.cps.toList i = some c ∧ Q (.str ⟨#[c]⟩) H
theorem ix_list : IxR X (rIxL X.K) := by
  intro value slice pins s σ H x y v u Q I rx ry h hs
  obtain ⟨p, xs, i, z, rfl, rfl, hq, he, q⟩ := h
  cases rx
  obtain ⟨t, rfl⟩ := ry
  obtain ⟨its, r, pl, hz⟩ := I.list hq
  obtain ⟨j, h1, h2, h3, h4, h5⟩ := atI_get he
  obtain ⟨w, ew, rw'⟩ := r.get h2
  have hl := r.length
  have hn := line63
  have fin : EP X pins σ Q w s := ⟨z, H, I, rw', q⟩
  by_cases h0 : 0 ≤ i
  · have hj : i.toNat = j := by
      rw [seqIndex_of h0 h5] at h1
      exact Option.some.inj h1
    exact item_listR pl.isList h0 (by omega) (by rw [hj]; simpa using ew) fin hs
  · have hj : (i + (its.toArray.size : Int)).toNat = j := by
      rw [seqIndex_neg (by omega) h4] at h1
      rw [List.size_toArray, ← hl]
      exact Option.some.inj h1
    exact subscriptTail_builtinR (x := w) pl.isList.typeIs slot_list_getitem.lookup
      (wpAny_getItem_list_neg (Q := fun r s' => r = w ∧ EP X pins σ Q r s') pl.isList (by omega) (by rw [List.size_toArray] <;> omega) (by omega) (by rw [hj]; simpa using ew) ⟨rfl, fin⟩) hs
theorem ix_tup : IxR X (rIxT X.K) := by
  intro value slice pins s σ H x y v u Q I rx ry h hs
  obtain ⟨p, xs, i, z, rfl, rfl, hq, he, q⟩ := h
  cases rx
  obtain ⟨t, rfl⟩ := ry
  obtain ⟨its, r, pl, hz⟩ := I.tuple hq
  obtain ⟨j, h1, h2, h3, h4, h5⟩ := atI_get he
  obtain ⟨w, ew, rw'⟩ := r.get h2
  have hl := r.length
  have hn := line63
  have fin : EP X pins σ Q w s := ⟨z, H, I, rw', q⟩
  exact subscriptTail_builtinR (x := w) pl.typeIs slot_tuple_getitem.lookup
    (getItem_tuple (j := j) (Q := fun r s' => r = w ∧ EP X pins σ Q r s') pl (by omega) (by omega) (by rw [List.size_toArray, ← hl]; exact h1) (by simpa using ew) ⟨rfl, fin⟩) hs
def rIx (K : PySem.W.Frag) : R2 := fun x y H Q => rIxL K x y H Q ∨ rIxT K x y H Q ∨ rIxS x y H Q
theorem mapSeq_set (its : List Value) (n j : Nat) (u : Value) : Obj.mapSeq (·.setIfInBounds j u) { cls := .type "list", data := .seq its.toArray n } = { cls := .type "list", data := .seq (its.set j u).toArray n } := by
  simp [Obj.mapSeq]
theorem Inv.lst {pins : List (Addr × Obj)} {σ : St} {H : Hp} {s : Shared} {p : Addr} {xs : List V} (I : Inv X pins σ H s) (h : H p = some (.lst xs)) :
    ∃ (its : List Value) (n : Nat), Vals xs its ∧ s.heap.get? p = some { cls := .type "list", data := .seq its.toArray n } ∧ xs.length ≤ sizeLine := by
  obtain ⟨z, its, n, r, e⟩ := I.hok p _ h
  exact ⟨its, n, r, e, z⟩
theorem Inv.lstUpd {pins : List (Addr × Obj)} {σ : St} {H : Hp} {s : Shared} {p : Addr} {xs ys : List V} {its its' : List Value} {n n' : Nat} {f : Obj → Obj} (I : Inv X pins σ H s) (h : H p = some (.lst xs))
    (ho : s.heap.get? p = some { cls := .type "list", data := .seq its.toArray n }) (hf : f { cls := .type "list", data := .seq its.toArray n } = { cls := .type "list", data := .seq its'.toArray n' }) (r : Vals ys its') (hz : ys.length ≤ sizeLine) (t : Nat) :
    Inv X pins σ (upd H p (.lst ys)) { s with heap := s.heap.update p f, toks := t } := by
  have e : (s.heap.update p f).get? p = some { cls := .type "list", data := .seq its'.toArray n' } := by
    rw [Heap.get?_update_self f ho (by rw [hf] <;> rfl), hf]
  refine I.write (x := p) (e := p) (by rw [h]; trivial) (.inl rfl) (fun b u hb q => (Heap.get?_update_other _ _ (Ne.symm hb)).trans q) ⟨_, e⟩ ?_
  exact ⟨hz, its', n', r, e⟩
def rSetL : V → V → V → Hp → (Hp → Prop) → Prop := fun o i v H Q => ∃ p xs k j, o = .ref p ∧ i = .int k ∧ H p = some (.lst xs) ∧ ixN xs.length k = some j ∧ Q (upd H p (.lst (xs.set j v)))
theorem set_list : PSet X rSetL := by
  intro pins s σ H o i v ov iv u Q I ro ri rv h
  obtain ⟨p, xs, k, j, rfl, rfl, hp, hj, q⟩ := h
  cases ro
  obtain ⟨t, rfl⟩ := ri
  obtain ⟨its, n, r, ho, hz⟩ := I.lst hp
  obtain ⟨h1, h2, h3, h4⟩ := ixN_seq hj
  have hl := r.length
  have hn := line63
  have I' : Inv X pins σ (upd H p (.lst (xs.set j v))) { s with heap := s.heap.update p (Obj.mapSeq (·.setIfInBounds j u)) } :=
    I.lstUpd hp ho (mapSeq_set its n j u) (r.set rv j) (by rw [List.length_set]; exact hz) s.toks
  by_cases h0 : 0 ≤ k
  · have hk : k.toNat = j := by
      rw [seqIndex_of h0 h4] at h1
      exact Option.some.inj h1
    exact PySem.W.ki_setAt ho h0 (by omega) (by rw [List.size_toArray, ← hl]; exact h4) (by rw [hk]; exact ⟨_, I', q⟩)
  · have hk : (k + (its.toArray.size : Int)).toNat = j := by
      rw [seqIndex_neg (by omega) h3] at h1
      rw [List.size_toArray, ← hl]
      exact Option.some.inj h1
    exact PySem.W.ki_setBack ho (by omega) (by rw [List.size_toArray, ← hl]; exact h3) (by omega) (by rw [hk]; exact ⟨_, I', q⟩)

theorem slice_bounds (lo hi : Option Int) (n : Nat) : (sliceBounds lo hi none n).1 = ((HT.sIx n 0 lo : Nat) : Int) ∧ (sliceBounds lo hi none n).2.1 = ((HT.sIx n n hi : Nat) : Int) ∧ (sliceBounds lo hi none n).2.2 = 1 := by
  refine ⟨?_, ?_, rfl⟩
  · cases lo with
    | none => simp [sliceBounds, HT.sIx]
    | some i =>
      simp only [sliceBounds, HT.sIx, Option.getD_none, show (1 : Int) > 0 by decide, if_true]
      by_cases h : i < 0
      · simp only [h, if_true] <;> omega
      · simp only [h, if_false] <;> omega
  · cases hi with
    | none => simp [sliceBounds, HT.sIx]
    | some i =>
      simp only [sliceBounds, HT.sIx, Option.getD_none, show (1 : Int) > 0 by decide, if_true]
      by_cases h : i < 0
      · simp only [h, if_true] <;> omega
      · simp only [h, if_false] <;> omega
theorem slicePick_cut (its : List Value) (lo hi : Option Int) : slicePick its.toArray lo hi none = ((its.drop (HT.sIx its.length 0 lo)).take (HT.sIx its.length its.length hi - HT.sIx its.length 0 lo)).toArray := by
  obtain ⟨h1, h2, h3⟩ := slice_bounds lo hi its.toArray.size
  unfold slicePick
  rw [h1, h2, h3]
  simp only [sliceRange_one, pick_run, List.size_toArray] <;> rfl
def rSlL (K : PySem.W.Frag) : V → Option Int → Option Int → Hp → VK → Prop := fun x lo hi H Q => ∃ a xs, x = .ref a ∧ SqL K H a xs ∧ ∀ p, H p = none → Q (.ref p) (upd H p (.lst (cutV xs lo hi)))
theorem sl_list : SlR X (rSlL X.K) := by
  intro pins s σ H x v vl vu lo hi sl Q I rx hs pl pu h
  obtain ⟨a, xs, rfl, hx, q⟩ := h
  cases rx
  obtain ⟨its, r, ht, hz⟩ := I.list hx
  have hlen := r.length
  refine ⟨"list", _, slot_list_getitem.lookup, ht.isList.typeIs, ?_⟩
  refine wpAny_getItem_list_slice ht.isList hs pl pu .none (by simp) ?_ (by rw [List.size_toArray] <;> omega)
  rw [slicePick_cut, ← hlen]
  refine ⟨.ref s.heap.objs.size, _, I.laid (t' := s.toks) (o := .lst (cutV xs lo hi)) (fun b ob q => Heap.get?_push_of_some _ q) (Nat.le_refl _) ?_, rfl, q _ (I.hok.fresh (Nat.le_refl _))⟩
  exact ⟨Nat.le_trans (cutV_length xs lo hi) hz, _, 0, (r.drop (HT.sIx xs.length 0 lo)).take (HT.sIx xs.length xs.length hi - HT.sIx xs.length 0 lo), Heap.get?_push_size _ rfl⟩

def flatV : V → Bool
  | .non => true
  | .bl _ => true
  | .int _ => true
  | .str _ => true
  | _ => false
def eqV : V → V → Bool
  | .non, .non => true
  | .bl a, .bl b => a == b
  | .bl a, .int b => (if a then 1 else 0) == b
  | .int a, .bl b => a == (if b then 1 else 0)
  | .int a, .int b => a == b
  | .str a, .str b => a == b
  | _, _ => false
theorem eqAt_V {A : Around} {s : Shared} {y x : V} {u v : Value} (ry : RelV y u) (rx : RelV x v) (fy : flatV y = true) (fx : flatV x = true) : SeqAt.EqAt A s u v (eqV y x) := by
  cases y with
  | non =>
    cases ry
    cases x with
    | non => cases rx; exact SeqAt.EqAt.same _
    | bl b => cases rx; exact SeqAt.EqAt.none_bool b
    | int b => obtain ⟨t, rfl⟩ := rx; exact SeqAt.EqAt.none_int b t
    | str b => obtain ⟨t, rfl⟩ := rx; exact SeqAt.EqAt.none_str b t
    | _ => exact absurd (show false = true from fx) Bool.false_ne_true
  | bl a =>
    cases ry
    cases x with
    | non => cases rx; exact SeqAt.EqAt.bool_none a
    | bl b => cases rx; exact SeqAt.EqAt.bool_bool a b
    | int b => obtain ⟨t, rfl⟩ := rx; exact SeqAt.EqAt.bool_int a b t
    | str b => obtain ⟨t, rfl⟩ := rx; exact SeqAt.EqAt.bool_str a b t
    | _ => exact absurd (show false = true from fx) Bool.false_ne_true
  | int a =>
    obtain ⟨t', rfl⟩ := ry
    cases x with
    | non => cases rx; exact SeqAt.EqAt.int_none a t'
    | bl b => cases rx; exact SeqAt.EqAt.int_bool a t' b
    | int b => obtain ⟨t, rfl⟩ := rx; exact SeqAt.EqAt.int_int a t' b t
    | str b => obtain ⟨t, rfl⟩ := rx; exact SeqAt.EqAt.int_str a t' b t
    | _ => exact absurd (show false = true from fx) Bool.false_ne_true
  | str a =>
    obtain ⟨t', rfl⟩ := ry
    cases x with
    | non => cases rx; exact SeqAt.EqAt.str_none a t'
    | bl b => cases rx; exact SeqAt.EqAt.str_bool a t' b
    | int b => obtain ⟨t, rfl⟩ := rx; exact SeqAt.EqAt.str_int a t' b t
    | str b => obtain ⟨t, rfl⟩ := rx; exact SeqAt.EqAt.str_str a t' b t
    | _ => exact absurd (show false = true from fx) Bool.false_ne_true
  | _ => exact absurd (show false = true from fy) Bool.false_ne_true
def eqU (x : V) (u : Value) : Bool := match u with
  | .none => eqV .non x
  | .bool b => eqV (.bl b) x
  | .int i _ => eqV (.int i) x
  | .str z _ => eqV (.str z) x
  | _ => false
theorem eqU_of {x y : V} {u : Value} (r : RelV y u) (f : flatV y = true) : eqU x u = eqV y x := by
  cases y with
  | non => cases r; rfl
  | bl b => cases r; rfl
  | int i => obtain ⟨t, rfl⟩ := r; rfl
  | str z => obtain ⟨t, rfl⟩ := r; rfl
  | _ => exact absurd (show false = true from f) Bool.false_ne_true
theorem any_eqU {x : V} : ∀ {xs : List V} {us : List Value}, Vals xs us → xs.all flatV = true → us.any (eqU x) = xs.any fun y => eqV y x
  | _, _, .nil, _ => rfl
  | y :: xs, u :: us, .cons r t, f => by
    rw [List.all_cons, Bool.and_eq_true] at f
    rw [List.any_cons, List.any_cons, eqU_of r f.1, any_eqU t f.2]
theorem mem_eqAt {A : Around} {s : Shared} {x : V} {v : Value} (rx : RelV x v) (fx : flatV x = true) : ∀ {xs : List V} {us : List Value}, Vals xs us → xs.all flatV = true → ∀ u ∈ us, SeqAt.EqAt A s u v (eqU x u)
  | _, _, .nil, _ => fun u hu => by cases hu
  | y :: xs, u :: us, .cons r t, f => fun u' hu => by
    rw [List.all_cons, Bool.and_eq_true] at f
    rcases List.mem_cons.mp hu with rfl | hu
    · rw [eqU_of r f.1]; exact eqAt_V r rx f.1 fx
    · exact mem_eqAt rx fx t f.2 u' hu
def inV (x : V) (xs : List V) : Bool := xs.any fun y => eqV y x
def rIn (K : PySem.W.Frag) (neg : Bool) : R2 := fun x y H Q => ∃ p xs, y = .ref p ∧ (SqL K H p xs ∨ SqT K H p xs) ∧ flatV x = true ∧ xs.all flatV = true ∧ Q (.bl (if neg then !inV x xs else inV x xs)) H
theorem op_in_seq : OpR X (compareOp .In) (rIn X.K false) := by
  intro pins s σ H x y v u Q I rx ry h
  obtain ⟨p, xs, rfl, hq, fx, fs, q⟩ := h
  cases ry
  rcases hq with hq | hq
  · obtain ⟨its, r, pl, hz⟩ := I.list hq
    refine SeqAt.in_listAt (eqU x) pl.isList (fun w hw => mem_eqAt rx fx r fs w (by simpa using hw)) ⟨.bl _, H, I, rfl, ?_⟩
    rw [show its.toArray.any (eqU x) = its.any (eqU x) by simp, any_eqU r fs]
    exact q
  · obtain ⟨its, r, pl, hz⟩ := I.tuple hq
    refine SeqAt.in_tupleAt (eqU x) pl (fun w hw => mem_eqAt rx fx r fs w (by simpa using hw)) ⟨.bl _, H, I, rfl, ?_⟩
    rw [show its.toArray.any (eqU x) = its.any (eqU x) by simp, any_eqU r fs]
    exact q
theorem op_notIn_seq : OpR X (compareOp .NotIn) (rIn X.K true) := by
  intro pins s σ H x y v u Q I rx ry h
  obtain ⟨p, xs, rfl, hq, fx, fs, q⟩ := h
  cases ry
  rcases hq with hq | hq
  · obtain ⟨its, r, pl, hz⟩ := I.list hq
    refine SeqAt.notIn_listAt (eqU x) pl.isList (fun w hw => mem_eqAt rx fx r fs w (by simpa using hw)) ⟨.bl _, H, I, rfl, ?_⟩
    rw [show its.toArray.any (eqU x) = its.any (eqU x) by simp, any_eqU r fs]
    exact q
  · obtain ⟨its, r, pl, hz⟩ := I.tuple hq
    refine SeqAt.notIn_tupleAt (eqU x) pl (fun w hw => mem_eqAt rx fx r fs w (by simpa using hw)) ⟨.bl _, H, I, rfl, ?_⟩
    rw [show its.toArray.any (eqU x) = its.any (eqU x) by simp, any_eqU r fs]
    exact q
theorem call_len_seq : CallR X (.builtin "len") (fun xs H Q => ∃ p ys, xs = [.ref p] ∧ (SqL X.K H p ys ∨ SqT X.K H p ys) ∧ Q (.int ys.length) H) := by
  intro pins s σ H xs us Q I r h
  obtain ⟨p, ys, rfl, hq, q⟩ := h
  obtain ⟨u, rfl, rx⟩ := vals1 r
  cases rx
  have hn := line63
  rcases hq with hq | hq
  · obtain ⟨its, r', pl, hz⟩ := I.list hq
    have hlen := r'.length
    exact Calls.call_len_list pl.isList (by simp only [List.size_toArray] <;> omega) ⟨.int ys.length, H, I.tok _, ⟨s.toks + 1, by rw [List.size_toArray, hlen]⟩, q⟩
  · obtain ⟨its, r', pl, hz⟩ := I.tuple hq
    have hlen := r'.length
    exact len_tuple pl (by simp only [List.size_toArray] <;> omega) ⟨.int ys.length, H, I.tok _, ⟨s.toks + 1, by rw [List.size_toArray, hlen]⟩, q⟩
theorem call_list_of : CallR X (.type "list") (fun xs H Q => ∃ p ys, xs = [.ref p] ∧ (SqL X.K H p ys ∨ SqT X.K H p ys) ∧ ∀ l, H l = none → Q (.ref l) (upd H l (.lst ys))) := by
  intro pins s σ H xs us Q I r h
  obtain ⟨p, ys, rfl, hq, q⟩ := h
  obtain ⟨u, rfl, rx⟩ := vals1 r
  cases rx
  have fin : ∀ (its : List Value), Vals ys its → ys.length ≤ sizeLine → ∀ (h' : Heap) (c' : Nat), (∀ b o', s.heap.get? b = some o' → h'.get? b = some o') →
      h'.get? s.heap.objs.size = some { cls := .type "list", dict := none, data := .seq its.toArray c', slots := #[] } → EP X pins σ Q (.ref s.heap.objs.size) { s with heap := h' } := fun its r' hz h' c' kp e =>
    ⟨.ref s.heap.objs.size, _, I.laid (t' := s.toks) kp (Nat.le_refl _) (show ObjOk X.prog X.w _ h' _ (.lst ys) from ⟨hz, its, c', r', e⟩), rfl, q _ (I.hok.fresh (Nat.le_refl _))⟩
  rcases hq with hq | hq
  · obtain ⟨its, r', pl, hz⟩ := I.list hq
    have hlen := r'.length
    obtain ⟨o, ho, hc, n, hd⟩ := pl.isList
    exact call_list_seq p (.inl rfl) ho hc hd (fun h' c' kp e => fin its r' hz h' c' kp e) (by simp only [List.size_toArray] <;> omega)
  · obtain ⟨its, r', pl, hz⟩ := I.tuple hq
    have hlen := r'.length
    obtain ⟨o, ho, hc, n, hd⟩ := pl
    exact call_list_seq p (.inr rfl) ho hc hd (fun h' c' kp e => fin its r' hz h' c' kp e) (by simp only [List.size_toArray] <;> omega)
theorem call_tuple_of : CallR X (.type "tuple") (fun xs H Q => ∃ p ys, xs = [.ref p] ∧ ((SqL X.K H p ys ∧ ∀ l, H l = none → Q (.ref l) (upd H l (.tup ys))) ∨ (SqT X.K H p ys ∧ Q (.ref p) H))) := by
  intro pins s σ H xs us Q I r h
  obtain ⟨p, ys, rfl, h⟩ := h
  obtain ⟨u, rfl, rx⟩ := vals1 r
  cases rx
  rcases h with ⟨hq, q⟩ | ⟨hq, q⟩
  · obtain ⟨its, r', pl, hz⟩ := I.list hq
    have hlen := r'.length
    refine call_tuple_list pl.isList (fun h' kp => ?_) (by simp only [List.size_toArray] <;> omega)
    have I1 : Inv X pins σ H { s with heap := h' } := I.kept (t' := s.toks) kp
    have I2 : Inv X pins σ (upd H h'.objs.size (.tup ys)) { s with heap := h'.push { cls := .type "tuple", data := .seq its.toArray } } :=
      I1.laid (t' := s.toks) (fun b o e => Heap.get?_push_of_some _ e) (Nat.le_refl _) (show ObjOk X.prog X.w _ _ _ (.tup ys) from ⟨hz, its, r', IsTup.new _ _⟩)
    exact ⟨.ref h'.objs.size, _, I2, rfl, q _ (I1.hok.fresh (Nat.le_refl _))⟩
  · obtain ⟨its, r', pl, hz⟩ := I.tuple hq
    exact call_tuple_same pl ⟨.ref p, H, I, rfl, q⟩

def tyV (K : PySem.W.Frag) (T : String) (x : V) (H : Hp) : Prop := match x with
  | .str _ => T = "str"
  | .int _ => T = "int"
  | .ref p => (T = "list" ∧ ∃ xs, SqL K H p xs) ∨ (T = "tuple" ∧ ∃ o, K.lookup p = some o ∧ o.cls = .type "tuple" ∧ o.dict = none) ∨
      (T = "dict" ∧ ((∃ kvs, H p = some (.dK kvs)) ∨ ∃ kvs, H p = some (.dT kvs))) ∨ (T = "set" ∧ ∃ S n, H p = some (.set S n))
  | _ => False
theorem tyV_is {pins : List (Addr × Obj)} {σ : St} {H : Hp} {s : Shared} {T : String} {x : V} {v : Value} (I : Inv X pins σ H s) (r : RelV x v) (ty : tyV X.K T x H) :
    s.TypeIs v T ∧ ∀ a, v = .ref a → ∃ ob, s.heap.get? a = some ob ∧ ob.dict = none := by
  cases x with
  | str z =>
    obtain ⟨t, rfl⟩ := r
    cases (show T = "str" from ty)
    exact ⟨typeIs_str s z t, fun _ e => nomatch e⟩
  | int i =>
    obtain ⟨t, rfl⟩ := r
    cases (show T = "int" from ty)
    exact ⟨typeIs_int s i t, fun _ e => nomatch e⟩
  | ref p =>
    cases r
    rcases ty with ⟨rfl, xs, hq⟩ | ⟨rfl, o, hk, hc, hd⟩ | ⟨rfl, hk⟩ | ⟨rfl, S, n, hk⟩
    · obtain ⟨its, _, pl, _⟩ := I.list hq
      refine ⟨pl.isList.typeIs, fun a e => ?_⟩
      cases e
      obtain ⟨o, n, e, c, hd, _⟩ := pl
      exact ⟨o, e, hd⟩
    · refine ⟨⟨o, I.kIn p o hk, hc⟩, fun a e => ?_⟩
      cases e
      exact ⟨o, I.kIn _ o hk, hd⟩
    · have z : ∃ o, s.heap.get? p = some o ∧ o.ExactDict := by
        rcases hk with ⟨kvs, hk⟩ | ⟨kvs, hk⟩
        · obtain ⟨_, _, _, _, o, _, _, e, ex, _⟩ := I.hok p _ hk
          exact ⟨o, e, ex⟩
        · obtain ⟨_, _, _, _, o, _, _, e, ex, _⟩ := I.hok p _ hk
          exact ⟨o, e, ex⟩
      obtain ⟨o, e, ex⟩ := z
      refine ⟨⟨o, e, ex.1⟩, fun a e2 => ?_⟩
      cases e2
      exact ⟨o, e, ex.2.1⟩
    · obtain ⟨o, _, _, _, e, ex, _⟩ := I.hok p _ hk
      refine ⟨⟨o, e, ex.1⟩, fun a e2 => ?_⟩
      cases e2
      exact ⟨o, e, ex.2.1⟩
  | _ => exact False.elim ty
def tBM0 (K : PySem.W.Frag) (T : String) (r : V → List V → Hp → VK → Prop) (to : TE) : TE := fun σ H Q => to σ H fun x H1 => tyV K T x H1 ∧ r x [] H1 Q
def tBM (K : PySem.W.Frag) (T : String) (r : V → List V → Hp → VK → Prop) (to : TE) (t : TA) : TE := fun σ H Q => to σ H fun x H1 => tyV K T x H1 ∧ t σ H1 fun xs H2 => r x xs H2 Q
variable {o e : Expr} {es : List Expr} {to : TE} {t : TA} {name : Str} {apos cpos : Pos} {T id : String} {r : V → List V → Hp → VK → Prop}
theorem pe_bm0 (pa : PlainAttrs T) (slot : Slot T name id) (hty : typeOf (.builtin id) = pure (.type "method_descriptor")) (hm : MtR X id r) (ho : PE X o to)
    (hbase : attributeBase o name X.env (eval o X.env) = eval o X.env := by rfl) (hline : (apos.endLine == cpos.line) = true := by rfl) : PE X (.Call (.Attribute o name apos) [] [] cpos) (tBM0 X.K T r to) := by
  intro pins s σ H Q I h
  refine wpAny_Call_method0_late hbase hline (thn (ho pins s σ H _ I h) fun v s1 ⟨x, H1, I1, r1, ty, q1⟩ => ?_)
  obtain ⟨h1, h2⟩ := tyV_is I1 r1 ty
  exact ⟨T, id, pa, slot, hty, h1, h2, Calls.callWith_builtin rfl (PySem.evalArgs_none (hm pins s1 σ H1 x [] v [] Q I1 r1 .nil q1))⟩
theorem pe_bm (pa : PlainAttrs T) (slot : Slot T name id) (hty : typeOf (.builtin id) = pure (.type "method_descriptor")) (hm : MtR X id r) (ho : PE X o to) (ha : PA X (e :: es) t)
    (hbase : attributeBase o name X.env (eval o X.env) = eval o X.env := by rfl)
    (hfew : ((backTo cpos (starEach (e :: es) X.env)).all (fun x => !x.1) && (backToKw cpos (keywordEach [] X.env)).all (fun x => x.1.isSome)
      && decide ((e :: es).length + ([] : List Keyword).length + (if ([] : List Keyword).isEmpty then 0 else 1) < 30)) = true := by rfl)
    (hline : (apos.endLine == cpos.line) = true := by rfl) (hs : starEach (e :: es) X.env = (false, eval e X.env) :: starEach es X.env := by rfl) (hplain : (backTo cpos (starEach es X.env)).any (·.1) = false := by rfl) :
    PE X (.Call (.Attribute o name apos) (e :: es) [] cpos) (tBM X.K T r to t) := by
  intro pins s σ H Q I h
  refine wpAny_Call_method_late hbase hfew hline rfl (thn (ho pins s σ H _ I h) fun v s1 ⟨x, H1, I1, r1, ty, q1⟩ => ?_)
  obtain ⟨h1, h2⟩ := tyV_is I1 r1 ty
  refine ⟨T, id, pa, slot, hty, h1, h2, ?_⟩
  have hA := ha cpos pins s1 σ H1 _ I1 q1
  rw [hs] at hA ⊢
  refine Calls.callWith_builtin (by show (false || (backTo cpos (starEach es X.env)).any (·.1)) = false; rw [hplain] <;> rfl) (Calls.evalArgs_plain ?_)
  exact thn hA fun us s2 ⟨vs, H2, I2, r2, q2⟩ => hm pins s2 σ H2 x vs v us Q I2 r1 r2 q2
end
end L2

namespace L2
open PySem PySem.Spec PyProof.Rows

def MtM (X : Cx) (id : String) (r : V → List V → Hp → VK → Prop) : Prop :=
  ∀ (pins : List (Addr × Obj)) (s : Shared) (σ : St) (H : Hp) (x : V) (xs : List V) (v : Value) (us : List Value) (Q : VK), Inv X pins σ H s → RelV x v → Vals xs us → r x xs H Q →
    wpAny (model X.prog X.w) X.A (call (.builtin id) (v :: us)) (EP X pins σ Q) X.xe s

theorem Vals.one : ∀ {x : V} {us : List Value}, Vals [x] us → ∃ u, us = [u] ∧ RelV x u
  | _, _, .cons r .nil => ⟨_, rfl, r⟩
theorem Vals.zero : ∀ {us : List Value}, Vals [] us → us = []
  | _, .nil => rfl
theorem Vals.dropLast {xs : List V} {us : List Value} (h : Vals xs us) : Vals xs.dropLast us.dropLast := by
  induction h with
  | nil => exact .nil
  | cons r t ih =>
    cases t with
    | nil => exact .nil
    | cons q t' => exact .cons r ih
theorem erase_last {α : Type} (l : List α) : l.eraseIdx (l.length - 1) = l.dropLast := by
  induction l with
  | nil => rfl
  | cons a r ih =>
    cases r with
    | nil => rfl
    | cons b r =>
      have e : (a :: b :: r).length - 1 = ((b :: r).length - 1) + 1 := by
        have h1 : (a :: b :: r).length = r.length + 2 := rfl
        have h2 : (b :: r).length = r.length + 1 := rfl
        omega
      rw [e, List.eraseIdx_cons_succ, ih]
      all_goals rfl
section
variable {X : Cx} {pins : List (Addr × Obj)} {σ : St} {H : Hp} {s : Shared} {l b : Addr} {xs ys zs : List V}

theorem Inv.lset {its its' : List Value} {n : Nat} {f : Array Value → Array Value} {t' : Nat} (I : Inv X pins σ H s) (hH : H l = some (.lst xs))
    (e : s.heap.get? l = some { cls := .type "list", data := .seq its.toArray n }) (hf : f its.toArray = its'.toArray) (hv : Vals ys its') (hz : ys.length ≤ sizeLine) :
    Inv X pins σ (upd H l (.lst ys)) { s with heap := s.heap.update l (Obj.mapSeq f), toks := t' } := by
  have q := PySem.IsL.update e f
  rw [hf] at q
  refine I.write (x := l) (e := l) (by rw [hH]; exact trivial) (.inl rfl) (fun b' u hb hu => (Heap.get?_update_other s.heap (Obj.mapSeq f) (Ne.symm hb)).trans hu) ⟨_, q⟩ ?_
  exact ⟨hz, its', _, hv, q⟩
theorem Inv.lnew {its : List Value} {t' : Nat} (I : Inv X pins σ H s) (hv : Vals ys its) (hz : ys.length ≤ sizeLine) :
    Inv X pins σ (upd H s.heap.objs.size (.lst ys)) { s with heap := s.heap.push { cls := .type "list", data := .seq its.toArray }, toks := t' } :=
  I.laid (fun _ _ q => Heap.get?_push_of_some _ q) (Nat.le_refl _) ⟨hz, its, 0, hv, Heap.get?_push_size _ rfl⟩
theorem Inv.fresh (I : Inv X pins σ H s) : H s.heap.objs.size = none := I.hok.fresh (Nat.le_refl _)
theorem Inv.lstM (I : Inv X pins σ H s) (hH : H l = some (.lst xs)) : xs.length ≤ sizeLine ∧ ∃ (its : List Value) (n : Nat), Vals xs its ∧ xs.length = its.length ∧ s.heap.get? l = some { cls := .type "list", data := .seq its.toArray n } := by
  obtain ⟨z, its, n, r, e⟩ := I.hok l _ hH
  exact ⟨z, its, n, r, r.length, e⟩

theorem notLongL {n : Nat} (h : n ≤ sizeLine) : Builtin.List.listTooLong n = false := by
  unfold Builtin.List.listTooLong
  exact decide_eq_false (by omega)
end

section
variable {X : Cx}

def rAppend : V → List V → Hp → VK → Prop := fun x vs H Q => ∃ l xs y, x = .ref l ∧ vs = [y] ∧ H l = some (.lst xs) ∧ xs.length < sizeLine ∧ Q .non (upd H l (.lst (xs ++ [y])))
theorem mt_append : MtM X "list.append" rAppend := by
  intro pins s σ H x vs v us Q I rx rv h
  obtain ⟨l, xs, y, rfl, rfl, hH, hz, q⟩ := h
  cases rx
  obtain ⟨u, rfl, ru⟩ := rv.one
  obtain ⟨z, its, n, r, hl, e⟩ := I.lstM hH
  refine call_meets F.slot_list_append ⟨_, e, rfl⟩ F.entry_list_append (F.args_list_append_2 _ _) (PySem.list_append l its.toArray n u (by rw [List.size_toArray]; omega)) ⟨e, ?_⟩
  refine ⟨.non, _, I.lset (its' := its ++ [u]) hH e (by simp) (r.append (.cons ru .nil)) ?_, rfl, q⟩
  rw [List.length_append, List.length_singleton]
  omega

def rExtend : V → List V → Hp → VK → Prop := fun x vs H Q => ∃ l b xs zs, x = .ref l ∧ vs = [.ref b] ∧ H l = some (.lst xs) ∧ H b = some (.lst zs) ∧ xs.length + zs.length ≤ sizeLine ∧ Q .non (upd H l (.lst (xs ++ zs)))
theorem mt_extend : MtM X "list.extend" rExtend := by
  intro pins s σ H x vs v us Q I rx rv h
  obtain ⟨l, b, xs, zs, rfl, rfl, hH, hB, hz, q⟩ := h
  cases rx
  obtain ⟨u, rfl, ru⟩ := rv.one
  cases ru
  obtain ⟨z, its, n, r, hl, e⟩ := I.lstM hH
  obtain ⟨z2, its2, n2, r2, hl2, e2⟩ := I.lstM hB
  have hsz : its.toArray.size + its2.toArray.size ≤ sizeLine := by rw [List.size_toArray, List.size_toArray]; omega
  have hlong : ¬ (!its.toArray.isEmpty && Builtin.List.listTooLong (its.toArray.size + its2.toArray.size)) = true := by
    rw [notLongL hsz, Bool.and_false]
    exact Bool.false_ne_true
  refine call_meets F.slot_list_extend ⟨_, e, rfl⟩ F.entry_list_extend (F.args_list_extend_2 _ _)
    (AutoSeq1.list_extend_list_list_0 l its.toArray n b its2.toArray n2 hlong (by rw [List.size_toArray]; omega) (by omega)) ⟨e, e2, ?_⟩
  refine ⟨.non, _, I.lset (its' := its ++ its2) hH e (by simp) (r.append r2) ?_, rfl, q⟩
  rw [List.length_append]
  omega

def rPop : V → List V → Hp → VK → Prop := fun x vs H Q => ∃ l xs y, x = .ref l ∧ vs = [] ∧ H l = some (.lst xs) ∧ xs[xs.length - 1]? = some y ∧ Q y (upd H l (.lst xs.dropLast))
theorem mt_pop : MtM X "list.pop" rPop := by
  intro pins s σ H x vs v us Q I rx rv h
  obtain ⟨l, xs, y, rfl, rfl, hH, hy, q⟩ := h
  cases rx
  have hus := rv.zero
  subst hus
  obtain ⟨z, its, n, r, hl, e⟩ := I.lstM hH
  obtain ⟨u, hu, ru⟩ := r.get hy
  have hy' : its.toArray[its.toArray.size - 1]? = some u := by
    show its.toArray[its.length - 1]? = some u
    rw [← Array.getElem?_toList, ← hl]
    exact hu
  refine call_meets F.slot_list_pop ⟨_, e, rfl⟩ F.entry_list_pop (F.args_list_pop_1 _) (MeetsSeq.list_pop_last l its.toArray n u hy' (by rw [List.size_toArray]; omega)) ⟨e, ?_⟩
  refine ⟨y, _, I.lset (its' := its.dropLast) hH e ?_ r.dropLast ?_, ru, q⟩
  · show its.toArray.eraseIdxIfInBounds (its.toArray.size - 1) = its.dropLast.toArray
    rw [List.size_toArray, List.eraseIdxIfInBounds_toArray, erase_last]
  · rw [List.length_dropLast]
    omega

def rPopAt : V → List V → Hp → VK → Prop := fun x vs H Q => ∃ l xs i k y, x = .ref l ∧ vs = [.int i] ∧ H l = some (.lst xs) ∧ -(2 ^ 63) ≤ i ∧ i < 2 ^ 63 ∧ seqIndex? i xs.length = some k ∧ xs[k]? = some y ∧ Q y (upd H l (.lst (xs.eraseIdx k)))
def rReverse : V → List V → Hp → VK → Prop := fun x vs H Q => ∃ l xs, x = .ref l ∧ vs = [] ∧ H l = some (.lst xs) ∧ Q .non (upd H l (.lst xs.reverse))
def rClear : V → List V → Hp → VK → Prop := fun x vs H Q => ∃ l xs, x = .ref l ∧ vs = [] ∧ H l = some (.lst xs) ∧ Q .non (upd H l (.lst []))
def rCat : R2 := fun x y H Q => ∃ l b xs zs, x = .ref l ∧ y = .ref b ∧ H l = some (.lst xs) ∧ H b = some (.lst zs) ∧ xs.length + zs.length ≤ sizeLine ∧ ∀ p, H p = none → Q (.ref p) (upd H p (.lst (xs ++ zs)))
theorem op_cat : OpR X (binaryOp .Add) rCat := by
  intro pins s σ H x y v u Q I rx ry h
  obtain ⟨l, b, xs, zs, rfl, rfl, hH, hB, hz, q⟩ := h
  cases rx
  cases ry
  obtain ⟨z, its, n, r, hl, e⟩ := I.lstM hH
  obtain ⟨z2, its2, n2, r2, hl2, e2⟩ := I.lstM hB
  refine PySem.P.add_list e e2 ?_ (by rw [List.size_toArray, List.size_toArray]; omega)
  have ea : its.toArray ++ its2.toArray = (its ++ its2).toArray := by simp
  rw [ea]
  exact ⟨.ref _, _, I.lnew (t' := s.toks) (r.append r2) (by rw [List.length_append]; omega), rfl, q _ I.fresh⟩
def rRep : R2 := fun x y H Q => ∃ l k xs, x = .ref l ∧ y = .int k ∧ H l = some (.lst xs) ∧ -(2 ^ 63) ≤ k ∧ k < 2 ^ 63 ∧ xs.length * k.toNat ≤ sizeLine ∧
  ∀ p, H p = none → Q (.ref p) (upd H p (.lst (List.replicate k.toNat xs).flatten))
end

section
variable {prog : Program} {w : World} {A : Around} {E : Value → Shared → Prop} {s : Shared}
end

section
variable {X : Cx}
end
end L2

namespace L2
open PySem PySem.Spec PyProof.Rows

theorem vals_of_ints : ∀ {us : List Value} {ns : List Int}, IntsAre us ns → Vals (ns.map V.int) us
  | _, _, .nil => by rw [List.map_nil]; exact Paired.nil
  | _, _, .cons n t h => by rw [List.map_cons]; exact Paired.cons (show RelV (V.int n) (Value.int n t) from ⟨t, rfl⟩) (vals_of_ints h)
section
variable {prog : Program} {w : World} {A : Around} {E : Value → Shared → Prop} {s : Shared} {l : Addr} {its : List Value} {ns : List Int} {Q : Value → Shared → Prop}
end

section
variable {X : Cx}
def rSum (K : PySem.W.Frag) : List V → Hp → VK → Prop := fun vs H Q => ∃ (a : Addr) (ns : List Int), vs = [V.ref a] ∧ SqL K H a (ns.map V.int) ∧ Q (.int ns.sum) H
def rMax (K : PySem.W.Frag) : List V → Hp → VK → Prop := fun vs H Q => ∃ (a : Addr) (ns : List Int), vs = [V.ref a] ∧ SqL K H a (ns.map V.int) ∧ 0 < ns.length ∧ ∀ m, m ∈ ns → (∀ y, y ∈ ns → y ≤ m) → Q (.int m) H
def rMin (K : PySem.W.Frag) : List V → Hp → VK → Prop := fun vs H Q => ∃ (a : Addr) (ns : List Int), vs = [V.ref a] ∧ SqL K H a (ns.map V.int) ∧ 0 < ns.length ∧ ∀ m, m ∈ ns → (∀ y, y ∈ ns → m ≤ y) → Q (.int m) H
def rSorted (K : PySem.W.Frag) : List V → Hp → VK → Prop := fun vs H Q => ∃ (a : Addr) (ns : List Int), vs = [V.ref a] ∧ SqL K H a (ns.map V.int) ∧ ns.length < 64 ∧
  ∀ (ns' : List Int) (p : Addr), ns'.Perm ns → ns'.Pairwise (· ≤ ·) → H p = none → Q (.ref p) (upd H p (.lst (ns'.map V.int)))
def rSortedS (K : PySem.W.Frag) : List V → Hp → VK → Prop := fun vs H Q => ∃ (a : Addr) (xs : List Str), vs = [V.ref a] ∧ SqL K H a (xs.map V.str) ∧ xs.length < 64 ∧
  ∀ (ys : List Str) (p : Addr), ys.Perm xs → sortedS ys = true → H p = none → Q (.ref p) (upd H p (.lst (ys.map V.str)))
def rSort : V → List V → Hp → VK → Prop := fun x xs H Q => ∃ (a : Addr) (ns : List Int), x = V.ref a ∧ xs = [] ∧ H a = some (.lst (ns.map V.int)) ∧ ns.length < 64 ∧
  ∀ ns' : List Int, ns'.Perm ns → ns'.Pairwise (· ≤ ·) → Q .non (upd H a (.lst (ns'.map V.int)))
end

section
variable {X : Cx}
def rIndex (K : PySem.W.Frag) : V → List V → Hp → VK → Prop := fun x xs H Q => ∃ (a : Addr) (ys : List V) (y : V) (j : Nat) (z : V), x = V.ref a ∧ xs = [y] ∧ SqL K H a ys ∧ flatV y = true ∧ ys.all flatV = true ∧ ys[j]? = some z ∧ eqV z y = true ∧
  (∀ (m : Nat) (z' : V), m < j → ys[m]? = some z' → eqV z' y = false) ∧ Q (.int (j : Nat)) H
end

section
variable {X : Cx}
end

section
variable {X : Cx}
def rAny (K : PySem.W.Frag) : List V → Hp → VK → Prop := fun vs H Q => ∃ (a : Addr) (bs : List Bool), vs = [V.ref a] ∧ SqL K H a (bs.map V.bl) ∧ Q (.bl (bs.any id)) H
def rAll (K : PySem.W.Frag) : List V → Hp → VK → Prop := fun vs H Q => ∃ (a : Addr) (bs : List Bool), vs = [V.ref a] ∧ SqL K H a (bs.map V.bl) ∧ Q (.bl (bs.all id)) H
end

mutual
inductive Dp (K : PySem.W.Frag) (H : Hp) : V → PyData → Prop
  | non : Dp K H .non .none
  | bl (b : Bool) : Dp K H (.bl b) (.bool b)
  | int (i : Int) : Dp K H (.int i) (.int i)
  | str (x : Str) : Dp K H (.str x) (.str x)
  | lst {a : Addr} {xs : List V} {ds : List PyData} : SqL K H a xs → DpAll K H xs ds → Dp K H (.ref a) (.list ds)
  | tup {a : Addr} {xs : List V} {ds : List PyData} : SqT K H a xs → DpAll K H xs ds → Dp K H (.ref a) (.tuple ds)
inductive DpAll (K : PySem.W.Frag) (H : Hp) : List V → List PyData → Prop
  | nil : DpAll K H [] []
  | cons {v : V} {vs : List V} {d : PyData} {ds : List PyData} : Dp K H v d → DpAll K H vs ds → DpAll K H (v :: vs) (d :: ds)
end
section
variable {X : Cx} {pins : List (Addr × Obj)} {σ : St} {H : Hp} {s : Shared}
mutual
theorem Dp.reads (I : Inv X pins σ H s) : ∀ (d : PyData) (v : V) (u : Value), Dp X.K H v d → RelV v u → ∃ as, Reads s.heap u d as
  | .none, _, _, h, r => by
    cases h
    cases r
    exact ⟨_, Reads.none⟩
  | .bool b, _, _, h, r => by
    cases h
    cases r
    exact ⟨_, Reads.bool b⟩
  | .int i, _, _, h, r => by
    cases h
    obtain ⟨t, rfl⟩ := r
    exact ⟨_, Reads.int i t⟩
  | .str x, _, _, h, r => by
    cases h
    obtain ⟨t, rfl⟩ := r
    exact ⟨_, Reads.str x t⟩
  | .list ds, _, _, h, r => by
    cases h with
    | lst hs ha =>
      cases r
      obtain ⟨its, rv, ⟨o, n, ho, hc, _, hd⟩, _⟩ := I.list hs
      obtain ⟨as, hr⟩ := Dp.readsAll I ds _ its ha rv
      exact ⟨_, Reads.list ho hc hd hr⟩
  | .tuple ds, _, _, h, r => by
    cases h with
    | tup hs ha =>
      cases r
      obtain ⟨its, rv, ⟨o, ho, hc, n, hd⟩, _⟩ := I.tuple hs
      obtain ⟨as, hr⟩ := Dp.readsAll I ds _ its ha rv
      exact ⟨_, Reads.tuple ho hc hd hr⟩
  | .dict _, _, _, h, _ => by cases h
theorem Dp.readsAll (I : Inv X pins σ H s) : ∀ (ds : List PyData) (vs : List V) (us : List Value), DpAll X.K H vs ds → Vals vs us → ∃ as, ReadsAll s.heap us ds as
  | [], _, _, h, r => by
    cases h
    cases r
    exact ⟨_, ReadsAll.nil⟩
  | d :: ds, _, _, h, r => by
    cases h with
    | cons h1 h2 =>
      cases r with
      | cons r1 r2 =>
        obtain ⟨as, q1⟩ := Dp.reads I d _ _ h1 r1
        obtain ⟨bs, q2⟩ := Dp.readsAll I ds _ _ h2 r2
        exact ⟨_, ReadsAll.cons q1 q2⟩
end
end
section
variable {X : Cx}
def rEqD (K : PySem.W.Frag) : R2 := fun x y H Q => ∃ d e, Dp K H x d ∧ Dp K H y e ∧ SeqAt.shaped d = true ∧ SeqAt.shaped e = true ∧ Q (.bl (PyData.eqv d e)) H
def rNeD (K : PySem.W.Frag) : R2 := fun x y H Q => ∃ d e, Dp K H x d ∧ Dp K H y e ∧ SeqAt.shaped d = true ∧ SeqAt.shaped e = true ∧ Q (.bl (!PyData.eqv d e)) H
theorem op_eqD (hu : X.A.units + 64 < cLine) : OpR X (compareOp .Eq) (rEqD X.K) := by
  intro pins s σ H x y v u Q I rx ry h
  obtain ⟨d, e, hd, he, sd, se, q⟩ := h
  obtain ⟨as, r1⟩ := Dp.reads I d x v hd rx
  obtain ⟨bs, r2⟩ := Dp.reads I e y u he ry
  exact SeqAt.compareEq_shaped r1 r2 sd se hu ⟨.bl _, H, I, rfl, q⟩
theorem op_neD (hu : X.A.units + 64 < cLine) : OpR X (compareOp .NotEq) (rNeD X.K) := by
  intro pins s σ H x y v u Q I rx ry h
  obtain ⟨d, e, hd, he, sd, se, q⟩ := h
  obtain ⟨as, r1⟩ := Dp.reads I d x v hd rx
  obtain ⟨bs, r2⟩ := Dp.reads I e y u he ry
  exact SeqAt.compareNe_shaped r1 r2 sd se hu ⟨.bl _, H, I, rfl, q⟩
end
end L2

namespace L2
open PySem PySem.Spec PyProof.Rows
abbrev CellAt (h : Heap) (c : Addr) (v : Option Value) : Prop := h.IsCell c v
def relS (scope sc : Scope) : Scope :=
  { scope with names := scope.names.map fun (n, k) => if (k == .free && sc.kind == .function && sc.names.lookup n == some .cell) then (n, .cell) else (n, k) }

def cloFrom (cells : List (Str × Addr)) : List (Str × NameKind) → List (Str × Addr) → List (Str × Addr)
  | [], acc => acc
  | (n, k) :: r, acc => if k == .free then cloFrom cells r ((n, (cells.lookup n).getD 0) :: acc) else cloFrom cells r acc

theorem closure_loop (env : Env) (f : Str × NameKind → List (Str × Addr) → Sem (ForInStep (List (Str × Addr))))
    (hf : ∀ n k c, f (n, k) c = if k == .free then (do let a ← cellOf env n; pure (.yield ((n, a) :: c))) else pure (.yield c)) :
    ∀ (names : List (Str × NameKind)) (acc : List (Str × Addr)), (∀ y ∈ names, y.2 = .free → ∃ c, env.cells.lookup y.1 = some c) → forIn names acc f = pure (cloFrom env.cells names acc)
  | [], acc, _ => by rw [List.forIn_nil]; rfl
  | (n, k) :: r, acc, h => by
    rw [List.forIn_cons, hf]
    have ih := fun acc => closure_loop env f hf r acc fun y hy => h y (List.mem_cons_of_mem _ hy)
    unfold cloFrom
    by_cases hk : (k == NameKind.free) = true
    · rw [if_pos hk, if_pos hk]
      obtain ⟨c, hc⟩ := h (n, k) List.mem_cons_self (by simpa using hk)
      have e : cellOf env n = pure c := by unfold cellOf; rw [hc]
      rw [e]
      have e2 : (env.cells.lookup n).getD 0 = c := by rw [hc]; rfl
      rw [e2]
      exact ih _
    · rw [if_neg hk, if_neg hk]
      exact ih _
theorem closure_ok {scope : Scope} {env : Env} (h : ∀ y ∈ scope.names, y.2 = .free → ∃ c, env.cells.lookup y.1 = some c) : closureFor scope env = pure (cloFrom env.cells scope.names []) := by
  simp only [closureFor]
  rw [closure_loop env _ (fun n k c => rfl) scope.names [] h]
  rfl

theorem mem_lookup {α : Type} : ∀ {l : List (Str × α)} {n : Str} {c : α}, (n, c) ∈ l → ∃ c', l.lookup n = some c'
  | (k, v) :: r, n, c, h => by
    rw [List.lookup_cons]
    cases hb : n == k with
    | true => exact ⟨_, rfl⟩
    | false =>
      rcases List.mem_cons.mp h with e | h
      · cases e; simp at hb
      · exact mem_lookup h

theorem cloFrom_mem {cells : List (Str × Addr)} : ∀ {names : List (Str × NameKind)} {acc : List (Str × Addr)} {n : Str} {c : Addr}, (n, c) ∈ cloFrom cells names acc → (n, c) ∈ acc ∨ ((n, .free) ∈ names ∧ c = (cells.lookup n).getD 0)
  | [], _, _, _, h => .inl h
  | (m, k) :: r, acc, n, c, h => by
    unfold cloFrom at h
    split at h
    · rename_i hk
      have hk : k = .free := by simpa using hk
      rcases cloFrom_mem h with h | ⟨h1, h2⟩
      · rcases List.mem_cons.mp h with e | h
        · cases e; exact .inr ⟨hk ▸ List.mem_cons_self, rfl⟩
        · exact .inl h
      · exact .inr ⟨List.mem_cons_of_mem _ h1, h2⟩
    · rcases cloFrom_mem h with h | ⟨h1, h2⟩
      · exact .inl h
      · exact .inr ⟨List.mem_cons_of_mem _ h1, h2⟩
theorem cloFrom_acc {cells : List (Str × Addr)} : ∀ {names : List (Str × NameKind)} {acc : List (Str × Addr)} {p : Str × Addr}, p ∈ acc → p ∈ cloFrom cells names acc
  | [], _, _, h => h
  | (m, k) :: r, acc, p, h => by
    unfold cloFrom
    split
    · exact cloFrom_acc (List.mem_cons_of_mem _ h)
    · exact cloFrom_acc h
theorem cloFrom_has {cells : List (Str × Addr)} : ∀ {names : List (Str × NameKind)} {acc : List (Str × Addr)} {n : Str}, (n, .free) ∈ names → (n, (cells.lookup n).getD 0) ∈ cloFrom cells names acc
  | (m, k) :: r, acc, n, h => by
    unfold cloFrom
    rcases List.mem_cons.mp h with e | h
    · cases e
      exact cloFrom_acc List.mem_cons_self
    · split
      · exact cloFrom_has h
      · exact cloFrom_has h

theorem cells_mem : ∀ {names : List (Str × NameKind)} {h : Heap} {acc : List (Str × Addr)} {x : Str} {c : Addr}, (x, c) ∈ cellsFrom h.objs.size names acc →
    (x, c) ∈ acc ∨ ((x, .cell) ∈ names ∧ h.objs.size ≤ c ∧ CellAt (pushCells h names) c none)
  | [], _, _, _, _, h => .inl h
  | (n, k) :: r, h, acc, x, c, hm => by
    unfold cellsFrom at hm
    unfold pushCells
    split at hm
    · rename_i hk
      rw [if_pos hk]
      have hk : k = .cell := by simpa using hk
      rw [← Heap.size_push h { cls := .type "cell", data := .cell none }] at hm
      rcases cells_mem hm with hm | ⟨h1, h2, h3⟩
      · rcases List.mem_cons.mp hm with e | hm
        · cases e
          exact .inr ⟨hk ▸ List.mem_cons_self, Nat.le_refl _, _, pushCells_keeps r _ _ _ (Heap.get?_push_size _ rfl), rfl⟩
        · exact .inl hm
      · rw [Heap.size_push] at h2
        exact .inr ⟨List.mem_cons_of_mem _ h1, Nat.le_of_succ_le h2, h3⟩
    · rename_i hk
      rw [if_neg hk]
      rcases cells_mem hm with hm | ⟨h1, h2, h3⟩
      · exact .inl hm
      · exact .inr ⟨List.mem_cons_of_mem _ h1, h2, h3⟩
theorem cells_acc : ∀ {names : List (Str × NameKind)} {n : Nat} {acc : List (Str × Addr)} {p : Str × Addr}, p ∈ acc → p ∈ cellsFrom n names acc
  | [], _, _, _, h => h
  | (m, k) :: r, n, acc, p, h => by
    unfold cellsFrom
    split
    · exact cells_acc (List.mem_cons_of_mem _ h)
    · exact cells_acc h
theorem cells_has : ∀ {names : List (Str × NameKind)} {n : Nat} {acc : List (Str × Addr)} {x : Str}, (x, .cell) ∈ names → ∃ c, (x, c) ∈ cellsFrom n names acc
  | (m, k) :: r, n, acc, x, h => by
    unfold cellsFrom
    rcases List.mem_cons.mp h with e | h
    · cases e
      exact ⟨n, cells_acc List.mem_cons_self⟩
    · split
      · exact cells_has h
      · exact cells_has h
theorem cells_inj : ∀ {names : List (Str × NameKind)} {h : Heap} {acc : List (Str × Addr)} {x y : Str} {c : Addr}, (∀ p ∈ acc, p.2 < h.objs.size) → (∀ x y c, (x, c) ∈ acc → (y, c) ∈ acc → x = y) →
    (x, c) ∈ cellsFrom h.objs.size names acc → (y, c) ∈ cellsFrom h.objs.size names acc → x = y
  | [], _, _, _, _, _, _, hi, h1, h2 => hi _ _ _ h1 h2
  | (n, k) :: r, h, acc, x, y, c, hl, hi, h1, h2 => by
    unfold cellsFrom at h1 h2
    split at h1
    · rename_i hk
      rw [if_pos hk] at h2
      rw [← Heap.size_push h { cls := .type "cell", data := .cell none }] at h1 h2
      refine cells_inj (h := h.push _) (fun p hp => ?_) (fun x y c a b => ?_) h1 h2
      · rw [Heap.size_push]
        rcases List.mem_cons.mp hp with rfl | hp
        · exact Nat.lt_succ_self _
        · exact Nat.lt_succ_of_lt (hl p hp)
      · rcases List.mem_cons.mp a with e | a <;> rcases List.mem_cons.mp b with e' | b
        · cases e; cases e'; rfl
        · cases e; exact absurd (hl _ b) (Nat.lt_irrefl _)
        · cases e'; exact absurd (hl _ a) (Nat.lt_irrefl _)
        · exact hi _ _ _ a b
    · rename_i hk
      rw [if_neg hk] at h2
      exact cells_inj hl hi h1 h2

theorem newEnv_comp {M : Model} {A : Around} {E : Value → Shared → Prop} {s : Shared} {scope : Scope} {globals : Addr} {closure : List (Str × Addr)} {qual : Str} {func : Option Addr} {code : Value} {around : Env} {builtins : Addr} {Q : Env → Shared → Prop}
    (h : Q (newEnv scope s.heap.objs.size globals (cellsFrom (s.heap.objs.size + 1) scope.names closure) qual func code (some around) builtins)
      { s with heap := pushCells (s.heap.push { cls := .type "dict", data := .dict #[] }) scope.names }) :
    wpAny M A (newFunctionEnv scope globals closure [] qual func code (some around) builtins) Q E s := by
  simp only [newFunctionEnv, Option.isSome_some, if_true]
  refine wpAny_bind (wpAny_alloc ?_)
  refine wpAny_bind (wpAny_layCells _ (fun n k c => rfl) scope.names closure _ _ ?_)
  rw [show ({ s with heap := s.heap.push { cls := .type "dict", data := .dict #[] } } : Shared).heap.objs.size = s.heap.objs.size + 1 from Heap.size_push ..]
  rw [List.forIn_nil]
  exact wpAny_bind (wpAny_pure (wpAny_pure h))

theorem lookup_relS {sc : Scope} : ∀ {names : List (Str × NameKind)} {x : Str} {k : NameKind},
    (names.map fun (n, k) => if (k == NameKind.free && sc.kind == .function && sc.names.lookup n == some .cell) then (n, NameKind.cell) else (n, k)).lookup x = some k →
    ∃ k', names.lookup x = some k' ∧ (k = k' ∨ (k' = .free ∧ k = .cell))
  | [], _, _, h => by simp at h
  | (n, k₀) :: r, x, k, h => by
    have ih := @lookup_relS sc r x k
    have h' : List.lookup x ((if (k₀ == NameKind.free && sc.kind == .function && sc.names.lookup n == some .cell) = true then (n, NameKind.cell) else (n, k₀)) :: (r.map _)) = some k := h
    cases hx : x == n with
    | true =>
      simp only [List.lookup_cons, hx]
      by_cases hc : (k₀ == NameKind.free && sc.kind == .function && sc.names.lookup n == some .cell) = true
      · rw [if_pos hc] at h'
        simp only [List.lookup_cons, hx] at h'
        cases h'
        simp only [Bool.and_eq_true, beq_iff_eq] at hc
        exact ⟨k₀, rfl, .inr ⟨hc.1.1, rfl⟩⟩
      · rw [if_neg hc] at h'
        simp only [List.lookup_cons, hx] at h'
        cases h'
        exact ⟨_, rfl, .inl rfl⟩
    | false =>
      simp only [List.lookup_cons, hx]
      by_cases hc : (k₀ == NameKind.free && sc.kind == .function && sc.names.lookup n == some .cell) = true
      · rw [if_pos hc] at h'
        simp only [List.lookup_cons, hx] at h'
        exact ih h'
      · rw [if_neg hc] at h'
        simp only [List.lookup_cons, hx] at h'
        exact ih h'
structure BlkOk (N : List Str) (sc scope : Scope) (own : List (Str × Nat)) : Prop where
  kind : scope.kind = .function
  uniq : ∀ y ∈ scope.names, scope.names.lookup y.1 = some y.2
  ix : ∀ p ∈ own, N[p.2]? = some p.1
  free : ∀ y ∈ scope.names, y.2 = .free → sc.names.lookup y.1 = some .cell ∨ sc.names.lookup y.1 = some .free
  own : ∀ y ∈ scope.names, y.2 = .local ∨ y.2 = .cell → y.1 ∈ own.map (·.1) ∨ y.1 ∉ N
def wipe (σ : St) : List Nat → St
  | [] => σ
  | v :: vs => (wipe σ vs).set v none
theorem wipe_length (σ : St) : ∀ vs : List Nat, (wipe σ vs).length = σ.length
  | [] => rfl
  | v :: vs => by unfold wipe; rw [List.length_set, wipe_length σ vs]
theorem wipe_some {σ : St} {i : Nat} {x : V} : ∀ {vs : List Nat}, (wipe σ vs)[i]? = some (some x) → σ[i]? = some (some x) ∧ i ∉ vs
  | [], h => ⟨h, by simp⟩
  | v :: vs, h => by
    unfold wipe at h
    by_cases hi : v = i
    · subst hi
      by_cases hv : v < (wipe σ vs).length
      · rw [List.getElem?_set_self hv] at h; cases h
      · rw [List.getElem?_eq_none (by simpa using hv)] at h; cases h
    · rw [List.getElem?_set_ne hi] at h
      obtain ⟨h1, h2⟩ := wipe_some h
      exact ⟨h1, by simp only [List.mem_cons, not_or]; exact ⟨fun e => hi e.symm, h2⟩⟩

abbrev Cx.blk (X : Cx) (s : Shared) (H : Hp) (scope : Scope) (cenv : Env) (fp : List Addr) : Cx := { X with s_0 := s, H_0 := H, env := cenv, outer := X.stack, ex := fp, fn := fun x => scope.names.lookup x == some .cell, pn := [], xe := fun _ _ => False }
section
variable {X : Cx} {pins : List (Addr × Obj)} {σ : St} {H : Hp} {s : Shared}
theorem block_start {scope : Scope} {own : List (Str × Nat)} {fp : List Addr} (I : Inv X pins σ H s) (ok : BlkOk X.N X.env.scope scope own) (hN : X.N.Nodup) (hfp : ∀ b ∈ fp, FpOk X pins H b ∧ b < s.heap.objs.size) :
    Inv (X.blk s H scope (compEnvC scope (cellsFrom (s.heap.objs.size + 1) scope.names (cloFrom X.env.cells scope.names [])) s.heap.objs.size X.env) fp) [] (wipe σ (own.map (·.2))) H { s with heap := pushCells (s.heap.push { cls := .type "dict", data := .dict #[] }) scope.names } := by
  have hfree : ∀ y ∈ scope.names, y.2 = .free → ∃ c, X.env.cells.lookup y.1 = some c := fun y hy e => by
    rcases ok.free y hy e with k | k
    · exact I.ok.has _ (.inl k)
    · exact I.ok.has _ (.inr k)
  generalize hcenv : compEnvC scope (cellsFrom (s.heap.objs.size + 1) scope.names (cloFrom X.env.cells scope.names [])) s.heap.objs.size X.env = cenv
  have kp : ∀ b o, s.heap.get? b = some o → (pushCells (s.heap.push { cls := .type "dict", data := .dict #[] }) scope.names).get? b = some o := fun b o e => pushCells_keeps _ _ _ _ (Heap.get?_push_of_some _ e)
  have hL : cenv.locals = s.heap.objs.size := by rw [← hcenv]; rfl
  have hcl : cenv.cells = cellsFrom (s.heap.objs.size + 1) scope.names (cloFrom X.env.cells scope.names []) := by rw [← hcenv]; rfl
  have hsc : cenv.scope = relS scope X.env.scope := by rw [← hcenv]; rfl
  rw [← Heap.size_push s.heap { cls := .type "dict", data := .dict #[] }] at hcl
  have cm : ∀ {y c}, (y, c) ∈ cloFrom X.env.cells scope.names [] → X.env.cells.lookup y = some c ∧ c < s.heap.objs.size := fun {y c} hm => by
    rcases cloFrom_mem hm with hm | ⟨h1, rfl⟩
    · cases hm
    · obtain ⟨c, hc⟩ := hfree _ h1 rfl
      rw [hc]
      obtain ⟨w, z⟩ := I.cell _ _ hc
      exact ⟨rfl, z.lt⟩
  have mem : ∀ {y c}, cenv.cells.lookup y = some c → (X.env.cells.lookup y = some c ∧ c < s.heap.objs.size) ∨ (s.heap.objs.size + 1 ≤ c ∧ CellAt (pushCells (s.heap.push { cls := .type "dict", data := .dict #[] }) scope.names) c none) := fun {y c} e => by
    rw [hcl] at e
    rcases cells_mem (PySem.mem_of_lookup e) with hm | ⟨_, h2, h3⟩
    · exact .inl (cm hm)
    · rw [Heap.size_push] at h2; exact .inr ⟨h2, h3⟩
  have look : ∀ {y}, scope.names.lookup y = some .free → ∃ c, cenv.cells.lookup y = some c ∧ X.env.cells.lookup y = some c := fun {y} hl => by
    have hy : (y, NameKind.free) ∈ scope.names := PySem.mem_of_lookup hl
    obtain ⟨c', e'⟩ := mem_lookup (cells_acc (names := scope.names) (n := (s.heap.push { cls := .type "dict", data := .dict #[] }).objs.size) (cloFrom_has (cells := X.env.cells) (acc := []) hy))
    rw [← hcl] at e'
    refine ⟨c', e', ?_⟩
    rw [hcl] at e'
    rcases cells_mem (PySem.mem_of_lookup e') with hm | ⟨h1, _, _⟩
    · exact (cm hm).1
    · have := ok.uniq _ h1
      rw [hl] at this; cases this
  have okB : (X.blk s H scope cenv fp).Ok := by
    refine ⟨I.ok.mod, by show cenv.scope.kind = _; rw [hsc]; exact ok.kind, by show cenv.globals = _; rw [← hcenv]; exact I.ok.glob, by show cenv.builtins = _; rw [← hcenv]; exact I.ok.blt, by show s.heap.objs.size ≤ cenv.locals; rw [hL]; exact Nat.le_refl _,
      fun y z c e1 e2 => ?_, fun y hy => ?_, fun y c z e => ?_, I.ok.hd, I.ok.frames, .inl rfl, fun b hb => ⟨?_, fun y c e z => ?_⟩, I.bs, Nat.le_trans I.ok.bsz I.sz, fun b o e hb => ?_, fun b hb z => ?_, I.stack, I.stkFree⟩
    · have e1 : cenv.cells.lookup y = some c := e1
      have e2 : cenv.cells.lookup z = some c := e2
      rw [hcl] at e1 e2
      refine cells_inj (fun p hp => ?_) (fun y z c a b => I.ok.inj y z c (cm a).1 (cm b).1) (PySem.mem_of_lookup e1) (PySem.mem_of_lookup e2)
      rw [Heap.size_push]
      exact Nat.lt_succ_of_lt (cm (y := p.1) (c := p.2) hp).2
    · show ∃ c, cenv.cells.lookup y = some c
      have key : ∀ k, cenv.kindOf y = some k → (k = .cell ∨ k = .free) → ∃ c, cenv.cells.lookup y = some c := fun k hk hk' => by
        unfold Env.kindOf at hk
        rw [hsc] at hk
        obtain ⟨k', e, r⟩ := lookup_relS hk
        have : k' = .cell ∨ k' = .free := by
          rcases r with rfl | ⟨rfl, _⟩
          · exact hk'
          · exact .inr rfl
        rcases this with rfl | rfl
        · obtain ⟨c, hm⟩ := cells_has (n := (s.heap.push { cls := .type "dict", data := .dict #[] }).objs.size) (acc := cloFrom X.env.cells scope.names []) (PySem.mem_of_lookup e)
          obtain ⟨c', e'⟩ := mem_lookup hm
          exact ⟨c', by rw [hcl]; exact e'⟩
        · obtain ⟨c, h1, _⟩ := look e
          exact ⟨c, h1⟩
      rcases hy with hy | hy
      · exact key _ hy (.inl rfl)
      · exact key _ hy (.inr rfl)
    · have z : (scope.names.lookup y == some NameKind.cell) = true := z
      have z : scope.names.lookup y = some .cell := by simpa using z
      have e : cenv.cells.lookup y = some c := e
      rw [hcl] at e
      rcases cells_mem (PySem.mem_of_lookup e) with hm | ⟨_, h2, _⟩
      · rcases cloFrom_mem hm with hm | ⟨h1, _⟩
        · cases hm
        · have q := ok.uniq _ h1
          rw [z] at q; cases q
      · rw [Heap.size_push] at h2
        exact Nat.le_of_succ_le h2
    · show b ≠ cenv.locals
      rw [hL]; exact Nat.ne_of_lt (hfp b hb).2
    · have e : cenv.cells.lookup y = some c := e
      rcases mem e with ⟨h1, _⟩ | ⟨h1, _⟩
      · exact (hfp b hb).1.2.2.2.2.1 y c h1 z
      · have h2 : s.heap.objs.size + 1 ≤ b := by rw [← z]; exact h1
        exact absurd (Nat.lt_of_lt_of_le (hfp b hb).2 (Nat.le_of_succ_le h2)) (Nat.lt_irrefl _)
    · rcases (hfp b hb).1.2.2.2.1 with z | z
      · exact I.ok.noex b o e z
      · exact absurd (Nat.lt_of_lt_of_le (Heap.lt_size e) (Nat.le_trans I.ok.bsz z)) (Nat.lt_irrefl _)
    · rcases List.mem_cons.mp (I.stkSub b z) with z | z
      · exact (hfp b hb).1.2.1 z
      · exact (hfp b hb).1.2.2.1 z
  refine ⟨okB, rfl, I.bare, Un.kept kp, ⟨fun _ => none, ?_, fun i y av e1 e2 e3 => ?_⟩, fun y c e => ?_, ?_, fun y c e => ?_, fun p hp => ?_, I.hok.kept kp, by rw [wipe_length]; exact I.len⟩
  · show Heap.Ns _ cenv.locals _
    rw [hL]
    exact Heap.Ns.keeps (Heap.Ns.new ..) fun b o e => pushCells_keeps _ _ _ _ e
  · obtain ⟨e2, hne⟩ := wipe_some e2
    have hfr : scope.names.lookup y = some .free ∧ (cenv.kindOf y = some .cell ∨ cenv.kindOf y = some .free) := by
      have key : ∀ k, cenv.scope.names.lookup y = some k → k = .local ∨ k = .cell ∨ k = .free → scope.names.lookup y = some .free ∧ (cenv.kindOf y = some .cell ∨ cenv.kindOf y = some .free) := fun k hk hk' => by
        have hk0 := hk
        rw [hsc] at hk
        obtain ⟨k', e, r⟩ := lookup_relS hk
        have no : ¬ (k' = .local ∨ k' = .cell) := fun hh => by
          rcases ok.own _ (PySem.mem_of_lookup e) hh with e' | e'
          · obtain ⟨p, hp, hpy⟩ := List.mem_map.mp e'
            have e3 := ok.ix p hp
            have : p.1 = y := hpy
            rw [this] at e3
            exact hne (List.mem_map.mpr ⟨p, hp, nodup_ix hN e3 e1⟩)
          · exact e' (List.mem_of_getElem? e1)
        rcases r with rfl | ⟨rfl, rfl⟩
        · rcases hk' with rfl | rfl | rfl
          · exact absurd (.inl rfl) no
          · exact absurd (.inr rfl) no
          · exact ⟨e, .inr hk0⟩
        · exact ⟨e, .inl hk0⟩
      have e3 : Vis cenv.scope y := e3
      rcases e3 with e3 | e3 | e3
      · exact key _ e3 (.inl rfl)
      · exact key _ e3 (.inr (.inl rfl))
      · exact key _ e3 (.inr (.inr rfl))
    obtain ⟨m, hn, hl⟩ := I.loc
    have hvis : Vis X.env.scope y := (ok.free _ (PySem.mem_of_lookup hfr.1) rfl).elim (fun k => .inr (.inl k)) (fun k => .inr (.inr k))
    obtain ⟨w, r, q⟩ := hl i y av e1 e2 hvis
    refine ⟨w, r, .inr ⟨hfr.2, ?_⟩⟩
    obtain ⟨c, h1, h2⟩ := look hfr.1
    rcases q with ⟨k, _⟩ | ⟨_, c', e', z⟩
    · have k : X.env.scope.names.lookup y = some .local := k
      rcases ok.free _ (PySem.mem_of_lookup hfr.1) rfl with k' | k' <;> rw [show X.env.scope.names.lookup y = _ from k'] at k <;> cases k
    · rw [h2] at e'; cases e'
      exact ⟨c, h1, z.keeps kp⟩
  · have e : cenv.cells.lookup y = some c := e
    rcases mem e with ⟨h1, _⟩ | ⟨_, z⟩
    · obtain ⟨w, z⟩ := I.cell y c h1
      exact ⟨w, z.keeps kp⟩
    · exact ⟨_, z⟩
  · show H cenv.locals = none
    rw [hL]; exact I.hok.fresh (Nat.le_refl _)
  · have e : cenv.cells.lookup y = some c := e
    rcases mem e with ⟨h1, _⟩ | ⟨h1, _⟩
    · exact I.freeC y c h1
    · exact I.hok.fresh (Nat.le_of_succ_le h1)
  · exact absurd (show p ∈ ([] : List (Addr × Obj)) ++ [] from hp) (by simp)

theorem app_ok {E : Value → Shared → Prop} {D : Addr} {xs : List V} {y : V} {v : Value} {Q : Value → Shared → Prop} (I : Inv X pins σ H s) (hD : H D = some (.lst xs)) (hz : xs.length < sizeLine) (r : RelV y v)
    (h : ∀ s', Inv X pins σ (upd H D (.lst (xs ++ [y]))) s' → Q .none s') : wpAny (model X.prog X.w) X.A (call (.builtin "list.append") [.ref D, v]) Q E s := by
  obtain ⟨hz', its, n, ri, e⟩ := I.hok D _ hD
  have hl := ri.length
  refine append_at (hsz := by rw [List.size_toArray]; omega) e fun h' sb ho' => ?_
  refine h { s with heap := h' } (I.write (t' := s.toks) (by rw [hD]; trivial) (.inl rfl) (fun b u hb q => (sb.2 b hb).trans q) ⟨_, ho'⟩ ⟨by rw [List.length_append]; exact hz, its ++ [v], n + 1, ri.append (.cons r .nil), ?_⟩)
  rw [ho']
  simp

def PTs (X : Cx) (ifs : List Expr) (t : TT) : Prop :=
  ∀ (pins : List (Addr × Obj)) (s : Shared) (σ : St) (H : Hp) (Q : Bool → Hp → Prop), Inv X pins σ H s → t σ H Q →
    wpAny (model X.prog X.w) X.A (forIn ifs true fun c r => if r = true then do let ok ← isTrue c X.env (eval c X.env); pure (ForInStep.yield ok) else pure (ForInStep.yield r)) (TP X pins σ Q) X.xe s
def tYes : TT := fun _ H Q => Q true H
theorem pts_nil : PTs X [] tYes := fun _ _ _ H _ I h => wpAny_tests_nil ⟨H, I, h⟩
end

theorem thnF {α : Type} {t : Sem α} {Q Q' : α → Shared → Prop} {M : Model} {A : Around} {E : Value → Shared → Prop} {s : Shared} (h : wpAny M A t Q (fun _ _ => False) s) (hQ : ∀ a s, Q a s → Q' a s) : wpAny M A t Q' E s := wpAny_mono h hQ fun _ _ z => False.elim z

theorem compLoop_any {prog : Program} {w : World} {A : Around} {R : Result → Shared → Prop} {s : Shared} {elt target iter : Expr} {ifs : List Expr} {scope : Scope} {pos : Pos} {it acc : Value} {env : Env} (I : Nat → Shared → Prop)
    (turn : ∀ n s, I n s → wpAny (model prog w) A (pyNext it) (fun r s₁ => match r with
      | none => R (.ok .next) s₁
      | some v => wpAny (model prog w) A (letOwnedTupleGo target it v) (fun _ s₁' => wpAny (model prog w) A (assign target env v) (fun _ s₂ =>
          wpAny (model prog w) A (forIn ifs true fun c r => if r = true then do let ok ← isTrue c env (eval c env); pure (ForInStep.yield ok) else pure (ForInStep.yield r)) (fun ok s₃ =>
            if ok = true then wpAny (model prog w) A (eval elt env) (fun x s₄ =>
              wpAny (model prog w) A (call (.builtin "list.append") [acc, x]) (fun _ s₅ => ∃ m, m < n ∧ I m s₅) (notedBy (model prog w) A env fun e s' => R (.error e) s') s₄) (notedBy (model prog w) A env fun e s' => R (.error e) s') s₃
            else ∃ m, m < n ∧ I m s₃) (notedBy (model prog w) A env fun e s' => R (.error e) s') s₂) (notedBy (model prog w) A env fun e s' => R (.error e) s') s₁') (notedBy (model prog w) A env fun e s' => R (.error e) s') s₁) (notedBy (model prog w) A env fun e s' => R (.error e) s') s)
    (n : Nat) (h : I n s) :
    codeAny (model prog w) A (.compLoop (.ListComp elt [⟨target, iter, ifs, 0⟩] scope pos) 0 it acc env) R s := by
  refine codeAny_loop rfl I (fun n s hI => ?_) n h
  show wpAny _ A ((compTurn (.ListComp elt [⟨target, iter, ifs, 0⟩] scope pos) 0 it acc env).onRaise (fun x => do noteFrame x env; theTreesLotGoes x)) _ _ s
  refine wpAny_noted ?_
  rw [compTurn_list]
  refine wpAny_bind (wpAny_standAt (wpAny_bind (wpAny_mono (turn n s hI) (fun r s₁ h₁ => ?_) fun _ _ h' => h')))
  cases r with
  | none => exact wpAny_pure h₁
  | some v =>
    refine wpAny_bind (wpAny_mono h₁ (fun _ s₁' h₁' => ?_) fun _ _ h' => h')
    refine wpAny_bind (wpAny_mono h₁' (fun _ s₂ h₂ => wpAny_bind (wpAny_mono h₂ (fun ok s₃ h₃ => ?_) fun _ _ h' => h')) fun _ _ h' => h')
    cases ok with
    | false => exact wpAny_pure ⟨rfl, h₃⟩
    | true =>
      exact wpAny_bind (wpAny_bind (wpAny_mono h₃ (fun x s₄ h₄ => wpAny_bind (wpAny_mono h₄ (fun _ s₅ h₅ => wpAny_pure (wpAny_pure ⟨rfl, h₅⟩)) fun _ _ h' => h')) fun _ _ h' => h'))

section
variable {X : Cx}
def tLc (wi : TI) (g : TG) (tt : TT) (te : TE) (vs : List Nat) : TE := fun σ H Q => wi σ H fun J H1 => ∀ D, H1 D = none → ∃ W : Nat → Nat → Hp → Prop, (∃ m, W 0 m (upd H1 D (.lst []))) ∧ ∀ i m H, W i m H →
  (J.stop i H ∧ Q (.ref D) H) ∨ (J.go i H ∧ ∃ Nx : Hp → Prop, (∀ H', Nx H' → ∃ m', m' < m ∧ W (i + 1) m' H') ∧ ∀ x H', J.yld i H x H' → g x (wipe σ vs) H' fun σ2 H2 => wipe σ2 vs = wipe σ vs ∧ tt σ2 H2 fun b H3 =>
    if b = true then te σ2 H3 fun y H4 => ∃ acc, H4 D = some (.lst acc) ∧ acc.length < sizeLine ∧ Nx (upd H4 D (.lst (acc ++ [y]))) else Nx H3)
theorem lc_core {pins : List (Addr × Obj)} {s : Shared} {σ : St} {H : Hp} {Q : VK} {elt tg iter : Expr} {ifs : List Expr} {scope : Scope} {own : List (Str × Nat)} {pos pos' : Pos} {wi : TI} {g : TG} {tt : TT} {te : TE} {use : Option (Value → Sem Unit)} {Qf : Value → Shared → Prop}
    (hc : X.calm = true) (hN : X.N.Nodup) (I : Inv X pins σ H s) (hi : PI X tg iter wi) (ok : BlkOk X.N X.env.scope scope own)
    (hg : ∀ (s : Shared) (H : Hp) (C : Addr) (cl : List (Str × Addr)) (fp : List Addr), PG (X.blk s H scope (compEnvC scope cl C X.env) fp) tg g) (ht : ∀ (s : Shared) (H : Hp) (C : Addr) (cl : List (Str × Addr)) (fp : List Addr), PTs (X.blk s H scope (compEnvC scope cl C X.env) fp) ifs tt)
    (he : ∀ (s : Shared) (H : Hp) (C : Addr) (cl : List (Str × Addr)) (fp : List Addr), PE (X.blk s H scope (compEnvC scope cl C X.env) fp) elt te) (hs : ∀ x, foldedSetIterable iter X.env x = pure x)
    (h : tLc wi g tt te (own.map (·.2)) σ H Q)
    (hRR : ∀ D C s' m H', Inv X pins σ H' s' → Q (.ref D) H' → s'.heap.Ns C m → FpOk X pins H' C → compPost (model X.prog X.w) X.A X.xe use Qf (.ref D) C (.ok .next) s') :
    wpAny (model X.prog X.w) X.A (comprehension (.ListComp elt [⟨tg, iter, ifs, 0⟩] scope pos) scope X.env pos' (newList []) false (eval iter X.env) use) Qf X.xe s := by
  have hfree : ∀ y ∈ scope.names, y.2 = .free → ∃ c, X.env.cells.lookup y.1 = some c := fun y hy e => by
    rcases ok.free y hy e with k | k
    · exact I.ok.has _ (.inl k)
    · exact I.ok.has _ (.inr k)
  refine wpAny_comprehension_free (use := use) rfl hs (closure_ok hfree) ok.kind (fun y hy e => by rw [ok.uniq y hy, e])
    (thn (hi pins s σ H _ I h) fun xv s1 hx => thn hx fun itv s2 h2 => ?_)
  obtain ⟨it, fp, tn, J, H2, e, I2, T, st2, f2, q⟩ := h2
  subst e
  refine wpAny_newObj_type (newEnv_comp ?_) (by show 0 ≤ sizeLine; decide)
  generalize hD : s2.heap.objs.size = D
  have hDn : H2 D = none := I2.hok.fresh (Nat.le_of_eq hD)
  obtain ⟨W, ⟨m0, w0⟩, turn⟩ := q D hDn
  -- the new list
  generalize hs3 : ({ s2 with heap := s2.heap.push { cls := .type "list", data := .seq ([] : List Value).toArray } } : Shared) = s3
  have I3 : Inv X pins σ (upd H2 D (.lst [])) s3 := by
    rw [← hs3]
    refine I2.laid (t' := s2.toks) (fun b o e => Heap.get?_push_of_some _ e) (Nat.le_of_eq hD) ⟨Nat.zero_le _, [], 0, .nil, ?_⟩
    rw [← hD]
    exact Heap.get?_push_size _ rfl
  have h3 : s3.heap = s2.heap.push { cls := .type "list", data := .seq ([] : List Value).toArray } := by rw [← hs3]
  have sz : ∀ b ∈ fp, b < s2.heap.objs.size := fun b hb => by
    obtain ⟨o, e, _⟩ := T.obj _ _ st2 b hb
    exact Heap.lt_size e
  have f3 : ∀ b ∈ fp, FpOk X pins (upd H2 D (.lst [])) b ∧ b < s3.heap.objs.size := fun b hb => by
    have hlt := sz b hb
    refine ⟨⟨?_, (f2 b hb).2⟩, by rw [h3, Heap.size_push]; exact Nat.lt_succ_of_lt hlt⟩
    rw [upd_ne (by rw [← hD]; exact Nat.ne_of_lt hlt)]
    exact (f2 b hb).1
  have st3 : tn 0 s3.heap := T.keep _ _ _ st2 fun b _ o e => by rw [h3]; exact Heap.get?_push_of_some _ e
  have I4 := block_start I3 ok hN f3
  have pg := hg s3 (upd H2 D (.lst [])) s3.heap.objs.size (cellsFrom (s3.heap.objs.size + 1) scope.names (cloFrom X.env.cells scope.names [])) fp
  have pt := ht s3 (upd H2 D (.lst [])) s3.heap.objs.size (cellsFrom (s3.heap.objs.size + 1) scope.names (cloFrom X.env.cells scope.names [])) fp
  have pe := he s3 (upd H2 D (.lst [])) s3.heap.objs.size (cellsFrom (s3.heap.objs.size + 1) scope.names (cloFrom X.env.cells scope.names [])) fp
  show codeAny _ _ (.compStart (.ListComp elt [⟨tg, iter, ifs, 0⟩] scope pos) 0 (.ref it) (.ref D) (compEnvC scope (cellsFrom (s3.heap.objs.size + 1) scope.names (cloFrom X.env.cells scope.names [])) s3.heap.objs.size X.env)) (compPost (model X.prog X.w) X.A X.xe use Qf (.ref D) s3.heap.objs.size) { s3 with heap := pushCells (s3.heap.push { cls := .type "dict", data := .dict #[] }) scope.names }
  have nfp : ∀ b ∈ fp, (upd H2 D (.lst [])) b = none := fun b hb => (f3 b hb).1.1
  generalize hce : compEnvC scope (cellsFrom (s3.heap.objs.size + 1) scope.names (cloFrom X.env.cells scope.names [])) s3.heap.objs.size X.env = ce at I4 pg pt pe ⊢
  have cL : ce.locals = s3.heap.objs.size := by subst hce; rfl
  generalize hH3 : upd H2 D (.lst []) = H3 at I3 I4 pg pt pe w0 nfp f3
  generalize hs4 : ({ s3 with heap := pushCells (s3.heap.push { cls := .type "dict", data := .dict #[] }) scope.names } : Shared) = s4 at I4 ⊢
  have st4 : tn 0 s4.heap := T.keep _ _ _ st3 fun b _ o e => by rw [← hs4]; exact pushCells_keeps _ _ _ _ (Heap.get?_push_of_some _ e)
  have stat : ∀ {σ' : St} {H' : Hp} {s' : Shared}, Inv (X.blk s3 H3 scope ce fp) [] σ' H' s' → (∀ b ∈ fp, H' b = none) → ∀ b ∈ fp, FpOk (X.blk s3 H3 scope ce fp) [] H' b := fun {σ' H' s'} I' hn b hb =>
    ⟨hn b hb, (I'.ok.exf b hb).1, I'.ok.exfs b hb, .inl hb, fun x c e => (I'.ok.exf b hb).2 x c e, fun p hp => absurd (show p ∈ ([] : List (Addr × Obj)) ++ [] from hp) (by simp)⟩
  have loop : codeAny (model X.prog X.w) X.A (.compLoop (.ListComp elt [⟨tg, iter, ifs, 0⟩] scope pos) 0 (.ref it) (.ref D) ce) (compPost (model X.prog X.w) X.A X.xe use Qf (.ref D) s3.heap.objs.size) s4 := by
    refine compLoop_any (fun n s' => ∃ i H', Inv (X.blk s3 H3 scope ce fp) [] (wipe σ (own.map (·.2))) H' s' ∧ tn i s'.heap ∧ (∀ b ∈ fp, H' b = none) ∧ W i n H') ?_ m0 ⟨0, H3, I4, st4, nfp, w0⟩
    rintro n s5 ⟨i, H5, I5, st5, n5, w5⟩
    rcases turn i n H5 w5 with ⟨stop, qq⟩ | ⟨go, Nx, hNx, step⟩
    · have td := T.done (X.blk s3 H3 scope ce fp) rfl rfl rfl hc i [] s5 _ H5 (fun _ _ => False) I5 (stat I5 n5) st5 stop
      refine thnF td fun r s6 ⟨hr, I6⟩ => ?_
      subst hr
      -- back in the def's context
      have I7 : Inv X pins σ H5 s6 := I3.call' (ch := fp) I6.os I6.base I6.hok I6.bare fun b hb => ⟨(f3 b hb).1.2.2.2.1, (f3 b hb).1.2.1, (f3 b hb).1.2.2.2.2.1, (f3 b hb).1.2.2.2.2.2⟩
      have nC : H5 s3.heap.objs.size = none := by
        have z : H5 ce.locals = none := I6.free
        rw [cL] at z
        exact z
      obtain ⟨m, hn, _⟩ := I6.loc
      have hn : s6.heap.Ns ce.locals m := hn
      rw [cL] at hn
      exact hRR D s3.heap.objs.size s6 m H5 I7 qq hn (I3.fpOk (Nat.le_refl _) nC)
    · have ti := T.item (X.blk s3 H3 scope ce fp) rfl rfl rfl hc i [] s5 _ H5 (fun _ _ => False) I5 (stat I5 n5) st5 go
      refine thnF ti fun r s6 ⟨u, hr, h6⟩ => ?_
      subst hr
      refine thnF h6 fun _ s7 ⟨x, H7, I7, r7, y7, st7, n7⟩ => ?_
      have I7' := I7.pinned (stat I7 n7) (T.obj _ _ st7)
      refine thnF (pg _ s7 _ H7 x u _ I7' r7 (step x H7 y7)) fun _ s8 ⟨σ8, H8, I8, hw8, q8⟩ => ?_
      refine thnF (pt _ s8 σ8 H8 _ I8 q8) fun b s9 ⟨H9, I9, q9⟩ => ?_
      -- the turn's end
      have fin : ∀ {s' : Shared} {H' : Hp}, Inv (X.blk s3 H3 scope ce fp) ([] ++ pinsAt fp s7.heap) σ8 H' s' → Nx H' → ∃ m, m < n ∧ ∃ i H', Inv (X.blk s3 H3 scope ce fp) [] (wipe σ (own.map (·.2))) H' s' ∧ tn i s'.heap ∧ (∀ b ∈ fp, H' b = none) ∧ W i m H' := fun {s' H'} I' nx => by
        obtain ⟨m', hm, w'⟩ := hNx H' nx
        have pin' : ∀ b ∈ fp, ∀ o, s7.heap.get? b = some o → s'.heap.get? b = some o ∧ H' b = none := fun b hb o e =>
          let z := I'.pin (b, o) (List.mem_append_right _ (List.mem_append_right _ (mem_pinsAt hb e)))
          ⟨z.1, z.2.1⟩
        have hl : (wipe σ (own.map (·.2))).length = σ8.length := by rw [← hw8, wipe_length]
        refine ⟨m', hm, i + 1, H', (I'.unpinned (pins := [])).weak hl (fun j v e => ?_), T.keep _ _ _ st7 fun b hb o e => (pin' b hb o e).1, fun b hb => ?_, w'⟩
        · rw [← hw8] at e
          exact (wipe_some e).1
        · obtain ⟨o, e, _⟩ := T.obj _ _ st7 b hb
          exact (pin' b hb o e).2
      cases b with
      | false =>
        simp only [Bool.false_eq_true, if_false] at q9 ⊢
        exact fin I9 q9
      | true =>
        simp only [if_true] at q9 ⊢
        refine thnF (pe _ s9 σ8 H9 _ I9 q9) fun z s10 ⟨yv, H10, I10, r10, acc, hD10, hz10, nx⟩ => ?_
        exact app_ok (X := X.blk s3 H3 scope ce fp) I10 hD10 hz10 r10 fun s11 I11 => fin I11 nx
  exact codeAny_compStart_list loop (T.self X.A 0 _ _ _ st4 loop)
theorem pe_lc {elt tg iter : Expr} {ifs : List Expr} {scope : Scope} {own : List (Str × Nat)} {pos : Pos} {wi : TI} {g : TG} {tt : TT} {te : TE} (hc : X.calm = true) (hN : X.N.Nodup) (hi : PI X tg iter wi) (ok : BlkOk X.N X.env.scope scope own)
    (hg : ∀ (s : Shared) (H : Hp) (C : Addr) (cl : List (Str × Addr)) (fp : List Addr), PG (X.blk s H scope (compEnvC scope cl C X.env) fp) tg g) (ht : ∀ (s : Shared) (H : Hp) (C : Addr) (cl : List (Str × Addr)) (fp : List Addr), PTs (X.blk s H scope (compEnvC scope cl C X.env) fp) ifs tt)
    (he : ∀ (s : Shared) (H : Hp) (C : Addr) (cl : List (Str × Addr)) (fp : List Addr), PE (X.blk s H scope (compEnvC scope cl C X.env) fp) elt te) (hs : ∀ x, foldedSetIterable iter X.env x = pure x := by intro _; rfl) :
    PE X (.ListComp elt [⟨tg, iter, ifs, 0⟩] scope pos) (tLc wi g tt te (own.map (·.2))) := by
  intro pins s σ H Q I h
  rw [eval_ListComp]
  refine lc_core hc hN I hi ok hg ht he hs h fun D C s' m H' I' q hn f => ⟨m, hn, fun h'' sb => ?_⟩
  obtain ⟨f0, f1, f2, f3, f4, f5⟩ := f
  exact ⟨.ref D, H', I'.turned (t' := s'.toks) (fun b o hb e => (sb.2 b hb).trans e) f0 f1 f3 f4 f5, rfl, q⟩
end

theorem lc_list {K : PySem.W.Frag} {a : Addr} {xs : List V} {g : TG} {tt : TT} {te : TE} {vs : List Nat} {σ : St} {H1 : Hp} {D : Addr} {Qd : Hp → Prop} (Pv : Nat → Hp → Prop) (h0 : Pv 0 (upd H1 D (.lst []))) (hl : ∀ i H, i ≤ xs.length → Pv i H → SqL K H a xs)
    (hs : ∀ i x H, xs[i]? = some x → Pv i H → g x (wipe σ vs) H fun σ2 H2 => wipe σ2 vs = wipe σ vs ∧ tt σ2 H2 fun b H3 =>
      if b = true then te σ2 H3 fun y H4 => ∃ acc, H4 D = some (.lst acc) ∧ acc.length < sizeLine ∧ Pv (i + 1) (upd H4 D (.lst (acc ++ [y]))) else Pv (i + 1) H3) (hd : ∀ H, Pv xs.length H → Qd H) :
    ∃ W : Nat → Nat → Hp → Prop, (∃ m, W 0 m (upd H1 D (.lst []))) ∧ ∀ i m H, W i m H →
      ((Itl K a).stop i H ∧ Qd H) ∨ ((Itl K a).go i H ∧ ∃ Nx : Hp → Prop, (∀ H', Nx H' → ∃ m', m' < m ∧ W (i + 1) m' H') ∧ ∀ x H', (Itl K a).yld i H x H' → g x (wipe σ vs) H' fun σ2 H2 => wipe σ2 vs = wipe σ vs ∧ tt σ2 H2 fun b H3 =>
        if b = true then te σ2 H3 fun y H4 => ∃ acc, H4 D = some (.lst acc) ∧ acc.length < sizeLine ∧ Nx (upd H4 D (.lst (acc ++ [y]))) else Nx H3) := by
  refine ⟨fun i m H => m = xs.length - i ∧ i ≤ xs.length ∧ Pv i H, ⟨xs.length, by simp, Nat.zero_le _, h0⟩, ?_⟩
  rintro i m H ⟨rfl, hi, p⟩
  have q := hl i H hi p
  by_cases hlt : i < xs.length
  · refine .inr ⟨⟨xs, xs[i], q, by simp [hlt]⟩, Pv (i + 1), fun H' p' => ⟨xs.length - (i + 1), by omega, rfl, hlt, p'⟩, fun x H' y => ?_⟩
    obtain ⟨e, y⟩ := y
    subst e
    exact hs i x _ (y xs q) p
  · have e : i = xs.length := by omega
    subst e
    exact .inl ⟨⟨xs, q, Nat.le_refl _⟩, hd H p⟩
def blkC (N : List Str) (sc scope : Scope) (own : List (Str × Nat)) : Bool :=
  (match scope.kind with | .function => true | _ => false) && (scope.names.all fun y => decide (scope.names.lookup y.1 = some y.2)) && (own.all fun p => decide (N[p.2]? = some p.1)) &&
    (scope.names.all fun y => match y.2 with
      | .free => (match sc.names.lookup y.1 with | some .cell => true | some .free => true | _ => false)
      | .local => decide (y.1 ∈ own.map (·.1)) || decide (y.1 ∉ N)
      | .cell => decide (y.1 ∈ own.map (·.1)) || decide (y.1 ∉ N)
      | _ => true)
theorem blkOk_by {N : List Str} {sc scope : Scope} {own : List (Str × Nat)} (h : blkC N sc scope own = true) : BlkOk N sc scope own := by
  unfold blkC at h
  simp only [Bool.and_eq_true, List.all_eq_true, decide_eq_true_eq] at h
  obtain ⟨⟨⟨h1, h2⟩, h3⟩, h4⟩ := h
  refine ⟨?_, h2, h3, fun y hy e => ?_, fun y hy e => ?_⟩
  · split at h1
    · assumption
    · cases h1
  · have q := h4 y hy
    simp only [e] at q
    split at q <;> first | exact .inl (by assumption) | exact .inr (by assumption) | cases q
  · have q := h4 y hy
    rcases e with e | e <;> (simp only [e, Bool.or_eq_true, decide_eq_true_eq] at q; exact q)
end L2

namespace L2
open PySem PySem.Spec PyProof.Rows

section
variable {prog : Program} {w : World} {A : Around} {R : Result → Shared → Prop} {s : Shared} {elt t0 i0 t1 i1 : Expr} {ifs0 ifs1 : List Expr} {scope : Scope} {pos : Pos} {it acc : Value} {env : Env}
end

section
variable {X : Cx}
def tLc2 (wi : TI) (g : TG) (tt : TT) (wi1 : TI) (g1 : TG) (tt1 : TT) (te : TE) (vs vs1 : List Nat) : TE := fun σ H Q => wi σ H fun J H1 => ∀ D, H1 D = none → ∃ W : Nat → Nat → Hp → Prop, (∃ m, W 0 m (upd H1 D (.lst []))) ∧ ∀ i m H, W i m H →
  (J.stop i H ∧ Q (.ref D) H) ∨ (J.go i H ∧ ∃ Nx : Hp → Prop, (∀ H', Nx H' → ∃ m', m' < m ∧ W (i + 1) m' H') ∧ ∀ x H', J.yld i H x H' → g x (wipe σ vs) H' fun σ2 H2 => wipe σ2 vs = wipe σ vs ∧ tt σ2 H2 fun b H3 =>
    if b = true then wi1 σ2 H3 fun J1 H4 => ∃ W1 : Nat → Nat → Hp → Prop, (∃ m, W1 0 m H4) ∧ ∀ j k H, W1 j k H →
      (J1.stop j H ∧ Nx H) ∨ (J1.go j H ∧ ∃ Nx1 : Hp → Prop, (∀ H', Nx1 H' → ∃ k', k' < k ∧ W1 (j + 1) k' H') ∧ ∀ x H', J1.yld j H x H' → g1 x (wipe σ2 vs1) H' fun σ3 H5 => wipe σ3 vs1 = wipe σ2 vs1 ∧ tt1 σ3 H5 fun b H6 =>
        if b = true then te σ3 H6 fun y H7 => ∃ acc, H7 D = some (.lst acc) ∧ acc.length < sizeLine ∧ Nx1 (upd H7 D (.lst (acc ++ [y]))) else Nx1 H6)
    else Nx H3)
end
end L2

namespace L2
open PySem PySem.Spec PyProof.Rows

section
variable {κ : Type} [DecidableEq κ]
def valV (kvs : List (κ × V)) (k : κ) : Option V := (kvs.find? fun kv => decide (kv.1 = k)).map (·.2)
def putK (kvs : List (κ × V)) (k : κ) (v : V) : List (κ × V) :=
  if (kvs.any fun kv => decide (kv.1 = k)) = true then kvs.map (fun kv => if kv.1 = k then (kv.1, v) else kv) else kvs ++ [(k, v)]
def dropK (kvs : List (κ × V)) (k : κ) : List (κ × V) := kvs.filter fun kv => decide (kv.1 ≠ k)

theorem valV_pos {p : κ × V} {r : List (κ × V)} {k : κ} (e : p.1 = k) : valV (p :: r) k = some p.2 := by simp [valV, List.find?_cons, e]
theorem valV_neg {p : κ × V} {r : List (κ × V)} {k : κ} (e : ¬ p.1 = k) : valV (p :: r) k = valV r k := by simp [valV, List.find?_cons, e]
theorem valV_any (k : κ) : ∀ kvs : List (κ × V), (kvs.any fun kv => decide (kv.1 = k)) = (valV kvs k).isSome
  | [] => rfl
  | p :: r => by
    rw [List.any_cons]
    by_cases e : p.1 = k
    · simp only [valV_pos e, decide_eq_true e, Bool.true_or, Option.isSome_some]
    · rw [valV_neg e, decide_eq_false e, Bool.false_or]; exact valV_any k r
theorem length_putK (kvs : List (κ × V)) (k : κ) (v : V) : (putK kvs k v).length ≤ kvs.length + 1 := by
  unfold putK
  split
  · rw [List.length_map]; omega
  · rw [List.length_append, List.length_cons, List.length_nil]; omega
theorem putK_new {kvs : List (κ × V)} {k : κ} (v : V) (h : valV kvs k = none) : putK kvs k v = kvs ++ [(k, v)] := by
  unfold putK
  rw [valV_any, h]
  exact if_neg (by decide)

theorem RelO.isSome_eq {o : Option V} {u : Option Value} (r : RelO o u) : o.isSome = u.isSome := by
  cases o with
  | none => cases u with
    | none => rfl
    | some _ => exact (show False from r).elim
  | some _ => cases u with
    | none => exact (show False from r).elim
    | some _ => rfl
theorem KV.val {kvs : List (κ × V)} {vs : List (κ × Value)} (r : KV kvs vs) (k : κ) : RelO (valV kvs k) (valueAt vs k) := by
  unfold KV at r
  induction r with
  | nil => exact True.intro
  | @cons p q ps qs h t ih =>
    obtain ⟨h1, h2⟩ := h
    by_cases e : p.1 = k
    · have e' : q.1 = k := h1.symm.trans e
      have b : valueAt (q :: qs) k = some q.2 := by simp [valueAt, List.find?_cons, e']
      rw [valV_pos e, b]; exact h2
    · have e' : ¬ q.1 = k := fun z => e (h1.trans z)
      have b : valueAt (q :: qs) k = valueAt qs k := by simp [valueAt, List.find?_cons, e']
      rw [valV_neg e, b]; exact ih
theorem KV.any {kvs : List (κ × V)} {vs : List (κ × Value)} (r : KV kvs vs) (k : κ) : (kvs.any fun kv => decide (kv.1 = k)) = vs.any fun kv => decide (kv.1 = k) := by
  unfold KV at r
  induction r with
  | nil => rfl
  | cons h t ih => rw [List.any_cons, List.any_cons, ih, h.1]
theorem KV.repl {kvs : List (κ × V)} {vs : List (κ × Value)} (r : KV kvs vs) (k : κ) {y : V} {u : Value} (ry : RelV y u) :
    KV (kvs.map fun kv => if kv.1 = k then (kv.1, y) else kv) (vs.map fun kv => if kv.1 = k then (kv.1, u) else kv) := by
  unfold KV at r ⊢
  induction r with
  | nil => exact .nil
  | @cons p q ps qs h t ih =>
    rw [List.map_cons, List.map_cons]
    refine .cons ?_ ih
    obtain ⟨h1, h2⟩ := h
    by_cases e : p.1 = k
    · rw [if_pos e, if_pos (h1.symm.trans e)]; exact ⟨h1, ry⟩
    · rw [if_neg e, if_neg (fun z => e (h1.trans z))]; exact ⟨h1, h2⟩
theorem KV.put {kvs : List (κ × V)} {vs : List (κ × Value)} (r : KV kvs vs) (k : κ) {y : V} {u : Value} (ry : RelV y u) : KV (putK kvs k y) (stored vs k u) := by
  unfold putK stored
  rw [r.any k]
  by_cases e : (vs.any fun kv => decide (kv.1 = k)) = true
  · rw [if_pos e, if_pos e]; exact r.repl k ry
  · rw [if_neg e, if_neg e]; exact Paired.snoc r ⟨rfl, ry⟩
theorem KV.length {kvs : List (κ × V)} {vs : List (κ × Value)} (r : KV kvs vs) : kvs.length = vs.length := Paired.length r
end


theorem kV_is {P : Program} {w : World} {k : Key} {u : Value} (r : RelV (kV k) u) : (mixKind P w).is k u = true := by
  cases k with
  | inl i => obtain ⟨t, e⟩ := (show ∃ t, u = Value.int i t from r); subst e; exact mixKind_int P w i t
  | inr x => obtain ⟨t, e⟩ := (show ∃ t, u = Value.str x t from r); subst e; exact mixKind_str P w x t
theorem items_are {P : Program} {w : World} : ∀ {ks : List Key} {us : List Value}, Vals (ks.map kV) us → ItemsAre (mixKind P w) ks us
  | [], _, r => by rw [List.map_nil] at r; cases r; exact .nil
  | k :: ks, _, r => by
    rw [List.map_cons] at r
    cases r with
    | cons h t => exact .cons (kV_is h) (items_are t)

abbrev KT (H : Hp) : List (List Key × V) → List (List Key × Addr × Value) → Prop := Paired fun p q => p.1 = q.1 ∧ H q.2.1 = some (.tup (p.1.map kV)) ∧ RelV p.2 q.2.2
theorem KT.val {H : Hp} {kvs : List (List Key × V)} {xs : List (List Key × Addr × Value)} (r : KT H kvs xs) (k : List Key) : RelO (valV kvs k) ((atKey xs k).map (·.2)) := by
  induction r with
  | nil => exact True.intro
  | @cons p q ps qs h t ih =>
    obtain ⟨h1, _, h2⟩ := h
    by_cases e : p.1 = k
    · have e' : q.1 = k := h1.symm.trans e
      have b : atKey (q :: qs) k = some q.2 := by simp [atKey, List.find?_cons, e']
      rw [valV_pos e, b]; exact h2
    · have e' : ¬ q.1 = k := fun z => e (h1.trans z)
      have b : atKey (q :: qs) k = atKey qs k := by simp [atKey, List.find?_cons, e']
      rw [valV_neg e, b]; exact ih
theorem KT.repl {H : Hp} {kvs : List (List Key × V)} {xs : List (List Key × Addr × Value)} (r : KT H kvs xs) (k : List Key) {y : V} {u : Value} (ry : RelV y u) :
    KT H (kvs.map fun kv => if kv.1 = k then (kv.1, y) else kv) (xs.map (putAt k u)) := by
  induction r with
  | nil => exact .nil
  | @cons p q ps qs h t ih =>
    rw [List.map_cons, List.map_cons]
    refine .cons ?_ ih
    obtain ⟨h1, h2, h3⟩ := h
    unfold putAt
    by_cases e : p.1 = k
    · rw [if_pos e, if_pos (h1.symm.trans e)]; exact ⟨h1, h2, ry⟩
    · rw [if_neg e, if_neg (fun z => e (h1.trans z))]; exact ⟨h1, h2, h3⟩
theorem KT.put {H : Hp} {kvs : List (List Key × V)} {xs : List (List Key × Addr × Value)} (r : KT H kvs xs) (k : List Key) {b : Addr} {y : V} {u : Value} (hb : H b = some (.tup (k.map kV))) (ry : RelV y u) :
    KT H (putK kvs k y) (storedH xs k b u) := by
  have e : (kvs.any fun kv => decide (kv.1 = k)) = (atKey xs k).isSome := by
    rw [valV_any, (r.val k).isSome_eq, Option.isSome_map]
  unfold putK storedH
  rw [e]
  by_cases q : (atKey xs k).isSome = true
  · rw [if_pos q, if_pos q]; exact r.repl k ry
  · rw [if_neg q, if_neg q]; exact Paired.snoc r ⟨rfl, hb, ry⟩
theorem KT.keeps {H H' : Hp} {kvs : List (List Key × V)} {xs : List (List Key × Addr × Value)} (r : KT H kvs xs) (ht : ∀ b ys, H b = some (.tup ys) → H' b = some (.tup ys)) : KT H' kvs xs :=
  Paired.mapP r fun _ _ z => ⟨z.1, ht _ _ z.2.1, z.2.2⟩

section
variable {P : Program} {w : World} {H : Hp} {h : Heap} {a : Addr}
theorem rd_of {u : HO} (ok : HOk P w H h) (e : Rd H a u) : ObjOk P w H h a u := e.ok ok
theorem dk_rd {kvs : List (Key × V)} (ok : HOk P w H h) (e : Rd H a (.dK kvs)) : kvs.length ≤ sizeLine ∧ (a == sysModules) = false ∧ ∃ vs, KV kvs vs ∧ h.DictOf (mixKind P w) a vs :=
  show ObjOk P w H h a (.dK kvs) from rd_of ok e
theorem dk_of {kvs : List (Key × V)} (ok : HOk P w H h) (e : H a = some (.dK kvs)) : kvs.length ≤ sizeLine ∧ (a == sysModules) = false ∧ ∃ vs, KV kvs vs ∧ h.DictOf (mixKind P w) a vs := dk_rd ok (.inl e)
theorem key_of {ks : List Key} (ok : HOk P w H h) (e : H a = some (.tup (ks.map kV))) : (tupleKind (mixKind P w)).is h ks a := by
  obtain ⟨_, its, r, o, h1, h2, n, h3⟩ := (show ObjOk P w H h a (.tup (ks.map kV)) from ok a _ e)
  exact ⟨o, its.toArray, n, h1, h2, h3, by simpa using items_are r⟩
theorem dt_rd {kvs : List (List Key × V)} (ok : HOk P w H h) (e : Rd H a (.dT kvs)) : kvs.length ≤ sizeLine ∧ (a == sysModules) = false ∧
    ∃ xs, KT H kvs xs ∧ h.DictOfH (tupleKind (mixKind P w)) a xs := by
  obtain ⟨z, y, xs, r, o, es, ep, h1, h2, h3, h4, h5⟩ := (show ObjOk P w H h a (.dT kvs) from rd_of ok e)
  refine ⟨z, y, xs, r, o, es, ep, h1, h2, h3, h4, fun x hx => ?_, h5⟩
  have all : ∀ {l : List (List Key × V)} {m : List (List Key × Addr × Value)}, KT H l m → ∀ x ∈ m, (tupleKind (mixKind P w)).is h x.1 x.2.1 := by
    intro l m q
    induction q with
    | nil => intro x hx; exact nomatch hx
    | @cons p q ps qs hq t ih =>
      intro x hx
      rcases List.mem_cons.mp hx with e | hx
      · subst e
        exact key_of ok (by rw [← hq.1]; exact hq.2.1)
      · exact ih x hx
  exact all r x hx
theorem dt_of {kvs : List (List Key × V)} (ok : HOk P w H h) (e : H a = some (.dT kvs)) : kvs.length ≤ sizeLine ∧ (a == sysModules) = false ∧
    ∃ xs, KT H kvs xs ∧ h.DictOfH (tupleKind (mixKind P w)) a xs := dt_rd ok (.inl e)
end

def DGet (H : Hp) (a : Addr) (y : V) (r : Option V) : Prop :=
  (∃ kvs k, Rd H a (.dK kvs) ∧ y = kV k ∧ r = valV kvs k) ∨ ∃ kvs k b, Rd H a (.dT kvs) ∧ y = .ref b ∧ H b = some (.tup (k.map kV)) ∧ r = valV kvs k
def DPut (H : Hp) (a : Addr) (y v : V) (H' : Hp) : Prop :=
  (∃ kvs k, H a = some (.dK kvs) ∧ y = kV k ∧ kvs.length < sizeLine ∧ H' = upd H a (.dK (putK kvs k v))) ∨
  ∃ kvs k b, H a = some (.dT kvs) ∧ y = .ref b ∧ H b = some (.tup (k.map kV)) ∧ kvs.length < sizeLine ∧ H' = upd H a (.dT (putK kvs k v))
theorem DGet.t {H : Hp} {a b : Addr} {kvs : List (List Key × V)} {k : List Key} (e : H a = some (.dT kvs)) (eb : H b = some (.tup (k.map kV))) : DGet H a (.ref b) (valV kvs k) := .inr ⟨kvs, k, b, .inl e, rfl, eb, rfl⟩
theorem DPut.t {H : Hp} {a b : Addr} {kvs : List (List Key × V)} {k : List Key} {v : V} (e : H a = some (.dT kvs)) (eb : H b = some (.tup (k.map kV))) (hl : kvs.length < sizeLine) :
    DPut H a (.ref b) v (upd H a (.dT (putK kvs k v))) := .inr ⟨kvs, k, b, e, rfl, eb, hl, rfl⟩


section
variable {X : Cx} {pins : List (Addr × Obj)} {σ : St} {H : Hp} {s : Shared} {a : Addr} {y v : V} {u r : Value} {o : Option V} {A : Around} {E : Value → Shared → Prop}

theorem Inv.big (I : Inv X pins σ H s) : sysModules < s.heap.objs.size := by
  have h : mainGlobals < s.heap.objs.size := (I.mod.glob.keeps I.bk).lt
  exact Nat.lt_trans (by decide) h

theorem d_getItem {Q : Value → Shared → Prop} (hu : A.units + 1 < cLine) (I : Inv X pins σ H s) (g : DGet H a y (some v)) (ry : RelV y u) (h : ∀ w' s', Inv X pins σ H s' → RelV v w' → Q w' s') :
    wpAny (model X.prog X.w) A (getItem (.ref a) u) Q E s := by
  rcases g with ⟨kvs, k, e, ey, l⟩ | ⟨kvs, k, b, e, ey, eb, l⟩
  · subst ey
    obtain ⟨z, hd, vs, rel, dd⟩ := dk_rd I.hok e
    obtain ⟨w', hw, rw'⟩ := RelO.some_of (v := v) (o := valueAt vs k) (by rw [l]; exact rel.val k)
    exact wpAny_getItem_of (kV_is ry) dd.mapOf hw (h w' _ (I.tok _) rw')
  · subst ey
    cases (show u = Value.ref b from ry)
    obtain ⟨z, hd, xs, rel, dd⟩ := dt_rd I.hok e
    obtain ⟨w', hw, rw'⟩ := RelO.some_of (v := v) (o := (atKey xs k).map (·.2)) (by rw [l]; exact rel.val k)
    obtain ⟨p, hp, hp2⟩ := Option.map_eq_some_iff.mp hw
    refine wpAny_getItem_heap (tupleKind_room_in1 hu) (key_of I.hok eb) dd hp ?_
    rw [hp2]
    exact h w' _ (I.tok _) rw'
theorem d_in {Q : Value → Shared → Prop} (hu : A.units + 1 < cLine) (I : Inv X pins σ H s) (g : DGet H a y o) (ry : RelV y u) (h : ∀ s', Inv X pins σ H s' → Q (.bool o.isSome) s') :
    wpAny (model X.prog X.w) A (compareOp .In u (.ref a)) Q E s := by
  rcases g with ⟨kvs, k, e, ey, l⟩ | ⟨kvs, k, b, e, ey, eb, l⟩
  · subst ey
    obtain ⟨z, hd, vs, rel, dd⟩ := dk_rd I.hok e
    refine wpAny_in_of (kV_is ry) hd dd.mapOf ?_
    rw [← (rel.val k).isSome_eq, ← l]
    exact h _ (I.tok _)
  · subst ey
    cases (show u = Value.ref b from ry)
    obtain ⟨z, hd, xs, rel, dd⟩ := dt_rd I.hok e
    refine wpAny_in_heap (tupleKind_room_in1 hu) (key_of I.hok eb) hd dd ?_
    have q := (rel.val k).isSome_eq
    rw [Option.isSome_map] at q
    rw [← q, ← l]
    exact h _ (I.tok _)
theorem d_notIn {Q : Value → Shared → Prop} (hu : A.units + 1 < cLine) (I : Inv X pins σ H s) (g : DGet H a y o) (ry : RelV y u) (h : ∀ s', Inv X pins σ H s' → Q (.bool (!o.isSome)) s') :
    wpAny (model X.prog X.w) A (compareOp .NotIn u (.ref a)) Q E s := by
  rcases g with ⟨kvs, k, e, ey, l⟩ | ⟨kvs, k, b, e, ey, eb, l⟩
  · subst ey
    obtain ⟨z, hd, vs, rel, dd⟩ := dk_rd I.hok e
    refine wpAny_notIn_of (kV_is ry) hd dd.mapOf ?_
    rw [← (rel.val k).isSome_eq, ← l]
    exact h _ (I.tok _)
  · subst ey
    cases (show u = Value.ref b from ry)
    obtain ⟨z, hd, xs, rel, dd⟩ := dt_rd I.hok e
    refine wpAny_notIn_heap (tupleKind_room_in1 hu) (key_of I.hok eb) hd dd ?_
    have q := (rel.val k).isSome_eq
    rw [Option.isSome_map] at q
    rw [← q, ← l]
    exact h _ (I.tok _)
theorem d_write {h' : Heap} {t' : Nat} {ob : HO} (I : Inv X pins σ H s) (mu : Mut (H a)) (hs : Heap.SameBut a s.heap h') (he : ∃ q, h'.get? a = some q) (new : ObjOk X.prog X.w (upd H a ob) h' a ob) :
    Inv X pins σ (upd H a ob) { s with heap := h', toks := t' } :=
  I.write (x := a) (e := a) mu (.inl rfl) (fun b q hb z => (hs.2 b hb).trans z) he new
theorem dk_new {P : Program} {w : World} {H' : Hp} {h' : Heap} {kvs : List (Key × V)} {vs : List (Key × Value)} (z : kvs.length ≤ sizeLine) (hd : (a == sysModules) = false) (rel : KV kvs vs) (dd : h'.DictOf (mixKind P w) a vs) :
    ObjOk P w H' h' a (.dK kvs) := ⟨z, hd, vs, rel, dd⟩
theorem d_setItem {H' : Hp} {Q : Unit → Shared → Prop} (hu : A.units + 1 < cLine) (I : Inv X pins σ H s) (g : DPut H a y v H') (ry : RelV y u) (rv : RelV v r) (h : ∀ s', Inv X pins σ H' s' → Q () s') :
    wpAny (model X.prog X.w) A (setItem (.ref a) u r) Q E s := by
  rcases g with ⟨kvs, k, e, ey, l, eH⟩ | ⟨kvs, k, b, e, ey, eb, l, eH⟩
  · subst ey eH
    obtain ⟨z, hd, vs, rel, dd⟩ := dk_of I.hok e
    have hz : vs.length ≤ sizeLine := by rw [← rel.length]; exact z
    have hl : (putK kvs k v).length ≤ sizeLine := by have := length_putK kvs k v; omega
    refine wpAny_setItem_pairs (hsz := hz) (kV_is ry) dd fun h' dd' hs => h _ ?_
    have he : ∃ q, h'.get? a = some q := let ⟨q, _, _, hq, _⟩ := dd'; ⟨q, hq⟩
    exact d_write I (by rw [e]; exact True.intro) hs he (dk_new hl hd (rel.put k rv) dd')
  · subst ey eH
    cases (show u = Value.ref b from ry)
    obtain ⟨z, hd, xs, rel, dd⟩ := dt_of I.hok e
    have hz : xs.length ≤ sizeLine := by rw [← Paired.length rel]; exact z
    have hl : (putK kvs k v).length ≤ sizeLine := by have := length_putK kvs k v; omega
    refine wpAny_setItem_heap (hsz := hz) (tupleKind_room_in1 hu) (key_of I.hok eb) dd fun h' dd' hs => h _ ?_
    obtain ⟨q, es, ep, hq, h2, h3, h4, _, h5⟩ := dd'
    refine d_write I (by rw [e]; exact True.intro) hs ⟨q, hq⟩ ⟨hl, hd, _, (rel.put k eb rv).keeps fun c ys ec => ?_, q, es, ep, hq, h2, h3, h4, h5⟩
    rw [upd_ne (ne_of ec e (fun z => nomatch z))]
    exact ec
end

section
variable {X : Cx} {pins : List (Addr × Obj)} {σ : St} {H : Hp} {s : Shared} {a : Addr} {kvs : List (Key × V)} {k : Key} {u : Value} {A : Around} {E : Value → Shared → Prop}
end


def NoSl (i : Expr) : Prop := ∀ ov iv, subscripted i false ov iv = operate [ov, iv] (getItem ov iv)
theorem subD_of {prog : Program} {w : World} {A : Around} {E : Value → Shared → Prop} {s : Shared} {env : Env} {value slice : Expr} {pos : Pos} {T id : String} {Q : Value → Shared → Prop}
    (hl : typeLookup (.type T) "__getitem__" = pure (some (.builtin id))) (hs : NoSl slice)
    (h : wpAny (model prog w) A (eval value env) (fun o s₁ => wpAny (model prog w) A (eval slice env) (fun i s₂ => s₂.TypeIs o T ∧ wpAny (model prog w) A (getItem o i) Q E s₂) E s₁) E s) :
    wpAny (model prog w) A (eval (.Subscript value slice pos) env) Q E s := by
  refine Subscript_ (wpAny_mono h (fun o s₁ h₁ => wpAny_mono h₁ (fun i s₂ h₂ => ?_) fun _ _ x => x) fun _ _ x => x)
  obtain ⟨hT, h₂⟩ := h₂
  unfold subscriptTail
  refine wpAny_bind ?_
  rw [getitemInPython_of_ne hT.not_modules]
  refine wpAny_bind (wpAny_specialOf hT hl ?_)
  have fin : wpAny (model prog w) A (subscripted slice false o i) (fun r s₃ => wpAny (model prog w) A (letTemporaryGo value o r >>= fun _ => pure r) Q E s₃) E s₂ := by
    rw [hs o i]
    exact wpAny_operating (wpAny_mono h₂ (fun r s₃ h₃ => wpAny_bind (wpAny_letTemporaryGo (wpAny_pure h₃))) fun _ _ x => x)
  first
    | exact wpAny_pure (wpAny_bind fin)
    | exact wpAny_bind (wpAny_pure (wpAny_bind fin))
    | exact wpAny_bind fin

theorem dict_typeIs {X : Cx} {pins : List (Addr × Obj)} {σ : St} {H : Hp} {s : Shared} {a : Addr} {y : V} {o : Option V} (I : Inv X pins σ H s) (g : DGet H a y o) : s.TypeIs (.ref a) "dict" := by
  rcases g with ⟨kvs, k, e, _, _⟩ | ⟨kvs, k, b, e, _, _, _⟩
  · obtain ⟨_, _, vs, _, dd⟩ := dk_rd I.hok e
    exact dd.typeIs
  · obtain ⟨_, _, xs, _, dd⟩ := dt_rd I.hok e
    exact dd.typeIs
def tDGet (td ty : TE) : TE := fun σ H Q => td σ H fun x H1 => ty σ H1 fun y H2 => ∃ a v, x = .ref a ∧ DGet H2 a y (some v) ∧ Q v H2
def tDIn (ty td : TE) : TE := fun σ H Q => ty σ H fun y H1 => td σ H1 fun x H2 => ∃ a o, x = .ref a ∧ DGet H2 a y o ∧ Q (.bl o.isSome) H2
def tDNotIn (ty td : TE) : TE := fun σ H Q => ty σ H fun y H1 => td σ H1 fun x H2 => ∃ a o, x = .ref a ∧ DGet H2 a y o ∧ Q (.bl (!o.isSome)) H2
def sDPut (td ty tv : TE) : TS := fun D σ H => tv σ H fun v H1 => td σ H1 fun x H2 => ty σ H2 fun y H3 => ∃ a H4, x = .ref a ∧ DPut H3 a y v H4 ∧ D.nx σ H4
def sDAug (td ty tv : TE) (rd : V → V → Hp → VK → Prop) : TS := fun D σ H => td σ H fun x H1 => ty σ H1 fun y H2 => ∃ a v, x = .ref a ∧ DGet H2 a y (some v) ∧
  tv σ H2 fun y2 H3 => rd v y2 H3 fun z H4 => ∃ H5, DPut H4 a y z H5 ∧ D.nx σ H5
def sDDel (td ty : TE) : TS := fun D σ H => td σ H fun x H1 => ty σ H1 fun y H2 => ∃ a kvs k, x = .ref a ∧ H2 a = some (.dK kvs) ∧ y = kV k ∧ (valV kvs k).isSome = true ∧ D.nx σ (upd H2 a (.dK (dropK kvs k)))

section
variable {X : Cx} {o i e value : Expr} {pos pos' tpos : Pos} {td ty tv : TE}
theorem pe_dget (hu : X.A.units + 1 < cLine) (ho : PE X o td) (hi : PE X i ty) (hs : NoSl i) : PE X (.Subscript o i pos) (tDGet td ty) := by
  intro pins s σ H Q I h
  refine subD_of PySem.F.slot_dict_getitem.lookup hs (thn (ho pins s σ H _ I h) fun u s1 ⟨x, H1, I1, rx, q1⟩ => thn (hi pins s1 σ H1 _ I1 q1) fun iv s2 ⟨y, H2, I2, ry, a, v, ex, g, q2⟩ => ?_)
  subst ex
  obtain rfl : u = Value.ref a := rx
  exact ⟨dict_typeIs I2 g, d_getItem hu I2 g ry fun w' s3 I3 rw' => ⟨v, H2, I3, rw', q2⟩⟩
theorem pc_din (hu : X.A.units + 1 < cLine) (hi : PE X i ty) (ho : PE X o td) : PC X .In i o (tDIn ty td) := by
  intro pins s σ H Q I h
  refine thn (hi pins s σ H _ I h) fun iv s1 ⟨y, H1, I1, ry, q1⟩ => thn (ho pins s1 σ H1 _ I1 q1) fun u s2 ⟨x, H2, I2, rx, a, ov, ex, g, q2⟩ => ?_
  subst ex
  obtain rfl : u = Value.ref a := rx
  exact d_in hu I2 g ry fun s3 I3 => ⟨.bl ov.isSome, H2, I3, rfl, q2⟩
theorem pc_dnotin (hu : X.A.units + 1 < cLine) (hi : PE X i ty) (ho : PE X o td) : PC X .NotIn i o (tDNotIn ty td) := by
  intro pins s σ H Q I h
  refine thn (hi pins s σ H _ I h) fun iv s1 ⟨y, H1, I1, ry, q1⟩ => thn (ho pins s1 σ H1 _ I1 q1) fun u s2 ⟨x, H2, I2, rx, a, ov, ex, g, q2⟩ => ?_
  subst ex
  obtain rfl : u = Value.ref a := rx
  exact d_notIn hu I2 g ry fun s3 I3 => ⟨.bl (!ov.isSome), H2, I3, rfl, q2⟩
theorem ps_dput (hu : X.A.units + 1 < cLine) (ho : PE X o td) (hi : PE X i ty) (hv : PE X value tv) (hs : swapsWith value (some (.Subscript o i pos')) pos.line X.env = pure false) :
    PS X (.Assign [.Subscript o i pos'] value pos) (sDPut td ty tv) := by
  intro pins s σ H D I h
  refine wpAny_Assign_Subscript (thn (hv pins s σ H _ I h) fun r s1 ⟨v, H1, I1, rv, q1⟩ => thn (ho pins s1 σ H1 _ I1 q1) fun u s2 ⟨x, H2, I2, rx, q2⟩ => thn (hi pins s2 σ H2 _ I2 q2) fun iv s3 ⟨y, H3, I3, ry, a, H4, ex, g, q3⟩ => ?_) hs
  subst ex
  obtain rfl : u = Value.ref a := rx
  exact d_setItem hu I3 g ry rv fun s4 I4 => ⟨σ, H4, I4, q3⟩
end


theorem dt_empty {P : Program} {w : World} {H : Hp} (h : Heap) (hb : sysModules < h.objs.size) : ObjOk P w H (h.push { cls := .type "dict", data := .dict #[] }) h.objs.size (.dT []) :=
  ⟨Nat.zero_le _, beq_eq_false_iff_ne.mpr (Ne.symm (Nat.ne_of_lt hb)), [], .nil, _, #[], 0, Heap.get?_push_size _ rfl, ⟨rfl, rfl, rfl⟩, rfl, rfl, List.nodup_nil⟩
def tDNewK : TE := fun _ H Q => ∀ p, H p = none → Q (.ref p) (upd H p (.dK []))
def tDNewT : TE := fun _ H Q => ∀ p, H p = none → Q (.ref p) (upd H p (.dT []))
section
variable {X : Cx} {pos : Pos}
theorem pe_dnewT : PE X (.Dict [] [] pos) tDNewT := fun pins s σ H Q I h =>
  wpAny_Dict_empty ⟨.ref s.heap.objs.size, _, I.laid (a := s.heap.objs.size) (o := .dT []) (t' := s.toks) (fun _ _ q => Heap.get?_push_of_some _ q) (Nat.le_refl _) (dt_empty s.heap I.big), rfl, h _ (I.hok.fresh (Nat.le_refl _))⟩
end

def tPairs : List (TE × TE) → St → Hp → (List (V × V) → Hp → Prop) → Prop
  | [], _, H, Q => Q [] H
  | (tk, tv) :: r, σ, H, Q => tk σ H fun x H1 => tv σ H1 fun y H2 => tPairs r σ H2 fun ps H3 => Q ((x, y) :: ps) H3
abbrev VV : List (V × V) → List (Value × Value) → Prop := Paired fun p q => RelV p.1 q.1 ∧ RelV p.2 q.2
def PPs (X : Cx) (pos : Pos) (keys : List (Option Expr)) (values : List Expr) (trs : List (TE × TE)) : Prop :=
  ∀ (pins : List (Addr × Obj)) (s : Shared) (σ : St) (H : Hp) (Q : List (V × V) → Hp → Prop), Inv X pins σ H s → tPairs trs σ H Q →
    wpAny (model X.prog X.w) X.A (evalPairs (pairTrees keys values X.env pos)) (fun vs s' => ∃ ps H', Inv X pins σ H' s' ∧ VV ps vs ∧ Q ps H') X.xe s
def mergeK (kvs more : List (Key × V)) : List (Key × V) := more.foldl (fun acc kv => putK acc kv.1 kv.2) kvs
def tDisp (trs : List (TE × TE)) : TE := fun σ H Q => ∀ p, H p = none → tPairs trs σ (upd H p (.dK [])) fun ps H2 => H2 p = some (.dK []) ∧ ∃ kvs : List (Key × V), ps = kvs.map (fun kv => (kV kv.1, kv.2)) ∧ kvs.length ≤ 15 ∧ Q (.ref p) (upd H2 p (.dK (mergeK [] kvs)))
structure M1 (X : Cx) (o : Expr) (m : Str) (apos : Pos) (e : Expr) (cpos : Pos) : Prop where
  base : attributeBase o m X.env (eval o X.env) = eval o X.env
  few : ((backTo cpos (starEach [e] X.env)).all (fun x => !x.1) && (backToKw cpos (keywordEach [] X.env)).all (fun x => x.1.isSome)
    && decide (([e] : List Expr).length + ([] : List Keyword).length + (if ([] : List Keyword).isEmpty then 0 else 1) < 30)) = true
  line : (apos.endLine == cpos.line) = true
  trees : backTo cpos (starEach [e] X.env) = [(false, eval e X.env)]
structure M2 (X : Cx) (o : Expr) (m : Str) (apos : Pos) (e f : Expr) (cpos : Pos) : Prop where
  base : attributeBase o m X.env (eval o X.env) = eval o X.env
  few : ((backTo cpos (starEach [e, f] X.env)).all (fun x => !x.1) && (backToKw cpos (keywordEach [] X.env)).all (fun x => x.1.isSome)
    && decide (([e, f] : List Expr).length + ([] : List Keyword).length + (if ([] : List Keyword).isEmpty then 0 else 1) < 30)) = true
  line : (apos.endLine == cpos.line) = true
  trees : backTo cpos (starEach [e, f] X.env) = [(false, eval e X.env), (false, eval f X.env)]

def IsD (H : Hp) (a : Addr) : Prop := (∃ kvs, Rd H a (.dK kvs)) ∨ ∃ kvs, Rd H a (.dT kvs)
section
variable {X : Cx} {pins : List (Addr × Obj)} {σ : St} {H : Hp} {s : Shared} {a : Addr} {y d : V} {u r : Value} {o : Option V} {A : Around} {E : Value → Shared → Prop}
end

def tDGet1 (td ty : TE) : TE := fun σ H Q => td σ H fun x H1 => ∃ a, x = .ref a ∧ IsD H1 a ∧ ty σ H1 fun y H2 => ∃ o, DGet H2 a y o ∧ Q (o.getD .non) H2
def tDGet2 (td ty tx : TE) : TE := fun σ H Q => td σ H fun x H1 => ∃ a, x = .ref a ∧ IsD H1 a ∧ ty σ H1 fun y H2 => tx σ H2 fun z H3 => ∃ o, DGet H3 a y o ∧ Q (o.getD z) H3
def tDPop1 (td ty : TE) : TE := fun σ H Q => td σ H fun x H1 => ∃ a, x = .ref a ∧ IsD H1 a ∧ ty σ H1 fun y H2 => ∃ kvs k v, H2 a = some (.dK kvs) ∧ y = kV k ∧ valV kvs k = some v ∧ Q v (upd H2 a (.dK (dropK kvs k)))
def tDPop2 (td ty tx : TE) : TE := fun σ H Q => td σ H fun x H1 => ∃ a, x = .ref a ∧ IsD H1 a ∧ ty σ H1 fun y H2 => tx σ H2 fun z H3 => ∃ kvs k, H3 a = some (.dK kvs) ∧ y = kV k ∧
  (∀ v, valV kvs k = some v → Q v (upd H3 a (.dK (dropK kvs k)))) ∧ (valV kvs k = none → Q z H3)
section
variable {X : Cx} {o e f : Expr} {apos cpos : Pos} {td ty tx : TE}
end

section
variable {X : Cx} {pins : List (Addr × Obj)} {σ : St} {H : Hp} {s : Shared} {a : Addr} {kvs : List (Key × V)} {A : Around} {E : Value → Shared → Prop}
end


section
variable {X : Cx} {pins : List (Addr × Obj)} {σ : St} {H : Hp} {s : Shared} {a : Addr} {y : V} {u : Value} {A : Around} {E : Value → Shared → Prop}
end
end L2

namespace L2
open PySem PySem.Spec PyProof.Rows

theorem list_keys_none : typeLookup (.type "list") "keys" = pure none := am_miss_of_fast (by first | decide +kernel | rfl)
theorem ud_entry : entryFor table "dict.update.loop" = some Builtin.«dict.update.loop» := entryFor_of_tree (by kernel_rfl)
theorem ud_plain : plainId "dict.update.loop" = true := by decide +kernel

section
variable {prog : Program} {w : World} {A : Around} {E : Value → Shared → Prop}
theorem miss_list {s : Shared} {a : Addr} {o : Obj} {xs : Array Value} {k : Nat} {Q : Option Value → Shared → Prop} (hx : s.heap.get? a = some o) (hc : o.cls = .type "list") (hdat : o.data = .seq xs k) (hd : o.dict = none) (hA : A.handled = none)
    (h : ∀ h' tk, (∀ b ob, s.heap.get? b = some ob → h'.get? b = some ob) → Q none { s with heap := h', toks := tk }) : wpAny (model prog w) A (getAttr? (.ref a) "keys") Q E s := by
  obtain ⟨c, dct, dat, sl⟩ := o
  simp only at hc hdat hd
  subst hc hdat hd
  obtain ⟨hp, g, d, tk, os⟩ := s
  have hT : ∀ tk', (⟨hp, g, d, tk', os⟩ : Shared).TypeIs (.ref a) "list" := fun _ => ⟨_, hx, rfl⟩
  have hmiss := list_keys_none
  have hname : (["__module__", "__name__", "__qualname__", "__doc__", "__annotations__"] : List Str).contains "keys" = false := by decide +kernel
  have hsz : ("keys" : Str).length + 100 ≤ sizeLine := by first | size_fits | decide +kernel
  have f1 := sub_AttributeError
  have f3 := PySem.F.slot_list_getattribute.lookup
  have f4 := PySem.F.slot_list_getattribute.bind (.ref a)
  have f5 := am_list_getattr_none
  unfold getAttr? getAttrBy? getAttrBy
  repeat (any_goals (first | assumption | exact hT _ | ((with_reducible show wpAny _ _ (call (Value.builtin "list.__getattribute__") _ _) _ _ _); refine call_meets PySem.F.slot_list_getattribute (hT _) am_entry_list_getattribute (PySem.F.args_list_getattribute_2 _ _) (meets_getattribute_miss_list a xs k sl "keys" _ hmiss hname hsz) ⟨hx, hA, fun h' tk' e hx' => ?_⟩) | wp_step))
  obtain ⟨t', u', he⟩ := hx'.there
  show wpAny _ _ (getattributeRaised _ _ _ _ _ _ _) _ _ _
  unfold getattributeRaised
  repeat (any_goals (first | assumption | wp_step))
  all_goals first | exact h _ _ hx'.keeps | (dsimp only; repeat (any_goals (first | assumption | exact h _ _ hx'.keeps | wp_step)))

end

section
variable {X : Cx}
theorem refs_at : ∀ {ps : List Addr} {us : List Value}, Vals (ps.map V.ref) us → us = ps.map Value.ref
  | [], us, r => by
    rw [List.map_nil] at r
    cases r
    rfl
  | p :: ps, us, r => by
    rw [List.map_cons] at r
    cases r with
    | cons h t =>
      cases h
      rw [List.map_cons, ← refs_at t]
end
end L2

namespace L2
open PySem PySem.Spec PyProof.Rows

section
variable {X : Cx} {pins : List (Addr × Obj)} {σ : St} {H : Hp} {s : Shared} {h' : Heap}
theorem Inv.turnedNew {t' : Nat} {ch : List Addr} {T : Addr} {ob : HO} (I : Inv X pins σ H s) (k : ∀ b o, b ∉ ch → s.heap.get? b = some o → h'.get? b = some o) (hf : ∀ b ∈ ch, FpOk X pins H b) (hT : s.heap.objs.size ≤ T)
    (new : ObjOk X.prog X.w (upd H T ob) h' T ob) : Inv X pins σ (upd H T ob) { s with heap := h', toks := t' } := by
  have hn : H T = none := I.hok.fresh hT
  have nit : ∀ b u, H b = some u → b ∉ ch := fun b u e z => by
    have q := (hf b z).1
    rw [q] at e; cases e
  refine I.step (g' := s.gens) (d' := s.drawn) (ch := ch) (fun b hb => ⟨(hf b hb).2.2.2.1, (hf b hb).2.1, (hf b hb).2.2.2.2.1, (hf b hb).2.2.2.2.2⟩) (fun b o _ _ hc e _ => k b o hc e) (fun b o _ _ hc e _ => ⟨o.slots, k b o hc e⟩)
    (fun b o _ e n => ?_) (fun b o hc e => ⟨o, k b o hc e⟩) (fun b xs e => ?_) (fun b o u e => ?_) (fun b ps e => ⟨#[], ?_⟩) (fun m hm => ?_) (fun b u e => ?_) I.bare
  · rw [upd_ne (Nat.ne_of_lt (Nat.lt_of_lt_of_le (Heap.lt_size e) hT))]; exact n
  · rw [upd_ne (ne_of_none e hn)]; exact e
  · rw [upd_ne (ne_of_none e hn)]; exact e
  · rw [upd_ne (ne_of_none e hn), e]; simp
  · obtain ⟨o, es, ep, ho, r⟩ := hm
    exact ⟨o, es, ep, k _ o (fun z => (hf _ z).2.1 rfl) ho, r⟩
  · by_cases hb : b = T
    · subst hb
      rw [upd_same] at e
      cases e
      exact new
    · rw [upd_ne hb] at e
      refine (I.hok b u e).stay (fun c v hc q => k c v ?_ q) (fun c q => by rw [upd_ne (ne_of_none q hn)]; exact q) fun c xs q => by rw [upd_ne (ne_of_none q hn)]; exact q
      rcases hc with z | z
      · rw [z]; exact nit b u e
      · exact nit c _ z

end
def tLock (t : TS) : TS := fun D σ H => ∃ d u, H d = some u ∧ Mut (some u) ∧ ∀ od, t ⟨fun σ' H' => H' d = some (.frz od u) ∧ D.nx σ' (upd H' d u), fun v H' => H' d = some (.frz od u) ∧ D.rt v (upd H' d u), fun σ' H' => H' d = some (.frz od u) ∧ D.bk σ' (upd H' d u), fun σ' H' => H' d = some (.frz od u) ∧ D.ct σ' (upd H' d u)⟩ σ (upd H d (.frz od u))
def tLockE (t : TE) : TE := fun σ H Q => ∃ d u, H d = some u ∧ Mut (some u) ∧ ∀ od, t σ (upd H d (.frz od u)) fun v H' => H' d = some (.frz od u) ∧ Q v (upd H' d u)
section
variable {X : Cx}
theorem pi_one {tg : Expr} {pins : List (Addr × Obj)} {σ : St} {H : Hp} {s : Shared} {R : It → Hp → Prop} {J : It} {tn : Nat → Heap → Prop} {tk : Nat} (I : Inv X pins σ H s) (o : Obj)
    (T : Turn X.prog X.w X.K tg J [s.heap.objs.size] s.heap.objs.size tn) (st : tn 0 (s.heap.push o)) (q : R J H) : PIE X pins σ tg R (.ref s.heap.objs.size) { s with heap := s.heap.push o, toks := tk } := by
  refine ⟨s.heap.objs.size, [s.heap.objs.size], tn, J, H, rfl, I.kept fun b ob e => Heap.get?_push_of_some _ e, T, st, fun b hb => ?_, q⟩
  have e : b = s.heap.objs.size := by simpa using hb
  subst e
  exact I.fpOk (Nat.le_refl _) (I.hok.fresh (Nat.le_refl _))
end

def Itc (lo c : Int) (n : Nat) : It := ⟨fun i _ => i < n, fun i H x H' => H' = H ∧ x = .int (lo + (i : Nat) * c), fun i _ => n ≤ i⟩
def RgC (i j c : Int) (n : Nat) : Prop := c ≠ 0 ∧ c.natAbs < 1073741824 ∧ Builtin.Range.small i j c = true ∧ Builtin.Range.rangeSize i j c = n
def iRng3 (ta : TA) : TI := fun σ H R => ta σ H fun vs H1 => ∃ (i j c : Int) (n : Nat), vs = [.int i, .int j, .int c] ∧ RgC i j c n ∧ R (Itc i c n) H1
section
variable {X : Cx} {tg : Expr}
end
def Itv (K : PySem.W.Frag) (a : Addr) (n : Nat) : It :=
  ⟨fun i H => i < n ∧ ∃ (xs : List V) (x : V), SqL K H a xs ∧ xs[n - 1 - i]? = some x, fun i H x H' => H' = H ∧ ∀ xs, SqL K H a xs → xs[n - 1 - i]? = some x, fun i _ => n ≤ i⟩
def iRev (K : PySem.W.Frag) (ta : TA) : TI := fun σ H R => ta σ H fun vs H1 => ∃ (a : Addr) (xs : List V), vs = [.ref a] ∧ SqL K H1 a xs ∧ R (Itv K a xs.length) H1
section
variable {X : Cx} {tg : Expr}
end

def Its (x : Str) : It := ⟨fun i _ => i < x.cps.size, fun i H v H' => H' = H ∧ ∃ c, x.cps[i]? = some c ∧ v = .str ⟨#[c]⟩, fun i _ => x.cps.size ≤ i⟩
theorem turn_str {P : Program} {w : World} {K : PySem.W.Frag} {tg : Expr} (it : Addr) (x : Str) (t : Tok) (ty : String) (hty : ty = "str_ascii_iterator" ∨ ty = "str_iterator") :
    Turn P w K tg (Its x) [it] it (fun i h => h.IsStrIter it ty x t i) where
  mem := by simp
  obj := fun i h st b hb => by
    have e : b = it := by simpa using hb
    subst e
    obtain ⟨o, e, c, d⟩ := st
    exact ⟨o, e, fun v z => by rw [d] at z; cases z⟩
  keep := fun i h h' st k => let ⟨o, ho, r⟩ := st; ⟨o, k it (by simp) o ho, r⟩
  item := by
    intro X hP hw hK hc i pins s σ H E I hf st hg
    subst hP hw hK
    obtain ⟨f0, f1, f2, f3, f4, f5⟩ := hf it (by simp)
    have W : Walks X.prog X.w X.A it [it] [it] x.cps.size (SignAt x) (fun i h => h.IsStrIter it ty x t i) := by
      rcases hty with e | e
      · rw [e]; exact Walks.strAscii (I.ok.hd hc) it x t
      · rw [e]; exact Walks.strWide (I.ok.hd hc) it x t
    have hno : ["enumerate", "zip", "dict_itemiterator", "dict_reverseitemiterator", "odict_iterator", "itertools.zip_longest", "itertools.pairwise"].contains ty = false := by
      rcases hty with e | e
      · rw [e]; decide
      · rw [e]; decide
    refine W.item i s _ _ hg st fun v h' tk hv st' kk => ?_
    obtain ⟨c, u, hcx, rfl⟩ := hv
    have I1 : Inv X pins σ H { s with heap := h', toks := tk } := I.turned (fun b o hb e => kk b o (by simpa using hb) e) f0 f1 f3 f4 f5
    obtain ⟨oi, e, cc, dd⟩ := id st'
    exact ⟨_, rfl, go_of (s := { s with heap := h', toks := tk }) e cc dd hno ⟨.str ⟨#[c]⟩, H, I1, ⟨u, rfl⟩, ⟨rfl, c, hcx, rfl⟩, st', fun b hb => (hf b hb).1⟩⟩
  done := by
    intro X hP hw hK hc i pins s σ H E I hf st hg
    subst hP hw hK
    obtain ⟨f0, f1, f2, f3, f4, f5⟩ := hf it (by simp)
    have hx : x.cps[i]? = none := Array.getElem?_eq_none hg
    rcases hty with e | e
    · rw [e] at st
      exact wpAny_pyNext_ascii_end (I.ok.hd hc) st hx fun h' eb => ⟨rfl, I.turned (t' := s.toks) (fun b o hb e => eb b o hb e) f0 f1 f3 f4 f5⟩
    · rw [e] at st
      exact wpAny_pyNext_wide_end (I.ok.hd hc) st hx fun h' eb => ⟨rfl, I.turned (t' := s.toks) (fun b o hb e => eb b o hb e) f0 f1 f3 f4 f5⟩
  self := fun A i s Q E st h => by
    rcases hty with e | e
    · rw [e] at st; exact wpAny_pyIter_striter_ascii st h
    · rw [e] at st; exact wpAny_pyIter_striter_wide st h
def iStr (te : TE) : TI := fun σ H R => te σ H fun v H1 => ∃ x, v = .str x ∧ R (Its x) H1
theorem pi_str {X : Cx} {tg e : Expr} {te : TE} (he : PE X e te) : PI X tg e (iStr te) := by
  intro pins s σ H R I h
  refine thn (he pins s σ H _ I h) fun v s1 ⟨y, H1, I1, r1, x, ex, q⟩ => ?_
  subst ex
  obtain ⟨t, rfl⟩ := r1
  cases ha : x.cps.all (· < 128)
  · exact wpAny_pyIter_wide ha (pi_one (tk := s1.toks) I1 _ (turn_str _ x t "str_iterator" (.inr rfl)) ⟨_, Heap.get?_push_size _ rfl, rfl, rfl⟩ q)
  · exact wpAny_pyIter_ascii ha (pi_one (tk := s1.toks) I1 _ (turn_str _ x t "str_ascii_iterator" (.inl rfl)) ⟨_, Heap.get?_push_size _ rfl, rfl, rfl⟩ q)

section
variable {prog : Program} {w : World} {A : Around} {E : Value → Shared → Prop} {s : Shared}
end

section
variable {X : Cx} {pins : List (Addr × Obj)} {σ : St} {H : Hp} {s : Shared} {d : Addr} {o : Obj}
end

def Itk (d : Addr) (o : Obj) (kvs : List (Key × V)) : It :=
  ⟨fun i H => H d = some (.frz o (.dK kvs)) ∧ i < kvs.length, fun i H x H' => H' = H ∧ ∃ k v, kvs[i]? = some (k, v) ∧ x = kV k, fun i H => H d = some (.frz o (.dK kvs)) ∧ kvs.length ≤ i⟩
def Itkt (d : Addr) (o : Obj) (kvs : List (List Key × V)) : It :=
  ⟨fun i H => H d = some (.frz o (.dT kvs)) ∧ i < kvs.length, fun i H x H' => H' = H ∧ ∃ (k : List Key) (v : V) (q : Addr), kvs[i]? = some (k, v) ∧ x = .ref q ∧ H q = some (.tup (k.map kV)), fun i H => H d = some (.frz o (.dT kvs)) ∧ kvs.length ≤ i⟩
def Itd (d : Addr) (o : Obj) (kvs : List (Key × V)) : It :=
  ⟨fun i H => H d = some (.frz o (.dK kvs)) ∧ i < kvs.length, fun i H x H' => H' = H ∧ ∃ k, kvs[i]? = some (k, x), fun i H => H d = some (.frz o (.dK kvs)) ∧ kvs.length ≤ i⟩
def Iti (d : Addr) (o : Obj) (kvs : List (Key × V)) : It :=
  ⟨fun i H => H d = some (.frz o (.dK kvs)) ∧ i < kvs.length, fun i H x H' => ∃ T k v, kvs[i]? = some (k, v) ∧ x = .ref T ∧ H T = none ∧ H' = upd H T (.tup [kV k, v]), fun i H => H d = some (.frz o (.dK kvs)) ∧ kvs.length ≤ i⟩
section
variable {P : Program} {w : World} {K : PySem.W.Frag} {tg : Expr} {d : Addr} {o : Obj} {es : Array DictEntry} {ep : Nat}
end

def iKeys (td : TE) : TI := fun σ H R => td σ H fun x H1 => ∃ d o, x = .ref d ∧ ((∃ kvs, H1 d = some (.frz o (.dK kvs)) ∧ R (Itk d o kvs) H1) ∨ ∃ kvs, H1 d = some (.frz o (.dT kvs)) ∧ R (Itkt d o kvs) H1)
def iVals (td : TE) : TI := fun σ H R => td σ H fun x H1 => ∃ d o kvs, x = .ref d ∧ H1 d = some (.frz o (.dK kvs)) ∧ R (Itd d o kvs) H1
def iItems (td : TE) : TI := fun σ H R => td σ H fun x H1 => ∃ d o kvs, x = .ref d ∧ H1 d = some (.frz o (.dK kvs)) ∧ R (Iti d o kvs) H1
def iKeysM (td : TE) : TI := fun σ H R => td σ H fun x H1 => ∃ d o kvs, x = .ref d ∧ H1 d = some (.frz o (.dK kvs)) ∧ R (Itk d o kvs) H1
section
variable {X : Cx} {tg e : Expr} {td : TE} {apos cpos : Pos}
end

def Ite (K : PySem.W.Frag) (a : Addr) : It :=
  ⟨fun i H => ∃ (xs : List V) (x : V), SqL K H a xs ∧ xs[i]? = some x, fun i H v H' => ∃ T x, v = .ref T ∧ H T = none ∧ H' = upd H T (.tup [.int (i : Nat), x]) ∧ ∀ xs, SqL K H a xs → xs[i]? = some x, fun i H => ∃ xs : List V, SqL K H a xs ∧ xs.length ≤ i⟩
theorem turn_enum {P : Program} {w : World} {K : PySem.W.Frag} {elts : List Expr} {kk : Nat} {tpos : Pos} (a e it : Addr) :
    Turn P w K (.Tuple elts kk tpos) (Ite K a) [e, it] e (fun i h => (∃ old, IsEnum h e it ((i : Nat) : Int) old) ∧ h.IsListIter it a i ∧ e ≠ it) where
  mem := by simp
  obj := fun i h st b hb => by
    obtain ⟨⟨old, he⟩, ⟨o, ho, hc, hd⟩, _⟩ := st
    have e' : b = e ∨ b = it := by simpa using hb
    rcases e' with z | z
    · rw [z]; exact ⟨_, he, fun v q => nomatch q⟩
    · rw [z]; exact ⟨o, ho, fun v q => by rw [hd] at q; cases q⟩
  keep := fun i h h' st k => let ⟨⟨old, he⟩, hi, hne⟩ := st; ⟨⟨old, k e (by simp) _ he⟩, hi.at fun o q => k it (by simp) o q, hne⟩
  item := by
    intro X hP hw hK hc i pins s σ H E I hf st hg
    subst hP hw hK
    obtain ⟨⟨old, he⟩, hit, hne⟩ := st
    obtain ⟨xs, x, hq, hx⟩ := hg
    obtain ⟨its, rv, p, hz⟩ := I.list hq
    obtain ⟨u, hu, ru⟩ := rv.get hx
    have hel : e < s.heap.objs.size := Heap.lt_size he
    have hil : it < s.heap.objs.size := by obtain ⟨_, q, _⟩ := hit; exact Heap.lt_size q
    refine wpAny_pyNext_enum_item he hit p.isList (x := u) (by simpa using hu) hne fun h' ho hit' hT hsz hk => ?_
    refine ⟨_, rfl, wpAny_letOwnedTupleGo_enum (s := { s with heap := h', toks := s.toks + 1 }) ho fun h'' he' sb => ?_⟩
    have hT2 : h''.get? s.heap.objs.size = some { cls := .type "tuple", data := .seq #[.int i s.toks, u] } := (sb.2 _ (Nat.ne_of_gt hel)).trans hT
    have new : ObjOk X.prog X.w (upd H s.heap.objs.size (.tup [.int (i : Nat), x])) h'' s.heap.objs.size (.tup [.int (i : Nat), x]) :=
      ⟨by show 2 ≤ sizeLine; decide, [.int i s.toks, u], .cons ⟨_, rfl⟩ (.cons ru .nil), ⟨_, hT2, rfl, _, rfl⟩⟩
    have I1 : Inv X pins σ (upd H s.heap.objs.size (.tup [.int (i : Nat), x])) { s with heap := h'', toks := s.toks + 1 } :=
      I.turnedNew (ch := [e, it]) (fun b ob hb q => (sb.2 b (fun z => hb (by simp [z]))).trans (hk b ob (fun z => hb (by simp [z])) (fun z => hb (by simp [z])) q)) hf (Nat.le_refl _) new
    refine ⟨.ref s.heap.objs.size, _, I1, rfl, ⟨_, x, rfl, I.hok.fresh (Nat.le_refl _), rfl, fun ys hy => by rw [I.list_inj hy hq]; exact hx⟩, ⟨⟨u, ?_⟩, hit'.at fun o q => (sb.2 it (Ne.symm hne)).trans q, hne⟩, fun b hb => ?_⟩
    · have e1 : ((i + 1 : Nat) : Int) = (i : Int) + 1 := by omega
      rw [e1]; exact he'
    · have hb' : b < s.heap.objs.size := by
        have e' : b = e ∨ b = it := by simpa using hb
        rcases e' with z | z
        · rw [z]; exact hel
        · rw [z]; exact hil
      rw [upd_ne (Nat.ne_of_lt hb')]
      exact (hf b hb).1
  done := by
    intro X hP hw hK hc i pins s σ H E I hf st hg
    subst hP hw hK
    obtain ⟨⟨old, he⟩, hit, hne⟩ := st
    obtain ⟨xs, hq, hx⟩ := hg
    obtain ⟨its, rv, p, hz⟩ := I.list hq
    obtain ⟨f0, f1, f2, f3, f4, f5⟩ := hf it (by simp)
    have hl := rv.length
    exact wpAny_pyNext_enum_end (I.ok.hd hc) he hit p.isList (by simp; omega) fun h' eb => ⟨rfl, I.turned (t' := s.toks) (fun b o hb q => eb b o hb q) f0 f1 f3 f4 f5⟩
  self := fun A i s Q E st h => let ⟨⟨_, he⟩, _⟩ := st; wpAny_pyIter_enum he h
def iEnum (K : PySem.W.Frag) (ta : TA) : TI := fun σ H R => ta σ H fun vs H1 => ∃ a xs, vs = [.ref a] ∧ SqL K H1 a xs ∧ R (Ite K a) H1
theorem pi_enum {X : Cx} {e : Expr} {ta : TA} {p pos tpos : Pos} {elts : List Expr} {kk : Nat} (hg : Gl X "enumerate") (hm : X.mg "enumerate" = none) (ha : PA X [e] ta) (hs : starEach [e] X.env = [(false, eval e X.env)] := by rfl) :
    PI X (.Tuple elts kk tpos) (.Call (.Name "enumerate" p) [e] [] pos) (iEnum X.K ta) := by
  intro pins s σ H R I h
  refine Call_ (ld_blt I hg hm boot_enumerate (PyProof.Rows.callWith_type1 (thn (ha pos pins s σ H _ I h) fun us s1 ⟨vs, H1, I1, r1, q1⟩ => ?_) hs rfl))
  obtain ⟨a, xs, ex, hq, q⟩ := q1
  subst ex
  cases r1 with
  | cons r rr =>
    cases rr
    cases r
    obtain ⟨its, rv, p', hz⟩ := I1.list hq
    refine call_enumerate_list p'.isList fun h' he hit hsz hk => wpAny_pyIter_enum he ?_
    have I2 : Inv X pins σ H1 { s1 with heap := h' } := I1.kept (t' := s1.toks) hk
    refine ⟨s1.heap.objs.size + 1, [s1.heap.objs.size + 1, s1.heap.objs.size], _, _, H1, rfl, I2, turn_enum a (s1.heap.objs.size + 1) s1.heap.objs.size, ⟨⟨.none, he⟩, hit, Nat.succ_ne_self _⟩, fun b hb => ?_, q⟩
    have e' : b = s1.heap.objs.size + 1 ∨ b = s1.heap.objs.size := by simpa using hb
    have hle : s1.heap.objs.size ≤ b := by
      rcases e' with z | z
      · rw [z]; exact Nat.le_add_right _ _
      · rw [z]; exact Nat.le_refl _
    exact I1.fpOk hle (I1.hok.fresh hle)
def Itz (K : PySem.W.Frag) (a b : Addr) : It :=
  ⟨fun i H => ∃ (xs ys : List V) (x y : V), SqL K H a xs ∧ SqL K H b ys ∧ xs[i]? = some x ∧ ys[i]? = some y,
    fun i H v H' => ∃ T x y, v = .ref T ∧ H T = none ∧ H' = upd H T (.tup [x, y]) ∧ (∀ xs, SqL K H a xs → xs[i]? = some x) ∧ ∀ ys, SqL K H b ys → ys[i]? = some y,
    fun i H => ∃ xs ys : List V, SqL K H a xs ∧ SqL K H b ys ∧ (xs.length ≤ i ∨ ys.length ≤ i)⟩
def iZip (K : PySem.W.Frag) (ta : TA) : TI := fun σ H R => ta σ H fun vs H1 => ∃ a b xs ys, vs = [.ref a, .ref b] ∧ SqL K H1 a xs ∧ SqL K H1 b ys ∧ R (Itz K a b) H1
end L2

section 
namespace Bits
open PySem PyProof.Rows

end Bits
end 

section 
namespace TL
open PySem PySem.Builtin PySem.Builtin.Str PySem.StrLaws

abbrev tl (x : Str) : List Nat := x.cps.toList
def pre (S l : List Nat) : Bool := l.take S.length == S
def spl (S : List Nat) : Nat → List Nat → List Nat → List (List Nat)
  | _, acc, [] => [acc]
  | 0, acc, c :: r => if pre S (c :: r) = true then acc :: spl S (S.length - 1) [] r else spl S 0 (acc ++ [c]) r
  | k + 1, acc, _ :: r => spl S k acc r
def par (S : List Nat) : List Nat → List Nat → Option (List Nat × List Nat)
  | _, [] => none
  | acc, c :: r => if pre S (c :: r) = true then some (acc, (c :: r).drop S.length) else par S (acc ++ [c]) r

def joinL (S : List Nat) : List (List Nat) → List Nat
  | [] => []
  | [p] => p
  | p :: q :: r => p ++ (S ++ joinL S (q :: r))
def numL (n : Nat) : List Nat := (Nat.toDigits 10 n).map Char.toNat
def wstep (st : List (List Nat) × List Nat) (c : Nat) : List (List Nat) × List Nat :=
  if Unicode.isSpace c = true then (if st.2 = [] then st else (st.1 ++ [st.2], [])) else (st.1, st.2 ++ [c])
def wfin (st : List (List Nat) × List Nat) : List (List Nat) := if st.2 = [] then st.1 else st.1 ++ [st.2]
end TL
end 

namespace L2
open PySem PySem.Spec PyProof.Rows

def rNewStrs (ys : List Str) : Hp → VK → Prop := fun H Q => ∀ p, H p = none → Q (.ref p) (upd H p (.lst (ys.map V.str)))

section
variable {X : Cx} {pins : List (Addr × Obj)} {σ : St} {H : Hp} {s : Shared} {Q : VK}
end

section
variable {X : Cx}

end

section
variable {X : Cx} {o e : Expr} {to te : TE}
def tM0 (r : V → List V → Hp → VK → Prop) (to : TE) : TE := fun σ H Q => to σ H fun x H1 => (∃ a, x = .str a) ∧ r x [] H1 Q
def tM1 (r : V → List V → Hp → VK → Prop) (to te : TE) : TE := fun σ H Q => to σ H fun x H1 => (∃ a, x = .str a) ∧ te σ H1 fun y H2 => r x [y] H2 Q
end
end L2

namespace L2
open PySem PySem.Spec PyProof.Rows

section
variable {X : Cx}
end

def clipS (n d : Nat) : Option Int → Int
  | none => (d : Int)
  | some i => max 0 (min (if i < 0 then i + (n : Int) else i) (n : Int))
def cutS (z : Str) (lo hi : Option Int) : Str :=
  ⟨((z.cps.toList.drop (HT.sIx z.length 0 lo)).take (HT.sIx z.length z.length hi - HT.sIx z.length 0 lo)).toArray⟩
def rSlS : V → Option Int → Option Int → Hp → VK → Prop := fun x lo hi H Q => ∃ z, x = .str z ∧ z.length ≤ sizeLine ∧ Q (.str (cutS z lo hi)) H
end L2

namespace Att
open PySem PySem.W PySem.Calls PyProof.Rows

theorem ints_of_wellAll {P : Params} {h : Heap} : ∀ (ns : List Int) (vs : List Value), WellAll P h vs (ns.map WData.int) → IntsAre vs ns := by
  intro ns
  induction ns with
  | nil =>
    intro vs w
    rw [List.map_nil] at w
    cases w
    exact .nil
  | cons n ns ih =>
    intro vs w
    rw [List.map_cons] at w
    cases w with
    | cons a b =>
      cases a
      exact .cons _ _ (ih _ b)

section
variable {prog : Program} {w : World} {A : Around} {E : Value → Shared → Prop} {s : Shared} {K : Frag}

def noObjs (h : Heap) : Heap := { h with objs := #[] }
def ledger (h : Heap) (L d : Addr) : List (Addr × Obj) := (List.range h.objs.size).filterMap fun a => if a = L ∨ a = d then none else (h.get? a).map fun o => (a, o)
end
end Att

namespace L2
open PySem PySem.Spec PyProof.Rows

theorem vals_ints : ∀ {vs : List Value} {ns : List Int}, IntsAre vs ns → Vals (ns.map V.int) vs
  | _, _, .nil => .nil
  | _, _, .cons n t h => .cons ⟨t, rfl⟩ (vals_ints h)

def Only (H : Hp) : Prop := ∀ b, H b = none ∨ ∃ o xs, H b = some (.frz o (.lst xs))

end L2

namespace L2
open PySem PySem.Spec PyProof.Rows

abbrev KOf {K : PySem.W.Frag} {h : Heap} (_ : K.In h) : PySem.W.Frag := K

end L2


namespace L2
open PySem PySem.Spec PyProof.Rows

def inClass (s : Stmt) (j : Nat) : Stmt := match s with
  | .ClassDef _ _ _ body _ _ _ _ _ _ _ => body.getD j (.Pass ⟨0, 0, 0, 0⟩)
  | _ => .Pass ⟨0, 0, 0, 0⟩
def defArgs (s : Stmt) : Arguments := match s with
  | .FunctionDef _ a _ _ _ _ _ _ _ _ => a
  | _ => { posonlyargs := [], args := [], vararg := none, kwonlyargs := [], kw_defaults := [], kwarg := none, defaults := [] }
def defBody (s : Stmt) : List Stmt := match s with
  | .FunctionDef _ _ b _ _ _ _ _ _ _ => b
  | _ => []
def defScope (s : Stmt) : Scope := match s with
  | .FunctionDef _ _ _ _ _ _ sc _ _ _ => sc
  | _ => { kind := .function, names := [], isGenerator := false, isCoroutine := false }

abbrev CX0 : CXT := fun _ _ _ _ _ _ => False
abbrev E0 : XK := fun _ _ _ => False
theorem pass0 {X : Cx} : Passes CX0 X E0 := fun _ _ _ _ _ _ _ h => h.elim

structure Fun (K : PySem.W.Frag) (x qual : Str) (st : Stmt) (f : Addr) (fd : FuncData) : Prop where
  ex : ∃ (oc : Value) (od : Option Addr) (kV doc pm : Value) (an : Option Addr) (cdv ct : Value) (osl : Array (Option Value)),
    fd = PySem.W.fnOf x qual (defArgs st) (defBody st) (defScope st) .none kV doc pm an cdv ct ∧ K.lookup f = some ⟨oc, od, .func fd, osl⟩ ∧ PySem.W.codeIn K cdv qual = true
  kp : PySem.W.keepIn K (.ref f) = true
section
variable {P : Program} {w : World} {K : PySem.W.Frag} {mg : Str → Option Value} {base : Heap}
theorem Fun.ok {x qual : Str} {st : Stmt} {f : Addr} {fd : FuncData} {N ps : List Str} {k : Nat} {sp : Sp} (F : Fun K x qual st f fd) (S : FnScope N ps (defScope st)) (len : ∀ vs H Q E, sp vs H Q E → vs.length = ps.length)
    (hbody : ∀ (cdv : Value) (A : Around) (outer : List Env) (s : Shared) (H : Hp) (vs : List V) (Q : VK) (E : XK), Room k (A.deeper (envOfC qual (defScope st) s.heap.objs.size f cdv)) → sp vs H Q E →
      ∃ t, PSs (cxOf CX0 P w K mg base N qual (defScope st) f cdv A outer s H E).nox (defBody st) t ∧ t { nx := fun _ H' => Q .non H', rt := Q } (start N vs) H) : FnOk P w K mg base CX0 (k + 1) f fd ps sp := by
  obtain ⟨oc, od, kV, doc, pm, an, cdv, ct, osl, rfl, lk, hcd⟩ := F.ex
  refine fn_of lk hcd S len fun A outer s H vs Q E hr hsp => ?_
  obtain ⟨t, h, q⟩ := hbody cdv A outer s H vs Q E hr hsp
  exact ⟨t, h.nox, q⟩
theorem Fun.binds {x qual : Str} {st : Stmt} {f : Addr} {fd : FuncData} {ps : List Str} (F : Fun K x qual st f fd)
    (h : ∀ (kV doc pm : Value) (an : Option Addr) (cdv ct : Value) (us : List Value), us.length = ps.length → bindArgs (PySem.W.fnOf x qual (defArgs st) (defBody st) (defScope st) .none kV doc pm an cdv ct) ⟨us, []⟩ = pure (ps.zip us)) : Binds K fd ps [] := by
  obtain ⟨oc, od, kV, doc, pm, an, cdv, ct, osl, rfl, lk, hcd⟩ := F.ex
  exact .all (h kV doc pm an cdv ct)
theorem fun_mk {x qual : Str} {st : Stmt} {f : Addr} {oc : Value} {od an : Option Addr} {osl : Array (Option Value)} {kV doc pm cdv ct : Value} (l : K.lookup f = some ⟨oc, od, .func (PySem.W.fnOf x qual (defArgs st) (defBody st) (defScope st) .none kV doc pm an cdv ct), osl⟩)
    (c : PySem.W.codeIn K cdv qual = true) (k : PySem.W.keepIn K (.ref f) = true) : Fun K x qual st f (PySem.W.fnOf x qual (defArgs st) (defBody st) (defScope st) .none kV doc pm an cdv ct) := ⟨⟨oc, od, kV, doc, pm, an, cdv, ct, osl, rfl, l, c⟩, k⟩
end
theorem hu_of {A : Around} {k : Nat} (hr : Room k A) : A.units + 1 < cLine := Nat.lt_of_le_of_lt (Nat.add_le_add_left (by decide : 1 ≤ 64) _) hr.units
theorem small1000 {n : Nat} (h : n ≤ 1000) : n < sizeLine := Nat.lt_of_le_of_lt h (by decide)

section
variable {X : Cx}
theorem pv (i : Nat) {x : Str} {pos : Pos} (hN : X.N[i]? = some x := by rfl) (hv : Vis X.env.scope x := by first | exact Or.inl rfl | exact Or.inr (Or.inl rfl) | exact Or.inr (Or.inr rfl)) (hd : (x == ("__debug__" : Str)) = false := by decide)
    (hcd : (x == ("__classdict__" : Str)) = false := by decide) : PE X (.Name x pos) (tVar i) := pe_var hN hv hd hcd
end

theorem iteF {A B : Prop} (h : B) : if false = true then A else B := by
  rw [if_neg Bool.false_ne_true]
  exact h
theorem iteT {A B : Prop} (h : A) : if true = true then A else B := by
  rw [if_pos rfl]
  exact h
theorem ite2 {c A B : Prop} [Decidable c] (h1 : c → A) (h2 : ¬ c → B) : if c then A else B := by
  by_cases h : c
  · rw [if_pos h]
    exact h1 h
  · rw [if_neg h]
    exact h2 h
def Same (H H' : Hp) : Prop := ∀ b o, H b = some o → H' b = some o
theorem Same.refl (H : Hp) : Same H H := fun _ _ h => h
theorem Same.trans {H H1 H2 : Hp} (a : Same H H1) (b : Same H1 H2) : Same H H2 := fun c o h => b c o (a c o h)
theorem Same.free {H H' : Hp} (e : Same H H') {l : Addr} (h : H' l = Option.none) : H l = Option.none := by
  cases q : H l with
  | none => rfl
  | some o =>
    rw [e l o q] at h
    cases h
theorem Same.seq {K : PySem.W.Frag} {H H' : Hp} {a : Addr} {xs : List V} (e : Same H H') (h : SqL K H a xs) : SqL K H' a xs := by
  rcases h with (h | ⟨o, h⟩) | h
  · exact .inl (.inl (e _ _ h))
  · exact .inl (.inr ⟨o, e _ _ h⟩)
  · exact .inr h

section
variable {κ : Type} [DecidableEq κ]
end
theorem Same.made {H H1 : Hp} {x dx C : Addr} (nx : H x = Option.none) (nd : H dx = Option.none) (k : ∀ b o, (upd (upd H dx (.own x)) x (.ins C dx [])) b = some o → b ≠ x → H1 b = some o) : Same H H1 := fun b o e =>
  k b o (by rw [upd_ne (ne_of_none e nx), upd_ne (ne_of_none e nd)]; exact e) (ne_of_none e nx)
end L2

set_option linter.all false
namespace RM
open Kp176

theorem inString_fuel : ∀ (f g : Nat) (l : List Nat), l.length < f → l.length < g → inString f l = inString g l
  | 0, _, _, h, _ => absurd h (Nat.not_lt_zero _)
  | _ + 1, 0, _, _, h => absurd h (Nat.not_lt_zero _)
  | _ + 1, _ + 1, [], _, _ => by simp only [inString]
  | f + 1, g + 1, [c], h1, h2 => by
    have e : inString f ([] : List Nat) = inString g [] := by
      cases f <;> cases g <;> simp only [inString]
    unfold inString
    simp only [e]
  | f + 1, g + 1, c :: d :: q, h1, h2 => by
    simp only [List.length_cons] at h1 h2
    have e1 : inString f (d :: q) = inString g (d :: q) := inString_fuel f g (d :: q) (by simp only [List.length_cons]; omega) (by simp only [List.length_cons]; omega)
    have e2 : inString f q = inString g q := inString_fuel f g q (by omega) (by omega)
    unfold inString
    by_cases c1 : c = 34
    · simp only [c1, if_true]
    · by_cases c2 : c = 92
      · simp only [c2, if_neg (show ¬ (92 : Nat) = 34 by decide), if_true]
        split
        · rename_i h; cases h; rw [e2]
        · rename_i h; cases h; rw [e2]
        · rename_i h; cases h; rw [e2]
        · rfl
      · simp only [if_neg c1, if_neg c2, e1]

theorem inString_cons (f c : Nat) (r : List Nat) : inString (f + 1) (c :: r) = if c = 34 then some ([], r) else if c = 92 then (match r with
      | 34 :: q => (inString f q).map fun x => (34 :: x.1, x.2)
      | 92 :: q => (inString f q).map fun x => (92 :: x.1, x.2)
      | 110 :: q => (inString f q).map fun x => (10 :: x.1, x.2)
      | _ => none)
    else if c < 32 then none else (inString f r).map fun x => (c :: x.1, x.2) := by
  conv => lhs; unfold inString
  rfl
def sEnd (l : List Nat) : Option (List Nat) := (inString (l.length + 1) l).map Prod.snd
theorem sEnd_nil : sEnd [] = none := rfl
theorem sEnd_quote (r : List Nat) : sEnd (34 :: r) = some r := by
  unfold sEnd
  simp only [List.length_cons, inString_cons, if_true, Option.map_some]
theorem sEnd_low (c : Nat) (r : List Nat) (h : c < 32) : sEnd (c :: r) = none := by
  unfold sEnd
  simp only [List.length_cons, inString_cons, if_neg (show ¬ c = 34 by omega), if_neg (show ¬ c = 92 by omega), if_pos h, Option.map_none]
theorem sEnd_plain (c : Nat) (r : List Nat) (h : ¬ c < 32) (h1 : c ≠ 34) (h2 : c ≠ 92) : sEnd (c :: r) = sEnd r := by
  unfold sEnd
  simp only [List.length_cons]
  rw [inString_cons]
  simp only [if_neg h1, if_neg h2, if_neg h, Option.map_map]
  rfl
def escd (d : Nat) : Bool := d == 34 || d == 92 || d == 110
theorem sEnd_esc (d : Nat) (q : List Nat) (h : escd d = true) : sEnd (92 :: d :: q) = sEnd q := by
  unfold sEnd
  have e : inString (q.length + 1 + 1) q = inString (q.length + 1) q := inString_fuel _ _ _ (by omega) (by omega)
  simp only [List.length_cons]
  rw [inString_cons]
  unfold escd at h
  simp only [Bool.or_eq_true, beq_iff_eq] at h
  simp only [if_neg (show ¬ (92 : Nat) = 34 by decide), if_true]
  rcases h with (h | h) | h <;> subst h <;> simp only [e, Option.map_map] <;> rfl
theorem sEnd_bad (d : Nat) (q : List Nat) (h : escd d = false) : sEnd (92 :: d :: q) = none := by
  unfold sEnd
  simp only [List.length_cons]
  rw [inString_cons]
  unfold escd at h
  simp only [Bool.or_eq_false_iff, beq_eq_false_iff_ne] at h
  simp only [if_neg (show ¬ (92 : Nat) = 34 by decide), if_true]
  split
  · rename_i z; cases z; exact absurd rfl h.1.1
  · rename_i z; cases z; exact absurd rfl h.1.2
  · rename_i z; cases z; exact absurd rfl h.2
  · rfl
theorem sEnd_last : sEnd [92] = none := rfl

theorem inString_suffix : ∀ (f : Nat) (l : List Nat) (x : Bytes × Bytes), inString f l = some x → ∃ k, 1 ≤ k ∧ k ≤ l.length ∧ x.2 = l.drop k ∧ inString f (l.take k) = some (x.1, [])
  | 0, _, _, h => by simp [inString] at h
  | _ + 1, [], _, h => by simp [inString] at h
  | f + 1, c :: r, x, h => by
    rw [inString_cons] at h
    by_cases c1 : c = 34
    · rw [if_pos c1] at h; cases h; exact ⟨1, by omega, by simp, rfl, by rw [List.take_succ_cons, inString_cons, if_pos c1]; rfl⟩
    · rw [if_neg c1] at h
      by_cases c2 : c = 92
      · rw [if_pos c2] at h
        have two : ∀ (d : Nat) (q : List Nat) (g : Bytes × Bytes → Bytes × Bytes), (∀ y, (g y).2 = y.2) → (∀ y z w, g (y, z) = ((g (y, w)).1, z)) → (∀ q', inString (f + 1) (c :: d :: q') = (inString f q').map g) → r = d :: q → (inString f q).map g = some x → ∃ k, 1 ≤ k ∧ k ≤ (c :: r).length ∧ x.2 = (c :: r).drop k ∧ inString (f + 1) ((c :: r).take k) = some (x.1, []) := by
          intro d q g hg hg2 hq hr hm
          obtain ⟨y, hy, rfl⟩ := Option.map_eq_some_iff.mp hm
          obtain ⟨k, k1, k2, k3, k4⟩ := inString_suffix f q y hy
          refine ⟨k + 2, by omega, by rw [hr]; simp only [List.length_cons]; omega, ?_, ?_⟩
          · rw [hg, k3, hr]; rfl
          · rw [hr, List.take_succ_cons, List.take_succ_cons, hq, k4, Option.map_some, hg2 _ _ y.2]
        split at h
        · refine two _ _ _ ?_ ?_ ?_ rfl h
          · intro _; rfl
          · intro _ _ _; rfl
          · intro q'; rw [inString_cons, if_neg c1, if_pos c2]; rfl
        · refine two _ _ _ ?_ ?_ ?_ rfl h
          · intro _; rfl
          · intro _ _ _; rfl
          · intro q'; rw [inString_cons, if_neg c1, if_pos c2]; rfl
        · refine two _ _ _ ?_ ?_ ?_ rfl h
          · intro _; rfl
          · intro _ _ _; rfl
          · intro q'; rw [inString_cons, if_neg c1, if_pos c2]; rfl
        · cases h
      · rw [if_neg c2] at h
        by_cases c3 : c < 32
        · rw [if_pos c3] at h; cases h
        · rw [if_neg c3] at h
          obtain ⟨y, hy, rfl⟩ := Option.map_eq_some_iff.mp h
          obtain ⟨k, k1, k2, k3, k4⟩ := inString_suffix f r y hy
          exact ⟨k + 1, by omega, by simp only [List.length_cons]; omega, by show y.2 = _; rw [k3]; rfl, by rw [List.take_succ_cons, inString_cons, if_neg c1, if_neg c2, if_neg c3, k4]; rfl⟩
theorem sEnd_suffix {l q : List Nat} (h : sEnd l = some q) : ∃ k, 1 ≤ k ∧ k ≤ l.length ∧ q = l.drop k := by
  unfold sEnd at h
  obtain ⟨y, hy, rfl⟩ := Option.map_eq_some_iff.mp h
  obtain ⟨k, k1, k2, k3, _⟩ := inString_suffix _ _ _ hy
  exact ⟨k, k1, k2, k3⟩

theorem lex_fuel : ∀ (f g : Nat) (l : List Nat), l.length < f → l.length < g → lex f l = lex g l
  | 0, _, _, h, _ => absurd h (Nat.not_lt_zero _)
  | _ + 1, 0, _, _, h => absurd h (Nat.not_lt_zero _)
  | _ + 1, _ + 1, [], _, _ => by simp only [lex]
  | f + 1, g + 1, c :: r, h1, h2 => by
    simp only [List.length_cons] at h1 h2
    have e0 : lex f r = lex g r := lex_fuel f g r (by omega) (by omega)
    have ed : ∀ k, lex f (r.drop k) = lex g (r.drop k) := fun k => lex_fuel f g (r.drop k) (by rw [List.length_drop]; omega) (by rw [List.length_drop]; omega)
    unfold lex
    by_cases c1 : c = 32 ∨ c = 10
    · simp only [if_pos c1, e0]
    · simp only [if_neg c1]
      by_cases c2 : small c = true
      · simp only [if_pos c2, ed]
      · simp only [if_neg c2]
        by_cases c3 : digit c = true
        · simp only [if_pos c3, ed]
        · simp only [if_neg c3]
          by_cases c4 : c = 34
          · simp only [if_pos c4]
            cases q : inString (r.length + 1) r with
            | none => rfl
            | some s =>
              obtain ⟨k, k1, k2, k3, _⟩ := inString_suffix _ _ _ q
              show (lex f s.2 >>= fun l => some _) = (lex g s.2 >>= fun l => some _)
              rw [k3, ed k]
          · simp only [if_neg c4]
            by_cases c5 : signs.contains c = true
            · simp only [if_pos c5, e0]
            · simp only [if_neg c5]
theorem tokens_fuel {f : Nat} {l : List Nat} (h : l.length < f) : lex f l = tokens l := lex_fuel _ _ _ h (Nat.lt_succ_self _)
theorem tokens_nil : tokens [] = some [] := rfl
theorem tokens_blank {c : Nat} (r : List Nat) (h : c = 32 ∨ c = 10) : tokens (c :: r) = tokens r := by
  show lex (r.length + 1 + 1) (c :: r) = _
  rw [lex, if_pos h, tokens_fuel (by omega)]

def tokLen : List Nat → Option Nat
  | [] => none
  | c :: r => if signs.contains c then some 1
    else if c = 34 then (sEnd r).map fun q => 1 + r.length - q.length
    else if small c then (if 16 < 1 + (r.takeWhile inName).length then none else some (1 + (r.takeWhile inName).length))
    else if digit c then (if 4 < 1 + (r.takeWhile digit).length then none else some (1 + (r.takeWhile digit).length))
    else none

theorem tokLen_cons (c : Nat) (r : List Nat) : tokLen (c :: r) = if signs.contains c then some 1
    else if c = 34 then (sEnd r).map fun q => 1 + r.length - q.length
    else if small c then (if 16 < 1 + (r.takeWhile inName).length then none else some (1 + (r.takeWhile inName).length))
    else if digit c then (if 4 < 1 + (r.takeWhile digit).length then none else some (1 + (r.takeWhile digit).length))
    else none := rfl
inductive Kd where
  | name | number | string | kif | kthen | kelse | kget | kfirst | krest | ksize | eq | amp | lp | rp | comma | semi | fin
  deriving DecidableEq, Inhabited
def Kd.str : Kd → String
  | .name => "name" | .number => "number" | .string => "string" | .kif => "if" | .kthen => "then" | .kelse => "else" | .kget => "get" | .kfirst => "first" | .krest => "rest" | .ksize => "size"
  | .eq => "=" | .amp => "&" | .lp => "(" | .rp => ")" | .comma => "," | .semi => ";" | .fin => "end"
def signKd (c : Nat) : Kd := if c = 61 then .eq else if c = 38 then .amp else if c = 40 then .lp else if c = 41 then .rp else if c = 44 then .comma else .semi
def wordKd (b : List Nat) : Kd := if b = bytesOf "if" then .kif else if b = bytesOf "then" then .kthen else if b = bytesOf "else" then .kelse else if b = bytesOf "get" then .kget
  else if b = bytesOf "first" then .kfirst else if b = bytesOf "rest" then .krest else if b = bytesOf "size" then .ksize else .name
def rawKd : List Nat → Kd
  | [] => .name
  | c :: r => if signs.contains c then signKd c else if c = 34 then .string else if digit c then .number else wordKd (c :: r)

theorem rawKd_cons (c : Nat) (r : List Nat) : rawKd (c :: r) = if signs.contains c then signKd c else if c = 34 then .string else if digit c then .number else wordKd (c :: r) := rfl
structure Fits (t : Tok) (raw : List Nat) : Prop where
  kind : t.kind = 0 ∨ t.kind = 1 ∨ t.kind = 3 ∨ t.kind = 2
  name : t.kind = 0 → rawKd raw = .name ∧ t.text = raw
  number : t.kind = 1 → rawKd raw = .number ∧ t.text = raw ∧ ∀ c ∈ raw, 48 ≤ c
  string : t.kind = 3 → rawKd raw = .string ∧ ∃ r, raw = 34 :: r ∧ inString (r.length + 1) r = some (t.text, [])
  word : t.kind = 2 → t.text = bytesOf (rawKd raw).str ∧ rawKd raw ≠ .name ∧ rawKd raw ≠ .number ∧ rawKd raw ≠ .string ∧ rawKd raw ≠ .fin

theorem signs_eq : signs = [61, 38, 40, 41, 44, 59] := by decide
theorem words_eq : words = [[105, 102], [116, 104, 101, 110], [101, 108, 115, 101], [103, 101, 116], [102, 105, 114, 115, 116], [114, 101, 115, 116], [115, 105, 122, 101]] := by decide
theorem sign_cases {c : Nat} (h : signs.contains c = true) : c = 61 ∨ c = 38 ∨ c = 40 ∨ c = 41 ∨ c = 44 ∨ c = 59 := by
  rw [signs_eq] at h
  simpa using h
theorem sign_not {c : Nat} (h : c = 61 ∨ c = 38 ∨ c = 40 ∨ c = 41 ∨ c = 44 ∨ c = 59) : small c = false ∧ digit c = false ∧ c ≠ 34 := by
  rcases h with h | h | h | h | h | h <;> subst h <;> decide
theorem no_sign_small {c : Nat} (h : small c = true) : signs.contains c = false ∧ c ≠ 34 ∧ digit c = false ∧ inName c = true := by
  unfold small at h
  simp only [Bool.and_eq_true, decide_eq_true_eq] at h
  refine ⟨?_, by omega, ?_, ?_⟩
  · rw [signs_eq]; simp; omega
  · unfold digit; simp; omega
  · unfold inName small; simp; omega
theorem no_sign_digit {c : Nat} (h : digit c = true) : signs.contains c = false ∧ c ≠ 34 ∧ small c = false := by
  unfold digit at h
  simp only [Bool.and_eq_true, decide_eq_true_eq] at h
  refine ⟨?_, by omega, ?_⟩
  · rw [signs_eq]; simp; omega
  · unfold small; simp; omega
theorem word_yes {w : List Nat} (h : words.contains w = true) : w = bytesOf (wordKd w).str ∧ wordKd w ≠ .name ∧ wordKd w ≠ .number ∧ wordKd w ≠ .string ∧ wordKd w ≠ .fin := by
  rw [words_eq] at h
  simp only [List.contains_eq_mem, List.mem_cons, List.not_mem_nil, or_false, decide_eq_true_eq] at h
  rcases h with h | h | h | h | h | h | h <;> subst h <;> decide
theorem word_no {w : List Nat} (h : words.contains w = false) : wordKd w = .name := by
  have h' : ∀ x ∈ words, w ≠ x := fun x hx e => by
    subst e
    have : words.contains w = true := by simpa using hx
    rw [this] at h; cases h
  unfold wordKd
  have z : ∀ s : String, bytesOf s ∈ words → ¬ w = bytesOf s := fun s hs => h' _ hs
  rw [if_neg (z _ (by decide)), if_neg (z _ (by decide)), if_neg (z _ (by decide)), if_neg (z _ (by decide)), if_neg (z _ (by decide)), if_neg (z _ (by decide)), if_neg (z _ (by decide))]
theorem take_takeWhile (p : Nat → Bool) : ∀ l : List Nat, l.take (l.takeWhile p).length = l.takeWhile p
  | [] => rfl
  | c :: r => by
    by_cases h : p c = true
    · rw [List.takeWhile_cons_of_pos h, List.length_cons, List.take_succ_cons, take_takeWhile p r]
    · rw [List.takeWhile_cons_of_neg h]; rfl
theorem takeWhile_le (p : Nat → Bool) (l : List Nat) : (l.takeWhile p).length ≤ l.length := by
  have e := congrArg List.length (take_takeWhile p l)
  rw [List.length_take] at e
  omega

theorem tw_all (p : Nat → Bool) : ∀ (l : List Nat) (d : Nat), d ∈ l.takeWhile p → p d = true
  | [], _, h => by cases h
  | a :: l, d, h => by
    rw [List.takeWhile_cons] at h
    split at h
    · rename_i ha
      rcases List.mem_cons.mp h with q | q
      · rw [q]; exact ha
      · exact tw_all p l d q
    · cases h
theorem tokens_next {c : Nat} (r : List Nat) (hb : ¬ (c = 32 ∨ c = 10)) : (tokLen (c :: r) = none ∧ tokens (c :: r) = none) ∨
    ∃ n t, tokLen (c :: r) = some n ∧ 1 ≤ n ∧ n ≤ (c :: r).length ∧ Fits t ((c :: r).take n) ∧ tokens (c :: r) = (tokens ((c :: r).drop n)).map (t :: ·) := by
  have e : tokens (c :: r) = lex (r.length + 1 + 1) (c :: r) := rfl
  have ed : ∀ k, lex (r.length + 1) (r.drop k) = tokens (r.drop k) := fun k => tokens_fuel (by rw [List.length_drop]; omega)
  rw [e, lex, if_neg hb]
  rw [tokLen_cons]
  by_cases c1 : signs.contains c = true
  · obtain ⟨z1, z2, z3⟩ := sign_not (sign_cases c1)
    refine .inr ⟨1, ⟨2, [c]⟩, by rw [if_pos c1], Nat.le_refl _, by simp, ?_, ?_⟩
    · have : rawKd [c] = signKd c := by rw [rawKd_cons, if_pos c1]
      refine ⟨by simp, fun h => by simp at h, fun h => by simp at h, fun h => by simp at h, fun _ => ?_⟩
      show [c] = bytesOf (rawKd [c]).str ∧ rawKd [c] ≠ .name ∧ rawKd [c] ≠ .number ∧ rawKd [c] ≠ .string ∧ rawKd [c] ≠ .fin
      rw [this]
      rcases sign_cases c1 with h | h | h | h | h | h <;> subst h <;> decide
    · rw [z1, z2, if_neg (by decide), if_neg (by decide), if_neg z3, if_pos c1]
      have := ed 0
      rw [List.drop_zero] at this
      rw [this]; rfl
  · rw [if_neg c1]
    by_cases c2 : small c = true
    · obtain ⟨z1, z2, z3, z4⟩ := no_sign_small c2
      rw [if_pos c2, if_neg z2, if_pos c2]
      have hw : (c :: r.takeWhile inName).length = 1 + (r.takeWhile inName).length := by simp only [List.length_cons]; omega
      dsimp only
      rw [hw]
      by_cases c3 : 16 < 1 + (r.takeWhile inName).length
      · exact .inl ⟨by rw [if_pos c3], by rw [if_pos c3]⟩
      · refine .inr ⟨1 + (r.takeWhile inName).length, ⟨if words.contains (c :: r.takeWhile inName) then 2 else 0, c :: r.takeWhile inName⟩, by rw [if_neg c3], by omega, by have := takeWhile_le inName r; simp only [List.length_cons]; omega, ?_, ?_⟩
        · have et : (c :: r).take (1 + (r.takeWhile inName).length) = c :: r.takeWhile inName := by rw [Nat.add_comm, List.take_succ_cons, take_takeWhile]
          rw [et]
          have er : rawKd (c :: r.takeWhile inName) = wordKd (c :: r.takeWhile inName) := by rw [rawKd_cons, if_neg c1, if_neg z2, if_neg (by rw [z3]; decide)]
          by_cases hwd : words.contains (c :: r.takeWhile inName) = true
          · rw [if_pos hwd]
            refine ⟨by simp, fun h => by simp at h, fun h => by simp at h, fun h => by simp at h, fun _ => ?_⟩
            rw [er]; exact word_yes hwd
          · rw [if_neg hwd]
            refine ⟨by simp, fun _ => ⟨?_, rfl⟩, fun h => by simp at h, fun h => by simp at h, fun h => by simp at h⟩
            rw [er]; exact word_no (by simpa using hwd)
        · rw [if_neg c3, show 1 + (r.takeWhile inName).length - 1 = (r.takeWhile inName).length by omega, ed, Nat.add_comm, List.drop_succ_cons]
    · simp only [if_neg c2]
      by_cases c3 : digit c = true
      · obtain ⟨z1, z2, z3⟩ := no_sign_digit c3
        rw [if_neg z2]
        simp only [if_pos c3]
        have hw : (c :: r.takeWhile digit).length = 1 + (r.takeWhile digit).length := by simp only [List.length_cons]; omega
        rw [hw]
        by_cases c4 : 4 < 1 + (r.takeWhile digit).length
        · exact .inl ⟨by rw [if_pos c4], by rw [if_pos c4]⟩
        · refine .inr ⟨1 + (r.takeWhile digit).length, ⟨1, c :: r.takeWhile digit⟩, by rw [if_neg c4], by omega, by have := takeWhile_le digit r; simp only [List.length_cons]; omega, ?_, ?_⟩
          · have et : (c :: r).take (1 + (r.takeWhile digit).length) = c :: r.takeWhile digit := by rw [Nat.add_comm, List.take_succ_cons, take_takeWhile]
            rw [et]
            have dg : ∀ d, digit d = true → 48 ≤ d := fun d h => by unfold digit at h; simp at h; exact h.1
            refine ⟨by simp, fun h => by simp at h, fun _ => ⟨?_, rfl, fun d hd => ?_⟩, fun h => by simp at h, fun h => by simp at h⟩
            · rw [rawKd_cons, if_neg c1, if_neg z2, if_pos c3]
            · rcases List.mem_cons.mp hd with q | q
              · rw [q]; exact dg c c3
              · exact dg d (tw_all digit r d q)
          · rw [if_neg c4, show 1 + (r.takeWhile digit).length - 1 = (r.takeWhile digit).length by omega, ed, Nat.add_comm, List.drop_succ_cons]
      · simp only [if_neg c3]
        by_cases c4 : c = 34
        · simp only [if_pos c4]
          cases q : inString (r.length + 1) r with
          | none => exact .inl ⟨by unfold sEnd; rw [q]; rfl, rfl⟩
          | some s =>
            obtain ⟨k, k1, k2, k3, k4⟩ := inString_suffix _ _ _ q
            have es : sEnd r = some (r.drop k) := by unfold sEnd; rw [q, ← k3]; rfl
            have en : 1 + r.length - (r.drop k).length = k + 1 := by rw [List.length_drop]; omega
            refine .inr ⟨k + 1, ⟨3, s.1⟩, by rw [es, Option.map_some, en], by omega, by simp only [List.length_cons]; omega, ?_, ?_⟩
            · rw [List.take_succ_cons]
              refine ⟨by simp, fun h => by simp at h, fun h => by simp at h, fun _ => ⟨?_, r.take k, by rw [c4], ?_⟩, fun h => by simp at h⟩
              · rw [rawKd_cons, if_neg c1, if_pos c4]
              · rw [← k4]; exact inString_fuel _ _ _ (by omega) (by rw [List.length_take]; omega)
            · rw [List.drop_succ_cons]
              show (lex (r.length + 1) s.2 >>= fun l => some (_ :: l)) = _
              rw [k3, ed]
              cases tokens (r.drop k) <;> rfl
        · simp only [if_neg c4, if_neg c1]
          exact .inl ⟨by first | rfl | trivial, by first | rfl | trivial⟩
end RM

set_option linter.all false
namespace RM
open Kp176

def Suf (n : Nat) (ts r : List Tok) : Prop := ∃ k, n ≤ k ∧ k ≤ ts.length ∧ r = ts.drop k
theorem Suf.len {n : Nat} {ts r : List Tok} (h : Suf n ts r) : r.length + n ≤ ts.length := by
  obtain ⟨k, h1, h2, rfl⟩ := h
  rw [List.length_drop]; omega
theorem Suf.trans {n m : Nat} {a b c : List Tok} (h : Suf n a b) (g : Suf m b c) : Suf (n + m) a c := by
  obtain ⟨k, h1, h2, rfl⟩ := h
  obtain ⟨j, g1, g2, rfl⟩ := g
  rw [List.length_drop] at g2
  exact ⟨k + j, by omega, by omega, by rw [List.drop_drop]⟩
theorem Suf.refl (ts : List Tok) : Suf 0 ts ts := ⟨0, Nat.le_refl _, Nat.zero_le _, rfl⟩
theorem Suf.mono {n m : Nat} {a b : List Tok} (h : Suf n a b) (l : m ≤ n) : Suf m a b := let ⟨k, h1, h2, h3⟩ := h; ⟨k, by omega, h2, h3⟩
theorem Suf.tail (t : Tok) (r : List Tok) : Suf 1 (t :: r) r := ⟨1, Nat.le_refl _, by simp, rfl⟩
theorem isTok_ne {w : String} {ts : List Tok} (h : isTok w ts = true) : Suf 1 ts (ts.drop 1) := by
  cases ts with
  | nil => cases h
  | cons t r => exact Suf.tail t r
theorem eat_suf {w : String} {ts q : List Tok} (h : eat w ts = some q) : Suf 1 ts q := by
  unfold eat at h
  split at h
  · rename_i z; cases h; exact isTok_ne z
  · cases h

theorem pFormula_succ (f d : Nat) (ts : List Tok) : pFormula (f + 1) d ts = if DEEP < d then none else if isTok "if" ts then (pJoin f d (ts.drop 1)).bind fun a => (eat "=" a.2).bind fun q => (pJoin f d q).bind fun b =>
    (eat "then" b.2).bind fun t => (pFormula f (d + 1) t).bind fun x => (eat "else" x.2).bind fun u => (pFormula f (d + 1) u).bind fun y => some (.ite a.1 b.1 x.1 y.1, y.2)
    else pJoin f d ts := by
  rw [pFormula]; rfl
theorem pJoin_succ (f d : Nat) (ts : List Tok) : pJoin (f + 1) d ts = (pPart f d ts).bind fun a => pMore f d a.1 a.2 := by
  rw [pJoin]; rfl
theorem pMore_succ (f d : Nat) (a : F) (ts : List Tok) : pMore (f + 1) d a ts = match eat "&" ts with
    | some q => (pPart f d q).bind fun b => pMore f d (.both a b.1) b.2
    | none => some (a, ts) := by
  rw [pMore]; rfl
theorem pPart_nil (f d : Nat) : pPart (f + 1) d [] = none := by
  rw [pPart]
theorem pPart_cons (f d : Nat) (t : Tok) (r : List Tok) : pPart (f + 1) d (t :: r) =
    if t.kind = 3 then some (.str t.text, r)
    else if t.kind = 0 then some (.name t.text, r)
    else if t.kind = 1 then none
    else if t.text = bytesOf "(" then (pFormula f (d + 1) r).bind fun e => (eat ")" e.2).bind fun z => some (e.1, z)
    else if t.text = bytesOf "get" ∨ t.text = bytesOf "size" then (eat "(" r).bind fun q => (pFormula f (d + 1) q).bind fun e => (eat ")" e.2).bind fun z => some (if t.text = bytesOf "get" then .get e.1 else .size e.1, z)
    else if t.text = bytesOf "first" ∨ t.text = bytesOf "rest" then (eat "(" r).bind fun q => (pFormula f (d + 1) q).bind fun e => (eat "," e.2).bind fun c => match c with
        | k :: z => if k.kind = 1 then ((eat ")" z).bind fun y => some (if t.text = bytesOf "first" then .first e.1 (number k.text) else .rest e.1 (number k.text), y)) else none
        | [] => none
    else none := by
  rw [pPart]; rfl

theorem bind_some {α β : Type} {x : Option α} {f : α → Option β} {y : β} (h : x.bind f = some y) : ∃ a, x = some a ∧ f a = some y := Option.bind_eq_some_iff.mp h

theorem sufs : ∀ f : Nat,
    (∀ d ts x, pFormula f d ts = some x → Suf 1 ts x.2) ∧ (∀ d ts x, pJoin f d ts = some x → Suf 1 ts x.2) ∧
    (∀ d a ts x, pMore f d a ts = some x → Suf 0 ts x.2) ∧ (∀ d ts x, pPart f d ts = some x → Suf 1 ts x.2)
  | 0 => ⟨fun d ts x h => (by rw [pFormula] at h; cases h), fun d ts x h => (by rw [pJoin] at h; cases h), fun d a ts x h => (by rw [pMore] at h; cases h), fun d ts x h => (by rw [pPart] at h; cases h)⟩
  | f + 1 => by
    obtain ⟨iF, iJ, iM, iP⟩ := sufs f
    refine ⟨fun d ts x h => ?_, fun d ts x h => ?_, fun d a ts x h => ?_, fun d ts x h => ?_⟩
    · rw [pFormula_succ] at h
      split at h
      · cases h
      · split at h
        · rename_i hif
          obtain ⟨a, h1, h⟩ := bind_some h
          obtain ⟨q, h2, h⟩ := bind_some h
          obtain ⟨b, h3, h⟩ := bind_some h
          obtain ⟨t, h4, h⟩ := bind_some h
          obtain ⟨y, h5, h⟩ := bind_some h
          obtain ⟨u, h6, h⟩ := bind_some h
          obtain ⟨z, h7, h⟩ := bind_some h
          cases h
          exact (((((((isTok_ne hif).trans (iJ _ _ _ h1)).trans (eat_suf h2)).trans (iJ _ _ _ h3)).trans (eat_suf h4)).trans (iF _ _ _ h5)).trans (eat_suf h6)).trans (iF _ _ _ h7) |>.mono (by omega)
        · exact iJ _ _ _ h
    · rw [pJoin_succ] at h
      obtain ⟨a, h1, h⟩ := bind_some h
      exact ((iP _ _ _ h1).trans (iM _ _ _ _ h)).mono (by omega)
    · rw [pMore_succ] at h
      split at h
      · rename_i q hq
        obtain ⟨b, h1, h⟩ := bind_some h
        exact (((eat_suf hq).trans (iP _ _ _ h1)).trans (iM _ _ _ _ h)).mono (by omega)
      · cases h; exact Suf.refl _
    · cases ts with
      | nil => rw [pPart_nil] at h; cases h
      | cons t r =>
        rw [pPart_cons] at h
        split at h
        · cases h; exact Suf.tail t r
        split at h
        · cases h; exact Suf.tail t r
        split at h
        · cases h
        split at h
        · obtain ⟨e, h1, h⟩ := bind_some h
          obtain ⟨z, h2, h⟩ := bind_some h
          cases h
          exact (((Suf.tail t r).trans (iF _ _ _ h1)).trans (eat_suf h2)).mono (by omega)
        split at h
        · obtain ⟨q, h0, h⟩ := bind_some h
          obtain ⟨e, h1, h⟩ := bind_some h
          obtain ⟨z, h2, h⟩ := bind_some h
          cases h
          exact ((((Suf.tail t r).trans (eat_suf h0)).trans (iF _ _ _ h1)).trans (eat_suf h2)).mono (by omega)
        split at h
        · obtain ⟨q, h0, h⟩ := bind_some h
          obtain ⟨e, h1, h⟩ := bind_some h
          obtain ⟨c, h2, h⟩ := bind_some h
          split at h
          · rename_i k z
            split at h
            · obtain ⟨y, h3, h⟩ := bind_some h
              cases h
              exact ((((((Suf.tail t r).trans (eat_suf h0)).trans (iF _ _ _ h1)).trans (eat_suf h2)).trans (Suf.tail k z)).trans (eat_suf h3)).mono (by omega)
            · cases h
          · cases h
        · cases h

theorem bind_congr2 {α β : Type} {x y : Option α} {f g : α → Option β} (h : x = y) (k : ∀ a, x = some a → f a = g a) : x.bind f = y.bind g := by
  subst h
  cases x with
  | none => rfl
  | some a => exact k a rfl

theorem stable : ∀ f g : Nat,
    (∀ d ts, 16 * ts.length + 4 ≤ f → 16 * ts.length + 4 ≤ g → pFormula f d ts = pFormula g d ts) ∧ (∀ d ts, 16 * ts.length + 3 ≤ f → 16 * ts.length + 3 ≤ g → pJoin f d ts = pJoin g d ts) ∧
    (∀ d a ts, 16 * ts.length + 2 ≤ f → 16 * ts.length + 2 ≤ g → pMore f d a ts = pMore g d a ts) ∧ (∀ d ts, 16 * ts.length + 1 ≤ f → 16 * ts.length + 1 ≤ g → pPart f d ts = pPart g d ts)
  | 0, _ => ⟨fun d ts h => by omega, fun d ts h => by omega, fun d a ts h => by omega, fun d ts h => by omega⟩
  | _ + 1, 0 => ⟨fun d ts _ h => by omega, fun d ts _ h => by omega, fun d a ts _ h => by omega, fun d ts _ h => by omega⟩
  | f + 1, g + 1 => by
    obtain ⟨iF, iJ, iM, iP⟩ := stable f g
    obtain ⟨sF, sJ, sM, sP⟩ := sufs f
    refine ⟨fun d ts h1 h2 => ?_, fun d ts h1 h2 => ?_, fun d a ts h1 h2 => ?_, fun d ts h1 h2 => ?_⟩
    · rw [pFormula_succ, pFormula_succ]
      split
      · rfl
      · split
        · rename_i hif
          have l0 := (isTok_ne hif).len
          refine bind_congr2 (iJ _ _ (by omega) (by omega)) fun a ha => ?_
          have l1 := (sJ _ _ _ ha).len
          refine bind_congr2 rfl fun q hq => ?_
          have l2 := (eat_suf hq).len
          refine bind_congr2 (iJ _ _ (by omega) (by omega)) fun b hb => ?_
          have l3 := (sJ _ _ _ hb).len
          refine bind_congr2 rfl fun t ht => ?_
          have l4 := (eat_suf ht).len
          refine bind_congr2 (iF _ _ (by omega) (by omega)) fun x hx => ?_
          have l5 := (sF _ _ _ hx).len
          refine bind_congr2 rfl fun u hu => ?_
          have l6 := (eat_suf hu).len
          exact bind_congr2 (iF _ _ (by omega) (by omega)) fun y hy => rfl
        · exact iJ _ _ (by omega) (by omega)
    · rw [pJoin_succ, pJoin_succ]
      refine bind_congr2 (iP _ _ (by omega) (by omega)) fun a ha => ?_
      have l1 := (sP _ _ _ ha).len
      exact iM _ _ _ (by omega) (by omega)
    · rw [pMore_succ, pMore_succ]
      split
      · rename_i q hq
        have l0 := (eat_suf hq).len
        refine bind_congr2 (iP _ _ (by omega) (by omega)) fun b hb => ?_
        have l1 := (sP _ _ _ hb).len
        exact iM _ _ _ (by omega) (by omega)
      · rfl
    · cases ts with
      | nil => rw [pPart_nil, pPart_nil]
      | cons t r =>
        simp only [List.length_cons] at h1 h2
        rw [pPart_cons, pPart_cons, iF _ r (by omega) (by omega)]
        have eq1 : ∀ (k : F × List Tok → Option (F × List Tok)), ((eat "(" r).bind fun q => (pFormula f (d + 1) q).bind k) = ((eat "(" r).bind fun q => (pFormula g (d + 1) q).bind k) := fun k => by
          refine bind_congr2 rfl fun q hq => ?_
          have l0 := (eat_suf hq).len
          rw [iF _ q (by omega) (by omega)]
        rw [eq1, eq1]

def FO (d : Nat) (ts : List Tok) : Option (F × List Tok) := pFormula (16 * ts.length + 4) d ts
def JO (d : Nat) (ts : List Tok) : Option (F × List Tok) := pJoin (16 * ts.length + 3) d ts
def MO (d : Nat) (a : F) (ts : List Tok) : Option (F × List Tok) := pMore (16 * ts.length + 2) d a ts
def PA (d : Nat) (ts : List Tok) : Option (F × List Tok) := pPart (16 * ts.length + 1) d ts
theorem FO_of {f d : Nat} {ts : List Tok} (h : 16 * ts.length + 4 ≤ f) : pFormula f d ts = FO d ts := (stable _ _).1 d ts h (Nat.le_refl _)
theorem JO_of {f d : Nat} {ts : List Tok} (h : 16 * ts.length + 3 ≤ f) : pJoin f d ts = JO d ts := (stable _ _).2.1 d ts h (Nat.le_refl _)
theorem MO_of {f d : Nat} {a : F} {ts : List Tok} (h : 16 * ts.length + 2 ≤ f) : pMore f d a ts = MO d a ts := (stable _ _).2.2.1 d a ts h (Nat.le_refl _)
theorem PA_of {f d : Nat} {ts : List Tok} (h : 16 * ts.length + 1 ≤ f) : pPart f d ts = PA d ts := (stable _ _).2.2.2 d ts h (Nat.le_refl _)
theorem FO_suf {d : Nat} {ts : List Tok} {x : F × List Tok} (h : FO d ts = some x) : Suf 1 ts x.2 := (sufs _).1 _ _ _ h
theorem PA_suf {d : Nat} {ts : List Tok} {x : F × List Tok} (h : PA d ts = some x) : Suf 1 ts x.2 := (sufs _).2.2.2 _ _ _ h

theorem FO_eq (d : Nat) (ts : List Tok) : FO d ts = if DEEP < d then none else if isTok "if" ts then (JO d (ts.drop 1)).bind fun a => (eat "=" a.2).bind fun q => (JO d q).bind fun b =>
    (eat "then" b.2).bind fun t => (FO (d + 1) t).bind fun x => (eat "else" x.2).bind fun u => (FO (d + 1) u).bind fun y => some (.ite a.1 b.1 x.1 y.1, y.2)
    else JO d ts := by
  conv => lhs; unfold FO
  rw [pFormula_succ]
  split
  · rfl
  · split
    · rename_i hif
      have l0 := (isTok_ne hif).len
      refine bind_congr2 (JO_of (by omega)) fun a ha => ?_
      have l1 := ((sufs _).2.1 _ _ _ ha).len
      refine bind_congr2 rfl fun q hq => ?_
      have l2 := (eat_suf hq).len
      refine bind_congr2 (JO_of (by omega)) fun b hb => ?_
      have l3 := ((sufs _).2.1 _ _ _ hb).len
      refine bind_congr2 rfl fun t ht => ?_
      have l4 := (eat_suf ht).len
      refine bind_congr2 (FO_of (by omega)) fun x hx => ?_
      have l5 := ((sufs _).1 _ _ _ hx).len
      refine bind_congr2 rfl fun u hu => ?_
      have l6 := (eat_suf hu).len
      exact bind_congr2 (FO_of (by omega)) fun y hy => rfl
    · exact JO_of (by omega)
theorem JO_eq (d : Nat) (ts : List Tok) : JO d ts = (PA d ts).bind fun a => MO d a.1 a.2 := by
  conv => lhs; unfold JO
  rw [pJoin_succ]
  refine bind_congr2 (PA_of (by omega)) fun a ha => ?_
  have l1 := ((sufs _).2.2.2 _ _ _ ha).len
  exact MO_of (by omega)
theorem MO_eq (d : Nat) (a : F) (ts : List Tok) : MO d a ts = match eat "&" ts with
    | some q => (PA d q).bind fun b => MO d (.both a b.1) b.2
    | none => some (a, ts) := by
  conv => lhs; unfold MO
  rw [pMore_succ]
  split
  · rename_i q hq
    have l0 := (eat_suf hq).len
    refine bind_congr2 (PA_of (by omega)) fun b hb => ?_
    have l1 := ((sufs _).2.2.2 _ _ _ hb).len
    exact MO_of (by omega)
  · rfl
theorem PA_nil (d : Nat) : PA d [] = none := by
  unfold PA; rw [pPart_nil]
theorem PA_cons (d : Nat) (t : Tok) (r : List Tok) : PA d (t :: r) =
    if t.kind = 3 then some (.str t.text, r)
    else if t.kind = 0 then some (.name t.text, r)
    else if t.kind = 1 then none
    else if t.text = bytesOf "(" then (FO (d + 1) r).bind fun e => (eat ")" e.2).bind fun z => some (e.1, z)
    else if t.text = bytesOf "get" ∨ t.text = bytesOf "size" then (eat "(" r).bind fun q => (FO (d + 1) q).bind fun e => (eat ")" e.2).bind fun z => some (if t.text = bytesOf "get" then .get e.1 else .size e.1, z)
    else if t.text = bytesOf "first" ∨ t.text = bytesOf "rest" then (eat "(" r).bind fun q => (FO (d + 1) q).bind fun e => (eat "," e.2).bind fun c => match c with
        | k :: z => if k.kind = 1 then ((eat ")" z).bind fun y => some (if t.text = bytesOf "first" then .first e.1 (number k.text) else .rest e.1 (number k.text), y)) else none
        | [] => none
    else none := by
  conv => lhs; unfold PA
  rw [pPart_cons, FO_of (ts := r) (by simp only [List.length_cons]; omega)]
  have eq1 : ∀ (k : F × List Tok → Option (F × List Tok)), ((eat "(" r).bind fun q => (pFormula (16 * (t :: r).length) (d + 1) q).bind k) = ((eat "(" r).bind fun q => (FO (d + 1) q).bind k) := fun k => by
    refine bind_congr2 rfl fun q hq => ?_
    have l0 := (eat_suf hq).len
    rw [FO_of (ts := q) (by simp only [List.length_cons]; omega)]
  rw [eq1, eq1]

def RO : Nat → List Tok → Option Sheet
  | _, [] => some []
  | 0, _ => none
  | k + 1, t :: r => if t.kind = 0 then (eat "=" r).bind fun q => (FO 1 q).bind fun e => (eat ";" e.2).bind fun z => (RO k z).bind fun l => some ((t.text, e.1) :: l) else none
theorem pRules_RO (f : Nat) : ∀ (k : Nat) (ts : List Tok), 16 * ts.length + 4 ≤ f → pRules f k ts = RO k ts
  | 0, [], _ => rfl
  | _ + 1, [], _ => rfl
  | 0, _ :: _, _ => rfl
  | k + 1, t :: r, h => by
    simp only [List.length_cons] at h
    show (if t.kind = 0 then (eat "=" r).bind fun q => (pFormula f 1 q).bind fun e => (eat ";" e.2).bind fun z => (pRules f k z).bind fun l => some ((t.text, e.1) :: l) else none) = _
    unfold RO
    split
    · refine bind_congr2 rfl fun q hq => ?_
      have l0 := (eat_suf hq).len
      refine bind_congr2 (FO_of (by omega)) fun e he => ?_
      have l1 := ((sufs _).1 _ _ _ he).len
      refine bind_congr2 rfl fun z hz => ?_
      have l2 := (eat_suf hz).len
      exact bind_congr2 (pRules_RO f k z (by omega)) fun l _ => rfl
    · rfl
theorem pSheet_RO (ts : List Tok) : pSheet ts = RO ts.length ts := pRules_RO _ _ _ (by unfold enough; omega)
theorem RO_more : ∀ (k j : Nat) (ts : List Tok), ts.length ≤ k → ts.length ≤ j → RO k ts = RO j ts
  | 0, j, [], _, _ => by cases j <;> rfl
  | _ + 1, j, [], _, _ => by cases j <;> rfl
  | 0, _, _ :: _, h, _ => by simp at h
  | _ + 1, 0, _ :: _, _, h => by simp at h
  | k + 1, j + 1, t :: r, h1, h2 => by
    simp only [List.length_cons] at h1 h2
    unfold RO
    split
    · refine bind_congr2 rfl fun q hq => ?_
      have l0 := (eat_suf hq).len
      refine bind_congr2 rfl fun e he => ?_
      have l1 := (FO_suf he).len
      refine bind_congr2 rfl fun z hz => ?_
      have l2 := (eat_suf hz).len
      exact bind_congr2 (RO_more k j z (by omega) (by omega)) fun l _ => rfl
    · rfl
def RU (ts : List Tok) : Option Sheet := RO ts.length ts
theorem RU_nil : RU [] = some [] := rfl
theorem RU_cons (t : Tok) (r : List Tok) : RU (t :: r) = if t.kind = 0 then (eat "=" r).bind fun q => (FO 1 q).bind fun e => (eat ";" e.2).bind fun z => (RU z).bind fun l => some ((t.text, e.1) :: l) else none := by
  show RO (r.length + 1) (t :: r) = _
  unfold RO
  split
  · refine bind_congr2 rfl fun q hq => ?_
    have l0 := (eat_suf hq).len
    refine bind_congr2 rfl fun e he => ?_
    have l1 := (FO_suf he).len
    refine bind_congr2 rfl fun z hz => ?_
    have l2 := (eat_suf hz).len
    exact bind_congr2 (RO_more _ _ z (by omega) (Nat.le_refl _)) fun l _ => rfl
  · rfl
end RM

set_option linter.all false
namespace RM
open Kp176

theorem tw_lt (p : Nat → Bool) : ∀ (l : List Nat) (j : Nat), j < (l.takeWhile p).length → ∃ c, l[j]? = some c ∧ p c = true
  | [], _, h => by simp at h
  | c :: r, j, h => by
    by_cases hc : p c = true
    · rw [List.takeWhile_cons_of_pos hc, List.length_cons] at h
      cases j with
      | zero => exact ⟨c, rfl, hc⟩
      | succ j => exact tw_lt p r j (by omega)
    · rw [List.takeWhile_cons_of_neg hc] at h; simp at h
theorem tw_end (p : Nat → Bool) : ∀ (l : List Nat), l[(l.takeWhile p).length]? = none ∨ ∃ c, l[(l.takeWhile p).length]? = some c ∧ p c = false
  | [] => .inl rfl
  | c :: r => by
    by_cases hc : p c = true
    · rw [List.takeWhile_cons_of_pos hc, List.length_cons]
      exact tw_end p r
    · rw [List.takeWhile_cons_of_neg hc]
      exact .inr ⟨c, rfl, by simpa using hc⟩
theorem drop_get (bs : List Nat) (i j : Nat) : (bs.drop i)[j]? = bs[i + j]? := by rw [List.getElem?_drop]
def runLen (p : Nat → Bool) (bs : List Nat) (i : Nat) : Nat := ((bs.drop i).takeWhile p).length
theorem run_lt {p : Nat → Bool} {bs : List Nat} {i j : Nat} (h : j < runLen p bs i) : ∃ c, bs[i + j]? = some c ∧ p c = true := by
  obtain ⟨c, h1, h2⟩ := tw_lt p _ j h
  exact ⟨c, by rw [← drop_get]; exact h1, h2⟩
theorem run_end (p : Nat → Bool) (bs : List Nat) (i : Nat) : bs[i + runLen p bs i]? = none ∨ ∃ c, bs[i + runLen p bs i]? = some c ∧ p c = false := by
  have h := tw_end p (bs.drop i)
  rw [drop_get] at h
  exact h
theorem run_le (p : Nat → Bool) (bs : List Nat) (i : Nat) (h : i ≤ bs.length) : i + runLen p bs i ≤ bs.length := by
  have := takeWhile_le p (bs.drop i)
  rw [List.length_drop] at this
  unfold runLen
  omega

def sbe : List Nat → Option Nat
  | [] => none
  | c :: r => if c < 32 then none else if c ≠ 92 then some 1 else match r with
    | [] => none
    | d :: _ => if escd d = true then some 2 else none
theorem sbe_cons (c : Nat) (r : List Nat) : sbe (c :: r) = if c < 32 then none else if c ≠ 92 then some 1 else match r with
    | [] => none
    | d :: _ => if escd d = true then some 2 else none := rfl
theorem sbe_none {c : Nat} {r : List Nat} (hc : c ≠ 34) (h : sbe (c :: r) = none) : sEnd (c :: r) = none := by
  unfold sbe at h
  by_cases c1 : c < 32
  · exact sEnd_low c r c1
  · by_cases c2 : c = 92
    · subst c2
      cases r with
      | nil => exact sEnd_last
      | cons d q =>
        cases hd : escd d with
        | true => simp [hd] at h
        | false => exact sEnd_bad d q hd
    · simp [c1, c2] at h
theorem sbe_some {c : Nat} {r : List Nat} {n : Nat} (hc : c ≠ 34) (h : sbe (c :: r) = some n) : 1 ≤ n ∧ n ≤ (c :: r).length ∧ sEnd (c :: r) = sEnd ((c :: r).drop n) := by
  unfold sbe at h
  by_cases c1 : c < 32
  · simp [c1] at h
  · by_cases c2 : c = 92
    · subst c2
      cases r with
      | nil => simp at h
      | cons d q =>
        cases hd : escd d with
        | false => simp [hd] at h
        | true =>
          simp [hd] at h
          subst h
          exact ⟨by omega, by simp, sEnd_esc d q hd⟩
    · simp [c1, c2] at h
      subst h
      exact ⟨by omega, by simp, sEnd_plain c r c1 hc c2⟩

theorem drop_cons {bs : List Nat} {i c : Nat} (h : bs[i]? = some c) : bs.drop i = c :: bs.drop (i + 1) := by
  obtain ⟨hi, rfl⟩ := List.getElem?_eq_some_iff.mp h
  exact List.drop_eq_getElem_cons hi
theorem lt_of_get {bs : List Nat} {i c : Nat} (h : bs[i]? = some c) : i < bs.length := (List.getElem?_eq_some_iff.mp h).1
theorem tokLen_sign {bs : List Nat} {i c : Nat} (h : bs[i]? = some c) (hs : signs.contains c = true) : tokLen (bs.drop i) = some 1 := by
  rw [drop_cons h, tokLen_cons, if_pos hs]
theorem tokLen_quote {bs : List Nat} {i : Nat} (h : bs[i]? = some 34) : tokLen (bs.drop i) = (sEnd (bs.drop (i + 1))).map fun q => bs.length - q.length - i := by
  have hi := lt_of_get h
  rw [drop_cons h, tokLen_cons, if_neg (by decide), if_pos rfl]
  congr 1
  funext q
  rw [List.length_drop]
  omega
theorem tokLen_small {bs : List Nat} {i c : Nat} (h : bs[i]? = some c) (hs : small c = true) : tokLen (bs.drop i) = if 16 < runLen inName bs i then none else some (runLen inName bs i) := by
  obtain ⟨z1, z2, z3, z4⟩ := no_sign_small hs
  have e : runLen inName bs i = 1 + ((bs.drop (i + 1)).takeWhile inName).length := by
    unfold runLen
    rw [drop_cons h, List.takeWhile_cons_of_pos z4, List.length_cons]; omega
  rw [e, drop_cons h, tokLen_cons, if_neg (by rw [z1]; decide), if_neg z2, if_pos hs]
theorem tokLen_digit {bs : List Nat} {i c : Nat} (h : bs[i]? = some c) (hs : digit c = true) : tokLen (bs.drop i) = if 4 < runLen digit bs i then none else some (runLen digit bs i) := by
  obtain ⟨z1, z2, z3⟩ := no_sign_digit hs
  have e : runLen digit bs i = 1 + ((bs.drop (i + 1)).takeWhile digit).length := by
    unfold runLen
    rw [drop_cons h, List.takeWhile_cons_of_pos hs, List.length_cons]; omega
  rw [e, drop_cons h, tokLen_cons, if_neg (by rw [z1]; decide), if_neg z2, if_neg (by rw [z3]; decide), if_pos hs]
theorem tokLen_none {bs : List Nat} {i c : Nat} (h : bs[i]? = some c) (h1 : signs.contains c = false) (h2 : c ≠ 34) (h3 : small c = false) (h4 : digit c = false) : tokLen (bs.drop i) = none := by
  rw [drop_cons h, tokLen_cons, if_neg (by rw [h1]; decide), if_neg h2, if_neg (by rw [h3]; decide), if_neg (by rw [h4]; decide)]

def tokKd (t : Tok) : Kd := if t.kind = 0 then .name else if t.kind = 1 then .number else if t.kind = 3 then .string else if t.text = bytesOf "=" then .eq else if t.text = bytesOf "&" then .amp else if t.text = bytesOf "(" then .lp
  else if t.text = bytesOf ")" then .rp else if t.text = bytesOf "," then .comma else if t.text = bytesOf ";" then .semi else wordKd t.text
def Kd.isTok : Kd → Bool
  | .fin => false
  | _ => true
theorem fits_kd {t : Tok} {raw : List Nat} (h : Fits t raw) : tokKd t = rawKd raw ∧ rawKd raw ≠ .fin := by
  unfold tokKd
  rcases h.kind with k | k | k | k
  · rw [if_pos k]; have := (h.name k).1; rw [this]; exact ⟨rfl, by decide⟩
  · rw [if_neg (by omega), if_pos k]; have := (h.number k).1; rw [this]; exact ⟨rfl, by decide⟩
  · rw [if_neg (by omega), if_neg (by omega), if_pos k]; have := (h.string k).1; rw [this]; exact ⟨rfl, by decide⟩
  · obtain ⟨e, n1, n2, n3, n4⟩ := h.word k
    rw [if_neg (by omega), if_neg (by omega), if_neg (by omega), e]
    refine ⟨?_, n4⟩
    cases q : rawKd raw <;> first | (exact absurd q n1) | (exact absurd q n2) | (exact absurd q n3) | (exact absurd q n4) | decide
theorem fits_isTok {t : Tok} {raw : List Nat} (h : Fits t raw) (r : List Tok) (k : Kd) (hk : k ≠ .name ∧ k ≠ .number ∧ k ≠ .string ∧ k ≠ .fin) : isTok k.str (t :: r) = decide (rawKd raw = k) := by
  show (t.kind == 2 && t.text == bytesOf k.str) = _
  rcases h.kind with q | q | q | q
  · have e := (h.name q).1
    rw [q, e]
    rw [decide_eq_false (fun z => hk.1 z.symm)]; rfl
  · have e := (h.number q).1
    rw [q, e]
    rw [decide_eq_false (fun z => hk.2.1 z.symm)]; rfl
  · have e := (h.string q).1
    rw [q, e]
    rw [decide_eq_false (fun z => hk.2.2.1 z.symm)]; rfl
  · obtain ⟨e, n1, n2, n3, n4⟩ := h.word q
    rw [q, e]
    obtain ⟨k1, k2, k3, k4⟩ := hk
    generalize rawKd raw = z at *
    cases z <;> first | (exact absurd rfl n1) | (exact absurd rfl n2) | (exact absurd rfl n3) | (exact absurd rfl n4) | (cases k <;> first | (exact absurd rfl k1) | (exact absurd rfl k2) | (exact absurd rfl k3) | (exact absurd rfl k4) | decide)
end RM

set_option linter.all false
namespace RM
open Kp176

def Good (ts : List Tok) : Prop := ∀ t ∈ ts, ∃ raw, Fits t raw
def kds (ts : List Tok) : List Kd := ts.map tokKd ++ [.fin]
theorem kds_len (ts : List Tok) : (kds ts).length = ts.length + 1 := by unfold kds; simp
theorem kds_at {ts : List Tok} {i : Nat} (h : i ≤ ts.length) : ∃ k, (kds ts)[i]? = some k := by
  have : i < (kds ts).length := by rw [kds_len]; omega
  exact ⟨_, List.getElem?_eq_getElem this⟩
theorem kds_tok {ts : List Tok} {i : Nat} {t : Tok} (h : ts[i]? = some t) : (kds ts)[i]? = some (tokKd t) := by
  have hi := (List.getElem?_eq_some_iff.mp h).1
  unfold kds
  rw [List.getElem?_append_left (by rw [List.length_map]; exact hi), List.getElem?_map, h]; rfl
theorem kds_end (ts : List Tok) : (kds ts)[ts.length]? = some .fin := by
  unfold kds
  rw [List.getElem?_append_right (by rw [List.length_map]; exact Nat.le_refl _), List.length_map, Nat.sub_self]; rfl
theorem tdrop_cons {ts : List Tok} {i : Nat} {t : Tok} (h : ts[i]? = some t) : ts.drop i = t :: ts.drop (i + 1) := by
  obtain ⟨hi, rfl⟩ := List.getElem?_eq_some_iff.mp h
  exact List.drop_eq_getElem_cons hi
theorem tok_kd {t : Tok} {raw : List Nat} (h : Fits t raw) : tokKd t ≠ .fin := by rw [(fits_kd h).1]; exact (fits_kd h).2
theorem at_cases {ts : List Tok} (g : Good ts) {i : Nat} {k : Kd} (h : (kds ts)[i]? = some k) : (k = .fin ∧ i = ts.length) ∨ (∃ t raw, ts[i]? = some t ∧ Fits t raw ∧ tokKd t = k ∧ k ≠ .fin ∧ i < ts.length) := by
  by_cases hi : i < ts.length
  · have e : ts[i]? = some ts[i] := List.getElem?_eq_getElem hi
    obtain ⟨raw, hf⟩ := g _ (List.getElem_mem hi)
    have e2 := kds_tok e
    rw [h] at e2; cases e2
    exact .inr ⟨_, raw, e, hf, rfl, tok_kd hf, hi⟩
  · have hl := (List.getElem?_eq_some_iff.mp h).1
    rw [kds_len] at hl
    have : i = ts.length := by omega
    subst this
    rw [kds_end] at h; cases h
    exact .inl ⟨rfl, rfl⟩
def Kd.wd (k : Kd) : Prop := k ≠ .name ∧ k ≠ .number ∧ k ≠ .string ∧ k ≠ .fin
theorem isTok_at {ts : List Tok} (g : Good ts) {i : Nat} {k : Kd} (h : (kds ts)[i]? = some k) {w : Kd} (hw : w.wd) : isTok w.str (ts.drop i) = decide (k = w) := by
  rcases at_cases g h with ⟨rfl, rfl⟩ | ⟨t, raw, e, hf, rfl, _, _⟩
  · rw [List.drop_length, decide_eq_false (fun z => hw.2.2.2 z.symm)]; rfl
  · rw [tdrop_cons e, fits_isTok hf _ w hw, (fits_kd hf).1]
theorem eat_at {ts : List Tok} (g : Good ts) {i : Nat} {k : Kd} (h : (kds ts)[i]? = some k) {w : Kd} (hw : w.wd) : eat w.str (ts.drop i) = if k = w then some (ts.drop (i + 1)) else none := by
  unfold eat
  rw [isTok_at g h hw]
  by_cases z : k = w
  · rw [decide_eq_true z, if_pos rfl, if_pos z, List.drop_drop]
  · rw [decide_eq_false z, if_neg (by decide), if_neg z]
theorem tok_lt {ts : List Tok} (g : Good ts) {i : Nat} {k : Kd} (h : (kds ts)[i]? = some k) (hk : k ≠ .fin) : i < ts.length := by
  rcases at_cases g h with ⟨z, _⟩ | ⟨_, _, _, _, _, _, z⟩
  · exact absurd z hk
  · exact z

theorem kind_name {t : Tok} {raw : List Nat} (h : Fits t raw) : t.kind = 0 ↔ tokKd t = .name := by
  constructor
  · intro k; unfold tokKd; rw [if_pos k]
  · intro e
    rw [(fits_kd h).1] at e
    rcases h.kind with k | k | k | k
    · exact k
    · rw [(h.number k).1] at e; cases e
    · rw [(h.string k).1] at e; cases e
    · exact absurd e (h.word k).2.1
theorem kind_number {t : Tok} {raw : List Nat} (h : Fits t raw) : t.kind = 1 ↔ tokKd t = .number := by
  constructor
  · intro k; unfold tokKd; rw [if_neg (by omega), if_pos k]
  · intro e
    rw [(fits_kd h).1] at e
    rcases h.kind with k | k | k | k
    · rw [(h.name k).1] at e; cases e
    · exact k
    · rw [(h.string k).1] at e; cases e
    · exact absurd e (h.word k).2.2.1
theorem kind_string {t : Tok} {raw : List Nat} (h : Fits t raw) : t.kind = 3 ↔ tokKd t = .string := by
  constructor
  · intro k; unfold tokKd; rw [if_neg (by omega), if_neg (by omega), if_pos k]
  · intro e
    rw [(fits_kd h).1] at e
    rcases h.kind with k | k | k | k
    · rw [(h.name k).1] at e; cases e
    · rw [(h.number k).1] at e; cases e
    · exact k
    · exact absurd e (h.word k).2.2.2.1
theorem text_word {t : Tok} {raw : List Nat} (h : Fits t raw) (hk : (tokKd t).wd) : t.kind = 2 ∧ t.text = bytesOf (tokKd t).str := by
  have k2 : t.kind = 2 := by
    rcases h.kind with k | k | k | k
    · exact absurd ((kind_name h).mp k) hk.1
    · exact absurd ((kind_number h).mp k) hk.2.1
    · exact absurd ((kind_string h).mp k) hk.2.2.1
    · exact k
  exact ⟨k2, by rw [(fits_kd h).1]; exact (h.word k2).1⟩
theorem bytes_inj {a b : Kd} (h : bytesOf a.str = bytesOf b.str) : a = b := by
  cases a <;> cases b <;> first | rfl | (exfalso; revert h; decide)

def gsF (k : Kd) (e : F) : F := if k = .kget then .get e else .size e
def frF (k : Kd) (e : F) (n : Nat) : F := if k = .kfirst then .first e n else .rest e n
theorem PA_at {ts : List Tok} (g : Good ts) {i : Nat} {k : Kd} (d : Nat) (h : (kds ts)[i]? = some k) :
    ((k = .string ∨ k = .name) → ∃ t x, ts[i]? = some t ∧ (t.kind = 3 ∧ x = F.str t.text ∨ t.kind = 0 ∧ x = F.name t.text) ∧ PA d (ts.drop i) = some (x, ts.drop (i + 1))) ∧
    (k = .lp → PA d (ts.drop i) = (FO (d + 1) (ts.drop (i + 1))).bind fun e => (eat Kd.rp.str e.2).bind fun z => some (e.1, z)) ∧
    ((k = .kget ∨ k = .ksize) → PA d (ts.drop i) = (eat Kd.lp.str (ts.drop (i + 1))).bind fun q => (FO (d + 1) q).bind fun e => (eat Kd.rp.str e.2).bind fun z => some (gsF k e.1, z)) ∧
    ((k = .kfirst ∨ k = .krest) → PA d (ts.drop i) = (eat Kd.lp.str (ts.drop (i + 1))).bind fun q => (FO (d + 1) q).bind fun e => (eat Kd.comma.str e.2).bind fun c' => match c' with
        | n :: z => if n.kind = 1 then ((eat Kd.rp.str z).bind fun y => some (frF k e.1 (number n.text), y)) else none
        | [] => none) ∧
    (k ≠ .string → k ≠ .name → k ≠ .lp → k ≠ .kget → k ≠ .ksize → k ≠ .kfirst → k ≠ .krest → PA d (ts.drop i) = none) := by
  rcases at_cases g h with ⟨rfl, rfl⟩ | ⟨t, raw, e, hf, hk, hn, hi⟩
  · rw [List.drop_length]
    refine ⟨fun z => ?_, fun z => ?_, fun z => ?_, fun z => ?_, fun _ _ _ _ _ _ _ => PA_nil d⟩ <;> simp at z
  · rw [tdrop_cons e, PA_cons]
    refine ⟨fun z => ?_, fun z => ?_, fun z => ?_, fun z => ?_, fun z1 z2 z3 z4 z5 z6 z7 => ?_⟩
    · rcases z with z | z
      · have k3 := (kind_string hf).mpr (hk.trans z)
        rw [if_pos k3]; exact ⟨t, _, e, .inl ⟨k3, rfl⟩, rfl⟩
      · have k0 := (kind_name hf).mpr (hk.trans z)
        rw [if_neg (by omega), if_pos k0]; exact ⟨t, _, e, .inr ⟨k0, rfl⟩, rfl⟩
    · obtain ⟨k2, tx⟩ := text_word hf (by rw [hk, z]; unfold Kd.wd; decide)
      rw [hk, z] at tx
      have tx : t.text = bytesOf "(" := tx
      rw [if_neg (by omega), if_neg (by omega), if_neg (by omega), if_pos tx]; rfl
    · rcases z with z | z
      · obtain ⟨k2, tx⟩ := text_word hf (by rw [hk, z]; unfold Kd.wd; decide)
        rw [hk, z] at tx
        have tx : t.text = bytesOf "get" := tx
        unfold gsF; simp only [if_pos z]
        rw [if_neg (by omega), if_neg (by omega), if_neg (by omega), if_neg (by rw [tx]; decide), if_pos (.inl tx)]
        simp only [if_pos (show t.text = bytesOf "get" from tx)]
        rfl
      · obtain ⟨k2, tx⟩ := text_word hf (by rw [hk, z]; unfold Kd.wd; decide)
        rw [hk, z] at tx
        have tx : t.text = bytesOf "size" := tx
        unfold gsF; simp only [if_neg (show ¬ k = Kd.kget by rw [z]; decide)]
        rw [if_neg (by omega), if_neg (by omega), if_neg (by omega), if_neg (by rw [tx]; decide), if_pos (.inr tx)]
        simp only [if_neg (show ¬ t.text = bytesOf "get" by rw [tx]; decide)]
        rfl
    · rcases z with z | z
      · obtain ⟨k2, tx⟩ := text_word hf (by rw [hk, z]; unfold Kd.wd; decide)
        rw [hk, z] at tx
        have tx : t.text = bytesOf "first" := tx
        unfold frF; simp only [if_pos z]
        rw [if_neg (by omega), if_neg (by omega), if_neg (by omega), if_neg (by rw [tx]; decide), if_neg (by rw [tx]; decide), if_pos (.inl tx)]
        simp only [if_pos (show t.text = bytesOf "first" from tx)]
        rfl
      · obtain ⟨k2, tx⟩ := text_word hf (by rw [hk, z]; unfold Kd.wd; decide)
        rw [hk, z] at tx
        have tx : t.text = bytesOf "rest" := tx
        unfold frF; simp only [if_neg (show ¬ k = Kd.kfirst by rw [z]; decide)]
        rw [if_neg (by omega), if_neg (by omega), if_neg (by omega), if_neg (by rw [tx]; decide), if_neg (by rw [tx]; decide), if_pos (.inr tx)]
        simp only [if_neg (show ¬ t.text = bytesOf "first" by rw [tx]; decide)]
        rfl
    · rw [if_neg (fun q => z1 (hk.symm.trans ((kind_string hf).mp q))), if_neg (fun q => z2 (hk.symm.trans ((kind_name hf).mp q)))]
      by_cases q1 : t.kind = 1
      · rw [if_pos q1]
      · rw [if_neg q1]
        have wd : (tokKd t).wd := ⟨fun q => z2 (hk.symm.trans q), fun q => q1 ((kind_number hf).mpr q), fun q => z1 (hk.symm.trans q), fun q => hn (hk.symm.trans q)⟩
        obtain ⟨k2, tx⟩ := text_word hf wd
        have ne : ∀ m : Kd, k ≠ m → t.text ≠ bytesOf m.str := fun m hm q => hm (by rw [← hk]; exact bytes_inj (tx.symm.trans q))
        rw [if_neg (show ¬ t.text = bytesOf "(" from ne .lp z3), if_neg (show ¬ (t.text = bytesOf "get" ∨ t.text = bytesOf "size") from fun q => q.elim (ne .kget z4) (ne .ksize z5)),
          if_neg (show ¬ (t.text = bytesOf "first" ∨ t.text = bytesOf "rest") from fun q => q.elim (ne .kfirst z6) (ne .krest z7))]
theorem num_at {ts : List Tok} (g : Good ts) {i : Nat} {k : Kd} (h : (kds ts)[i]? = some k) : (k = .number → ∃ t, ts[i]? = some t ∧ t.kind = 1) ∧ (k ≠ .number → ∀ t, ts[i]? = some t → t.kind ≠ 1) := by
  rcases at_cases g h with ⟨rfl, rfl⟩ | ⟨t, raw, e, hf, hk, hn, hi⟩
  · refine ⟨fun z => (by cases z), fun _ t e => ?_⟩
    rw [List.getElem?_eq_none (Nat.le_refl _)] at e; cases e
  · refine ⟨fun z => ⟨t, e, (kind_number hf).mpr (hk.trans z)⟩, fun z t' e' q => ?_⟩
    rw [e] at e'; cases e'
    exact z (hk.symm.trans ((kind_number hf).mp q))
theorem name_at {ts : List Tok} (g : Good ts) {i : Nat} {k : Kd} (h : (kds ts)[i]? = some k) : (k = .name → ∃ t, ts[i]? = some t ∧ t.kind = 0) ∧ (k ≠ .name → ∀ t, ts[i]? = some t → t.kind ≠ 0) := by
  rcases at_cases g h with ⟨rfl, rfl⟩ | ⟨t, raw, e, hf, hk, hn, hi⟩
  · refine ⟨fun z => (by cases z), fun _ t e => ?_⟩
    rw [List.getElem?_eq_none (Nat.le_refl _)] at e; cases e
  · refine ⟨fun z => ⟨t, e, (kind_name hf).mpr (hk.trans z)⟩, fun z t' e' q => ?_⟩
    rw [e] at e'; cases e'
    exact z (hk.symm.trans ((kind_name hf).mp q))
end RM

set_option linter.all false
namespace RM
open Kp176

def doubled (ns : List (List Nat)) (k : Nat) : Bool := match ns[k]? with
  | some x => (ns.take k).contains x
  | none => false
theorem twice_eq (l : Sheet) : twice l = (List.range l.length).find? fun k => doubled (l.map Prod.fst) k := by
  unfold twice doubled
  congr 1
  funext k
  rw [List.getElem?_map, List.map_take]
  cases l[k]? <;> rfl
theorem find_range {p : Nat → Bool} {n k : Nat} (hk : k < n) (hp : p k = true) (hb : ∀ j, j < k → p j = false) : (List.range n).find? p = some k := by
  rw [List.find?_range_eq_some]
  exact ⟨hp, List.mem_range.mpr hk, fun j hj => by rw [hb j hj]; rfl⟩
theorem find_range_none {p : Nat → Bool} {n : Nat} (hb : ∀ j, j < n → p j = false) : (List.range n).find? p = none := by
  rw [List.find?_eq_none]
  intro x hx
  rw [hb x (List.mem_range.mp hx)]; decide
theorem nats_back {t : List Int} (h : ∀ z ∈ t, 0 ≤ z) : (Kp176Neutral.nats t).map (fun n => ((n : Nat) : Int)) = t := by
  induction t with
  | nil => rfl
  | cons z r ih =>
    show ((z.toNat : Nat) : Int) :: (Kp176Neutral.nats r).map (fun n => ((n : Nat) : Int)) = z :: r
    rw [ih fun y hy => h y (List.mem_cons_of_mem _ hy), Int.toNat_of_nonneg (h z List.mem_cons_self)]
theorem nats_len (t : List Int) : (Kp176Neutral.nats t).length = t.length := List.length_map _
theorem read_eq {bs : List Nat} (h : bs.length ≤ 16384) : Kp176.read bs = match tokens bs with
    | none => .inl (-71, 0)
    | some ts => if 4096 < ts.length then .inl (-28, 0) else match RU ts with
      | none => .inl (-71, 0)
      | some l => if 64 < l.length then .inl (-28, 64) else match twice l with
        | some k => .inl (-22, k)
        | none => .inr l := by
  unfold Kp176.read
  rw [if_neg (by unfold MOST; omega)]
  cases tokens bs with
  | none => rfl
  | some ts =>
    show (if TOKENS < ts.length then _ else match pSheet ts with | none => _ | some l => _) = _
    rw [pSheet_RO]
    rfl
end RM

set_option linter.all false
namespace RM
open Kp176
def numI (l : List Nat) : Int := l.foldl (fun v c => v * 10 + ((c : Nat) : Int) - 48) 0
theorem numI_of : ∀ (l : List Nat) (v : Nat), (∀ c ∈ l, 48 ≤ c) → l.foldl (fun (v : Int) c => v * 10 + ((c : Nat) : Int) - 48) ((v : Nat) : Int) = ((l.foldl (fun v c => 10 * v + (c - 48)) v : Nat) : Int)
  | [], _, _ => rfl
  | c :: l, v, h => by
    rw [List.foldl_cons, List.foldl_cons]
    have hc := h c List.mem_cons_self
    have e : ((v : Nat) : Int) * 10 + ((c : Nat) : Int) - 48 = ((10 * v + (c - 48) : Nat) : Int) := by omega
    rw [e]
    exact numI_of l _ fun d hd => h d (List.mem_cons_of_mem _ hd)
theorem numI_eq {l : List Nat} (h : ∀ c ∈ l, 48 ≤ c) : numI l = ((number l : Nat) : Int) := numI_of l 0 h
theorem numI_snoc (l : List Nat) (c : Nat) : numI (l ++ [c]) = numI l * 10 + ((c : Nat) : Int) - 48 := by
  unfold numI
  rw [List.foldl_append]; rfl

def strOf (l : List Nat) : Option (Bytes × Bytes) := inString (l.length + 1) l
theorem strOf_quote (r : List Nat) : strOf (34 :: r) = some ([], r) := by
  unfold strOf
  simp only [List.length_cons, inString_cons, if_true]
theorem strOf_plain {c : Nat} {r : List Nat} {x : Bytes × Bytes} (h1 : c ≠ 34) (h2 : c ≠ 92) (h : strOf (c :: r) = some x) : ∃ y, strOf r = some y ∧ x = (c :: y.1, y.2) := by
  unfold strOf at h ⊢
  simp only [List.length_cons] at h
  rw [inString_cons] at h
  simp only [if_neg h1, if_neg h2] at h
  split at h
  · cases h
  · obtain ⟨y, hy, e⟩ := Option.map_eq_some_iff.mp h
    exact ⟨y, hy, e.symm⟩
theorem strOf_esc {r : List Nat} {x : Bytes × Bytes} (h : strOf (92 :: r) = some x) : ∃ d q y, r = d :: q ∧ strOf q = some y ∧ x = ((if d = 110 then 10 else d) :: y.1, y.2) := by
  unfold strOf at h ⊢
  simp only [List.length_cons] at h
  rw [inString_cons] at h
  simp only [if_neg (show ¬ (92 : Nat) = 34 by decide), if_true] at h
  have fu : ∀ q : List Nat, inString (q.length + 1 + 1) q = inString (q.length + 1) q := fun q => inString_fuel _ _ _ (by omega) (by omega)
  split at h
  · rename_i q
    obtain ⟨y, hy, e⟩ := Option.map_eq_some_iff.mp h
    simp only [List.length_cons] at hy
    rw [fu] at hy
    exact ⟨34, q, y, rfl, hy, e.symm⟩
  · rename_i q
    obtain ⟨y, hy, e⟩ := Option.map_eq_some_iff.mp h
    simp only [List.length_cons] at hy
    rw [fu] at hy
    exact ⟨92, q, y, rfl, hy, e.symm⟩
  · rename_i q
    obtain ⟨y, hy, e⟩ := Option.map_eq_some_iff.mp h
    simp only [List.length_cons] at hy
    rw [fu] at hy
    exact ⟨110, q, y, rfl, hy, e.symm⟩
  · cases h
theorem strOf_nil : strOf [] = none := rfl
end RM

set_option Elab.async false
set_option linter.all false
namespace RM
open Kp176

inductive Stp where
  | str (b : Bytes)
  | name (x : Bytes)
  | amp
  | get
  | size
  | first (k : Nat)
  | rest (k : Nat)
  | differ (p : Nat)
  | go (p : Nat)
  | fin
  | dh
  | gh
def clen : F → Nat
  | .str _ => 1
  | .name _ => 1
  | .both a b => clen a + clen b + 1
  | .get f => clen f + 1
  | .size f => clen f + 1
  | .first f _ => clen f + 1
  | .rest f _ => clen f + 1
  | .ite a b x y => clen a + clen b + 1 + clen x + 1 + clen y
def comp : F → Nat → List Stp
  | .str b, _ => [.str b]
  | .name x, _ => [.name x]
  | .both a b, n => comp a n ++ (comp b (n + clen a) ++ [.amp])
  | .get f, n => comp f n ++ [.get]
  | .size f, n => comp f n ++ [.size]
  | .first f k, n => comp f n ++ [.first k]
  | .rest f k, n => comp f n ++ [.rest k]
  | .ite a b x y, n => comp a n ++ (comp b (n + clen a) ++ (.differ (n + clen a + clen b + 1 + clen x + 1) :: (comp x (n + clen a + clen b + 1) ++ (.go (n + clen a + clen b + 1 + clen x + 1 + clen y) :: comp y (n + clen a + clen b + 1 + clen x + 1)))))
theorem comp_len : ∀ (f : F) (n : Nat), (comp f n).length = clen f
  | .str _, _ => rfl
  | .name _, _ => rfl
  | .both a b, n => by simp only [comp, clen, List.length_append, List.length_cons, List.length_nil, comp_len a, comp_len b]; omega
  | .get f, n => by simp only [comp, clen, List.length_append, List.length_cons, List.length_nil, comp_len f]
  | .size f, n => by simp only [comp, clen, List.length_append, List.length_cons, List.length_nil, comp_len f]
  | .first f _, n => by simp only [comp, clen, List.length_append, List.length_cons, List.length_nil, comp_len f]
  | .rest f _, n => by simp only [comp, clen, List.length_append, List.length_cons, List.length_nil, comp_len f]
  | .ite a b x y, n => by simp only [comp, clen, List.length_append, List.length_cons, List.length_nil, comp_len a, comp_len b, comp_len x, comp_len y]; omega
theorem clen_pos : ∀ f : F, 1 ≤ clen f
  | .str _ => Nat.le_refl _
  | .name _ => Nat.le_refl _
  | .both a b => by simp only [clen]; omega
  | .get f => by simp only [clen]; omega
  | .size f => by simp only [clen]; omega
  | .first f _ => by simp only [clen]; omega
  | .rest f _ => by simp only [clen]; omega
  | .ite a b x y => by simp only [clen]; omega
def prog (f : F) : List Stp := comp f 0 ++ [.fin]

def At (p : List Stp) (i : Nat) (c : List Stp) : Prop := ∃ pre post, p = pre ++ (c ++ post) ∧ pre.length = i
theorem At.left {p : List Stp} {i : Nat} {c d : List Stp} (h : At p i (c ++ d)) : At p i c := by
  obtain ⟨pre, post, h1, h2⟩ := h
  exact ⟨pre, d ++ post, by rw [h1, List.append_assoc], h2⟩
theorem At.right {p : List Stp} {i : Nat} {c d : List Stp} (h : At p i (c ++ d)) : At p (i + c.length) d := by
  obtain ⟨pre, post, h1, h2⟩ := h
  exact ⟨pre ++ c, post, by rw [h1, List.append_assoc, List.append_assoc], by rw [List.length_append, h2]⟩
theorem At.tail {p : List Stp} {i : Nat} {a : Stp} {d : List Stp} (h : At p i (a :: d)) : At p (i + 1) d := At.right (c := [a]) h
theorem At.get {p : List Stp} {i : Nat} {a : Stp} {d : List Stp} (h : At p i (a :: d)) : p[i]? = some a := by
  obtain ⟨pre, post, h1, h2⟩ := h
  rw [h1, List.getElem?_append_right (by omega), h2, Nat.sub_self]; rfl

abbrev Frm := Bytes × List Stp × Nat
structure MS where
  op : List Frm
  tx : List Bytes
  n : Nat
def opn (s : Sheet) (x : Bytes) (m : MS) : Int ⊕ MS := match s.find? fun q => q.1 == x with
  | none => .inl (-2)
  | some q => if (m.op.map (·.1)).contains x then .inl (-40) else match m.n with
    | 0 => .inl (-62)
    | k + 1 => .inr ⟨(x, prog q.2, 0) :: m.op, m.tx, k⟩
def act (s : Sheet) (x : Bytes) (p : List Stp) (i : Nat) (op : List Frm) (n : Nat) : Stp → List Bytes → Option (Int ⊕ MS)
  | .str b, tx => some (if 4096 < b.length then .inl (-28) else .inr ⟨(x, p, i + 1) :: op, b :: tx, n⟩)
  | .name y, tx => some (opn s y ⟨(x, p, i + 1) :: op, tx, n⟩)
  | .amp, b :: a :: tx => some (if 4096 < a.length + b.length then .inl (-28) else .inr ⟨(x, p, i + 1) :: op, (a ++ b) :: tx, n⟩)
  | .get, a :: tx => some (opn s a ⟨(x, p, i + 1) :: op, tx, n⟩)
  | .size, a :: tx => some (.inr ⟨(x, p, i + 1) :: op, digits a.length :: tx, n⟩)
  | .first k, a :: tx => some (.inr ⟨(x, p, i + 1) :: op, a.take k :: tx, n⟩)
  | .rest k, a :: tx => some (.inr ⟨(x, p, i + 1) :: op, a.drop k :: tx, n⟩)
  | .differ q, b :: a :: tx => some (.inr ⟨(x, p, if a = b then i + 1 else q) :: op, tx, n⟩)
  | .go q, tx => some (.inr ⟨(x, p, q) :: op, tx, n⟩)
  | .fin, tx => some (.inr ⟨op, tx, n⟩)
  | _, _ => none
def mstep (s : Sheet) (m : MS) : Option (Int ⊕ MS) := match m.op with
  | [] => none
  | (x, p, i) :: op => match p[i]? with
    | none => none
    | some st => act s x p i op m.n st m.tx
def runs (s : Sheet) (B : Nat) : Nat → MS → Option (Int ⊕ Bytes)
  | 0, m => match m.op, m.tx with
    | [], [b] => some (.inr b)
    | _, _ => none
  | k + 1, m => match m.op with
    | [] => runs s B k m
    | _ :: _ => if B < m.tx.length ∨ s.length < m.op.length ∨ ¬ (∀ b ∈ m.tx, b.length ≤ 4096) then none else match mstep s m with
      | none => none
      | some (.inl v) => some (.inl v)
      | some (.inr m') => runs s B k m'
def res (s : Sheet) (B k : Nat) : Int ⊕ MS → Option (Int ⊕ Bytes)
  | .inl v => some (.inl v)
  | .inr m => runs s B k m

theorem pigeon : ∀ (l m : List Bytes), l.Nodup → (∀ x ∈ l, x ∈ m) → l.length ≤ m.length
  | [], _, _, _ => Nat.zero_le _
  | a :: l, m, nd, h => by
    obtain ⟨n1, n2⟩ := List.nodup_cons.mp nd
    have ha := h a List.mem_cons_self
    have hl : m.length = (m.erase a).length + 1 := by
      have := List.length_pos_of_mem ha
      rw [List.length_erase_of_mem ha]; omega
    have := pigeon l (m.erase a) n2 fun x hx => (List.mem_erase_of_ne (fun e => n1 (by rw [← e]; exact hx))).mpr (h x (List.mem_cons_of_mem _ hx))
    rw [List.length_cons]; omega

structure Ok (s : Sheet) (op : List Frm) (f : Nat) : Prop where
  fuel : f + op.length = s.length + 1
  nd : (op.map (·.1)).Nodup
  inn : ∀ y ∈ op.map (·.1), y ∈ s.map (·.1)
theorem Ok.small {s : Sheet} {op : List Frm} {f : Nat} (h : Ok s op f) : op.length ≤ s.length := by
  have := pigeon _ _ h.nd h.inn
  rwa [List.length_map, List.length_map] at this
theorem Ok.place {s : Sheet} {x : Bytes} {p : List Stp} {i j : Nat} {op : List Frm} {f : Nat} (h : Ok s ((x, p, i) :: op) f) : Ok s ((x, p, j) :: op) f := ⟨h.fuel, h.nd, h.inn⟩

abbrev Sm (tx : List Bytes) : Prop := ∀ b ∈ tx, b.length ≤ 4096
theorem run_of {s : Sheet} {B k : Nat} {x : Bytes} {p : List Stp} {i : Nat} {op : List Frm} {tx : List Bytes} {n : Nat} {st : Stp} {y : Int ⊕ MS} {ans : Int ⊕ Bytes} (hB : tx.length ≤ B) (hS : Sm tx) (ho : op.length + 1 ≤ s.length) (hp : p[i]? = some st)
    (ha : act s x p i op n st tx = some y) (hr : res s B k y = some ans) : runs s B (k + 1) ⟨(x, p, i) :: op, tx, n⟩ = some ans := by
  unfold runs
  dsimp only
  rw [if_neg (by
    rintro (z | z | z)
    · omega
    · rw [List.length_cons] at z; omega
    · exact z hS)]
  have e : mstep s ⟨(x, p, i) :: op, tx, n⟩ = some y := by
    unfold mstep
    dsimp only
    rw [hp]; exact ha
  rw [e]
  cases y with
  | inl v => exact hr
  | inr m => exact hr

def Leads (s : Sheet) (B : Nat) (m : Int ⊕ MS) (r : R) (nx : Bytes → Nat → MS) : Prop := match r with
  | .inl v => ∃ k, res s B k m = some (.inl v)
  | .inr y => y.1.length ≤ 4096 ∧ ∀ k ans, runs s B k (nx y.1 y.2) = some ans → ∃ k', res s B k' m = some ans
theorem digits_small (n : Nat) (h : n ≤ 4096) : (digits n).length ≤ 4096 := by
  have q : ∀ a : Nat, a < 65 → ∀ b : Nat, b < 64 → (digits (64 * a + b)).length ≤ 4 := by decide +kernel
  have e := q (n / 64) (by omega) (n % 64) (by omega)
  rw [show 64 * (n / 64) + n % 64 = n by omega] at e
  omega

section
variable {s : Sheet} {B M : Nat}
theorem leads_form {x : Bytes} {op : List Frm} {f : Nat} {p : List Stp}
    (hB : ∀ (y : Bytes) (i : Nat) (tx : List Bytes) (n : Nat), Ok s ((x, p, i) :: op) f → Sm tx → tx.length + f * M ≤ B → Leads s B (opn s y ⟨(x, p, i) :: op, tx, n⟩) (work s f (x :: op.map (·.1)) y n) (fun b n' => ⟨(x, p, i) :: op, b :: tx, n'⟩)) :
    ∀ (F : F) (i : Nat) (tx : List Bytes) (n : Nat), At p i (comp F i) → Ok s ((x, p, i) :: op) f → Sm tx → tx.length + clen F + f * M ≤ B →
      Leads s B (.inr ⟨(x, p, i) :: op, tx, n⟩) (workBy (work s f (x :: op.map (·.1))) F n) (fun b n' => ⟨(x, p, i + clen F) :: op, b :: tx, n'⟩) := by
  intro F
  induction F with
  | str b =>
    intro i tx n ha ok hs hb
    have hg := ha.get
    have ho : op.length + 1 ≤ s.length := ok.small
    unfold workBy heldR held
    by_cases z : LONG < b.length
    · rw [if_pos z]
      exact ⟨1, run_of (k := 0) (y := .inl (-28)) (by simp only [clen] at hb; omega) hs ho hg (by show some _ = some _; rw [if_pos (show 4096 < b.length from z)]) rfl⟩
    · rw [if_neg z]
      refine ⟨by unfold LONG at z; show b.length ≤ 4096; omega, fun k ans hr => ⟨k + 1, ?_⟩⟩
      exact run_of (k := k) (y := .inr _) (by simp only [clen] at hb; omega) hs ho hg (by show some _ = some _; rw [if_neg (show ¬ 4096 < b.length from z)]; rfl) hr
  | name y =>
    intro i tx n ha ok hs hb
    have hg := ha.get
    have ho : op.length + 1 ≤ s.length := ok.small
    have q := hB y (i + 1) tx n ok.place hs (by simp only [clen] at hb; omega)
    unfold workBy
    simp only [clen] at hb
    cases hw : work s f (x :: op.map (·.1)) y n with
    | inl v =>
      rw [hw] at q
      obtain ⟨k, q⟩ := q
      exact ⟨k + 1, run_of (by omega) hs ho hg rfl q⟩
    | inr r =>
      rw [hw] at q
      refine ⟨q.1, fun k ans hr => ?_⟩
      obtain ⟨k', q'⟩ := q.2 k ans hr
      exact ⟨k' + 1, run_of (by omega) hs ho hg rfl q'⟩
  | both a b iha ihb =>
    intro i tx n ha ok hs hb
    have ho : op.length + 1 ≤ s.length := ok.small
    simp only [clen] at hb
    have h1 := ha.left
    have h2 := ha.right.left
    have h3 := ha.right.right
    rw [comp_len] at h2 h3
    rw [comp_len] at h3
    have pa := clen_pos a
    have qa := iha i tx n h1 ok hs (by omega)
    unfold workBy
    cases wa : workBy (work s f (x :: op.map (·.1))) a n with
    | inl v => rw [wa] at qa; exact qa
    | inr r =>
      rw [wa] at qa
      dsimp only
      have sa : Sm (r.1 :: tx) := fun c hc => by
        rcases List.mem_cons.mp hc with z | z
        · rw [z]; exact qa.1
        · exact hs c z
      have qb := ihb (i + clen a) (r.1 :: tx) r.2 h2 ok.place sa (by rw [List.length_cons]; omega)
      cases wb : workBy (work s f (x :: op.map (·.1))) b r.2 with
      | inl v =>
        rw [wb] at qb
        obtain ⟨k, qb⟩ := qb
        exact qa.2 k _ qb
      | inr t =>
        rw [wb] at qb
        dsimp only
        have sb : Sm (t.1 :: r.1 :: tx) := fun c hc => by
          rcases List.mem_cons.mp hc with z | z
          · rw [z]; exact qb.1
          · exact sa c z
        unfold heldR held
        by_cases z : LONG < (r.1 ++ t.1).length
        · rw [if_pos z]
          have z' : 4096 < r.1.length + t.1.length := by rw [List.length_append] at z; exact z
          obtain ⟨k, q⟩ := qb.2 1 (.inl (-28)) (run_of (k := 0) (y := .inl (-28)) (by simp only [List.length_cons]; have := clen_pos b; omega) sb ho h3.get (by show some _ = some _; rw [if_pos z']) rfl)
          exact qa.2 k _ q
        · rw [if_neg z]
          have z' : ¬ 4096 < r.1.length + t.1.length := by rw [List.length_append] at z; exact z
          refine ⟨by show (r.1 ++ t.1).length ≤ 4096; rw [List.length_append]; omega, fun k ans hr => ?_⟩
          obtain ⟨k', q⟩ := qb.2 (k + 1) ans (run_of (k := k) (y := .inr ⟨(x, p, i + clen a + clen b + 1) :: op, (r.1 ++ t.1) :: tx, t.2⟩) (by simp only [List.length_cons]; have := clen_pos b; omega) sb ho h3.get (by show some _ = some _; rw [if_neg z'])
            (by have e : i + (clen a + clen b + 1) = i + clen a + clen b + 1 := by omega
                simp only [clen] at hr
                rw [e] at hr; exact hr))
          exact qa.2 k' _ q
  | get a iha =>
    intro i tx n ha ok hs hb
    have ho : op.length + 1 ≤ s.length := ok.small
    simp only [clen] at hb
    have h1 := ha.left
    have h2 := ha.right
    rw [comp_len] at h2
    have qa := iha i tx n h1 ok hs (by omega)
    unfold workBy
    cases wa : workBy (work s f (x :: op.map (·.1))) a n with
    | inl v => rw [wa] at qa; exact qa
    | inr r =>
      rw [wa] at qa
      dsimp only
      have sa : Sm (r.1 :: tx) := fun c hc => by
        rcases List.mem_cons.mp hc with z | z
        · rw [z]; exact qa.1
        · exact hs c z
      have q := hB r.1 (i + clen a + 1) tx r.2 ok.place hs (by omega)
      cases hw : work s f (x :: op.map (·.1)) r.1 r.2 with
      | inl v =>
        rw [hw] at q
        obtain ⟨k, q⟩ := q
        exact qa.2 (k + 1) _ (run_of (by rw [List.length_cons]; have := clen_pos a; omega) sa ho h2.get rfl q)
      | inr t =>
        rw [hw] at q
        refine ⟨q.1, fun k ans hr => ?_⟩
        obtain ⟨k', q'⟩ := q.2 k ans (by
          have e : i + (clen a + 1) = i + clen a + 1 := by omega
          simp only [clen] at hr
          rw [e] at hr; exact hr)
        exact qa.2 (k' + 1) _ (run_of (by rw [List.length_cons]; have := clen_pos a; omega) sa ho h2.get rfl q')
  | size a iha =>
    intro i tx n ha ok hs hb
    have ho : op.length + 1 ≤ s.length := ok.small
    simp only [clen] at hb
    have h1 := ha.left
    have h2 := ha.right
    rw [comp_len] at h2
    have qa := iha i tx n h1 ok hs (by omega)
    unfold workBy
    cases wa : workBy (work s f (x :: op.map (·.1))) a n with
    | inl v => rw [wa] at qa; exact qa
    | inr r =>
      rw [wa] at qa
      dsimp only
      have sa : Sm (r.1 :: tx) := fun c hc => by
        rcases List.mem_cons.mp hc with z | z
        · rw [z]; exact qa.1
        · exact hs c z
      refine ⟨digits_small _ qa.1, fun k ans hr => ?_⟩
      have e : i + (clen a + 1) = i + clen a + 1 := by omega
      simp only [clen] at hr
      rw [e] at hr
      exact qa.2 (k + 1) _ (run_of (by rw [List.length_cons]; have := clen_pos a; omega) sa ho h2.get rfl hr)
  | first a k0 iha =>
    intro i tx n ha ok hs hb
    have ho : op.length + 1 ≤ s.length := ok.small
    simp only [clen] at hb
    have h1 := ha.left
    have h2 := ha.right
    rw [comp_len] at h2
    have qa := iha i tx n h1 ok hs (by omega)
    unfold workBy
    cases wa : workBy (work s f (x :: op.map (·.1))) a n with
    | inl v => rw [wa] at qa; exact qa
    | inr r =>
      rw [wa] at qa
      dsimp only
      have sa : Sm (r.1 :: tx) := fun c hc => by
        rcases List.mem_cons.mp hc with z | z
        · rw [z]; exact qa.1
        · exact hs c z
      have q1 : r.1.length ≤ 4096 := qa.1
      refine ⟨by show (r.1.take k0).length ≤ 4096; rw [List.length_take]; omega, fun k ans hr => ?_⟩
      have e : i + (clen a + 1) = i + clen a + 1 := by omega
      simp only [clen] at hr
      rw [e] at hr
      exact qa.2 (k + 1) _ (run_of (by rw [List.length_cons]; have := clen_pos a; omega) sa ho h2.get rfl hr)
  | rest a k0 iha =>
    intro i tx n ha ok hs hb
    have ho : op.length + 1 ≤ s.length := ok.small
    simp only [clen] at hb
    have h1 := ha.left
    have h2 := ha.right
    rw [comp_len] at h2
    have qa := iha i tx n h1 ok hs (by omega)
    unfold workBy
    cases wa : workBy (work s f (x :: op.map (·.1))) a n with
    | inl v => rw [wa] at qa; exact qa
    | inr r =>
      rw [wa] at qa
      dsimp only
      have sa : Sm (r.1 :: tx) := fun c hc => by
        rcases List.mem_cons.mp hc with z | z
        · rw [z]; exact qa.1
        · exact hs c z
      have q1 : r.1.length ≤ 4096 := qa.1
      refine ⟨by show (r.1.drop k0).length ≤ 4096; rw [List.length_drop]; omega, fun k ans hr => ?_⟩
      have e : i + (clen a + 1) = i + clen a + 1 := by omega
      simp only [clen] at hr
      rw [e] at hr
      exact qa.2 (k + 1) _ (run_of (by rw [List.length_cons]; have := clen_pos a; omega) sa ho h2.get rfl hr)
  | ite a b c d iha ihb ihc ihd =>
    intro i tx n ha ok hs hb
    have ho : op.length + 1 ≤ s.length := ok.small
    simp only [clen] at hb
    have h1 := ha.left
    have h2 := ha.right.left
    have h3 := ha.right.right
    rw [comp_len] at h2 h3
    rw [comp_len] at h3
    have h4 := h3.tail.left
    have h5 := h3.tail.right
    rw [comp_len] at h5
    have h6 := h5.tail
    have pa := clen_pos a
    have pb := clen_pos b
    have qa := iha i tx n h1 ok hs (by omega)
    unfold workBy
    cases wa : workBy (work s f (x :: op.map (·.1))) a n with
    | inl v => rw [wa] at qa; exact qa
    | inr r =>
      rw [wa] at qa
      dsimp only
      have sa : Sm (r.1 :: tx) := fun c hc => by
        rcases List.mem_cons.mp hc with z | z
        · rw [z]; exact qa.1
        · exact hs c z
      have qb := ihb (i + clen a) (r.1 :: tx) r.2 h2 ok.place sa (by rw [List.length_cons]; omega)
      cases wb : workBy (work s f (x :: op.map (·.1))) b r.2 with
      | inl v =>
        rw [wb] at qb
        obtain ⟨k, qb⟩ := qb
        exact qa.2 k _ qb
      | inr t =>
        rw [wb] at qb
        dsimp only
        have sb : Sm (t.1 :: r.1 :: tx) := fun c hc => by
          rcases List.mem_cons.mp hc with z | z
          · rw [z]; exact qb.1
          · exact sa c z
        have hl : (t.1 :: r.1 :: tx).length ≤ B := by simp only [List.length_cons]; omega
        by_cases z : r.1 = t.1
        · rw [if_pos z]
          have qc := ihc (i + clen a + clen b + 1) tx t.2 h4 ok.place hs (by omega)
          have bk : ∀ k ans, runs s B k ⟨(x, p, i + clen a + clen b + 1) :: op, tx, t.2⟩ = some ans → ∃ k', res s B k' (.inr ⟨(x, p, i) :: op, tx, n⟩) = some ans := fun k ans hr => by
            obtain ⟨k', q⟩ := qb.2 (k + 1) ans (run_of (k := k) (y := .inr ⟨(x, p, i + clen a + clen b + 1) :: op, tx, t.2⟩) hl sb ho h3.get (by show some _ = some _; rw [if_pos z]) hr)
            exact qa.2 k' _ q
          cases wc : workBy (work s f (x :: op.map (·.1))) c t.2 with
          | inl v =>
            rw [wc] at qc
            obtain ⟨k, qc⟩ := qc
            exact bk k _ qc
          | inr u =>
            rw [wc] at qc
            refine ⟨qc.1, fun k ans hr => ?_⟩
            have sc : Sm (u.1 :: tx) := fun c hc => by
              rcases List.mem_cons.mp hc with z | z
              · rw [z]; exact qc.1
              · exact hs c z
            have e : i + (clen a + clen b + 1 + clen c + 1 + clen d) = i + clen a + clen b + 1 + clen c + 1 + clen d := by omega
            simp only [clen] at hr
            rw [e] at hr
            obtain ⟨k', q⟩ := qc.2 (k + 1) ans (run_of (k := k) (y := .inr _) (by rw [List.length_cons]; omega) sc ho h5.get rfl hr)
            exact bk k' _ q
        · rw [if_neg z]
          have qd := ihd (i + clen a + clen b + 1 + clen c + 1) tx t.2 h6 ok.place hs (by omega)
          have bk : ∀ k ans, runs s B k ⟨(x, p, i + clen a + clen b + 1 + clen c + 1) :: op, tx, t.2⟩ = some ans → ∃ k', res s B k' (.inr ⟨(x, p, i) :: op, tx, n⟩) = some ans := fun k ans hr => by
            obtain ⟨k', q⟩ := qb.2 (k + 1) ans (run_of (k := k) (y := .inr ⟨(x, p, i + clen a + clen b + 1 + clen c + 1) :: op, tx, t.2⟩) hl sb ho h3.get (by show some _ = some _; rw [if_neg z]) hr)
            exact qa.2 k' _ q
          cases wd : workBy (work s f (x :: op.map (·.1))) d t.2 with
          | inl v =>
            rw [wd] at qd
            obtain ⟨k, qd⟩ := qd
            exact bk k _ qd
          | inr u =>
            rw [wd] at qd
            refine ⟨qd.1, fun k ans hr => ?_⟩
            have e : i + (clen a + clen b + 1 + clen c + 1 + clen d) = i + clen a + clen b + 1 + clen c + 1 + clen d := by omega
            simp only [clen] at hr
            rw [e] at hr
            obtain ⟨k', q⟩ := qd.2 k ans hr
            exact bk k' _ q

theorem leads_name (hM : ∀ q ∈ s, clen q.2 + 1 ≤ M) : ∀ (f : Nat) (op : List Frm) (y : Bytes) (tx : List Bytes) (n : Nat), Ok s op f → Sm tx → tx.length + f * M ≤ B →
    Leads s B (opn s y ⟨op, tx, n⟩) (work s f (op.map (·.1)) y n) (fun b n' => ⟨op, b :: tx, n'⟩)
  | 0, op, y, tx, n, ok, hs, hb => by
    have h1 := ok.fuel
    have h2 := ok.small
    omega
  | f + 1, op, y, tx, n, ok, hs, hb => by
    unfold work opn
    cases hf : s.find? fun q => q.1 == y with
    | none => exact ⟨0, rfl⟩
    | some q =>
      dsimp only
      have hq := List.mem_of_find?_eq_some hf
      have hy : q.1 = y := by simpa using List.find?_some hf
      by_cases z : (op.map (·.1)).contains y = true
      · rw [if_pos z, if_pos z]
        exact ⟨0, rfl⟩
      · rw [if_neg z, if_neg z]
        cases n with
        | zero => exact ⟨0, rfl⟩
        | succ k =>
          dsimp only
          have ok' : ∀ i, Ok s ((y, prog q.2, i) :: op) f := fun i => ⟨by have := ok.fuel; rw [List.length_cons]; omega, by
            rw [List.map_cons]
            exact List.nodup_cons.mpr ⟨fun h => z (by simpa using h), ok.nd⟩, fun w hw => by
            rw [List.map_cons] at hw
            rcases List.mem_cons.mp hw with e | e
            · rw [e, ← hy]; exact List.mem_map.mpr ⟨q, hq, rfl⟩
            · exact ok.inn w e⟩
          have mul : (f + 1) * M = f * M + M := Nat.succ_mul f M
          have hM' := hM q hq
          have hat : At (prog q.2) 0 (comp q.2 0 ++ [.fin]) := ⟨[], [], by simp [prog], rfl⟩
          have key := leads_form (s := s) (B := B) (M := M) (x := y) (op := op) (f := f) (p := prog q.2) (fun y' i tx' n' ok'' hs' hb' => leads_name hM f ((y, prog q.2, i) :: op) y' tx' n' ok'' hs' hb')
            q.2 0 tx k hat.left (ok' 0) hs (by omega)
          cases hw : workBy (work s f (y :: op.map (·.1))) q.2 k with
          | inl v => rw [hw] at key; exact key
          | inr r =>
            rw [hw] at key
            refine ⟨key.1, fun k' ans hr => ?_⟩
            have sr : Sm (r.1 :: tx) := fun c hc => by
              rcases List.mem_cons.mp hc with z | z
              · rw [z]; exact key.1
              · exact hs c z
            have h2 := hat.right
            rw [comp_len] at h2
            exact key.2 (k' + 1) ans (run_of (k := k') (y := .inr ⟨op, r.1 :: tx, r.2⟩) (by rw [List.length_cons]; omega) sr (ok' 0).small h2.get rfl hr)

theorem leads_all (hM : ∀ q ∈ s, clen q.2 + 1 ≤ M) (hB : (s.length + 1) * M ≤ B) (y : Bytes) : ∃ k, res s B k (opn s y ⟨[], [], 20000⟩) = some (worked s y) := by
  have q := leads_name (s := s) (B := B) hM (s.length + 1) [] y [] 20000 ⟨rfl, List.nodup_nil, fun w hw => by cases hw⟩ (fun c hc => by cases hc) (by simpa using hB)
  unfold worked
  have e : work s (s.length + 1) [] y READS = work s (s.length + 1) (([] : List Frm).map (·.1)) y 20000 := rfl
  rw [e]
  cases hw : work s (s.length + 1) (([] : List Frm).map (·.1)) y 20000 with
  | inl v => rw [hw] at q; exact q
  | inr r =>
    rw [hw] at q
    exact q.2 0 _ rfl
end
end RM

set_option Elab.async false
set_option linter.all false
set_option maxRecDepth 100000
namespace L2
open PySem PySem.Spec PyProof.Rows

theorem ObjOk.got {P : Program} {w : World} {H : Hp} {h : Heap} {a : Addr} {o : HO} (x : ObjOk P w H h a o) : ∃ u, h.get? a = some u := by
  cases o with
  | lst xs => obtain ⟨_, _, _, _, e⟩ := x; exact ⟨_, e⟩
  | tup xs => obtain ⟨_, _, _, ob, e, _⟩ := x; exact ⟨_, e⟩
  | dK kvs => obtain ⟨_, _, _, _, o, _, _, e, _⟩ := x; exact ⟨_, e⟩
  | dT kvs => obtain ⟨_, _, _, _, o, _, _, e, _⟩ := x; exact ⟨_, e⟩
  | set S n => obtain ⟨o, _, _, _, e, _⟩ := x; exact ⟨_, e⟩
  | ins C dx fs => obtain ⟨_, _, _, e, _⟩ := x; exact ⟨_, e⟩
  | own y => obtain ⟨_, e⟩ := x; exact ⟨_, e⟩
  | xd fs => obtain ⟨_, ⟨_, _, _, e, _⟩, _⟩ := x; exact ⟨_, e⟩
  | rng lo hi => obtain ⟨_, _, _, e⟩ := x; exact ⟨_, e⟩
  | frz ob u => obtain ⟨e, _⟩ := x; exact ⟨_, e⟩
  | tbl ps => exact ⟨_, show h.get? a = some _ from x⟩
  | met f y => exact ⟨_, show h.get? a = some _ from x⟩
  | ext φ => obtain ⟨_, ⟨_, e⟩, _⟩ := x; exact ⟨_, e⟩

def CXE (P : Program) (w : World) : CXT := fun outer H s E ev s' =>
  ∃ (e : Addr) (cls a0 : Value) (B : Heap) (H' : Hp), ev = .ref e ∧ s'.os = s.os ∧ AllBare s'.gens ∧ Heap.FlyingW B outer e cls a0 s'.heap ∧
    Un (frs outer) [] H H' s.heap s'.heap ∧ HOk P w H' s'.heap ∧ (∀ b o, H' b = some o → ∃ u, B.get? b = some u) ∧
    (∀ b o, s.heap.get? b = some o → b ∉ frs outer → ∃ u, B.get? b = some u) ∧ E cls none H'

theorem HOk.fly {P : Program} {w : World} {H : Hp} {h h' B : Heap} (x : HOk P w H h) (trk : ∀ b o, H b = some o → ∃ u, B.get? b = some u) (st : B.StaysIn h) (st' : B.StaysIn h') : HOk P w H h' := fun a o e =>
  (x a o e).stay (fun b u hb q => by
    obtain ⟨v, hv⟩ : ∃ v, B.get? b = some v := by
      rcases hb with z | z
      · rw [z]; exact trk a o e
      · exact trk b _ z
    have q' := st b v hv
    rw [q] at q'; cases q'
    exact st' b _ hv) (fun _ z => z) fun _ _ z => z

theorem Un.fly {fo fs : List Addr} {H0 H1 H2 : Hp} {h0 h1 h2 h3 B : Heap} (u1 : Un fo [] H0 H1 h0 h1) (u2 : Un fs [] H1 H2 h1 h2) (hfs : ∀ b ∈ fo, b ∈ fs) (hnew : ∀ b o, h0.get? b = some o → b ∈ fs → b ∈ fo)
    (old : ∀ b o, h1.get? b = some o → b ∉ fs → ∃ u, B.get? b = some u) (st : B.StaysIn h2) (st' : B.StaysIn h3) (up : h2.UpToSlots h3) (hfn : ∀ b ∈ fo, ∀ o, h2.get? b = some o → ∀ vs, o.data ≠ .fields vs) : Un fo [] H0 H2 h0 h3 where
  keep b o e n hb hx := by
    have e1 := u1.keep b o e n hb hx
    have n1 := u1.free b o e n hx
    have hs : b ∉ fs := fun z => hb (hnew b o e z)
    have e2 := u2.keep b o e1 n1 hs hx
    obtain ⟨v, hv⟩ := old b o e1 hs
    have q := st b v hv
    rw [e2] at q; cases q
    exact st' b _ hv
  slot b o e n hb hx := by
    obtain ⟨s1, e1⟩ := u1.slot b o e n hb hx
    have n1 := u1.free b o e n hx
    obtain ⟨s2, e2⟩ := u2.slot b _ e1 n1 (hfs b hb) hx
    obtain ⟨s3, e3⟩ := up b _ e2 (hfn b hb _ e2)
    exact ⟨s3, e3⟩
  free b o e n hx := by
    obtain ⟨o1, e1⟩ := u1.there b o e hx
    exact u2.free b o1 e1 (u1.free b o e n hx) hx
  there b o e hx := by
    obtain ⟨o1, e1⟩ := u1.there b o e hx
    by_cases hs : b ∈ fs
    · obtain ⟨o2, e2⟩ := u2.there b o1 e1 hx
      obtain ⟨s3, e3⟩ := up b o2 e2 (hfn b (hnew b o e hs) _ e2)
      exact ⟨_, e3⟩
    · obtain ⟨v, hv⟩ := old b o1 e1 hs
      exact ⟨v, st' b v hv⟩
  tups b xs e := u2.tups b xs (u1.tups b xs e)
  frzs b o u e := u2.frzs b o u (u1.frzs b o u e)
  tbls b ps e := by
    obtain ⟨m1, e1⟩ := u1.tbls b ps e
    obtain ⟨m2, e2⟩ := u2.tbls b _ e1
    exact ⟨m1 ++ m2, by rw [e2, Array.append_assoc]⟩

abbrev cxE (P : Program) (w : World) (K : PySem.W.Frag) (mg : Str → Option Value) (base : Heap) (N : List Str) (qual : Str) (scope : Scope) (f : Addr) (cd : Value) (A : Around) (outer : List Env) (s : Shared) (H : Hp) (E : XK) : Cx :=
  cxOf (CXE P w) P w K mg base N qual scope f cd A outer s H E

section
variable {P : Program} {w : World} {K : PySem.W.Frag} {mg : Str → Option Value} {base : Heap} {N : List Str} {qual : Str} {scope : Scope} {f : Addr} {cd : Value} {A : Around} {outer : List Env} {s : Shared} {H : Hp} {E E' : XK}

theorem frs_new {b : Addr} {o : Obj} (e : s.heap.get? b = some o) (hb : b ∈ frs (envOfC qual scope s.heap.objs.size f cd :: outer)) : b ∈ frs outer := by
  unfold frs at hb ⊢
  rw [List.filterMap_cons] at hb
  rcases List.mem_cons.mp hb with z | z
  · have := Heap.lt_size e
    rw [z] at this
    exact absurd this (Nat.lt_irrefl _)
  · exact z
theorem frs_sub (env : Env) (b : Addr) (hb : b ∈ frs outer) : b ∈ frs (env :: outer) := by
  unfold frs at hb ⊢
  rw [List.filterMap_cons]
  split
  · exact hb
  · exact List.mem_cons_of_mem _ hb

theorem pass_on (hE : ∀ c d H', E' c d H' → E c d H') : Passes (CXE P w) (cxE P w K mg base N qual scope f cd A outer s H E) E' := by
  intro pins σ H1 s1 ev s2 I hx
  obtain ⟨e, cls, a0, B, H2, rfl, os, bare, fl, un, hok, trk, old, hq⟩ := hx
  refine wpAny_leaves_onW (base := B) (outer := outer) I.ok.frames rfl fl fun h' fl' up => ?_
  refine ⟨e, cls, a0, B, H2, rfl, os.trans I.os, bare, fl', ?_, hok.fly trk fl.1 fl'.1, trk, fun b o e1 hb => ?_, hE _ _ _ hq⟩
  · refine Un.fly I.base un (fun b hb => frs_sub _ b hb) (fun b o e1 hb => frs_new e1 hb) old fl.1 fl'.1 up fun b hb o e1 => ?_
    obtain ⟨_, o', ho, hd⟩ := fl.2.2.1.mem (frs_sub (envOfC qual scope s.heap.objs.size f cd) b hb)
    rw [e1] at ho; cases ho
    exact hd
  · obtain ⟨o1, e2⟩ := I.base.there b o e1 (by intro z; cases z)
    exact old b o1 e2 fun z => hb (frs_new e1 z)

theorem ps_raise0 {Bn newId initId : String} {bm : List Value} {x : Str} {C : Addr} {np cpos pos : Pos} (FB : ExcBaseFacts Bn newId initId bm) (O : OwnCls x C bm newId mg base) (hh : A.handled = none)
    (hg : Gl (cxE P w K mg base N qual scope f cd A outer s H E) x) (hd : (x == ("__debug__" : Str)) = false := by decide) :
    PS (cxE P w K mg base N qual scope f cd A outer s H E) (.Raise (some (.Call (.Name x np) [] [] cpos)) none pos) (fun _ _ H1 => E (.ref C) none H1) := by
  intro pins s1 σ H1 D I h
  obtain ⟨tl, N', nm, q, bs, hdct, sn, sub, ab, col, dd, k0, k1, k2, k3, k5, mN, hC, hN, hni, T⟩ := (O.keeps I.bk).obj
  refine wpAny_Raise_call_subT (C := C) (nm := nm) (q := q) (N := N') (bs := bs) (bm := tl) (hdct := hdct) (sn := sn) (sub := sub) (ab := ab) (col := col) (dd := dd) (k0 := k0) (k1 := k1) (k2 := k2) (k3 := k3) (k5 := k5)
    FB (mN := mN) (T.hasType FB.hasBase) hh rfl hni (ld_glob I hg O.bound ⟨rfl, ?_⟩ hd)
  refine evalArgs_empty ⟨rfl, Nat.zero_le _, hC, hN, T, fun h' e mk => ?_⟩
  have stk : ∀ b o, H1 b = some o → b ∉ frs (envOfC qual scope s.heap.objs.size f cd :: outer) := fun b o e1 z => by
    have := I.stkFree b z
    rw [e1] at this; cases this
  have st : (PySem.W.hideAll s1.heap (frs (envOfC qual scope s.heap.objs.size f cd :: outer))).StaysIn s1.heap := fun b o z => PySem.W.of_hideAll _ z
  have ff : s1.heap.FunFrames (PySem.W.hideAll s1.heap (frs (envOfC qual scope s.heap.objs.size f cd :: outer))) (envOfC qual scope s.heap.objs.size f cd :: outer) :=
    PySem.W.funFrames_hide I.stack fun env he a ha => List.mem_filterMap.mpr ⟨env, he, ha⟩
  have trk : ∀ b o, H1 b = some o → ∃ u, (PySem.W.hideAll s1.heap (frs (envOfC qual scope s.heap.objs.size f cd :: outer))).get? b = some u := fun b o e1 => by
    obtain ⟨u, hu⟩ := (I.hok b o e1).got
    exact ⟨u, PySem.W.hideAll_get _ hu (stk b o e1)⟩
  have old : ∀ b o, s1.heap.get? b = some o → b ∉ frs (envOfC qual scope s.heap.objs.size f cd :: outer) → ∃ u, (PySem.W.hideAll s1.heap (frs (envOfC qual scope s.heap.objs.size f cd :: outer))).get? b = some u :=
    fun b o e1 hb => ⟨o, PySem.W.hideAll_get _ e1 hb⟩
  refine wpAny_leaves_madeW (base := PySem.W.hideAll s1.heap (frs (envOfC qual scope s.heap.objs.size f cd :: outer))) (outer := outer) I.ok.frames rfl st ff mk fun h2 t fl _ _ up => ?_
  refine ⟨e, .ref C, .ref t, _, H1, rfl, I.os, I.bare, fl, ?_, I.hok.fly trk st fl.1, trk, fun b o e1 hb => ?_, h⟩
  · refine Un.fly I.base (Un.kept (fs := frs (envOfC qual scope s.heap.objs.size f cd :: outer)) (ex := []) mk.keeps) (fun b hb => frs_sub _ b hb) (fun b o e1 hb => frs_new e1 hb) old (fun b o z => mk.keeps b o (st b o z)) fl.1 up fun b hb o e1 => ?_
    obtain ⟨_, o', ho, hd⟩ := I.stack.mem (frs_sub (envOfC qual scope s.heap.objs.size f cd) b hb)
    have z := mk.keeps b o' ho
    rw [e1] at z; cases z
    exact hd
  · obtain ⟨o1, e2⟩ := I.base.there b o e1 (by intro z; cases z)
    exact old b o1 e2 fun z => hb (frs_new e1 z)

theorem own_out : PassesOwn (model P w) (cxE P w K mg base N qual scope f cd A outer s H E).A (cxE P w K mg base N qual scope f cd A outer s H E).env (cxE P w K mg base N qual scope f cd A outer s H E).xe := PassesOwn.leaving

theorem Fun.okE {x qual : Str} {st : Stmt} {f : Addr} {fd : FuncData} {N ps : List Str} {k : Nat} {sp : Sp} (F : Fun K x qual st f fd) (S : FnScope N ps (defScope st)) (len : ∀ vs H Q E, sp vs H Q E → vs.length = ps.length)
    (hbody : ∀ (cdv : Value) (A : Around) (outer : List Env) (s : Shared) (H : Hp) (vs : List V) (Q : VK) (E : XK), Room k (A.deeper (envOfC qual (defScope st) s.heap.objs.size f cdv)) → sp vs H Q E →
      ∃ t, PSs (cxE P w K mg base N qual (defScope st) f cdv A outer s H E) (defBody st) t ∧ t { nx := fun _ H' => Q .non H', rt := Q } (start N vs) H) : FnOk P w K mg base (CXE P w) (k + 1) f fd ps sp := by
  obtain ⟨oc, od, kV, doc, pm, an, cdv, ct, osl, rfl, lk, hcd⟩ := F.ex
  exact fn_of lk hcd S len fun A outer s H vs Q E hr hsp => hbody cdv A outer s H vs Q E hr hsp
end

theorem exc_at {K : PySem.W.Frag} {h : Heap} {mg : Str → Option Value} {x : Str} {C : Addr} {bmB : List Value} {newId : String} (X : K.In h) (G : h.Ns mainGlobals mg) (e : PySem.W.nsIn K mainGlobals x = some (some (.ref C)))
    (q : PySem.W.excIn K C bmB newId = true) : OwnCls x C bmB newId mg h := by
  refine ⟨PySem.W.mg_of X G e, ?_⟩
  unfold PySem.W.excIn at q
  split at q
  · rename_i d1 c1 l1 h1
    split at q
    · rename_i C1 b1 j0 j1 j2 j3 n1 j5 hm1 hs1
      simp only [Bool.and_eq_true, beq_iff_eq, Bool.not_eq_true'] at q
      obtain ⟨⟨⟨⟨⟨rfl, rfl⟩, q1⟩, q2⟩, q3⟩, q4⟩ := q
      obtain ⟨v1, v2, v3, v4, v5, v6, v7, v8, v9, v10, v11⟩ := c1
      dsimp only at hm1 q1 q3 q4
      subst hm1 q1
      have e1 : l1 = #[j0, j1, j2, j3, some (.builtin n1), j5] := by
        obtain ⟨l⟩ := l1
        simp only at hs1
        rw [hs1]
      subst e1
      exact ⟨b1, v4, v1, v5, v2, v6, v7, v8, v9, v10, d1, j0, j1, j2, j3, j5, _, X _ _ h1, .of_isNs (PySem.W.isNs_of_in X q3), PySem.W.nsMap_none_of_in X q3 q4, PySem.W.tail_of_in X q2⟩
    · cases q
  · cases q
end L2

set_option Elab.async false
set_option linter.all false
set_option maxRecDepth 100000
namespace L2
open PySem PySem.Spec PyProof.Rows

structure RoomH (k : Nat) (A : Around) : Prop where
  dp : A.depth + 3 * k + 5 < recursionLimit
  un : A.units + 16 * k + 200 < cLine
theorem Room.h {k : Nat} {A : Around} (r : Room k A) : RoomH k A := ⟨r.dp, r.un⟩
theorem RoomH.deeper {k : Nat} {A : Around} (r : RoomH (k + 1) A) (env : Env) : RoomH k (A.deeper env) :=
  ⟨by have := r.dp; show A.depth + 1 + 3 * k + 5 < _; omega, by have := r.un; show A.units + 3 + 16 * k + 200 < _; omega⟩
theorem RoomH.mark {k : Nat} {A : Around} (r : RoomH k A) (e : Option Value) : RoomH k (A.mark e) := ⟨r.dp, r.un⟩
theorem RoomH.depth {k : Nat} {A : Around} (r : RoomH k A) : A.depth < recursionLimit := by have := r.dp; omega
structure FnOkH (P : Program) (w : World) (K : PySem.W.Frag) (mg : Str → Option Value) (base : Heap) (k : Nat) (f : Addr) (fd : FuncData) (ps : List Str) (sp : Sp) : Prop where
  len : ∀ vs H Q E, sp vs H Q E → vs.length = ps.length
  run : ∀ (A : Around) (outer : List Env) (s : Shared) (H : Hp) (args : Args) (us : List Value) (vs : List V) (Q : VK) (E : XK), RoomH k A → Env0 P w K mg base A outer s H → BindsTo s fd args (ps.zip us) → Vals vs us → sp vs H Q E →
    codeAny (model P w) A (.call (.ref f) args) (CR CX0 outer P w H s Q E) s
theorem FnOkH.ok {P : Program} {w : World} {K : PySem.W.Frag} {mg : Str → Option Value} {base : Heap} {k : Nat} {f : Addr} {fd : FuncData} {ps : List Str} {sp : Sp} (F : FnOkH P w K mg base k f fd ps sp) : FnOk P w K mg base CX0 k f fd ps sp :=
  ⟨F.len, fun A outer s H args us vs Q E hr => F.run A outer s H args us vs Q E hr.h⟩

def cxH (P : Program) (w : World) (K : PySem.W.Frag) (mg : Str → Option Value) (base : Heap) (N : List Str) (qual : Str) (scope : Scope) (f : Addr) (cd : Value) (A : Around) (outer : List Env) (s : Shared) (H : Hp) : Cx :=
  { cxOf CX0 P w K mg base N qual scope f cd A outer s H E0 with calm := false, xe := fun _ _ => False }

section
variable {P : Program} {w : World} {K : PySem.W.Frag} {mg : Str → Option Value} {base : Heap}
theorem Fun.okH {x qual : Str} {st : Stmt} {f : Addr} {fd : FuncData} {N ps : List Str} {k : Nat} {sp : Sp} (F : Fun K x qual st f fd) (S : FnScope N ps (defScope st)) (len : ∀ vs H Q E, sp vs H Q E → vs.length = ps.length)
    (hbody : ∀ (cdv : Value) (A : Around) (outer : List Env) (s : Shared) (H : Hp) (vs : List V) (Q : VK) (E : XK), RoomH k (A.deeper (envOfC qual (defScope st) s.heap.objs.size f cdv)) → sp vs H Q E →
      ∃ t, PSs (cxH P w K mg base N qual (defScope st) f cdv A outer s H) (defBody st) t ∧ t { nx := fun _ H' => Q .non H', rt := Q } (start N vs) H) : FnOkH P w K mg base (k + 1) f fd ps sp := by
  obtain ⟨oc, od, kV, doc, pm, an, cdv, ct, osl, rfl, lk, hcd⟩ := F.ex
  refine ⟨len, fun A outer s H args us vs Q E hr e0 hb r hsp => ?_⟩
  have hl := len _ _ _ _ hsp
  have KX : K.In s.heap := e0.mod.kin.keeps fun b o e => (e0.bs b o e).1
  have lim : s.heap.NoLimit := e0.mod.nolimit.keeps fun b o e => (e0.bs b o e).1
  have hkind : ∀ y ∈ ps.zip us, (defScope st).names.lookup y.1 = some .local ∨ ((defScope st).names.lookup y.1 = some .cell ∧ ((cellsFrom (s.heap.objs.size + 1) (defScope st).names []).lookup y.1).isSome = true) := fun ⟨n, v⟩ hy => by
    rcases S.par n (List.of_mem_zip hy).1 with q | q
    · exact .inl q
    · exact .inr ⟨q, PySem.W.cellsFrom_some _ _ _ (.inl q)⟩
  refine codeAny_call_function hr.depth (KX _ _ lk) rfl S.co S.gen rfl (PySem.W.codeRec_of KX hcd) (hb _ _ _ _ ?_)
  refine wpAny_newFunctionEnv_cells S.kind hkind fun env he s1 x => ?_
  subst he
  refine ⟨lim.keeps x.toInCall.keep, codeAny_func ?_⟩
  obtain ⟨t, ht, hq⟩ := hbody cdv A outer s H vs Q E (hr.deeper _) hsp
  have e1 : Env0 P w K mg base { A with handled := none } outer s H := ⟨e0.frames, e0.mod, e0.bs, e0.bsz, e0.funs, e0.frf, e0.hok, e0.bare⟩
  have I0 : Inv (cxOf CX0 P w K mg base N qual (defScope st) f cdv { A with handled := none } outer s H E0) [] (start N vs) H s1 := inv_start S rfl e1 hl r x
  have I : Inv (cxH P w K mg base N qual (defScope st) f cdv A outer s H) [] (start N vs) H s1 :=
    ⟨⟨I0.ok.mod, I0.ok.kind, I0.ok.glob, I0.ok.blt, I0.ok.above, I0.ok.inj, I0.ok.has, I0.ok.cab, fun z => (by cases z), Around.frames_deeper e0.frames, I0.ok.stk, I0.ok.exf, I0.ok.bs, I0.ok.bsz, I0.ok.noex, I0.ok.exfs, I0.ok.funs, I0.ok.frf⟩,
      I0.os, I0.bare, I0.base, I0.loc, I0.cell, I0.free, I0.freeC, I0.pin, I0.hok, I0.len⟩
  refine wpAny_mono (ht [] s1 (start N vs) H _ I hq) (fun fl s' hs => ?_) fun e s' hs => False.elim hs
  have fin : ∀ {σ' : St} {H' : Hp} {v : V} {u : Value}, Inv (cxH P w K mg base N qual (defScope st) f cdv A outer s H) [] σ' H' s' → RelV v u → Q v H' → CE outer P w H s Q u s' :=
    fun {σ' H' v u} J rv q => ⟨v, H', J.os, J.bare, J.base, J.hok, rv, q⟩
  cases fl with
  | ret u =>
    obtain ⟨v, σ', H', J, rv, q⟩ := hs
    exact fin J rv q
  | next =>
    obtain ⟨σ', H', J, q⟩ := hs
    exact fin (v := V.non) (u := Value.none) J rfl q
  | brk =>
    obtain ⟨_, _, _, q⟩ := hs
    exact False.elim q
  | cont =>
    obtain ⟨_, _, _, q⟩ := hs
    exact False.elim q
end

section
variable {X : Cx} {k : Nat} {f : Addr} {fd : FuncData} {ps : List Str} {sp : Sp} {x : Str} {p pos : Pos} {e : Expr} {es : List Expr} {t : TA}
theorem pe_callH (F : FnOkH X.prog X.w X.K X.mg X.base k f fd ps sp) (hr : RoomH k X.A) (hg : Gl X x) (hm : X.mg x = some (.ref f)) (hk : PySem.W.keepIn X.K (.ref f) = true) (hb : Binds X.K fd ps [])
    (ha : PA X (e :: es) t) (hdb : (x == ("__debug__" : Str)) = false := by decide) (he : starEach (e :: es) X.env = (false, eval e X.env) :: starEach es X.env := by rfl) (hpl : (backTo pos (starEach es X.env)).any (·.1) = false := by rfl) :
    PE X (.Call (.Name x p) (e :: es) [] pos) (tCall sp [] E0 t) := by
  intro pins s σ H Q I h
  refine wpAny_Call_Name_kw (ld_glob I hg hm ?_ hdb)
  refine PySem.W.callWith_K (h₀ := X.base) I.ok.mod.kin hk (thn (ha pos pins s σ H _ I h) fun us s1 ⟨vs, H1, I1, r, q⟩ => ⟨I1.kIn, ?_⟩) he hpl
  have r2 : Vals (vs ++ []) (us ++ []) := r.append .nil
  have hl : (us ++ []).length = ps.length := by rw [← r2.length]; exact F.len _ _ _ _ q
  refine wpAny_call (codeAny_mono (F.run X.A X.stack s1 H1 ⟨us, []⟩ (us ++ []) (vs ++ []) Q E0 hr I1.env0 (hb s1 us I1.kIn hl) r2 q) fun r s' hq => ?_)
  cases r with
  | error e => exact False.elim hq
  | ok fl =>
    cases fl with
    | ret u => exact I1.after hq
    | next => exact False.elim hq
    | brk => exact False.elim hq
    | cont => exact False.elim hq
end

def PassesS (CX : CXT) (X : Cx) (J : St → XK) : Prop := ∀ (pins : List (Addr × Obj)) (σ : St) (H : Hp) (s : Shared) (e : Value) (s' : Shared), Inv X pins σ H s → CX X.stack H s (J σ) e s' → X.xe e s'
def tCallS (sp : Sp) (dvs : List V) (J : St → XK) (t : TA) : TE := fun σ H Q => t σ H fun vs H1 => sp (vs ++ dvs) H1 Q (J σ)
section
variable {X : Cx} {CX : CXT} {k : Nat} {f : Addr} {fd : FuncData} {ps : List Str} {sp : Sp} {dvs : List V} {ds : List Value} {J : St → XK} {x : Str} {p pos : Pos} {e : Expr} {es : List Expr} {t : TA}
theorem pe_callS (F : FnOk X.prog X.w X.K X.mg X.base CX k f fd ps sp) (hr : Room k X.A) (hg : Gl X x) (hm : X.mg x = some (.ref f)) (hk : PySem.W.keepIn X.K (.ref f) = true) (hb : Binds X.K fd ps ds) (hd : Vals dvs ds) (hx : PassesS CX X J)
    (ha : PA X (e :: es) t) (hdb : (x == ("__debug__" : Str)) = false := by decide) (he : starEach (e :: es) X.env = (false, eval e X.env) :: starEach es X.env := by rfl) (hpl : (backTo pos (starEach es X.env)).any (·.1) = false := by rfl) :
    PE X (.Call (.Name x p) (e :: es) [] pos) (tCallS sp dvs J t) := by
  intro pins s σ H Q I h
  refine wpAny_Call_Name_kw (ld_glob I hg hm ?_ hdb)
  refine PySem.W.callWith_K (h₀ := X.base) I.ok.mod.kin hk (thn (ha pos pins s σ H _ I h) fun us s1 ⟨vs, H1, I1, r, q⟩ => ⟨I1.kIn, ?_⟩) he hpl
  have r2 : Vals (vs ++ dvs) (us ++ ds) := r.append hd
  have hl : (us ++ ds).length = ps.length := by rw [← r2.length]; exact F.len _ _ _ _ q
  refine wpAny_call (codeAny_mono (F.run X.A X.stack s1 H1 ⟨us, []⟩ (us ++ ds) (vs ++ dvs) Q (J σ) hr I1.env0 (hb s1 us I1.kIn hl) r2 q) fun r s' hq => ?_)
  cases r with
  | error e => exact hx pins σ H1 s1 e s' I1 hq
  | ok fl =>
    cases fl with
    | ret u => exact I1.after hq
    | next => exact False.elim hq
    | brk => exact False.elim hq
    | cont => exact False.elim hq
end

abbrev Cx.tryX (X : Cx) (pn : List (Addr × Obj)) (EL : Value → Shared → Prop) : Cx := { X with pn := pn, xe := EL }
abbrev Cx.hdlX (X : Cx) (pn : List (Addr × Obj)) (e : Addr) : Cx := { X with pn := pn, A := X.A.mark (some (.ref e)), calm := false, xe := fun _ _ => False }

theorem Inv.land {X : Cx} {pins : List (Addr × Obj)} {σ : St} {H : Hp} {s : Shared} {h' B : Heap} (I : Inv X pins σ H s) (hex : X.ex = []) (hc : X.env.cells = []) (hB : ∀ b o, X.s_0.heap.get? b = some o → b ∉ X.fs → ∃ u, B.get? b = some u)
    (hpin : ∀ p ∈ X.pn ++ pins, ∃ u, B.get? p.1 = some u) (trk : ∀ b o, H b = some o → ∃ u, B.get? b = some u) (st : B.StaysIn s.heap) (st' : B.StaysIn h') (up : s.heap.UpToSlots h') : Inv X pins σ H { s with heap := h' } := by
  have same : ∀ b o u, s.heap.get? b = some o → B.get? b = some u → h'.get? b = some o := fun b o u e hu => by
    have q := st b u hu
    rw [e] at q; cases q
    exact st' b _ hu
  have frm : ∀ b ∈ X.fs, ∀ o, s.heap.get? b = some o → ∃ sl, h'.get? b = some { o with slots := sl } := fun b hb o e => by
    obtain ⟨_, o', ho, hd⟩ := I.funs.mem hb
    rw [e] at ho; cases ho
    exact up b o e hd
  refine ⟨I.ok, I.os, I.bare, ⟨fun b o e n hb hx => ?_, fun b o e n hb hx => ?_, I.base.free, fun b o e hx => ?_, I.base.tups, I.base.frzs, I.base.tbls⟩, ?_, fun x c e => ?_, I.free, I.freeC, fun p hp => ?_, I.hok.fly trk st st', I.len⟩
  · obtain ⟨u, hu⟩ := hB b o e hb
    exact same b o u (I.base.keep b o e n hb hx) hu
  · obtain ⟨sl, e1⟩ := I.base.slot b o e n hb hx
    obtain ⟨sl2, e2⟩ := frm b hb _ e1
    exact ⟨sl2, e2⟩
  · obtain ⟨o1, e1⟩ := I.base.there b o e hx
    by_cases hb : b ∈ X.fs
    · obtain ⟨sl, e2⟩ := frm b hb _ e1
      exact ⟨_, e2⟩
    · obtain ⟨u, hu⟩ := hB b o e hb
      exact ⟨_, same b o1 u e1 hu⟩
  · obtain ⟨m, hn, hl⟩ := I.loc
    refine ⟨m, up.ns hn, fun i x v e1 e2 e3 => ?_⟩
    obtain ⟨u, r, l⟩ := hl i x v e1 e2 e3
    refine ⟨u, r, ?_⟩
    rcases l with l | ⟨_, c, e, _⟩
    · exact .inl l
    · rw [hc] at e; cases e
  · rw [hc] at e; cases e
  · obtain ⟨e, n, ne, nf, d⟩ := I.pin p hp
    obtain ⟨u, hu⟩ := hpin p hp
    exact ⟨same p.1 p.2 u e hu, n, ne, nf, d⟩

theorem Cx.Ok.tryX {X : Cx} (ok : X.Ok) (pn : List (Addr × Obj)) (EL : Value → Shared → Prop) : (X.tryX pn EL).Ok :=
  ⟨ok.mod, ok.kind, ok.glob, ok.blt, ok.above, ok.inj, ok.has, ok.cab, ok.hd, ok.frames, ok.stk, ok.exf, ok.bs, ok.bsz, ok.noex, ok.exfs, ok.funs, ok.frf⟩
theorem Cx.Ok.hdlX {X : Cx} {pn : List (Addr × Obj)} {EL : Value → Shared → Prop} (ok : (X.tryX pn EL).Ok) (e : Addr) : (X.hdlX pn e).Ok :=
  ⟨ok.mod, ok.kind, ok.glob, ok.blt, ok.above, ok.inj, ok.has, ok.cab, fun z => (by cases z), ok.frames, ok.stk, ok.exf, ok.bs, ok.bsz, ok.noex, ok.exfs, ok.funs, ok.frf⟩

def tTry (C : Addr) (tb : (St → XK) → TS) (th : TS) : TS := fun D σ H => tb (fun σ' cls _ H' => cls = .ref C ∧ th D σ' H') D σ H

theorem ps_try {X : Cx} {x : Str} {C : Addr} {newId : String} {bm : List Value} {body : List Stmt} {b₀ : Stmt} {suite : List Stmt} {np hpos pos : Pos} {tb : (St → XK) → TS} {th : TS}
    (hst : X.stack = X.env :: X.outer) (hfr : X.env.frame = some X.env.locals) (hc : X.env.cells = []) (hex : X.ex = []) (hg : Gl X x) (O : OwnCls x C bm newId X.mg X.base) (hbase : bm.contains (.type "BaseException") = true)
    (hb : ∀ (J : St → XK) (pn : List (Addr × Obj)) (EL : Value → Shared → Prop), PassesS (CXE X.prog X.w) (X.tryX pn EL) J → PSs (X.tryX pn EL) body (tb J))
    (hh : ∀ (pn : List (Addr × Obj)) (e : Addr), PSs (X.hdlX pn e) (b₀ :: suite) th) (hdb : (x == ("__debug__" : Str)) = false := by decide) :
    PS X (.Try body [.ExceptHandler (some (.Name x np)) none (b₀ :: suite) hpos] [] [] pos) (tTry C tb th) := by
  intro pins s σ H D I h
  refine wpAny_Try_except ?_
  have hfrm : X.A.frames = some (X.env :: X.outer) := by rw [← hst]; exact I.ok.frames
  have toX : ∀ {Y : Cx} {pins' : List (Addr × Obj)} {σ' : St} {H' : Hp} {s' : Shared} {EL : Value → Shared → Prop} {e : Addr}, (Y = X.tryX (X.pn ++ pins) EL ∨ Y = X.hdlX (X.pn ++ pins) e) → Inv Y pins' σ' H' s' → Inv X pins σ' H' s' := by
    intro Y pins' σ' H' s' EL e hY J
    rcases hY with rfl | rfl
    · exact ⟨I.ok, J.os, J.bare, J.base, J.loc, J.cell, J.free, J.freeC, fun p hp => J.pin p (List.mem_append_left _ hp), J.hok, J.len⟩
    · exact ⟨I.ok, J.os, J.bare, J.base, J.loc, J.cell, J.free, J.freeC, fun p hp => J.pin p (List.mem_append_left _ hp), J.hok, J.len⟩
  have spX : ∀ {Y : Cx} {pins' : List (Addr × Obj)} {s' : Shared} {EL : Value → Shared → Prop} {e : Addr} {fl : Flow}, (Y = X.tryX (X.pn ++ pins) EL ∨ Y = X.hdlX (X.pn ++ pins) e) → SP Y pins' D fl s' → SP X pins D fl s' := by
    intro Y pins' s' EL e fl hY q
    cases fl with
    | next => obtain ⟨σ', H', J, q⟩ := q; exact ⟨σ', H', toX hY J, q⟩
    | brk => obtain ⟨σ', H', J, q⟩ := q; exact ⟨σ', H', toX hY J, q⟩
    | cont => obtain ⟨σ', H', J, q⟩ := q; exact ⟨σ', H', toX hY J, q⟩
    | ret u => obtain ⟨v, σ', H', J, r, q⟩ := q; exact ⟨v, σ', H', toX hY J, r, q⟩
  refine wpAny_mono (hb (fun σ' cls _ H' => cls = .ref C ∧ th D σ' H') (X.pn ++ pins) (fun e s₁ => wpAny (model X.prog X.w) X.A (noteFrame e X.env) (fun _ s₂ => wpAny (model X.prog X.w) X.A (setFlight e none) (fun _ s₃ =>
      wpAny (model X.prog X.w) X.A (handleBy e X.env [.ExceptHandler (some (.Name x np)) none (b₀ :: suite) hpos]) (SP X pins D) X.xe s₃) X.xe s₂) X.xe s₁) ?_ [] s σ H D
      ⟨I.ok.tryX _ _, I.os, I.bare, I.base, I.loc, I.cell, I.free, I.freeC, fun p hp => I.pin p (by simpa using hp), I.hok, I.len⟩ h) (fun fl s₁ q => ?_) (fun e s₁ q => q)
  · intro pins' σ' H1 s1 ev s2 I1 hx
    obtain ⟨e, cls, a0, B, H2, rfl, os, bare, fl, un, hok, trk, old, rfl, hth⟩ := hx
    have I2 := I1.call' (s' := s2) os un hok bare (fun b z => absurd z (by simp))
    have hB : ∀ b o, X.s_0.heap.get? b = some o → b ∉ X.fs → ∃ u, B.get? b = some u := fun b o e1 hb => by
      obtain ⟨o1, e2⟩ := I1.base.there b o e1 (by show b ∉ X.ex; rw [hex]; simp)
      refine old b o1 e2 fun z => ?_
      rcases List.mem_cons.mp (I1.stkSub b z) with q | q
      · have := Heap.lt_size e1
        rw [q] at this
        exact absurd (Nat.lt_of_lt_of_le this I.ok.above) (Nat.lt_irrefl _)
      · exact hb q
    have hpin : ∀ p ∈ (X.pn ++ pins) ++ pins', ∃ u, B.get? p.1 = some u := fun p hp => by
      obtain ⟨e1, _, ne, nf, _⟩ := I1.pin p hp
      refine old p.1 p.2 e1 fun z => ?_
      rcases List.mem_cons.mp (I1.stkSub p.1 z) with q | q
      · exact ne q
      · exact nf q
    have fl1 : Heap.FlyingW B (X.env :: X.outer) e (.ref C) a0 s2.heap := by rw [← hst]; exact fl
    refine wpAny_looks_onW hfrm hfr fl1 fun h₄ held up4 => ?_
    refine wpAny_landsW held fun h₅ fl5 up5 => ?_
    have I5 := I2.land (h' := h₅) hex hc hB hpin trk fl.1 fl5.1 (up4.trans up5)
    refine wpAny_handleBy_cons (codeAny_handlers_test (Calls.Name_function_global I.ok.kind hg (Calls.loadGlobal_global (by rw [I.ok.glob]; exact I.mod.glob.keeps I5.bk) O.bound ?_) hdb)) (by intro q; cases q)
    obtain ⟨tl, N', nm, q, bs, hdct, sn, sub, ab, col, dd, k0, k1, k2, k3, k5, mN, hC, hN, hni, T⟩ := (O.keeps I5.bk).obj
    obtain ⟨oe, he, hcls⟩ := fl5.there
    refine wpAny_excMatches_sub_self hC he hcls (T.hasType hbase) (codeAny_handlers_suite ?_)
    refine lands_againW fl5 fun h₆ fl6 up6 => ?_
    have I6 := I5.land (h' := h₆) hex hc hB hpin trk fl5.1 fl6.1 up6
    refine wpAny_mono (hh (X.pn ++ pins) e pins' _ σ' H2 D ⟨I6.ok.hdlX e, I6.os, I6.bare, I6.base, I6.loc, I6.cell, I6.free, I6.freeC, I6.pin, I6.hok, I6.len⟩ hth) (fun fl' s' q' => ?_) fun _ _ z => False.elim z
    exact spX (EL := fun _ _ => False) (.inr rfl) q'
  · cases fl with
    | next => exact wpAny_execs_nil (spX (e := 0) (.inl rfl) q)
    | brk => exact spX (e := 0) (.inl rfl) q
    | cont => exact spX (e := 0) (.inl rfl) q
    | ret u => exact spX (e := 0) (.inl rfl) q
end L2

set_option Elab.async false
set_option linter.all false
set_option maxRecDepth 100000
namespace L2
open PySem PySem.Spec PyProof.Rows

def entI (e : DictEntry) : Option (Int × Int × V) := match e.key, absV e.val with
  | .int i _, some v => some (e.hash, i, v)
  | _, _ => none
abbrev dk (kis : List (Int × V)) : List (Key × V) := kis.map fun p => (Sum.inl p.1, p.2)
structure KDict (K : PySem.W.Frag) (a : Addr) (kis : List (Int × V)) : Prop where
  obj : ∃ es ep, K.lookup a = some ⟨.type "dict", none, .dict es ep, #[]⟩ ∧ es.toList.map entI = kis.map fun p => some (hashInt p.1, p.1, p.2)
  nd : ((dk kis).map (·.1)).Nodup
  nosys : (a == sysModules) = false

theorem absV_rel {u : Value} {v : V} (h : absV u = some v) : RelV v u := by
  cases u <;> simp only [absV, Option.some.injEq, reduceCtorEq] at h <;> subst h <;> first | rfl | exact ⟨_, rfl⟩
theorem ent_pairs {P : Program} {w : World} : ∀ {es : List DictEntry} {kis : List (Int × V)}, (es.map entI = kis.map fun p => some (hashInt p.1, p.1, p.2)) →
    ∃ vs : List (Key × Value), KV (dk kis) vs ∧ Pairs (mixKind P w) es vs ∧ vs.map (·.1) = (dk kis).map (·.1) ∧ ∀ e ∈ es, ∃ k, (mixKind P w).is k e.key = true ∧ e.hash = (mixKind P w).hash k
  | [], [], _ => ⟨[], .nil, .nil, rfl, fun e he => by cases he⟩
  | [], _ :: _, h => by cases h
  | _ :: _, [], h => by cases h
  | e :: es, (i, v) :: kis, h => by
    simp only [List.map_cons, List.cons.injEq] at h
    obtain ⟨vs, h1, h2, h3, h4⟩ := ent_pairs (P := P) (w := w) h.2
    have h0 := h.1
    unfold entI at h0
    split at h0
    · rename_i j t v' hk hv
      simp only [Option.some.injEq, Prod.mk.injEq] at h0
      obtain ⟨z1, z2, z3⟩ := h0
      subst z2 z3
      have hi : (mixKind P w).is (Sum.inl j) e.key = true := by rw [hk]; exact mixKind_int P w j t
      refine ⟨(.inl j, e.val) :: vs, .cons ⟨rfl, absV_rel hv⟩ h1, .cons hi rfl h2, by show Sum.inl j :: List.map (fun x => x.fst) vs = Sum.inl j :: (dk kis).map (·.1); rw [h3], fun e' he => ?_⟩
      rcases List.mem_cons.mp he with z | z
      · subst z; exact ⟨_, hi, z1⟩
      · exact h4 e' z
    · cases h0
theorem KDict.at {P : Program} {w : World} {K : PySem.W.Frag} {a : Addr} {kis : List (Int × V)} {h : Heap} (D : KDict K a kis) (X : K.In h) : ∃ vs, KV (dk kis) vs ∧ h.DictOf (mixKind P w) a vs := by
  obtain ⟨es, ep, hl, he⟩ := D.obj
  obtain ⟨vs, h1, h2, h3, h4⟩ := ent_pairs (P := P) (w := w) he
  exact ⟨vs, h1, _, es, ep, X _ _ hl, ⟨rfl, rfl, rfl⟩, rfl, fun e hm => h4 e (by simpa using hm), h2, by rw [h3]; exact D.nd⟩

section
variable {X : Cx} {o i : Expr} {pos : Pos} {td ty : TE}
def tKIn (K : PySem.W.Frag) (ty td : TE) : TE := fun σ H Q => ty σ H fun y H1 => td σ H1 fun x H2 => ∃ a k kvs, x = .ref a ∧ y = kV k ∧ KDict K a kvs ∧ Q (.bl (valV (dk kvs) k).isSome) H2
theorem pc_dinK (hi : PE X i ty) (ho : PE X o td) : PC X .In i o (tKIn X.K ty td) := by
  intro pins s σ H Q I h
  refine thn (hi pins s σ H _ I h) fun iv s1 ⟨y, H1, I1, ry, q1⟩ => thn (ho pins s1 σ H1 _ I1 q1) fun u s2 ⟨x, H2, I2, rx, a, k, kvs, ex, ey, D, q2⟩ => ?_
  subst ex ey
  obtain rfl : u = Value.ref a := rx
  obtain ⟨vs, rel, dd⟩ := D.at (P := X.prog) (w := X.w) I2.kIn
  refine wpAny_in_of (kV_is ry) D.nosys dd.mapOf ?_
  rw [← (rel.val k).isSome_eq]
  exact ⟨.bl _, H2, I2.tok _, rfl, q2⟩
def tKGet (K : PySem.W.Frag) (td ty : TE) : TE := fun σ H Q => td σ H fun x H1 => ty σ H1 fun y H2 => ∃ a k kvs v, x = .ref a ∧ y = kV k ∧ KDict K a kvs ∧ valV (dk kvs) k = some v ∧ Q v H2
theorem pe_dgetK (ho : PE X o td) (hi : PE X i ty) (hs : NoSl i) : PE X (.Subscript o i pos) (tKGet X.K td ty) := by
  intro pins s σ H Q I h
  refine subD_of PySem.F.slot_dict_getitem.lookup hs (thn (ho pins s σ H _ I h) fun u s1 ⟨x, H1, I1, rx, q1⟩ => thn (hi pins s1 σ H1 _ I1 q1) fun iv s2 ⟨y, H2, I2, ry, a, k, kvs, v, ex, ey, D, l, q2⟩ => ?_)
  subst ex ey
  obtain rfl : u = Value.ref a := rx
  obtain ⟨vs, rel, dd⟩ := D.at (P := X.prog) (w := X.w) I2.kIn
  obtain ⟨w', hw, rw'⟩ := RelO.some_of (v := v) (o := valueAt vs k) (by rw [← l]; exact rel.val k)
  exact ⟨dd.typeIs, wpAny_getItem_of (kV_is ry) dd.mapOf hw ⟨v, H2, I2.tok _, rw', q2⟩⟩
end
end L2

set_option Elab.async false
set_option linter.all false
set_option maxRecDepth 100000
namespace L2
open PySem PySem.Spec PyProof.Rows

theorem ints_vals_inj : ∀ {ns ms : List Int}, ns.map V.int = ms.map V.int → ns = ms
  | [], [], _ => rfl
  | [], _ :: _, h => by cases h
  | _ :: _, [], h => by cases h
  | n :: ns, m :: ms, h => by
    simp only [List.map_cons, List.cons.injEq, V.int.injEq] at h
    rw [h.1, ints_vals_inj h.2]
theorem ints_one {vs : List Value} {ns ms : List Int} (h : IntsAre vs ns) (g : IntsAre vs ms) : ns = ms := ints_vals_inj ((vals_ints h).inj (vals_ints g))

def given (K : PySem.W.Frag) (h : Heap) (args : List (Addr × List Int)) : Hp := fun b =>
  match args.find? (fun p => p.1 == b) with
  | some p => if (K.lookup b).isSome = true then none else (h.get? b).map fun o => HO.frz o (.lst (p.2.map V.int))
  | none => none
def IsArg (h : Heap) (p : Addr × List Int) : Prop := ∃ vs : List Value, h.get? p.1 = some { cls := .type "list", data := .seq vs.toArray } ∧ IntsAre vs p.2 ∧ p.2.length ≤ sizeLine

def Gives (K : PySem.W.Frag) (out : List Int) : VK := fun v H' => ∃ p, v = .ref p ∧ SqL K H' p (out.map V.int)

section
variable {P : Program} {w : World} {K : PySem.W.Frag} {h : Heap} {args : List (Addr × List Int)}
theorem given_some {b : Addr} {u : HO} (e : given K h args b = some u) : ∃ p ∈ args, p.1 = b ∧ K.lookup b = none ∧ ∃ o, h.get? b = some o ∧ u = .frz o (.lst (p.2.map V.int)) := by
  unfold given at e
  split at e
  · rename_i p hp
    have hm := List.mem_of_find?_eq_some hp
    have hb : p.1 = b := by simpa using List.find?_some hp
    split at e
    · cases e
    · rename_i hk
      obtain ⟨o, ho, e'⟩ := Option.map_eq_some_iff.mp e
      refine ⟨p, hm, hb, ?_, o, ho, e'.symm⟩
      cases q : K.lookup b with
      | none => rfl
      | some z => rw [q] at hk; exact absurd rfl hk
  · cases e
theorem given_only : Only (given K h args) := fun b => by
  cases e : given K h args b with
  | none => exact .inl rfl
  | some u =>
    obtain ⟨p, _, _, _, o, _, rfl⟩ := given_some e
    exact .inr ⟨o, _, rfl⟩
theorem given_ok (ha : ∀ p ∈ args, IsArg h p) : HOk P w (given K h args) h := fun b u e => by
  obtain ⟨p, hp, rfl, _, o, ho, rfl⟩ := given_some e
  obtain ⟨vs, h1, h2, h3⟩ := ha p hp
  rw [h1] at ho; cases ho
  exact ⟨h1, by rw [List.length_map]; exact h3, vs, _, vals_ints h2, h1⟩
theorem given_list (KX : K.In h) (ha : ∀ p ∈ args, IsArg h p) {p : Addr × List Int} (hp : p ∈ args) : SqL K (given K h args) p.1 (p.2.map V.int) := by
  obtain ⟨vs, h1, h2, h3⟩ := ha p hp
  cases hk : K.lookup p.1 with
  | some o =>
    have e := KX _ o hk
    rw [h1] at e; cases e
    exact .inr ⟨_, vs.toArray, _, hk, rfl, rfl, rfl, by rw [List.size_toArray, h2.length]; exact h3, by simpa using vals_ints h2⟩
  | none =>
    refine .inl (.inr ⟨{ cls := .type "list", data := .seq vs.toArray }, ?_⟩)
    unfold given
    cases hf : args.find? (fun q => q.1 == p.1) with
    | none =>
      have := List.find?_eq_none.mp hf p hp
      simp at this
    | some q =>
      have hq := List.mem_of_find?_eq_some hf
      have hb : q.1 = p.1 := by simpa using List.find?_some hf
      obtain ⟨ws, g1, g2, _⟩ := ha q hq
      rw [hb, h1] at g1
      have g1' : vs = ws := by
        injection g1 with g1
        injection g1 with _ _ g1
        injection g1 with g1 _
        simpa using congrArg Array.toList g1
      subst g1'
      show (if (K.lookup p.1).isSome = true then none else (h.get? p.1).map fun o => HO.frz o (.lst (q.2.map V.int))) = _
      rw [ints_one g2 h2, hk, h1]
      rfl
end

theorem spec_call {P : Program} {w : World} {K : PySem.W.Frag} {mg mb : Str → Option Value} {CX : CXT} {k : Nat} {fa : Addr} {fd : FuncData} {ps : List Str} {sp : Sp} {s₁ : Shared} {args : List (Addr × List Int)} {out : List Int}
    (KX : K.In s₁.heap) (hns : s₁.heap.Ns mainGlobals mg) (hb : s₁.heap.Ns builtinsNs mb) (hbb : ∀ x : Str, x ≠ "__name__" → mb x = bootBuiltins x) (hlim : s₁.heap.NoLimit) (hg : s₁.gens = #[])
    (ha : ∀ p ∈ args, IsArg s₁.heap p) (hr : Room k callerA)
    (F : ∀ base : Heap, K.In base → base.Ns mainGlobals mg → FnOk P w K mg base CX k fa fd ps sp) (hbind : BindsTo s₁ fd ⟨args.map fun p => Value.ref p.1, []⟩ (ps.zip (args.map fun p => Value.ref p.1)))
    (hsp : ∀ H : Hp, Only H → (∀ p ∈ args, SqL K H p.1 (p.2.map V.int)) → sp (args.map fun p => V.ref p.1) H (Gives K out) fun _ _ _ => False)
    (hCX : ∀ H e s', CX [] H s₁ (fun _ _ _ => False) e s' → False) :
    codeAny (model P w) callerA (.call (.ref fa) ⟨args.map fun p => Value.ref p.1, []⟩)
      (fun r s' => (∃ p its, r = .ok (.ret (.ref p)) ∧ s'.heap.IsList p its ∧ IntsAre its.toList out) ∧ OldK s₁.heap s'.heap ∧ s'.os = s₁.os ∧ AllBare s'.gens) s₁ := by
  have hok : HOk P w (given K s₁.heap args) s₁.heap := given_ok ha
  have base_of : ∀ {b : Addr} {o : Obj}, s₁.heap.get? b = some o → given K s₁.heap args b = none → (hidT s₁.heap (given K s₁.heap args)).get? b = some o := fun e n => hidT_get e n
  have noA : ∀ {b : Addr} {o : Obj} {es : Array DictEntry} {ep : Nat}, s₁.heap.get? b = some o → o.data = .dict es ep → given K s₁.heap args b = none := fun {b o es ep} e d => by
    cases q : given K s₁.heap args b with
    | none => rfl
    | some u =>
      obtain ⟨p, hp, rfl, _⟩ := given_some q
      obtain ⟨vs, h1, _⟩ := ha p hp
      rw [h1] at e; cases e
      have d' : Data.seq vs.toArray _ = Data.dict es ep := d
      cases d'
  have nsK : ∀ {b : Addr} {m : Str → Option Value}, s₁.heap.Ns b m → (hidT s₁.heap (given K s₁.heap args)).Ns b m := fun {b m} ⟨o, es, ep, e, d, r⟩ => ⟨o, es, ep, base_of e (noA e d), d, r⟩
  have hKb : K.In (hidT s₁.heap (given K s₁.heap args)) := fun b o e => base_of (KX b o e) (by
    cases q : given K s₁.heap args b with
    | none => rfl
    | some u =>
      obtain ⟨p, _, _, hk, _⟩ := given_some q
      rw [hk] at e; cases e)
  have hM : Mod K mg (hidT s₁.heap (given K s₁.heap args)) := ⟨hKb, nsK hns, ⟨mb, nsK hb, hbb⟩, let ⟨mc, h1, h2⟩ := hlim; ⟨mc, nsK h1, h2⟩⟩
  have e0 : Env0 P w K mg (hidT s₁.heap (given K s₁.heap args)) callerA [] s₁ (given K s₁.heap args) :=
    ⟨rfl, hM, fun b o e => of_hidT e, Nat.le_of_eq (hidT_size _ _), trivial, fun b hb => absurd (show b ∈ ([] : List Addr) from hb) (by simp), hok, .of_eq hg⟩
  have rv : Vals (args.map fun p => V.ref p.1) (args.map fun p => Value.ref p.1) := by
    clear hbind hsp ha hok base_of noA nsK hKb hM e0
    induction args with
    | nil => exact .nil
    | cons p r ih => exact .cons rfl ih
  refine codeAny_mono ((F _ hKb (nsK hns)).run callerA [] s₁ (given K s₁.heap args) _ (args.map fun p => Value.ref p.1) _ _ _ hr e0 hbind rv (hsp _ given_only fun p hp => given_list KX ha hp)) fun r s' hq => ?_
  cases r with
  | error e => exact (hCX _ e s' hq).elim
  | ok fl =>
    cases fl with
    | next => exact False.elim hq
    | brk => exact False.elim hq
    | cont => exact False.elim hq
    | ret u =>
      obtain ⟨v, H', os, bare, un, hok', r', p, rfl, hS⟩ := hq
      obtain rfl : u = Value.ref p := r'
      have keepB : ∀ b o, s₁.heap.get? b = some o → s'.heap.get? b = some o := fun b o e => by
        cases q : given K s₁.heap args b with
        | none => exact un.keep b o e q (by intro z; exact absurd (show b ∈ ([] : List Addr) from z) (by simp)) (by simp)
        | some u =>
          rcases given_only (K := K) (h := s₁.heap) (args := args) b with z | ⟨ob, xs, z⟩
          · rw [q] at z; cases z
          · have z2 := un.frzs b ob _ z
            obtain ⟨e1, _⟩ := hok b _ z
            obtain ⟨e2, _⟩ := hok' b _ z2
            rw [e] at e1; cases e1
            exact e2
      refine ⟨?_, OldK.of_keep keepB, os, bare⟩
      rcases hS with hS | ⟨o, its, n, hk, hc, hd, hs, hz, rr⟩
      · obtain ⟨z, its, n, rr, e⟩ := hS.ok hok'
        exact ⟨p, its.toArray, rfl, ⟨_, e, rfl, n, rfl⟩, by simpa using intsAre_of rr⟩
      · exact ⟨p, its, rfl, ⟨o, keepB p o (KX p o hk), hc, n, hs⟩, intsAre_of rr⟩

theorem reads_ints {R : PySem.W.WRecords} {cl : Str → Option Addr} {h : Heap} : ∀ {vs : List Value} {ns : List Int}, IntsAre vs ns → PySem.W.ReadsAllW R cl h vs (ns.map PySem.W.WData.int) []
  | _, _, .nil => .nil
  | _, _, .cons n t r => PySem.W.ReadsAllW.cons (as := []) (bs := []) (.int n t) (reads_ints r)

open PySem.W in
theorem walk_spec {r : OpenSpec} {q : Program} {loose : List Str} {XP : (Str → Option Value) → Heap → Prop} {YP : World → Heap → Prop} {d : DefRec} {K : Params → PySem.W.Frag} {CX : World → CXT} {sp : PySem.W.Frag → Sp} {k : Nat} {ps : List Str}
    (hdf : d.params.defaults = []) (hr : Room k callerA) (hY : ∀ (w : World) (h : Heap), YP w h → (K w.params).In h)
    (F : ∀ (w : World) (mg : Str → Option Value) (fa : Addr) (h : Heap), (K w.params).In h → h.Ns mainGlobals mg → mg d.name = some (.ref fa) →
      ∃ fd : FuncData, (∀ (s : Shared) (us : List Value), us.length = ps.length → BindsTo s fd ⟨us, []⟩ (ps.zip us)) ∧
        ∀ base : Heap, (K w.params).In base → base.Ns mainGlobals mg → FnOk r.prog w (K w.params) mg base (CX w) k fa fd ps (sp (K w.params)))
    (hargs : ∀ (as : List WData), r.pre as = true → ∃ nss : List (List Int), as = nss.map (fun ns => WData.list (ns.map WData.int)) ∧ nss.length = ps.length ∧ (∀ ns ∈ nss, ns.length ≤ sizeLine) ∧
      ∃ out : List Int, r.post as (.list (out.map WData.int)) = true ∧
        ∀ (KK : PySem.W.Frag) (H : Hp) (args : List (Addr × List Int)), args.map (·.2) = nss → Only H → (∀ p ∈ args, SqL KK H p.1 (p.2.map V.int)) → sp KK (args.map fun p => V.ref p.1) H (Gives KK out) fun _ _ _ => False)
    (hCX : ∀ (w : World) (H : Hp) (s : Shared) (e : Value) (s' : Shared), CX w [] H s (fun _ _ _ => False) e s' → False) :
    WalkOS q loose XP YP r d [] (fun f vs => PySem.call f vs) := by
  intro w s₀ s₁ mg mb G Y fa o pm cd doc dV kV ho hd hcd hD hmg hg args vals as hpre hlay hrd hwl hlo
  have KX := hY w _ Y
  obtain ⟨fd, hb, hF⟩ := F w mg fa _ KX G.T.g hmg
  obtain ⟨nss, rfl, hlen, hsz, out, hpost, hsp⟩ := hargs args hpre
  have key : ∀ (nss : List (List Int)) (vals : List Value), (∀ ns ∈ nss, ns.length ≤ sizeLine) → WellAll w.params s₁.heap vals (nss.map fun ns => WData.list (ns.map WData.int)) →
      ∃ ps : List (Addr × List Int), vals = ps.map (fun p => Value.ref p.1) ∧ ps.map (·.2) = nss ∧ ∀ p ∈ ps, IsArg s₁.heap p := by
    intro nss
    induction nss with
    | nil =>
      intro vals _ hw
      cases hw
      exact ⟨[], rfl, rfl, fun p hp => by cases hp⟩
    | cons ns r ih =>
      intro vals hz hw
      cases hw with
      | cons w1 w2 =>
        obtain ⟨qs, rfl, rfl, h3⟩ := ih _ (fun m hm => hz m (List.mem_cons_of_mem _ hm)) w2
        cases w1 with
        | list hobj hall =>
          refine ⟨(_, ns) :: qs, rfl, rfl, fun p hp => ?_⟩
          rcases List.mem_cons.mp hp with z | z
          · subst z; exact ⟨_, hobj, Att.ints_of_wellAll ns _ hall, hz ns List.mem_cons_self⟩
          · exact h3 p z
  obtain ⟨qs, rfl, hq2, hq3⟩ := key nss vals hsz hwl
  have hql : (qs.map fun p => Value.ref p.1).length = ps.length := by
    rw [List.length_map, ← hlen, ← hq2, List.length_map]
  refine enter_call (codeAny_mono (spec_call KX G.T.g G.T.b G.T.builtins G.T.nolimit hg hq3 hr hF (hb s₁ _ hql) (fun H hO hS => hsp (K w.params) H qs hq2 hO hS) fun H e s' => hCX w H s₁ e s') fun res s' hq => ?_)
  obtain ⟨⟨p, its, rfl, ⟨ol, h1, h2, n, h3⟩, h4⟩, h5, h6, h7⟩ := hq
  exact ⟨.inl ⟨.ref p, .list (out.map WData.int), [p], rfl, fun _ => rfl, ReadsW.list h1 h2 h3 (reads_ints h4), hpost, fun z => by cases z⟩, h5, h6, h7⟩
end L2

set_option Elab.async false
set_option linter.all false
set_option maxRecDepth 100000
namespace PySem
section
variable {M : Model} {A : Around} {E : Value → Shared → Prop}
variable {nm q nm' q' : Str} {C N C' N' : Addr} {bs bm bs' bm' : List Value} {hdct hdct' : Bool} {sn sn' : List Str} {sub sub' : List Value} {ab ab' : Bool} {col col' : Option Bool} {dd dd' : Option Addr} {k0 k1 k2 k3 k5 k0' k1' k2' k3' k5' : Option Value} {newId newId' : String}
theorem wpAny_excMatches_sub_other {h : Heap} {g : Array GenState} {d : Drawn} {t : Nat} {os : OsState} {e : Addr} {oe : Obj} {Q : Bool → Shared → Prop}
    (hC : h.get? C = some (excClassObj nm q C N bs bm hdct sn sub ab col dd k0 k1 k2 k3 k5 newId)) (he : h.get? e = some oe) (hcls : oe.cls = .ref C)
    (hC' : h.get? C' = some (excClassObj nm' q' C' N' bs' bm' hdct' sn' sub' ab' col' dd' k0' k1' k2' k3' k5' newId')) (hbase : bm'.contains (.type "BaseException") = true) (hno : (Value.ref C :: bm).contains (.ref C') = false)
    (hq : Q false ⟨h, g, d, t, os⟩) : wpAny M A (excMatches (.ref e) (.ref C')) Q E ⟨h, g, d, t, os⟩ := by
  have hcB : (Value.ref C' :: bm').contains (.type "BaseException") = true := by rw [List.contains_cons, hbase, Bool.or_true]
  have f := tc_notTuple
  unfold excMatches
  repeat (first | (with_reducible refine wpAny_loadPart_at he ?_; rw [hcls]) | with_reducible refine wpAny_loadPart_at hC' ?_ | (with_reducible refine wpAny_isSubtype_exc hC' ?_; rw [hcB]) | (with_reducible refine wpAny_isSubtype_exc hC ?_; rw [hno]) | wp_step)
  exact hq
end
end PySem
namespace L2
open PySem PySem.Spec PyProof.Rows

def apartIn (K : PySem.W.Frag) (C C' : Addr) : Bool := match K.lookup C with
  | some ⟨_, _, .cls cd, _⟩ => !cd.mro.contains (.ref C')
  | _ => false
theorem apart_of {K : PySem.W.Frag} {h : Heap} {C C' N : Addr} {nm q : Str} {bs bm : List Value} {hdct : Bool} {sn : List Str} {sub : List Value} {ab : Bool} {col : Option Bool} {dd : Option Addr} {k0 k1 k2 k3 k5 : Option Value} {newId : String}
    (X : K.In h) (a : apartIn K C C' = true) (hC : h.get? C = some (excClassObj nm q C N bs bm hdct sn sub ab col dd k0 k1 k2 k3 k5 newId)) : (Value.ref C :: bm).contains (.ref C') = false := by
  unfold apartIn at a
  split at a
  · rename_i c0 d0 cd sl hl
    have e := X _ _ hl
    rw [hC] at e
    unfold excClassObj at e
    injection e with e
    injection e with _ _ e _
    injection e with e
    subst e
    simpa using a
  · cases a

inductive Hdls (X : Cx) : List ExceptHandler → List (Addr × TS) → Prop
  | nil : Hdls X [] []
  | cons {x : Str} {C : Addr} {newId : String} {bm : List Value} {b₀ : Stmt} {suite : List Stmt} {np hpos : Pos} {th : TS} {rest : List ExceptHandler} {ts : List (Addr × TS)} :
      Gl X x → OwnCls x C bm newId X.mg X.base → bm.contains (.type "BaseException") = true → (x == ("__debug__" : Str)) = false → (∀ (pn : List (Addr × Obj)) (e : Addr), PSs (X.hdlX pn e) (b₀ :: suite) th) → (∀ p ∈ ts, apartIn X.K p.1 C = true) →
      Hdls X rest ts → Hdls X (.ExceptHandler (some (.Name x np)) none (b₀ :: suite) hpos :: rest) ((C, th) :: ts)
theorem Hdls.own {X : Cx} {hs : List ExceptHandler} {ts : List (Addr × TS)} (h : Hdls X hs ts) : ∀ p ∈ ts, ∃ x bm newId, OwnCls x p.1 bm newId X.mg X.base ∧ bm.contains (.type "BaseException") = true := by
  induction h with
  | nil => intro p hp; cases hp
  | cons _ O hb _ _ _ _ ih =>
    intro p hp
    rcases List.mem_cons.mp hp with z | z
    · subst z; exact ⟨_, _, _, O, hb⟩
    · exact ih p z

def tTryN (ts : List (Addr × TS)) (tb : (St → XK) → TS) : TS := fun D σ H => tb (fun σ' cls _ H' => ∃ p ∈ ts, cls = .ref p.1 ∧ p.2 D σ' H') D σ H

theorem ps_tryN {X : Cx} {body : List Stmt} {h0 : ExceptHandler} {hs : List ExceptHandler} {ts : List (Addr × TS)} {pos : Pos} {tb : (St → XK) → TS}
    (hst : X.stack = X.env :: X.outer) (hfr : X.env.frame = some X.env.locals) (hc : X.env.cells = []) (hex : X.ex = []) (hH : Hdls X (h0 :: hs) ts)
    (hb : ∀ (J : St → XK) (pn : List (Addr × Obj)) (EL : Value → Shared → Prop), PassesS (CXE X.prog X.w) (X.tryX pn EL) J → PSs (X.tryX pn EL) body (tb J)) :
    PS X (.Try body (h0 :: hs) [] [] pos) (tTryN ts tb) := by
  intro pins s σ H D I h
  refine wpAny_Try_except ?_
  generalize h0 :: hs = hs at hH ⊢
  have hfrm : X.A.frames = some (X.env :: X.outer) := by rw [← hst]; exact I.ok.frames
  have toX : ∀ {Y : Cx} {pins' : List (Addr × Obj)} {σ' : St} {H' : Hp} {s' : Shared} {EL : Value → Shared → Prop} {e : Addr}, (Y = X.tryX (X.pn ++ pins) EL ∨ Y = X.hdlX (X.pn ++ pins) e) → Inv Y pins' σ' H' s' → Inv X pins σ' H' s' := by
    intro Y pins' σ' H' s' EL e hY J
    rcases hY with rfl | rfl
    · exact ⟨I.ok, J.os, J.bare, J.base, J.loc, J.cell, J.free, J.freeC, fun p hp => J.pin p (List.mem_append_left _ hp), J.hok, J.len⟩
    · exact ⟨I.ok, J.os, J.bare, J.base, J.loc, J.cell, J.free, J.freeC, fun p hp => J.pin p (List.mem_append_left _ hp), J.hok, J.len⟩
  have spX : ∀ {Y : Cx} {pins' : List (Addr × Obj)} {s' : Shared} {EL : Value → Shared → Prop} {e : Addr} {fl : Flow}, (Y = X.tryX (X.pn ++ pins) EL ∨ Y = X.hdlX (X.pn ++ pins) e) → SP Y pins' D fl s' → SP X pins D fl s' := by
    intro Y pins' s' EL e fl hY q
    cases fl with
    | next => obtain ⟨σ', H', J, q⟩ := q; exact ⟨σ', H', toX hY J, q⟩
    | brk => obtain ⟨σ', H', J, q⟩ := q; exact ⟨σ', H', toX hY J, q⟩
    | cont => obtain ⟨σ', H', J, q⟩ := q; exact ⟨σ', H', toX hY J, q⟩
    | ret u => obtain ⟨v, σ', H', J, r, q⟩ := q; exact ⟨v, σ', H', toX hY J, r, q⟩
  refine wpAny_mono (hb (fun σ' cls _ H' => ∃ p ∈ ts, cls = .ref p.1 ∧ p.2 D σ' H') (X.pn ++ pins) (fun e s₁ => wpAny (model X.prog X.w) X.A (noteFrame e X.env) (fun _ s₂ => wpAny (model X.prog X.w) X.A (setFlight e none) (fun _ s₃ =>
      wpAny (model X.prog X.w) X.A (handleBy e X.env hs) (SP X pins D) X.xe s₃) X.xe s₂) X.xe s₁) ?_ [] s σ H D
      ⟨I.ok.tryX _ _, I.os, I.bare, I.base, I.loc, I.cell, I.free, I.freeC, fun p hp => I.pin p (by simpa using hp), I.hok, I.len⟩ h) (fun fl s₁ q => ?_) (fun e s₁ q => q)
  · intro pins' σ' H1 s1 ev s2 I1 hx
    obtain ⟨e, cls, a0, B, H2, rfl, os, bare, fl, un, hok, trk, old, ⟨Cx, thx⟩, hmem, rfl, hth⟩ := hx
    have I2 := I1.call' (s' := s2) os un hok bare (fun b z => absurd z (by simp))
    have hB : ∀ b o, X.s_0.heap.get? b = some o → b ∉ X.fs → ∃ u, B.get? b = some u := fun b o e1 hb => by
      obtain ⟨o1, e2⟩ := I1.base.there b o e1 (by show b ∉ X.ex; rw [hex]; simp)
      refine old b o1 e2 fun z => ?_
      rcases List.mem_cons.mp (I1.stkSub b z) with q | q
      · have := Heap.lt_size e1
        rw [q] at this
        exact absurd (Nat.lt_of_lt_of_le this I.ok.above) (Nat.lt_irrefl _)
      · exact hb q
    have hpin : ∀ p ∈ (X.pn ++ pins) ++ pins', ∃ u, B.get? p.1 = some u := fun p hp => by
      obtain ⟨e1, _, ne, nf, _⟩ := I1.pin p hp
      refine old p.1 p.2 e1 fun z => ?_
      rcases List.mem_cons.mp (I1.stkSub p.1 z) with q | q
      · exact ne q
      · exact nf q
    have fl1 : Heap.FlyingW B (X.env :: X.outer) e (.ref Cx) a0 s2.heap := by rw [← hst]; exact fl
    refine wpAny_looks_onW hfrm hfr fl1 fun h₄ held up4 => ?_
    refine wpAny_landsW held fun h₅ fl5 up5 => ?_
    have I5 := I2.land (h' := h₅) hex hc hB hpin trk fl.1 fl5.1 (up4.trans up5)
    obtain ⟨xx, bmx, nidx, Ox, hbx⟩ := hH.own _ hmem
    obtain ⟨tlx, Nx, nmx, qx, bsx, hdx, snx, subx, abx, colx, ddx, j0, j1, j2, j3, j5, mNx, hCx, _, _, _⟩ := (Ox.keeps I5.bk).obj
    obtain ⟨oe, he, hcls⟩ := fl5.there
    have key : ∀ (hs : List ExceptHandler) (ts : List (Addr × TS)), Hdls X hs ts → (Cx, thx) ∈ ts → wpAny (model X.prog X.w) X.A (handleBy (.ref e) X.env hs) (SP X pins D) X.xe { s2 with heap := h₅ } := by
     intro hs ts hH hmem
     induction hH with
     | nil => cases hmem
     | @cons x C newId bm b₀ suite np hpos th rest ts' hg O hbase hdb hh hap _ ih =>
      refine wpAny_handleBy_cons (codeAny_handlers_test (Calls.Name_function_global I.ok.kind hg (Calls.loadGlobal_global (by rw [I.ok.glob]; exact I.mod.glob.keeps I5.bk) O.bound ?_) hdb)) (by intro q; cases q)
      obtain ⟨tl, N', nm, q, bs, hdct, sn, sub, ab, col, dd, k0, k1, k2, k3, k5, mN, hC, hN, hni, T⟩ := (O.keeps I5.bk).obj
      rcases List.mem_cons.mp hmem with z | z
      · cases z
        refine wpAny_excMatches_sub_self hC he hcls (T.hasType hbase) (codeAny_handlers_suite ?_)
        refine lands_againW fl5 fun h₆ fl6 up6 => ?_
        have I6 := I5.land (h' := h₆) hex hc hB hpin trk fl5.1 fl6.1 up6
        refine wpAny_mono (hh (X.pn ++ pins) e pins' _ σ' H2 D ⟨I6.ok.hdlX e, I6.os, I6.bare, I6.base, I6.loc, I6.cell, I6.free, I6.freeC, I6.pin, I6.hok, I6.len⟩ hth) (fun fl' s' q' => ?_) fun _ _ z => False.elim z
        exact spX (EL := fun _ _ => False) (.inr rfl) q'
      · refine wpAny_excMatches_sub_other hCx he hcls hC (T.hasType hbase) (apart_of I5.kIn (hap _ z) hCx) ?_
        exact ih z
    exact key _ _ hH hmem
  · cases fl with
    | next => exact wpAny_execs_nil (spX (e := 0) (.inl rfl) q)
    | brk => exact spX (e := 0) (.inl rfl) q
    | cont => exact spX (e := 0) (.inl rfl) q
    | ret u => exact spX (e := 0) (.inl rfl) q
end L2

set_option Elab.async false
set_option linter.all false
set_option maxRecDepth 100000
namespace L2
open PySem PySem.Spec PyProof.Rows

section
variable {prog : Program} {w : World} {A : Around} {E : Value → Shared → Prop}
abbrev TKey := List Key × Addr × Value
theorem tk_keep {h h' : Heap} {ks : List Key} {a : Addr} (x : (tupleKind (mixKind prog w)).is h ks a) (k : ∀ o, h.get? a = some o → h'.get? a = some o) : (tupleKind (mixKind prog w)).is h' ks a := by
  obtain ⟨o, its, n, h1, h2, h3, h4⟩ := x
  exact ⟨o, its, n, k o h1, h2, h3, h4⟩
theorem dh_keep {h h' : Heap} {S : Addr} {xs : List TKey} (x : h.DictOfH (tupleKind (mixKind prog w)) S xs) (k : ∀ o, h.get? S = some o → h'.get? S = some o) (kk : ∀ q ∈ xs, ∀ o, h.get? q.2.1 = some o → h'.get? q.2.1 = some o) :
    h'.DictOfH (tupleKind (mixKind prog w)) S xs := by
  obtain ⟨o, es, ep, h1, h2, h3, h4, h5, h6⟩ := x
  exact ⟨o, es, ep, k o h1, h2, h3, h4, fun q hq => tk_keep (h5 q hq) (kk q hq), h6⟩
def mergedH (acc rest : List TKey) : List TKey := rest.foldl (fun a q => storedH a q.1 q.2.1 q.2.2) acc
theorem storedH_addr {xs : List TKey} {k : List Key} {a : Addr} {v : Value} : ∀ q ∈ storedH xs k a v, q.2.1 = a ∨ ∃ q' ∈ xs, q'.2.1 = q.2.1 := by
  intro q hq
  unfold storedH at hq
  split at hq
  · obtain ⟨q', h1, h2⟩ := List.mem_map.mp hq
    refine .inr ⟨q', h1, ?_⟩
    rw [← h2]; unfold putAt; split <;> rfl
  · rcases List.mem_append.mp hq with z | z
    · exact .inr ⟨q, z, rfl⟩
    · rw [List.mem_singleton.mp z]; exact .inl rfl
theorem storedH_len (xs : List TKey) (k : List Key) (a : Addr) (v : Value) : (storedH xs k a v).length ≤ xs.length + 1 := by
  unfold storedH
  split
  · rw [List.length_map]; omega
  · rw [List.length_append]; simp
theorem upd_loopT {R : Result → Shared → Prop} {S I l : Addr} {items : Array Value} {res : Value} (hu : A.units + 1 < cLine) (hh : A.handled = none) (hlI : l ≠ I) (hSI : S ≠ I) (hSl : S ≠ l) :
    ∀ (rest : List TKey) (i : Nat) (acc : List TKey) (ix : Int) (t : Tok) (s : Shared), items.size = i + rest.length → acc.length + rest.length ≤ sizeLine →
      (∀ (j : Nat) (q : TKey), rest[j]? = some q → ∃ (b : Addr), items[i + j]? = some (.ref b) ∧ b ≠ S ∧ b ≠ I ∧ IsTup s.heap b #[.ref q.2.1, q.2.2] ∧ q.2.1 ≠ S ∧ q.2.1 ≠ I ∧ (tupleKind (mixKind prog w)).is s.heap q.1 q.2.1) →
      (∀ q ∈ acc, q.2.1 ≠ I ∧ q.2.1 ≠ S) →
      s.heap.IsListIter I l i → s.heap.IsList l items → s.heap.DictOfH (tupleKind (mixKind prog w)) S acc →
      (∀ h' tk, h'.DictOfH (tupleKind (mixKind prog w)) S (mergedH acc rest) → (∀ b o, b ≠ S → b ≠ I → s.heap.get? b = some o → h'.get? b = some o) → R (.ok (.ret res)) { s with heap := h', toks := tk }) →
      codeAny (model prog w) A (.builtin "dict.update.loop" ⟨[.ref S, .ref I, .int ix t, res], []⟩) R s
  | [], i, acc, ix, t, s, hsz, hln, ht, ha, hit, hl, hm, hR => by
    refine codeAny_builtin ud_entry ?_
    rw [Around.under_plainId ud_plain _]
    show wpAny _ A.in1 (pyNext (.ref I) >>= _) _ _ s
    refine wpAny_bind (wpAny_pyNext_list_end (A := A.in1) hh hit hl (by first | exact Array.getElem?_eq_none (Nat.le_of_eq hsz) | (simp at hsz; simp; omega)) fun h' he => ?_)
    show wpAny _ A.in1 (Builtin.Dict.addKeywords S [] >>= _) _ _ _
    refine wpAny_bind (wpAny_pure (wpAny_pure ?_))
    exact hR h' s.toks (dh_keep hm (fun o e => he S o hSI e) fun q hq o e => he _ o (ha q hq).1 e) fun b o _ hb e => he b o hb e
  | q :: rest, i, acc, ix, t, s, hsz, hln, ht, ha, hit, hl, hm, hR => by
    obtain ⟨b, hb, hbS, hbI, htup, hkS, hkI, hk⟩ := ht 0 q rfl
    rw [List.length_cons] at hsz hln
    refine codeAny_builtin ud_entry ?_
    rw [Around.under_plainId ud_plain _]
    show wpAny _ A.in1 (pyNext (.ref I) >>= _) _ _ s
    refine wpAny_bind (wpAny_pyNext_list_item (x := .ref b) hit hl (by simpa using hb) fun h1 hit1 hs1 => ?_)
    have ht1 : IsTup h1 b #[.ref q.2.1, q.2.2] := htup.extBut hs1.extBut hbI
    have hl1 : h1.IsList l items := hl.extBut hs1.extBut hlI
    have hm1 : h1.DictOfH (tupleKind (mixKind prog w)) S acc := dh_keep hm (fun o e => hs1.extBut S o hSI e) fun q' hq o e => hs1.extBut _ o (ha q' hq).1 e
    have hk1 : (tupleKind (mixKind prog w)).is h1 q.1 q.2.1 := tk_keep hk fun o e => hs1.extBut _ o hkI e
    obtain ⟨o, ho, hc, n, hd⟩ := id ht1
    show wpAny _ A.in1 (holding [Value.ref b] _ >>= _) _ _ _
    refine wpAny_bind (wpAny_holding ?_)
    refine wpAny_bind (wpAny_tryCatch ?_)
    unfold Builtin.Dict.pairItems
    refine wpAny_bind (wpAny_typeOf (T := "tuple") ⟨o, ho, hc⟩ ?_)
    rw [if_pos (by first | decide | rfl | simp)]
    refine wpAny_bind (wpAny_seqItems ho hd (wpAny_pure ?_))
    show wpAny _ A.in1 (holding [.ref q.2.1, q.2.2] (dictSet S (.ref q.2.1) q.2.2)) _ _ _
    refine wpAny_holding (wpAny_dictSet_heap (knd := tupleKind (mixKind prog w)) (k := q.1) hu hk1 hm1 (fun h2 hm2 hs2 => ?_) (by omega))
    refine wpAny_pure ⟨plainId_quiet ud_plain _, upd_loopT (items := items) hu hh hlI hSI hSl rest (i + 1) (storedH acc q.1 q.2.1 q.2.2) (ix + 1) 0 _ (show items.size = i + 1 + rest.length by omega) ?_ (fun j q' e => ?_) (fun q' hq' => ?_) ?_ ?_ hm2 fun h' tk hd' k => ?_⟩
    · have z := storedH_len acc q.1 q.2.1 q.2.2
      omega
    · obtain ⟨b', hb', hbS', hbI', htup', hkS', hkI', hk'⟩ := ht (j + 1) q' (by simpa using e)
      refine ⟨b', ?_, hbS', hbI', (htup'.extBut hs1.extBut hbI').extBut hs2.extBut hbS', hkS', hkI', tk_keep hk' fun o e => hs2.extBut _ o hkS' (hs1.extBut _ o hkI' e)⟩
      rw [show i + 1 + j = i + (j + 1) by omega]
      exact hb'
    · rcases storedH_addr q' hq' with z | ⟨q0, z1, z2⟩
      · rw [z]; exact ⟨hkI, hkS⟩
      · rw [← z2]; exact ha q0 z1
    · exact hit1.at fun o' e => hs2.extBut I o' (Ne.symm hSI) e
    · exact hl1.extBut hs2.extBut (Ne.symm hSl)
    · exact hR h' tk hd' fun c oc h3 h4 e => k c oc h3 h4 (hs2.extBut c oc h3 (hs1.extBut c oc h4 e))

theorem call_dict_pairsT {s : Shared} {l : Addr} {ol : Obj} {items : Array Value} {n : Nat} {prs : List TKey} {Q : Value → Shared → Prop} (hu : A.units + 2 < cLine) (hh : A.handled = none) (hl : s.heap.get? l = some ol) (hc : ol.cls = .type "list") (hd : ol.dict = none)
    (hdat : ol.data = .seq items n) (hsz : items.size = prs.length) (hln : prs.length ≤ sizeLine)
    (ht : ∀ (j : Nat) (q : TKey), prs[j]? = some q → ∃ (b : Addr), items[j]? = some (.ref b) ∧ IsTup s.heap b #[.ref q.2.1, q.2.2] ∧ (tupleKind (mixKind prog w)).is s.heap q.1 q.2.1)
    (h : ∀ h' tk, h'.DictOfH (tupleKind (mixKind prog w)) s.heap.objs.size (mergedH [] prs) → (∀ b o, s.heap.get? b = some o → h'.get? b = some o) → Q (.ref s.heap.objs.size) { s with heap := h', toks := tk }) :
    wpAny (model prog w) A (call (.type "dict") [.ref l]) Q E s := by
  refine callType_codes (Q₁ := fun obj s₁ => obj = .ref s.heap.objs.size ∧ s₁ = { s with heap := s.heap.push { cls := .type "dict", data := .dict #[] } }) PySem.F.kt_called_dict (PySem.F.kt_typeCall_dict_1 _) PySem.F.entry_dict_init (kt_code_dict_new _ ⟨rfl, rfl⟩) ?_
  rintro obj s₁ ⟨rfl, rfl⟩
  have hnew : (s.heap.push { cls := .type "dict", data := .dict #[] }).DictOfH (tupleKind (mixKind prog w)) s.heap.objs.size [] := Heap.DictOfH.new s.heap
  have hty : ({ s with heap := s.heap.push { cls := .type "dict", data := .dict #[] } } : Shared).TypeIs (.ref s.heap.objs.size) "dict" := ⟨_, Heap.get?_push_size _ rfl, rfl⟩
  have k0 : ∀ b o, s.heap.get? b = some o → (s.heap.push { cls := .type "dict", data := .dict #[] }).get? b = some o := fun b o e => Heap.get?_push_of_some _ e
  refine ⟨hty, PySem.F.args_dict_init_2 _ _, ?_⟩
  unfold Builtin.«dict.__init__»
  refine wpAny_bind ?_
  unfold Builtin.Dict.selfAndRest
  refine wpAny_bind (wpAny_notOrdered_dict hty ?_)
  show wpAny _ _ (pure (s.heap.objs.size, [Value.ref l])) _ _ _
  refine wpAny_pure ?_
  show wpAny _ _ (Builtin.Dict.updateFrom "dict.__init__" s.heap.objs.size (.ref l) [] .none) _ _ _
  unfold Builtin.Dict.updateFrom
  refine wpAny_bind (wpAny_typeOf (T := "list") ⟨ol, k0 _ _ hl, hc⟩ ?_)
  rw [if_pos (by first | decide | rfl | simp)]
  refine wpAny_bind (miss_list (k0 _ _ hl) hc hdat hd hh fun h1 tk1 hk1 => ?_)
  rw [if_pos (show (none : Option Value).isNone = true from rfl)]
  refine wpAny_bind (wpAny_rule ?_)
  have hl1 : h1.IsList l items := ⟨ol, hk1 _ _ (k0 _ _ hl), hc, n, hdat⟩
  have hS1 : s.heap.objs.size < h1.objs.size := by
    have e : (s.heap.push { cls := .type "dict", data := .dict #[] }).get? s.heap.objs.size = some { cls := .type "dict", data := .dict #[] } := Heap.get?_push_size _ rfl
    exact Heap.lt_size (hk1 _ _ e)
  refine wpAny_bind (wpAny_pyIter_list hl1 ?_)
  have k2 : ∀ b o, h1.get? b = some o → (h1.push { cls := .type "list_iterator", data := .fields #[.ref l, .int 0 0] }).get? b = some o := fun b o e => Heap.get?_push_of_some _ e
  have hlt : l < s.heap.objs.size := Heap.lt_size hl
  have kall : ∀ c o, s.heap.get? c = some o → (h1.push { cls := .type "list_iterator", data := .fields #[.ref l, .int 0 0] }).get? c = some o := fun c o z => k2 _ _ (hk1 _ _ (k0 _ _ z))
  have key := upd_loopT (prog := prog) (w := w) (A := A.in1) (R := wants (fun r s₂ => r = .none ∧ Q (.ref s.heap.objs.size) s₂) E) (S := s.heap.objs.size) (I := h1.objs.size) (l := l) (items := items) (res := Value.none) hu hh
    (Nat.ne_of_lt (Nat.lt_trans hlt hS1)) (Nat.ne_of_lt hS1) (Nat.ne_of_gt hlt) prs 0 [] 0 0
    { s with heap := h1.push { cls := .type "list_iterator", data := .fields #[.ref l, .int 0 0] }, toks := tk1 } (by rw [hsz, Nat.zero_add]) (by rw [List.length_nil, Nat.zero_add]; exact hln)
    (fun j q e => by
      obtain ⟨b, e1, e2, e3⟩ := ht j q e
      have hb : b < s.heap.objs.size := e2.lt
      have hka : q.2.1 < s.heap.objs.size := by obtain ⟨o, _, _, z, _⟩ := e3; exact Heap.lt_size z
      exact ⟨b, by rw [Nat.zero_add]; exact e1, Nat.ne_of_lt hb, Nat.ne_of_lt (Nat.lt_trans hb hS1), e2.keeps fun c o z => kall c o z, Nat.ne_of_lt hka, Nat.ne_of_lt (Nat.lt_trans hka hS1), tk_keep e3 fun o z => kall _ o z⟩)
    (fun q hq => by cases hq)
    ⟨_, Heap.get?_push_size _ rfl, rfl, rfl⟩ (hl1.at fun o e => k2 _ _ e) (dh_keep hnew (fun o e => k2 _ _ (hk1 _ _ e)) fun q hq => by cases hq)
    (fun h' tk hd' k => ⟨rfl, h h' tk hd' fun b o e => k b o (Nat.ne_of_lt (Heap.lt_size e)) (Nat.ne_of_lt (Nat.lt_trans (Heap.lt_size e) hS1)) (k2 _ _ (hk1 _ _ (k0 _ _ e)))⟩)
  first
    | exact wpAny_pure ⟨plainId_quiet ud_plain _, key⟩
    | exact wpAny_bind (wpAny_pure (wpAny_pure ⟨plainId_quiet ud_plain _, key⟩))
end

section
variable {X : Cx}
theorem pairsT_of {pins : List (Addr × Obj)} {σ : St} {H : Hp} {s : Shared} (I : Inv X pins σ H s) : ∀ {ps : List Addr} {kvs : List (List Key × V)}, Paired (fun p kv => ∃ b, H p = some (.tup [.ref b, kv.2]) ∧ H b = some (.tup (kv.1.map kV))) ps kvs →
    ∃ prs : List TKey, KT H kvs prs ∧ prs.length = ps.length ∧ ∀ (j : Nat) (q : TKey), prs[j]? = some q → ∃ (b : Addr), ps[j]? = some b ∧ IsTup s.heap b #[.ref q.2.1, q.2.2] ∧ (tupleKind (mixKind X.prog X.w)).is s.heap q.1 q.2.1
  | _, _, .nil => ⟨[], .nil, rfl, fun j q e => by simp at e⟩
  | _, _, .cons (a := p) (b := kv) h t => by
    obtain ⟨prs, r, hl, hp⟩ := pairsT_of I t
    obtain ⟨kb, h1, h2⟩ := h
    obtain ⟨its, rv, ht, _⟩ := I.tuple (SqT.of h1)
    obtain ⟨u, y, ei, ru, ry⟩ := vals2 rv
    subst ei
    cases (show u = Value.ref kb from ru)
    refine ⟨(kv.1, kb, y) :: prs, .cons ⟨rfl, h2, ry⟩ r, by rw [List.length_cons, List.length_cons, hl], fun j q e => ?_⟩
    cases j with
    | zero =>
      have e' : (kv.1, kb, y) = q := Option.some.inj e
      subst e'
      exact ⟨p, rfl, ht, key_of I.hok h2⟩
    | succ j =>
      obtain ⟨b, e1, e2, e3⟩ := hp j q (by simpa using e)
      exact ⟨b, by simpa using e1, e2, e3⟩
def mergeT (acc kvs : List (List Key × V)) : List (List Key × V) := kvs.foldl (fun a q => putK a q.1 q.2) acc
theorem KT.merge {H : Hp} : ∀ {kvs acc : List (List Key × V)} {prs xs : List TKey}, KT H kvs prs → KT H acc xs → KT H (mergeT acc kvs) (mergedH xs prs)
  | _, _, _, _, .nil, a => a
  | _, _, _, _, .cons (a := p) (b := q) h t, a => by
    show KT H (mergeT (putK _ p.1 p.2) _) (mergedH (storedH _ q.1 q.2.1 q.2.2) _)
    obtain ⟨h1, h2, h3⟩ := h
    refine KT.merge t ?_
    rw [← h1]
    exact a.put p.1 h2 h3
theorem mergeT_len : ∀ (kvs acc : List (List Key × V)), (mergeT acc kvs).length ≤ acc.length + kvs.length
  | [], _ => Nat.le_refl _
  | q :: r, acc => by
    have := mergeT_len r (putK acc q.1 q.2)
    have h2 := length_putK acc q.1 q.2
    show (mergeT (putK acc q.1 q.2) r).length ≤ _
    rw [List.length_cons]; omega
theorem call_dictT (hcalm : X.calm = true) (hu : X.A.units + 2 < cLine) : CallR X (.type "dict") (fun xs H Q => ∃ (a : Addr) (ps : List Addr) (kvs : List (List Key × V)), xs = [.ref a] ∧ SqL X.K H a (ps.map V.ref) ∧
    Paired (fun p kv => ∃ b, H p = some (.tup [.ref b, kv.2]) ∧ H b = some (.tup (kv.1.map kV))) ps kvs ∧ ∀ p, H p = none → Q (.ref p) (upd H p (.dT (mergeT [] kvs)))) := by
  intro pins s σ H xs us Q I r q
  obtain ⟨a, ps, kvs, ex, hq, hp, q⟩ := q
  subst ex
  obtain ⟨u, eu, rx⟩ := vals1 r
  subst eu
  cases rx
  obtain ⟨its, rv, pl, hz⟩ := I.list hq
  have ei := refs_at rv
  subst ei
  rw [List.length_map] at hz
  obtain ⟨prs, rel, hl, hpr⟩ := pairsT_of I hp
  obtain ⟨o, n, ho, hc, hd, hdat⟩ := pl
  refine call_dict_pairsT (prs := prs) hu (I.ok.hd hcalm) ho hc hd hdat (by simp [hl]) (by rw [hl]; exact hz) (fun j q' e => ?_) fun h' tk hd' k => ?_
  · obtain ⟨b, e1, e2, e3⟩ := hpr j q' e
    exact ⟨b, by simp [e1], e2, e3⟩
  · have hm : (s.heap.objs.size == sysModules) = false := beq_eq_false_iff_ne.mpr (Nat.ne_of_gt I.big)
    have hlen : (mergeT [] kvs).length ≤ sizeLine := by
      refine Nat.le_trans (mergeT_len kvs []) ?_
      rw [List.length_nil, Nat.zero_add, Paired.length rel, hl]
      exact hz
    obtain ⟨od, es, ep, g1, g2, g3, g4, _, g6⟩ := hd'
    have fr := I.hok.fresh (Nat.le_refl s.heap.objs.size)
    refine ⟨.ref s.heap.objs.size, upd H s.heap.objs.size (.dT (mergeT [] kvs)), I.laid (t' := tk) k (Nat.le_refl _) (show ObjOk X.prog X.w _ _ _ (.dT (mergeT [] kvs)) from ⟨hlen, hm, _, (KT.merge rel .nil).keeps fun c ys ec => ?_, od, es, ep, g1, g2, g3, g4, g6⟩), rfl, q _ fr⟩
    rw [upd_ne (ne_of_none ec fr)]; exact ec
end
end L2

set_option Elab.async false
namespace Ru
open PySem
def top (i : Nat) : Stmt := PySem.Challenge.pw_sheettexts_s02_ru_work.main.body.getD i (.Pass ⟨0, 0, 0, 0⟩)
abbrev sBehindKind : Stmt := top 3
abbrev sPart : Stmt := top 4
abbrev sJoin : Stmt := top 5
abbrev sChoice : Stmt := top 6
abbrev sFormula : Stmt := top 7
abbrev sRule : Stmt := top 8
abbrev sRules : Stmt := top 9
abbrev sLetter : Stmt := top 27
abbrev sDigit : Stmt := top 28
abbrev sNameByte : Stmt := top 29
abbrev sNameEnd : Stmt := top 30
abbrev sNumberEnd : Stmt := top 31
abbrev sByteEnd : Stmt := top 32
abbrev sStringEnd : Stmt := top 33
abbrev sTokenEnd : Stmt := top 34
abbrev sWordOr : Stmt := top 35
abbrev sKindOf : Stmt := top 36
abbrev sNumberOf : Stmt := top 37
abbrev sStringOf : Stmt := top 38
abbrev sTokenOf : Stmt := top 39
abbrev sTokens : Stmt := top 40
abbrev sInitOpen : Stmt := L2.inClass (top 48) 0
abbrev sInitWork : Stmt := L2.inClass (top 49) 0
abbrev sOpenRule : Stmt := top 50
abbrev sLeave : Stmt := top 51
abbrev sPut : Stmt := top 52
abbrev sDigits : Stmt := top 53
abbrev sTextStep : Stmt := top 54
abbrev sTakeStep : Stmt := top 55
abbrev sWorkedOut : Stmt := top 56
abbrev sRepeated : Stmt := top 70
abbrev sRefusal : Stmt := top 71
abbrev sReadRules : Stmt := top 72
abbrev sReadSheet : Stmt := top 73
abbrev sWorkAnswer : Stmt := top 74
abbrev sWork : Stmt := top 75
end Ru

set_option Elab.async false
set_option linter.all false
set_option maxRecDepth 100000
namespace Ru
open PySem L2 RM Kp176


abbrev bv (bs : List Nat) : List V := bs.map fun b => V.int ((b : Nat) : Int)
theorem at_bv {bs : List Nat} {i c : Nat} (h : bs[i]? = some c) : atI (bv bs) ((i : Nat) : Int) = some (.int ((c : Nat) : Int)) := atI_nat (by rw [List.getElem?_map, h]; rfl)
theorem bv_len (bs : List Nat) : (bv bs).length = bs.length := List.length_map _

section
variable {X : Cx}
theorem pgi {x : Str} {i : Int} {pos : Pos} (h : ∃ t, X.mg x = some (.int i t)) (hg : Gl X x := by rfl) (hd : (x == ("__debug__" : Str)) = false := by decide) : PE X (.Name x pos) (tC (.int i)) :=
  let ⟨t, e⟩ := h
  pe_glob hg e ⟨t, rfl⟩ hd
theorem pgr {x : Str} {a : Addr} {pos : Pos} (h : X.mg x = some (.ref a)) (hg : Gl X x := by rfl) (hd : (x == ("__debug__" : Str)) = false := by decide) : PE X (.Name x pos) (tC (.ref a)) :=
  pe_glob hg h rfl hd
end

structure Consts (K : PySem.W.Frag) (mg : Str → Option Value) (dS tW : Addr) : Prop where
  newline : ∃ t, mg "NEWLINE" = some (.int 10 t)
  blank : ∃ t, mg "BLANK" = some (.int 32 t)
  quote : ∃ t, mg "QUOTE" = some (.int 34 t)
  backslash : ∃ t, mg "BACKSLASH" = some (.int 92 t)
  underscore : ∃ t, mg "UNDERSCORE" = some (.int 95 t)
  smallA : ∃ t, mg "SMALL_A" = some (.int 97 t)
  smallN : ∃ t, mg "SMALL_N" = some (.int 110 t)
  smallZ : ∃ t, mg "SMALL_Z" = some (.int 122 t)
  digit0 : ∃ t, mg "DIGIT_0" = some (.int 48 t)
  digit9 : ∃ t, mg "DIGIT_9" = some (.int 57 t)
  lowest : ∃ t, mg "LOWEST_IN_STRING" = some (.int 32 t)
  mostName : ∃ t, mg "MOST_NAME_BYTES" = some (.int 16 t)
  mostDigits : ∃ t, mg "MOST_DIGITS" = some (.int 4 t)
  signs : mg "SIGNS" = some (.ref dS)
  words : mg "WORDS" = some (.ref tW)
  len : mg "len" = none
  tuple : mg "tuple" = none
  ord : mg "ord" = none
  signsD : KDict K dS [(61, .str "="), (38, .str "&"), (40, .str "("), (41, .str ")"), (44, .str ","), (59, .str ";")]
  wordsT : ∀ H : Hp, SqT K H tW [.str "if", .str "then", .str "else", .str "get", .str "first", .str "rest", .str "size"]

section
variable {P : Program} {w : World} {K : PySem.W.Frag} {mg : Str → Option Value} {base : Heap} {f : Addr} {fd : FuncData} {dS tW : Addr}

def spTest (p : Nat → Bool) : Sp := fun vs H Q _ => ∃ c : Nat, vs = [.int ((c : Nat) : Int)] ∧ Q (.bl (p c)) H
theorem test_len {p : Nat → Bool} : ∀ vs H Q E, spTest p vs H Q E → vs.length = ["byte"].length := fun vs H Q E ⟨c, h, _⟩ => by rw [h]; rfl
theorem scLetter : FnScope ["byte"] ["byte"] (defScope sLetter) := ⟨rfl, rfl, rfl, by decide +kernel, rfl, by decide +kernel, by decide +kernel⟩
theorem ok_letter (C : Consts K mg dS tW) (F : Fun K "is_letter" "is_letter" sLetter f fd) : FnOk P w K mg base CX0 1 f fd ["byte"] (spTest small) := by
  refine F.ok scLetter test_len (fun cdv A outer s H vs Q E hr h => ?_)
  obtain ⟨c, rfl, q⟩ := h
  refine ⟨_, pss_one (ps_ret (pe_chain op_le op_le (pgi C.smallA) (pv 0) (pgi C.smallZ))), ?_⟩
  refine ⟨_, rfl, _, _, rfl, rfl, _, rfl, ite2 (fun h => ?_) (fun h => ?_)⟩
  · refine ⟨_, _, rfl, rfl, ?_⟩
    have e : decide (((c : Nat) : Int) ≤ 122) = small c := by
      have h' := of_decide_eq_true h
      unfold small
      rw [decide_eq_true (show 97 ≤ c by omega), Bool.true_and]
      exact decide_eq_decide.mpr ⟨fun z => by omega, fun z => by omega⟩
    rw [← e] at q
    exact q
  · have e : small c = false := by
      have h' := of_decide_eq_false (Bool.eq_false_iff.mpr h)
      unfold small
      rw [decide_eq_false (show ¬ 97 ≤ c by omega), Bool.false_and]
    rw [e] at q
    exact q
theorem scDigit : FnScope ["byte"] ["byte"] (defScope sDigit) := ⟨rfl, rfl, rfl, by decide +kernel, rfl, by decide +kernel, by decide +kernel⟩
theorem ok_digit (C : Consts K mg dS tW) (F : Fun K "is_digit" "is_digit" sDigit f fd) : FnOk P w K mg base CX0 1 f fd ["byte"] (spTest digit) := by
  refine F.ok scDigit test_len (fun cdv A outer s H vs Q E hr h => ?_)
  obtain ⟨c, rfl, q⟩ := h
  refine ⟨_, pss_one (ps_ret (pe_chain op_le op_le (pgi C.digit0) (pv 0) (pgi C.digit9))), ?_⟩
  refine ⟨_, rfl, _, _, rfl, rfl, _, rfl, ite2 (fun h => ?_) (fun h => ?_)⟩
  · refine ⟨_, _, rfl, rfl, ?_⟩
    have e : decide (((c : Nat) : Int) ≤ 57) = digit c := by
      have h' := of_decide_eq_true h
      unfold digit
      rw [decide_eq_true (show 48 ≤ c by omega), Bool.true_and]
      exact decide_eq_decide.mpr ⟨fun z => by omega, fun z => by omega⟩
    rw [← e] at q
    exact q
  · have e : digit c = false := by
      have h' := of_decide_eq_false (Bool.eq_false_iff.mpr h)
      unfold digit
      rw [decide_eq_false (show ¬ 48 ≤ c by omega), Bool.false_and]
    rw [e] at q
    exact q

structure Callee (K : PySem.W.Frag) (mg : Str → Option Value) (x : Str) (ps : List Str) (f : Addr) (fd : FuncData) : Prop where
  bd : Binds K fd ps []
  kp : PySem.W.keepIn K (.ref f) = true
  mg : mg x = some (.ref f)

variable {fl fdg fnb : Addr} {fdl fdd fdn : FuncData}
theorem scNameByte : FnScope ["byte"] ["byte"] (defScope sNameByte) := ⟨rfl, rfl, rfl, by decide +kernel, rfl, by decide +kernel, by decide +kernel⟩
theorem ok_nameByte (C : Consts K mg dS tW) (F : Fun K "is_name_byte" "is_name_byte" sNameByte f fd) (GL : FnOk P w K mg base CX0 1 fl fdl ["byte"] (spTest small)) (cL : Callee K mg "is_letter" ["byte"] fl fdl)
    (GD : FnOk P w K mg base CX0 1 fdg fdd ["byte"] (spTest digit)) (cD : Callee K mg "is_digit" ["byte"] fdg fdd) : FnOk P w K mg base CX0 2 f fd ["byte"] (spTest inName) := by
  refine F.ok scNameByte test_len (fun cdv A outer s H vs Q E hr h => ?_)
  obtain ⟨c, rfl, q⟩ := h
  refine ⟨_, pss_one (ps_ret (pe_or (pe_call GL hr rfl cL.mg cL.kp cL.bd .nil pass0 (pa_cons (pv 0) pa_nil)) (pe_or (pe_call GD hr rfl cD.mg cD.kp cD.bd .nil pass0 (pa_cons (pv 0) pa_nil))
    (pe_one (pe_cmpR op_eq (pv 0) (pgi C.underscore) (nomark _)))))), ?_⟩
  refine ⟨_, rfl, c, rfl, _, rfl, ite2 (fun h => ?_) (fun h => ?_)⟩
  · have e : inName c = true := by unfold inName; rw [h]; rfl
    rw [e] at q
    exact q
  refine ⟨_, rfl, c, rfl, _, rfl, ite2 (fun h2 => ?_) (fun h2 => ?_)⟩
  · have e : inName c = true := by unfold inName; rw [h2, Bool.or_true]; rfl
    rw [e] at q
    exact q
  refine ⟨_, rfl, rfl, ?_⟩
  have e : decide (V.int ((c : Nat) : Int) = V.int 95) = inName c := by
    unfold inName
    rw [Bool.eq_false_iff.mpr h, Bool.eq_false_iff.mpr h2, Bool.false_or, Bool.false_or]
    rw [Bool.eq_iff_iff, decide_eq_true_iff, beq_iff_eq, V.int.injEq]
    omega
  rw [← e] at q
  exact q
end
end Ru

set_option Elab.async false
set_option linter.all false
set_option maxRecDepth 100000
namespace Ru
open PySem L2 RM Kp176

abbrev excTail : List Value := [.type "Exception", .type "BaseException", .type "object"]
abbrev NP (mg : Str → Option Value) (base : Heap) (CN : Addr) : Prop := PyProof.Rows.OwnCls "NotParted" CN excTail "Exception.__new__" mg base

section
variable {P : Program} {w : World} {K : PySem.W.Frag} {mg : Str → Option Value} {base : Heap} {f : Addr} {fd : FuncData} {dS tW CN : Addr} {fg fe : Addr} {gd ge : FuncData}

def spRun (K : PySem.W.Frag) (CN : Addr) (p : Nat → Bool) (most : Nat) : Sp := fun vs H Q E => ∃ (a : Addr) (bs : List Nat) (i : Nat), vs = [.ref a, .int ((i : Nat) : Int)] ∧ SqL K H a (bv bs) ∧ i ≤ bs.length ∧
  if most < runLen p bs i then E (.ref CN) none H else Q (.int ((i + runLen p bs i : Nat) : Int)) H
theorem run_len {CN : Addr} {p : Nat → Bool} {most : Nat} : ∀ vs H Q E, spRun K CN p most vs H Q E → vs.length = ["t", "start"].length := fun vs H Q E ⟨a, bs, i, h, _⟩ => by rw [h]; rfl

theorem run_loop {p : Nat → Bool} {a : Addr} {bs : List Nat} {i : Nat} {H : Hp} {D : Ends} {c : TT} {tb : TS} (hi : i ≤ bs.length) 
    (hc : ∀ (k : Nat) (R : Bool → Hp → Prop), (k < bs.length → ∀ d, bs[k]? = some d → R (p d) H) → (¬ k < bs.length → R false H) → k ≤ bs.length → c [some (.ref a), some (.int ((i : Nat) : Int)), some (.int ((k : Nat) : Int))] H R)
    (hb : ∀ (k : Nat) (N : Ends), N.nx [some (.ref a), some (.int ((i : Nat) : Int)), some (.int (((k : Nat) : Int) + 1))] H → tb N [some (.ref a), some (.int ((i : Nat) : Int)), some (.int ((k : Nat) : Int))] H)
    (hd : D.nx [some (.ref a), some (.int ((i : Nat) : Int)), some (.int ((i + runLen p bs i : Nat) : Int))] H) :
    tWhile c tb D [some (.ref a), some (.int ((i : Nat) : Int)), some (.int ((i : Nat) : Int))] H := by
  have hle := run_le p bs i hi
  refine ⟨fun m σ H' => ∃ j : Nat, j + m = runLen p bs i ∧ σ = [some (.ref a), some (.int ((i : Nat) : Int)), some (.int ((i + j : Nat) : Int))] ∧ H = H', ⟨runLen p bs i, 0, by omega, rfl, rfl⟩, ?_⟩
  rintro m σ H' ⟨j, hj, rfl, rfl⟩
  have go : j < runLen p bs i → if true = true then ∃ N : St → Hp → Prop, (∀ σ' H', N σ' H' → ∃ m', m' < m ∧ ∃ j : Nat, j + m' = runLen p bs i ∧ σ' = [some (.ref a), some (.int ((i : Nat) : Int)), some (.int ((i + j : Nat) : Int))] ∧ H = H') ∧
      tb { D with nx := N, ct := N, bk := D.nx } [some (.ref a), some (.int ((i : Nat) : Int)), some (.int ((i + j : Nat) : Int))] H else D.nx [some (.ref a), some (.int ((i : Nat) : Int)), some (.int ((i + j : Nat) : Int))] H := fun hlt => by
    refine iteT ⟨fun σ' H' => ∃ m', m' < m ∧ ∃ j : Nat, j + m' = runLen p bs i ∧ σ' = [some (.ref a), some (.int ((i : Nat) : Int)), some (.int ((i + j : Nat) : Int))] ∧ H = H', fun _ _ z => z, ?_⟩
    refine hb (i + j) _ ⟨m - 1, by omega, j + 1, by omega, ?_, rfl⟩
    have e : (((i + j : Nat) : Int) + 1) = ((i + (j + 1) : Nat) : Int) := by omega
    rw [e]
  have stop : j = runLen p bs i → if false = true then ∃ N : St → Hp → Prop, (∀ σ' H', N σ' H' → ∃ m', m' < m ∧ ∃ j : Nat, j + m' = runLen p bs i ∧ σ' = [some (.ref a), some (.int ((i : Nat) : Int)), some (.int ((i + j : Nat) : Int))] ∧ H = H') ∧
      tb { D with nx := N, ct := N, bk := D.nx } [some (.ref a), some (.int ((i : Nat) : Int)), some (.int ((i + j : Nat) : Int))] H else D.nx [some (.ref a), some (.int ((i : Nat) : Int)), some (.int ((i + j : Nat) : Int))] H := fun he => iteF (by rw [he]; exact hd)
  refine hc (i + j) _ (fun hlt d hd' => ?_) (fun hge => ?_) (by omega)
  · by_cases hjn : j < runLen p bs i
    · obtain ⟨c', h1, h2⟩ := run_lt hjn
      rw [hd'] at h1; cases h1
      rw [h2]
      exact go hjn
    · have he : j = runLen p bs i := by omega
      have z := run_end p bs i
      rw [← he, hd'] at z
      rcases z with z | ⟨c', z1, z2⟩
      · cases z
      · cases z1
        rw [z2]
        exact stop he
  · exact stop (by
      by_cases hjn : j < runLen p bs i
      · obtain ⟨c', h1, _⟩ := run_lt hjn
        exact absurd (lt_of_get h1) hge
      · omega)

theorem scNameEnd : FnScope ["t", "start", "end"] ["t", "start"] (defScope sNameEnd) := ⟨rfl, rfl, rfl, by decide +kernel, rfl, by decide +kernel, by decide +kernel⟩
theorem ok_nameEnd (C : Consts K mg dS tW) (O : NP mg base CN) (F : Fun K "name_end" "name_end" sNameEnd f fd) (G : FnOk P w K mg base CX0 2 fg gd ["byte"] (spTest inName)) (cG : Callee K mg "is_name_byte" ["byte"] fg gd) :
    FnOk P w K mg base (CXE P w) 3 f fd ["t", "start"] (spRun K CN inName 16) := by
  refine F.okE scNameEnd run_len (fun cdv A outer s H vs Q E hr h => ?_)
  obtain ⟨a, bs, i, rfl, hS, hi, q⟩ := h
  refine ⟨_, pss_cons (ps_set (i := 2) scNameEnd.nd rfl (Or.inl rfl) (pv 1)) (pss_cons (ps_while own_out
      (PW.pt (pw_and (pt_cmpR op_lt (pv 2) (pe_callB call_len_seq rfl C.len PySem.boot_len (pa_cons (pv 0) pa_nil)) (nomark _)) (pw_and1 (pt_val (pe_call G hr rfl cG.mg cG.kp cG.bd .nil pass0 (pa_cons (pe_ix ix_list (pv 0) (pv 2) (fun _ _ => rfl)) pa_nil))))))
      (pss_one (ps_set (i := 2) scNameEnd.nd rfl (Or.inl rfl) (pe_op op_add (pv 2) pe_int))))
    (pss_cons (ps_if (pt_cmpR op_gt (pe_op op_sub (pv 2) (pv 1)) (pgi C.mostName) (nomark _)) (pss_one (ps_raise0 PySem.F.excBase_Exception O hr.hd rfl)) pss_nil) (pss_one (ps_ret (pv 2))))), ?_⟩
  refine ⟨_, rfl, run_loop (p := inName) hi (fun k R h1 h2 hk => ?_) (fun k N h => ?_) ?_⟩
  · refine ⟨_, rfl, _, rfl, a, _, rfl, .inl hS, _, _, rfl, rfl, _, rfl, ite2 (fun hc => ?_) (fun hc => ?_)⟩
    · have hlt : k < bs.length := by
        have := of_decide_eq_true hc
        rw [bv_len] at this; omega
      obtain ⟨d, hd⟩ : ∃ d, bs[k]? = some d := ⟨bs[k], List.getElem?_eq_getElem hlt⟩
      exact ⟨_, rfl, _, rfl, a, _, _, _, rfl, rfl, hS, at_bv hd, d, rfl, _, rfl, h1 hlt d hd⟩
    · have hge : ¬ k < bs.length := by
        have := of_decide_eq_false (Bool.eq_false_iff.mpr hc)
        rw [bv_len] at this; omega
      have e : decide (((k : Nat) : Int) < (((bv bs).length : Nat) : Int)) = false := Bool.eq_false_iff.mpr hc
      first | (rw [e]; exact h2 hge) | exact h2 hge
  · exact ⟨_, rfl, _, _, rfl, rfl, h⟩
  · refine ⟨_, rfl, _, rfl, _, _, rfl, rfl, _, _, rfl, rfl, _, rfl, ite2 (fun hc => ?_) (fun hc => ?_)⟩
    · have := of_decide_eq_true hc
      rw [if_pos (by omega)] at q
      exact q
    · have := of_decide_eq_false (Bool.eq_false_iff.mpr hc)
      rw [if_neg (by omega)] at q
      exact ⟨_, rfl, q⟩
theorem scNumberEnd : FnScope ["t", "start", "end"] ["t", "start"] (defScope sNumberEnd) := ⟨rfl, rfl, rfl, by decide +kernel, rfl, by decide +kernel, by decide +kernel⟩
theorem ok_numberEnd (C : Consts K mg dS tW) (O : NP mg base CN) (F : Fun K "number_end" "number_end" sNumberEnd f fd) (G : FnOk P w K mg base CX0 1 fg gd ["byte"] (spTest digit)) (cG : Callee K mg "is_digit" ["byte"] fg gd) :
    FnOk P w K mg base (CXE P w) 3 f fd ["t", "start"] (spRun K CN digit 4) := by
  refine F.okE scNumberEnd run_len (fun cdv A outer s H vs Q E hr h => ?_)
  obtain ⟨a, bs, i, rfl, hS, hi, q⟩ := h
  refine ⟨_, pss_cons (ps_set (i := 2) scNumberEnd.nd rfl (Or.inl rfl) (pv 1)) (pss_cons (ps_while own_out
      (PW.pt (pw_and (pt_cmpR op_lt (pv 2) (pe_callB call_len_seq rfl C.len PySem.boot_len (pa_cons (pv 0) pa_nil)) (nomark _)) (pw_and1 (pt_val (pe_call G (hr.mono (by decide)) rfl cG.mg cG.kp cG.bd .nil pass0 (pa_cons (pe_ix ix_list (pv 0) (pv 2) (fun _ _ => rfl)) pa_nil))))))
      (pss_one (ps_set (i := 2) scNumberEnd.nd rfl (Or.inl rfl) (pe_op op_add (pv 2) pe_int))))
    (pss_cons (ps_if (pt_cmpR op_gt (pe_op op_sub (pv 2) (pv 1)) (pgi C.mostDigits) (nomark _)) (pss_one (ps_raise0 PySem.F.excBase_Exception O hr.hd rfl)) pss_nil) (pss_one (ps_ret (pv 2))))), ?_⟩
  refine ⟨_, rfl, run_loop (p := digit) hi (fun k R h1 h2 hk => ?_) (fun k N h => ?_) ?_⟩
  · refine ⟨_, rfl, _, rfl, a, _, rfl, .inl hS, _, _, rfl, rfl, _, rfl, ite2 (fun hc => ?_) (fun hc => ?_)⟩
    · have hlt : k < bs.length := by
        have := of_decide_eq_true hc
        rw [bv_len] at this; omega
      obtain ⟨d, hd⟩ : ∃ d, bs[k]? = some d := ⟨bs[k], List.getElem?_eq_getElem hlt⟩
      exact ⟨_, rfl, _, rfl, a, _, _, _, rfl, rfl, hS, at_bv hd, d, rfl, _, rfl, h1 hlt d hd⟩
    · have hge : ¬ k < bs.length := by
        have := of_decide_eq_false (Bool.eq_false_iff.mpr hc)
        rw [bv_len] at this; omega
      have e : decide (((k : Nat) : Int) < (((bv bs).length : Nat) : Int)) = false := Bool.eq_false_iff.mpr hc
      first | (rw [e]; exact h2 hge) | exact h2 hge
  · exact ⟨_, rfl, _, _, rfl, rfl, h⟩
  · refine ⟨_, rfl, _, rfl, _, _, rfl, rfl, _, _, rfl, rfl, _, rfl, ite2 (fun hc => ?_) (fun hc => ?_)⟩
    · have := of_decide_eq_true hc
      rw [if_pos (by omega)] at q
      exact q
    · have := of_decide_eq_false (Bool.eq_false_iff.mpr hc)
      rw [if_neg (by omega)] at q
      exact ⟨_, rfl, q⟩

def spSbe (K : PySem.W.Frag) (CN : Addr) : Sp := fun vs H Q E => ∃ (a : Addr) (bs : List Nat) (i c : Nat), vs = [.ref a, .int ((i : Nat) : Int)] ∧ SqL K H a (bv bs) ∧ bs[i]? = some c ∧
  (∀ H', Same H H' → sbe (bs.drop i) = none → E (.ref CN) none H') ∧ (∀ n H', Same H H' → sbe (bs.drop i) = some n → Q (.int ((i + n : Nat) : Int)) H')
theorem scByteEnd : FnScope ["t", "at"] ["t", "at"] (defScope sByteEnd) := ⟨rfl, rfl, rfl, by decide +kernel, rfl, by decide +kernel, by decide +kernel⟩
theorem same_new {H : Hp} {p : Addr} (h : H p = none) (o : HO) : Same H (upd H p o) := fun b u q => by rw [upd_ne (ne_of_none q h)]; exact q
theorem esc_in (d : Nat) : inV (V.int ((d : Nat) : Int)) [.int 34, .int 92, .int 110] = escd d := by
  show ((34 == ((d : Nat) : Int)) || ((92 == ((d : Nat) : Int)) || ((110 == ((d : Nat) : Int)) || false))) = (d == 34 || d == 92 || d == 110)
  rw [Bool.eq_iff_iff]
  simp only [Bool.or_eq_true, beq_iff_eq, Bool.or_false]
  omega
theorem ok_byteEnd (C : Consts K mg dS tW) (O : NP mg base CN) (F : Fun K "string_byte_end" "string_byte_end" sByteEnd f fd) : FnOk P w K mg base (CXE P w) 1 f fd ["t", "at"] (spSbe K CN) := by
  refine F.okE scByteEnd (fun vs H Q E ⟨a, bs, i, c, h, _⟩ => by rw [h]; rfl) (fun cdv A outer s H vs Q E hr h => ?_)
  obtain ⟨a, bs, i, c, rfl, hS, hc, qE, qQ⟩ := h
  refine ⟨_, pss_cons (ps_if (pt_cmpR op_lt (pe_ix ix_list (pv 0) (pv 1) (fun _ _ => rfl)) (pgi C.lowest) (nomark _)) (pss_one (ps_raise0 PySem.F.excBase_Exception O hr.hd rfl)) pss_nil)
    (pss_cons (ps_if (pt_cmpR op_ne (pe_ix ix_list (pv 0) (pv 1) (fun _ _ => rfl)) (pgi C.backslash) (nomark _)) (pss_one (ps_ret (pe_op op_add (pv 1) pe_int))) pss_nil)
    (pss_cons (ps_if (PW.pt (pw_or (pt_cmpR op_eq (pe_op op_add (pv 1) pe_int) (pe_callB call_len_seq rfl C.len PySem.boot_len (pa_cons (pv 0) pa_nil)) (nomark _))
        (pw_or1 (pt_cmpR op_notIn_seq (pe_ix ix_list (pv 0) (pe_op op_add (pv 1) pe_int) (fun _ _ => rfl)) (pe_tup (pa_cons (pgi C.quote) (pa_cons (pgi C.backslash) (pa_cons (pgi C.smallN) pa_nil)))) rfl))))
        (pss_one (ps_raise0 PySem.F.excBase_Exception O hr.hd rfl)) pss_nil)
    (pss_one (ps_ret (pe_op op_add (pv 1) pe_int))))), ?_⟩
  have hi := lt_of_get hc
  have hd := drop_cons hc
  refine ⟨_, rfl, _, rfl, a, _, _, _, rfl, rfl, hS, at_bv hc, _, _, rfl, rfl, _, rfl, ite2 (fun h1 => ?_) (fun h1 => ?_)⟩
  · refine qE H (Same.refl H) ?_
    have := of_decide_eq_true h1
    rw [hd, sbe_cons, if_pos (by omega)]
  have n1 : ¬ c < 32 := by have := of_decide_eq_false (Bool.eq_false_iff.mpr h1); omega
  refine ⟨_, rfl, _, rfl, a, _, _, _, rfl, rfl, hS, at_bv hc, rfl, _, rfl, ite2 (fun h2 => ?_) (fun h2 => ?_)⟩
  · refine ⟨_, rfl, _, _, rfl, rfl, ?_⟩
    have n2 : c ≠ 92 := fun z => by subst z; exact absurd h2 (by decide)
    have := qQ 1 H (Same.refl H) (by rw [hd, sbe_cons, if_neg n1, if_pos n2])
    have e : ((i + 1 : Nat) : Int) = ((i : Nat) : Int) + 1 := by omega
    rw [e] at this
    exact this
  have n2 : c = 92 := by
    by_cases z : c = 92
    · exact z
    · refine absurd ?_ h2
      rw [decide_eq_false (fun q => z (by rw [V.int.injEq] at q; omega))]; rfl
  subst n2
  refine ⟨_, rfl, _, _, rfl, rfl, _, rfl, a, _, rfl, .inl hS, rfl, _, rfl, ite2 (fun h3 => ?_) (fun h3 => ?_)⟩
  · refine qE H (Same.refl H) ?_
    have := of_decide_eq_true h3
    rw [V.int.injEq, bv_len] at this
    have e : bs.drop (i + 1) = [] := List.drop_eq_nil_of_le (by omega)
    rw [hd, e]; rfl
  have n3 : i + 1 < bs.length := by
    have := of_decide_eq_false (Bool.eq_false_iff.mpr h3)
    rw [V.int.injEq, bv_len] at this
    omega
  obtain ⟨d, hdd⟩ : ∃ d, bs[i + 1]? = some d := ⟨bs[i + 1], List.getElem?_eq_getElem n3⟩
  have e1 : ((i : Nat) : Int) + 1 = ((i + 1 : Nat) : Int) := by omega
  refine ⟨_, rfl, _, rfl, _, _, rfl, rfl, a, _, _, _, rfl, rfl, hS, by rw [e1]; exact at_bv hdd, (by show 3 ≤ sizeLine; decide), fun p hp => ?_⟩
  refine ⟨p, _, rfl, .inr (SqT.of upd_same), rfl, rfl, _, rfl, ?_⟩
  have es : sbe (bs.drop i) = if escd d = true then some 2 else none := by rw [hd, drop_cons hdd]; rfl
  show if (!inV (V.int ((d : Nat) : Int)) [.int 34, .int 92, .int 110]) = true then _ else _
  rw [esc_in]
  refine ite2 (fun h4 => ?_) (fun h4 => ?_)
  · refine qE _ (same_new hp _) ?_
    rw [es, if_neg (by intro z; rw [z] at h4; exact absurd h4 (by decide))]
  · have h5 : escd d = true := by cases z : escd d with | true => rfl | false => rw [z] at h4; exact absurd rfl h4
    refine ⟨_, rfl, _, _, rfl, rfl, ?_⟩
    have := qQ 2 _ (same_new hp (.tup [.int 34, .int 92, .int 110])) (by rw [es, if_pos h5])
    have e : ((i + 2 : Nat) : Int) = ((i : Nat) : Int) + 2 := by omega
    rw [e] at this
    exact this

def spStr (K : PySem.W.Frag) (CN : Addr) : Sp := fun vs H Q E => ∃ (a : Addr) (bs : List Nat) (i : Nat), vs = [.ref a, .int ((i : Nat) : Int)] ∧ SqL K H a (bv bs) ∧ i < bs.length ∧
  (∀ H', Same H H' → sEnd (bs.drop (i + 1)) = none → E (.ref CN) none H') ∧ (∀ q H', Same H H' → sEnd (bs.drop (i + 1)) = some q → Q (.int ((bs.length - q.length : Nat) : Int)) H')
theorem scStringEnd : FnScope ["t", "start", "at"] ["t", "start"] (defScope sStringEnd) := ⟨rfl, rfl, rfl, by decide +kernel, rfl, by decide +kernel, by decide +kernel⟩
theorem ok_stringEnd (C : Consts K mg dS tW) (O : NP mg base CN) (F : Fun K "string_end" "string_end" sStringEnd f fd) (G : FnOk P w K mg base (CXE P w) 1 fg gd ["t", "at"] (spSbe K CN)) (cG : Callee K mg "string_byte_end" ["t", "at"] fg gd) :
    FnOk P w K mg base (CXE P w) 2 f fd ["t", "start"] (spStr K CN) := by
  refine F.okE scStringEnd (fun vs H Q E ⟨a, bs, i, h, _⟩ => by rw [h]; rfl) (fun cdv A outer s H vs Q E hr h => ?_)
  obtain ⟨a, bs, i, rfl, hS, hi, qE, qQ⟩ := h
  refine ⟨_, pss_cons (ps_set (i := 2) scStringEnd.nd rfl (Or.inl rfl) (pe_op op_add (pv 1) pe_int)) (pss_cons (ps_while own_out
      (PW.pt (pw_and (pt_cmpR op_lt (pv 2) (pe_callB call_len_seq rfl C.len PySem.boot_len (pa_cons (pv 0) pa_nil)) (nomark _)) (pw_and1 (pt_cmpR op_ne (pe_ix ix_list (pv 0) (pv 2) (fun _ _ => rfl)) (pgi C.quote) (nomark _)))))
      (pss_one (ps_set (i := 2) scStringEnd.nd rfl (Or.inl rfl) (pe_call G hr rfl cG.mg cG.kp cG.bd .nil (pass_on (fun _ _ _ z => z)) (pa_cons (pv 0) (pa_cons (pv 2) pa_nil))))))
    (pss_cons (ps_if (pt_cmpR op_eq (pv 2) (pe_callB call_len_seq rfl C.len PySem.boot_len (pa_cons (pv 0) pa_nil)) (nomark _)) (pss_one (ps_raise0 PySem.F.excBase_Exception O hr.hd rfl)) pss_nil)
    (pss_one (ps_ret (pe_op op_add (pv 2) pe_int))))), ?_⟩
  refine ⟨_, rfl, _, _, rfl, rfl, ?_⟩
  have e1 : ((i : Nat) : Int) + 1 = ((i + 1 : Nat) : Int) := by omega
  refine ⟨fun m σ H' => ∃ k : Nat, k + m = bs.length ∧ i < k ∧ σ = [some (.ref a), some (.int ((i : Nat) : Int)), some (.int ((k : Nat) : Int))] ∧ Same H H' ∧ sEnd (bs.drop k) = sEnd (bs.drop (i + 1)),
    ⟨bs.length - (i + 1), i + 1, by omega, by omega, by rw [← e1]; rfl, Same.refl H, rfl⟩, ?_⟩
  rintro m σ H' ⟨k, hk, hik, rfl, sm, he⟩
  have hS' := sm.seq hS
  refine ⟨_, rfl, _, rfl, a, _, rfl, .inl hS', _, _, rfl, rfl, _, rfl, ite2 (fun h1 => ?_) (fun h1 => ?_)⟩
  · have hlt : k < bs.length := by
      have := of_decide_eq_true h1
      rw [bv_len] at this; omega
    obtain ⟨d, hd⟩ : ∃ d, bs[k]? = some d := ⟨bs[k], List.getElem?_eq_getElem hlt⟩
    have hdr := drop_cons hd
    refine ⟨_, rfl, _, rfl, a, _, _, _, rfl, rfl, hS', at_bv hd, rfl, _, rfl, ite2 (fun h2 => ?_) (fun h2 => ?_)⟩
    · have n2 : d ≠ 34 := fun z => by subst z; exact absurd h2 (by decide)
      refine ⟨fun σ' H'' => ∃ m', m' < m ∧ ∃ k : Nat, k + m' = bs.length ∧ i < k ∧ σ' = [some (.ref a), some (.int ((i : Nat) : Int)), some (.int ((k : Nat) : Int))] ∧ Same H H'' ∧ sEnd (bs.drop k) = sEnd (bs.drop (i + 1)), fun _ _ z => z, ?_⟩
      refine ⟨_, rfl, _, rfl, a, bs, k, d, rfl, hS', hd, fun H'' sm' hn => ?_, fun n H'' sm' hn => ?_⟩
      · refine qE H'' (sm.trans sm') ?_
        rw [← he, hdr]
        rw [hdr] at hn
        exact sbe_none n2 hn
      · rw [hdr] at hn
        obtain ⟨z1, z2, z3⟩ := sbe_some n2 hn
        rw [← hdr] at z2 z3
        rw [List.length_drop] at z2
        refine ⟨m - n, by omega, k + n, by omega, by omega, rfl, sm.trans sm', ?_⟩
        rw [← he, z3, List.drop_drop]
    · have n2 : d = 34 := by
        by_cases z : d = 34
        · exact z
        · refine absurd ?_ h2
          rw [decide_eq_false (fun q => z (by rw [V.int.injEq] at q; omega))]; rfl
      subst n2
      refine ⟨_, rfl, _, rfl, a, _, rfl, .inl hS', rfl, _, rfl, ite2 (fun h3 => ?_) (fun h3 => ?_)⟩
      · have := of_decide_eq_true h3
        rw [V.int.injEq, bv_len] at this
        omega
      · refine ⟨_, rfl, _, _, rfl, rfl, ?_⟩
        have z := qQ (bs.drop (k + 1)) H' sm (by rw [← he, hdr]; exact sEnd_quote _)
        rw [List.length_drop] at z
        have e : ((bs.length - (bs.length - (k + 1)) : Nat) : Int) = ((k : Nat) : Int) + 1 := by omega
        rw [e] at z
        exact z
  · have hge : k = bs.length := by
      have := of_decide_eq_false (Bool.eq_false_iff.mpr h1)
      rw [bv_len] at this; omega
    have fin : (tSeq (tIfS (tTest (tOp rEq (tVar 2) (tCB (fun xs H Q => ∃ p ys, xs = [.ref p] ∧ (SqL K H p ys ∨ SqT K H p ys) ∧ Q (.int ys.length) H) (tCons (tVar 0) tNil)))) (fun _ _ H1 => E (.ref CN) none H1) tNext) (tRet (tOp (rI0 fun i j => .int (i + j)) (tVar 2) (tC (.int 1))))) { nx := fun _ H' => Q .non H', rt := Q } [some (.ref a), some (.int ((i : Nat) : Int)), some (.int ((k : Nat) : Int))] H' := by
      refine ⟨_, rfl, _, rfl, a, _, rfl, .inl hS', rfl, _, rfl, ite2 (fun h3 => ?_) (fun h3 => ?_)⟩
      · refine qE H' sm ?_
        rw [← he, List.drop_eq_nil_of_le (by omega)]
        exact sEnd_nil
      · refine absurd ?_ h3
        rw [decide_eq_true]
        rw [V.int.injEq, bv_len]
        omega
    have e : decide (((k : Nat) : Int) < (((bv bs).length : Nat) : Int)) = false := Bool.eq_false_iff.mpr h1
    first | exact fin | (rw [e]; exact iteF fin) | exact iteF fin
end
end Ru

set_option Elab.async false
set_option linter.all false
set_option maxRecDepth 100000
namespace Ru
open PySem L2 RM Kp176

abbrev kS (k : Kd) : V := .str (Str.ofString k.str)
abbrev sigD : List (Int × V) := [(61, .str "="), (38, .str "&"), (40, .str "("), (41, .str ")"), (44, .str ","), (59, .str ";")]
theorem sign_val (c : Nat) : valV (dk sigD) (Sum.inl ((c : Nat) : Int)) = if signs.contains c = true then some (kS (signKd c)) else none := by
  by_cases h : signs.contains c = true
  · rw [if_pos h]
    rcases sign_cases h with h | h | h | h | h | h <;> subst h <;> rfl
  · rw [if_neg h]
    have n : c ≠ 61 ∧ c ≠ 38 ∧ c ≠ 40 ∧ c ≠ 41 ∧ c ≠ 44 ∧ c ≠ 59 := by
      rw [signs_eq] at h
      simpa [and_assoc] using h
    have ne : ∀ z : Int, (c : Int) ≠ z → ¬ ((Sum.inl z : Key) = Sum.inl ((c : Nat) : Int)) := fun z hz e => by injection e with e; exact hz e.symm
    unfold valV
    simp only [sigD, dk, List.map_cons, List.map_nil, List.find?_cons, List.find?_nil]
    rw [decide_eq_false (ne 61 (by omega)), decide_eq_false (ne 38 (by omega)), decide_eq_false (ne 40 (by omega)), decide_eq_false (ne 41 (by omega)), decide_eq_false (ne 44 (by omega)), decide_eq_false (ne 59 (by omega))]
    rfl

section
variable {P : Program} {w : World} {K : PySem.W.Frag} {mg : Str → Option Value} {base : Heap} {f : Addr} {fd : FuncData} {dS tW CN : Addr}
variable {f1 f2 f3 f4 f5 : Addr} {d1 d2 d3 d4 d5 : FuncData}

def spTokEnd (K : PySem.W.Frag) (CN : Addr) : Sp := fun vs H Q E => ∃ (a : Addr) (bs : List Nat) (i : Nat), vs = [.ref a, .int ((i : Nat) : Int)] ∧ SqL K H a (bv bs) ∧ i < bs.length ∧
  (∀ H', Same H H' → tokLen (bs.drop i) = none → E (.ref CN) none H') ∧ (∀ n H', Same H H' → tokLen (bs.drop i) = some n → Q (.int ((i + n : Nat) : Int)) H')
theorem scTokenEnd : FnScope ["t", "start", "byte"] ["t", "start"] (defScope sTokenEnd) := ⟨rfl, rfl, rfl, by decide +kernel, rfl, by decide +kernel, by decide +kernel⟩
theorem ok_tokenEnd (C : Consts K mg dS tW) (O : NP mg base CN) (F : Fun K "token_end" "token_end" sTokenEnd f fd)
    (G1 : FnOk P w K mg base (CXE P w) 2 f1 d1 ["t", "start"] (spStr K CN)) (c1 : Callee K mg "string_end" ["t", "start"] f1 d1)
    (G2 : FnOk P w K mg base CX0 1 f2 d2 ["byte"] (spTest small)) (c2 : Callee K mg "is_letter" ["byte"] f2 d2)
    (G3 : FnOk P w K mg base (CXE P w) 3 f3 d3 ["t", "start"] (spRun K CN inName 16)) (c3 : Callee K mg "name_end" ["t", "start"] f3 d3)
    (G4 : FnOk P w K mg base CX0 1 f4 d4 ["byte"] (spTest digit)) (c4 : Callee K mg "is_digit" ["byte"] f4 d4)
    (G5 : FnOk P w K mg base (CXE P w) 3 f5 d5 ["t", "start"] (spRun K CN digit 4)) (c5 : Callee K mg "number_end" ["t", "start"] f5 d5) :
    FnOk P w K mg base (CXE P w) 4 f fd ["t", "start"] (spTokEnd K CN) := by
  refine F.okE scTokenEnd (fun vs H Q E ⟨a, bs, i, h, _⟩ => by rw [h]; rfl) (fun cdv A outer s H vs Q E hr h => ?_)
  obtain ⟨a, bs, i, rfl, hS, hi, qE, qQ⟩ := h
  refine ⟨_, pss_cons (ps_set (i := 2) scTokenEnd.nd rfl (Or.inl rfl) (pe_ix ix_list (pv 0) (pv 1) (fun _ _ => rfl)))
    (pss_cons (ps_if (pt_cmp (pc_dinK (pv 2) (pgr C.signs)) rfl) (pss_one (ps_ret (pe_op op_add (pv 1) pe_int))) pss_nil)
    (pss_cons (ps_if (pt_cmpR op_eq (pv 2) (pgi C.quote) (nomark _)) (pss_one (ps_ret (pe_call G1 (hr.mono (by decide)) rfl c1.mg c1.kp c1.bd .nil (pass_on (fun _ _ _ z => z)) (pa_cons (pv 0) (pa_cons (pv 1) pa_nil))))) pss_nil)
    (pss_cons (ps_if (pt_val (pe_call G2 (hr.mono (by decide)) rfl c2.mg c2.kp c2.bd .nil pass0 (pa_cons (pv 2) pa_nil))) (pss_one (ps_ret (pe_call G3 hr rfl c3.mg c3.kp c3.bd .nil (pass_on (fun _ _ _ z => z)) (pa_cons (pv 0) (pa_cons (pv 1) pa_nil))))) pss_nil)
    (pss_cons (ps_if (pt_val (pe_call G4 (hr.mono (by decide)) rfl c4.mg c4.kp c4.bd .nil pass0 (pa_cons (pv 2) pa_nil))) (pss_one (ps_ret (pe_call G5 hr rfl c5.mg c5.kp c5.bd .nil (pass_on (fun _ _ _ z => z)) (pa_cons (pv 0) (pa_cons (pv 1) pa_nil))))) pss_nil)
    (pss_one (ps_raise0 PySem.F.excBase_Exception O hr.hd rfl)))))), ?_⟩
  obtain ⟨c, hc⟩ : ∃ c, bs[i]? = some c := ⟨bs[i], List.getElem?_eq_getElem hi⟩
  refine ⟨_, rfl, _, rfl, a, _, _, _, rfl, rfl, hS, at_bv hc, ?_⟩
  refine ⟨_, rfl, dS, Sum.inl ((c : Nat) : Int), sigD, rfl, rfl, C.signsD, _, rfl, ?_⟩
  rw [sign_val]
  by_cases z1 : signs.contains c = true
  · rw [if_pos z1]
    refine iteT ⟨_, rfl, _, _, rfl, rfl, ?_⟩
    have := qQ 1 H (Same.refl H) (tokLen_sign hc z1)
    have e : ((i + 1 : Nat) : Int) = ((i : Nat) : Int) + 1 := by omega
    rw [e] at this
    exact this
  rw [if_neg z1]
  refine iteF ⟨_, rfl, rfl, _, rfl, ite2 (fun z2 => ?_) (fun z2 => ?_)⟩
  · have z2' : c = 34 := by
      have := of_decide_eq_true z2
      rw [V.int.injEq] at this; omega
    subst z2'
    refine ⟨_, rfl, _, rfl, a, bs, i, rfl, hS, hi, fun H' sm hn => ?_, fun q H' sm hn => ?_⟩
    · exact qE H' sm (by rw [tokLen_quote hc, hn]; rfl)
    · obtain ⟨k, k1, k2, rfl⟩ := sEnd_suffix hn
      rw [List.length_drop] at k2
      have e := qQ (bs.length - ((bs.drop (i + 1)).drop k).length - i) H' sm (by rw [tokLen_quote hc, hn]; rfl)
      have hl : ((bs.drop (i + 1)).drop k).length = bs.length - (i + 1) - k := by rw [List.length_drop, List.length_drop]
      rw [hl] at e ⊢
      have e2 : i + (bs.length - (bs.length - (i + 1) - k) - i) = bs.length - (bs.length - (i + 1) - k) := by omega
      rw [e2] at e
      exact e
  have n2 : c ≠ 34 := fun z => by subst z; exact z2 (decide_eq_true rfl)
  refine ⟨_, rfl, c, rfl, _, rfl, ite2 (fun z3 => ?_) (fun z3 => ?_)⟩
  · refine ⟨_, rfl, _, rfl, a, bs, i, rfl, hS, Nat.le_of_lt hi, ite2 (fun hm => ?_) (fun hm => ?_)⟩
    · exact qE H (Same.refl H) (by rw [tokLen_small hc z3, if_pos hm])
    · exact qQ _ H (Same.refl H) (by rw [tokLen_small hc z3, if_neg hm])
  refine ⟨_, rfl, c, rfl, _, rfl, ite2 (fun z4 => ?_) (fun z4 => ?_)⟩
  · refine ⟨_, rfl, _, rfl, a, bs, i, rfl, hS, Nat.le_of_lt hi, ite2 (fun hm => ?_) (fun hm => ?_)⟩
    · exact qE H (Same.refl H) (by rw [tokLen_digit hc z4, if_pos hm])
    · exact qQ _ H (Same.refl H) (by rw [tokLen_digit hc z4, if_neg hm])
  exact qE H (Same.refl H) (tokLen_none hc (Bool.eq_false_iff.mpr z1) n2 (Bool.eq_false_iff.mpr z3) (Bool.eq_false_iff.mpr z4))

abbrev wordStrs : List Str := ["if", "then", "else", "get", "first", "rest", "size"]
theorem dp_ints {H : Hp} : ∀ bs : List Nat, DpAll K H (bv bs) (bs.map fun b => PyData.int ((b : Nat) : Int))
  | [] => .nil
  | b :: r => .cons (.int _) (dp_ints r)
theorem eqv_ints : ∀ xs ys : List Nat, PyData.eqvAll (xs.map fun b => PyData.int ((b : Nat) : Int)) (ys.map fun b => PyData.int ((b : Nat) : Int)) = decide (xs = ys)
  | [], [] => rfl
  | [], _ :: _ => rfl
  | _ :: _, [] => rfl
  | x :: xs, y :: ys => by
    show (((x : Nat) : Int) == ((y : Nat) : Int) && PyData.eqvAll _ _) = _
    rw [eqv_ints xs ys, Bool.eq_iff_iff]
    simp only [Bool.and_eq_true, beq_iff_eq, decide_eq_true_eq, List.cons.injEq]
    constructor
    · rintro ⟨h1, h2⟩; exact ⟨by omega, h2⟩
    · rintro ⟨h1, h2⟩; exact ⟨by omega, h2⟩
theorem shaped_ints (bs : List Nat) : SeqAt.shaped (.tuple (bs.map fun b => PyData.int ((b : Nat) : Int))) = true := by
  unfold SeqAt.shaped
  have h1 : ∀ l : List Nat, PyData.canLayAll0 (l.map fun b => PyData.int ((b : Nat) : Int)) = true := fun l => by
    induction l with
    | nil => rfl
    | cons b r ih => show (true && _) = true; rw [ih]; rfl
  have h2 : ∀ l : List Nat, PyData.depthAll (l.map fun b => PyData.int ((b : Nat) : Int)) = 0 := fun l => by
    induction l with
    | nil => rfl
    | cons b r ih => show max 0 _ = 0; rw [ih]; rfl
  show (PyData.canLayAll0 _ && decide (PyData.depthAll _ + 1 ≤ 64)) = true
  rw [h1, h2]
  rfl
end
end Ru

set_option Elab.async false
set_option linter.all false
set_option maxRecDepth 100000
namespace L2
open PySem PySem.Spec PyProof.Rows
theorem lc_str {x : Str} {g : TG} {tt : TT} {te : TE} {vs : List Nat} {σ : St} {H1 : Hp} {D : Addr} {Qd : Hp → Prop} (Pv : Nat → Hp → Prop) (h0 : Pv 0 (upd H1 D (.lst [])))
    (hs : ∀ i c H, x.cps[i]? = some c → Pv i H → g (.str ⟨#[c]⟩) (wipe σ vs) H fun σ2 H2 => wipe σ2 vs = wipe σ vs ∧ tt σ2 H2 fun b H3 =>
      if b = true then te σ2 H3 fun y H4 => ∃ acc, H4 D = some (.lst acc) ∧ acc.length < sizeLine ∧ Pv (i + 1) (upd H4 D (.lst (acc ++ [y]))) else Pv (i + 1) H3) (hd : ∀ H, Pv x.cps.size H → Qd H) :
    ∃ W : Nat → Nat → Hp → Prop, (∃ m, W 0 m (upd H1 D (.lst []))) ∧ ∀ i m H, W i m H →
      ((Its x).stop i H ∧ Qd H) ∨ ((Its x).go i H ∧ ∃ Nx : Hp → Prop, (∀ H', Nx H' → ∃ m', m' < m ∧ W (i + 1) m' H') ∧ ∀ y H', (Its x).yld i H y H' → g y (wipe σ vs) H' fun σ2 H2 => wipe σ2 vs = wipe σ vs ∧ tt σ2 H2 fun b H3 =>
        if b = true then te σ2 H3 fun y H4 => ∃ acc, H4 D = some (.lst acc) ∧ acc.length < sizeLine ∧ Nx (upd H4 D (.lst (acc ++ [y]))) else Nx H3) := by
  refine ⟨fun i m H => m = x.cps.size - i ∧ i ≤ x.cps.size ∧ Pv i H, ⟨x.cps.size, by simp, Nat.zero_le _, h0⟩, ?_⟩
  rintro i m H ⟨rfl, hi, p⟩
  by_cases hlt : i < x.cps.size
  · refine .inr ⟨hlt, Pv (i + 1), fun H' p' => ⟨x.cps.size - (i + 1), by omega, rfl, hlt, p'⟩, fun y H' yy => ?_⟩
    obtain ⟨e, c, hc, rfl⟩ := yy
    subst e
    exact hs i c _ hc p
  · have e : i = x.cps.size := by omega
    subst e
    exact .inl ⟨Nat.le_refl _, hd H p⟩
end L2
namespace Ru
open PySem L2 RM Kp176
section
variable {P : Program} {w : World} {K : PySem.W.Frag} {mg : Str → Option Value} {base : Heap} {f : Addr} {fd : FuncData} {dS tW CN : Addr}
variable {f1 f2 f3 f4 f5 : Addr} {d1 d2 d3 d4 d5 : FuncData}

def spWord : Sp := fun vs H Q _ => ∃ (a : Addr) (raw : List Nat), vs = [.ref a] ∧ H a = some (.tup (bv raw)) ∧ ∀ H', Same H H' → Q (kS (wordKd raw)) H'
theorem scWordOr : FnScope ["body", "word", "letter"] ["body"] (defScope sWordOr) := ⟨rfl, rfl, rfl, by decide +kernel, rfl, by decide +kernel, by decide +kernel⟩
def wb (i : Nat) : List Nat := (wordStrs.getD i "").cps.toList
theorem wb_kd {raw : List Nat} {i : Nat} (hi : i < 7) (h : raw = wb i) : kS (wordKd raw) = .str (wordStrs.getD i "") := by
  subst h
  match i, hi with
  | 0, _ => decide
  | 1, _ => decide
  | 2, _ => decide
  | 3, _ => decide
  | 4, _ => decide
  | 5, _ => decide
  | 6, _ => decide
theorem kd_no {raw : List Nat} (h : ∀ j, j < 7 → raw ≠ wb j) : wordKd raw = .name := by
  unfold wordKd
  rw [if_neg (show ¬ raw = bytesOf "if" from h 0 (by decide)), if_neg (show ¬ raw = bytesOf "then" from h 1 (by decide)), if_neg (show ¬ raw = bytesOf "else" from h 2 (by decide)), if_neg (show ¬ raw = bytesOf "get" from h 3 (by decide)),
    if_neg (show ¬ raw = bytesOf "first" from h 4 (by decide)), if_neg (show ¬ raw = bytesOf "rest" from h 5 (by decide)), if_neg (show ¬ raw = bytesOf "size" from h 6 (by decide))]
theorem words_at {i : Nat} {x : V} (h : (wordStrs.map V.str)[i]? = some x) : i < 7 ∧ x = .str (wordStrs.getD i "") := by
  have hi : i < 7 := (List.getElem?_eq_some_iff.mp h).1
  refine ⟨hi, ?_⟩
  match i, hi, h with
  | 0, _, h => cases h; rfl
  | 1, _, h => cases h; rfl
  | 2, _, h => cases h; rfl
  | 3, _, h => cases h; rfl
  | 4, _, h => cases h; rfl
  | 5, _, h => cases h; rfl
  | 6, _, h => cases h; rfl
theorem small_word (i : Nat) : (wordStrs.getD i "").cps.size ≤ 1000 := by
  match i with
  | 0 => decide
  | 1 => decide
  | 2 => decide
  | 3 => decide
  | 4 => decide
  | 5 => decide
  | 6 => decide
  | n + 7 => exact Nat.zero_le _
set_option maxHeartbeats 1000000 in
theorem ok_wordOr (C : Consts K mg dS tW) (F : Fun K "word_or_name" "word_or_name" sWordOr f fd) : FnOk P w K mg base CX0 1 f fd ["body"] spWord := by
  refine F.ok scWordOr (fun vs H Q E ⟨_, _, h, _⟩ => by rw [h]; rfl) (fun cdv A outer s H vs Q E hr h => ?_)
  obtain ⟨a, raw, rfl, ha, q⟩ := h
  refine ⟨_, pss_cons (ps_for PassesOwn.never rfl (pi_tup (pgr C.words)) (pg_name (i := 1) scWordOr.nd rfl (Or.inl rfl))
      (pss_one (ps_if (pt_cmpR (op_eqD hr.units) (pv 0) (pe_callTy call_tuple_of rfl C.tuple PyProof.Rows.boot_tuple (pa_cons (pe_lc (own := [("letter", 2)]) (te := tCB (fun xs H Q => ∃ x, xs = [.str x] ∧ x.length = 1 ∧ Q (.int (x.cps.getD 0 0 : Nat)) H) (tCons (tVar 2) tNil)) (tt := tYes) rfl scWordOr.nd (pi_str (pv 1)) (blkOk_by rfl)
          (fun _ _ _ _ _ => pg_name (i := 2) scWordOr.nd rfl (Or.inl rfl) (Or.inr rfl)) (fun _ _ _ _ _ => pts_nil) (fun _ _ _ _ _ => pe_callB call_ord rfl C.ord PyProof.Rows.boot_ord (pa_cons (pv 2) pa_nil))) pa_nil)) (nomark _))
        (pss_one (ps_ret (pv 1))) pss_nil))) (pss_one (ps_ret pe_str)), ?_⟩
  refine ⟨tW, rfl, ⟨_, C.wordsT H⟩, ?_⟩
  refine for_tup (xs := wordStrs.map V.str) (fun i σ H' => (∃ o, σ = [some (.ref a), o, none]) ∧ Same H H' ∧ ∀ j, j < i → raw ≠ wb j) ⟨⟨none, rfl⟩, Same.refl H, fun j hj => absurd hj (Nat.not_lt_zero _)⟩ (fun i σ H' _ _ => C.wordsT H') (fun i x σ H' hx hP => ?_) (fun σ H' hP => ?_)
  · obtain ⟨⟨o, rfl⟩, sm, hb⟩ := hP
    obtain ⟨hi, rfl⟩ := words_at hx
    refine ⟨_, rfl, _, rfl, _, rfl, fun D hD => ?_⟩
    refine lc_str (fun j H'' => H'' = upd H' D (.lst (bv ((wb i).take j)))) rfl (fun j c H'' hc hH => ?_) (fun H'' hH => ?_)
    · subst hH
      refine ⟨rfl, ?_⟩
      unfold tYes
      dsimp only
      refine iteT ⟨_, rfl, _, rfl, rfl, _, upd_same, ?_, ?_⟩
      · have := small_word i
        rw [List.length_map, List.length_take]
        have e : (wb i).length = (wordStrs.getD i "").cps.size := Array.length_toList
        rw [e]
        exact Nat.lt_of_le_of_lt (Nat.min_le_right _ _) (small1000 this)
      · rw [upd_upd]
        congr 2
        have hc' : (wb i)[j]? = some c := by unfold wb; simpa using hc
        rw [List.take_succ, hc', bv, bv, List.map_append]
        rfl
    · subst hH
      have et : (wb i).take (wordStrs.getD i "").cps.size = wb i := by
        have e : (wb i).length = (wordStrs.getD i "").cps.size := Array.length_toList
        rw [← e, List.take_length]
      rw [et]
      have s1 := sm.trans (same_new hD (.lst (bv (wb i))))
      refine ⟨D, _, rfl, .inl ⟨SqL.of upd_same, fun l hl => ?_⟩⟩
      have s2 := s1.trans (same_new hl (.tup (bv (wb i))))
      refine ⟨_, _, .tup (SqT.of (s2 _ _ ha)) (dp_ints raw), .tup (SqT.of upd_same) (dp_ints (wb i)), shaped_ints raw, shaped_ints (wb i), _, rfl, ?_⟩
      show if PyData.eqvAll _ _ = true then _ else _
      rw [eqv_ints]
      refine ite2 (fun z => ?_) (fun z => ?_)
      · refine ⟨_, rfl, ?_⟩
        have := q _ s2
        rw [wb_kd hi (of_decide_eq_true z)] at this
        exact this
      · refine ⟨⟨_, rfl⟩, s2, fun j hj => ?_⟩
        by_cases e : j = i
        · subst e; exact of_decide_eq_false (Bool.eq_false_iff.mpr z)
        · exact hb j (by omega)
  · obtain ⟨_, sm, hb⟩ := hP
    have := q H' sm
    rw [kd_no hb] at this
    exact this

def spKind : Sp := fun vs H Q _ => ∃ (a : Addr) (raw : List Nat), vs = [.ref a] ∧ H a = some (.tup (bv raw)) ∧ raw ≠ [] ∧ ∀ H', Same H H' → Q (kS (rawKd raw)) H'
theorem scKindOf : FnScope ["body", "byte"] ["body"] (defScope sKindOf) := ⟨rfl, rfl, rfl, by decide +kernel, rfl, by decide +kernel, by decide +kernel⟩
theorem ok_kindOf (C : Consts K mg dS tW) (F : Fun K "kind_of" "kind_of" sKindOf f fd) (G1 : FnOk P w K mg base CX0 1 f1 d1 ["byte"] (spTest digit)) (c1 : Callee K mg "is_digit" ["byte"] f1 d1)
    (G2 : FnOk P w K mg base CX0 1 f2 d2 ["body"] spWord) (c2 : Callee K mg "word_or_name" ["body"] f2 d2) : FnOk P w K mg base CX0 2 f fd ["body"] spKind := by
  refine F.ok scKindOf (fun vs H Q E ⟨_, _, h, _⟩ => by rw [h]; rfl) (fun cdv A outer s H vs Q E hr h => ?_)
  obtain ⟨a, raw, rfl, ha, hne, q⟩ := h
  refine ⟨_, pss_cons (ps_set (i := 1) scKindOf.nd rfl (Or.inl rfl) (pe_ix ix_tup (pv 0) pe_int (fun _ _ => rfl)))
    (pss_cons (ps_if (pt_cmp (pc_dinK (pv 1) (pgr C.signs)) rfl) (pss_one (ps_ret (pe_dgetK (pgr C.signs) (pv 1) (fun _ _ => rfl)))) pss_nil)
    (pss_cons (ps_if (pt_cmpR op_eq (pv 1) (pgi C.quote) (nomark _)) (pss_one (ps_ret pe_str)) pss_nil)
    (pss_cons (ps_if (pt_val (pe_call G1 hr rfl c1.mg c1.kp c1.bd .nil pass0 (pa_cons (pv 1) pa_nil))) (pss_one (ps_ret pe_str)) pss_nil)
    (pss_one (ps_ret (pe_call G2 hr rfl c2.mg c2.kp c2.bd .nil pass0 (pa_cons (pv 0) pa_nil))))))), ?_⟩
  cases raw with
  | nil => exact absurd rfl hne
  | cons c r =>
    refine ⟨_, rfl, a, _, 0, _, rfl, rfl, SqT.of ha, at_bv (bs := c :: r) (i := 0) rfl, ?_⟩
    refine ⟨_, rfl, dS, Sum.inl ((c : Nat) : Int), sigD, rfl, rfl, C.signsD, _, rfl, ?_⟩
    have q0 := q H (Same.refl H)
    rw [rawKd_cons] at q0
    rw [sign_val]
    by_cases z1 : signs.contains c = true
    · rw [if_pos z1] at q0
      rw [if_pos z1]
      exact iteT ⟨_, rfl, dS, Sum.inl ((c : Nat) : Int), sigD, _, rfl, rfl, C.signsD, by rw [sign_val, if_pos z1], q0⟩
    rw [if_neg z1] at q0
    rw [if_neg z1]
    refine iteF ⟨_, rfl, rfl, _, rfl, ite2 (fun z2 => ?_) (fun z2 => ?_)⟩
    · have z2' : c = 34 := by
        have := of_decide_eq_true z2
        rw [V.int.injEq] at this; omega
      rw [if_pos z2'] at q0
      exact q0
    have n2 : c ≠ 34 := fun z => by subst z; exact z2 (decide_eq_true rfl)
    rw [if_neg n2] at q0
    refine ⟨_, rfl, c, rfl, _, rfl, ite2 (fun z3 => ?_) (fun z3 => ?_)⟩
    · rw [if_pos z3] at q0
      exact q0
    refine ⟨_, rfl, a, c :: r, rfl, ha, fun H' sm => ?_⟩
    have q1 := q H' sm
    rw [rawKd_cons, if_neg z1, if_neg n2, if_neg z3] at q1
    exact q1

end
end Ru

set_option Elab.async false
set_option linter.all false
set_option maxRecDepth 100000
namespace Ru
open PySem L2 RM Kp176
theorem dec_kS (a b : Kd) : decide (kS a = kS b) = decide (a = b) := decide_eq_decide.mpr ⟨fun h => by cases a <;> cases b <;> first | rfl | (exfalso; revert h; decide), fun h => by rw [h]⟩
section
variable {P : Program} {w : World} {K : PySem.W.Frag} {mg : Str → Option Value} {base : Heap} {f : Addr} {fd : FuncData} {dS tW CN : Addr}
variable {f1 f2 f3 f4 f5 : Addr} {d1 d2 d3 d4 d5 : FuncData}

def spNum : Sp := fun vs H Q _ => ∃ (a : Addr) (raw : List Nat), vs = [.ref a] ∧ H a = some (.tup (bv raw)) ∧ Q (.int (numI raw)) H
theorem scNumberOf : FnScope ["body", "number", "byte"] ["body"] (defScope sNumberOf) := ⟨rfl, rfl, rfl, by decide +kernel, rfl, by decide +kernel, by decide +kernel⟩
theorem ok_numberOf (C : Consts K mg dS tW) (F : Fun K "number_of" "number_of" sNumberOf f fd) : FnOk P w K mg base CX0 1 f fd ["body"] spNum := by
  refine F.ok scNumberOf (fun vs H Q E ⟨_, _, h, _⟩ => by rw [h]; rfl) (fun cdv A outer s H vs Q E hr h => ?_)
  obtain ⟨a, raw, rfl, ha, q⟩ := h
  refine ⟨_, pss_cons (ps_set (i := 1) scNumberOf.nd rfl (Or.inl rfl) pe_int) (pss_cons (ps_for PassesOwn.never rfl (pi_tup (pv 0)) (pg_name (i := 2) scNumberOf.nd rfl (Or.inl rfl))
      (pss_one (ps_set (i := 1) scNumberOf.nd rfl (Or.inl rfl) (pe_op op_sub (pe_op op_add (pe_op op_mul (pv 1) pe_int) (pv 2)) (pgi C.digit0))))) (pss_one (ps_ret (pv 1)))), ?_⟩
  refine ⟨_, rfl, a, rfl, ⟨_, SqT.of ha⟩, ?_⟩
  refine for_tup (xs := bv raw) (fun i σ H' => (∃ o, σ = [some (.ref a), some (.int (numI (raw.take i))), o]) ∧ H' = H) ⟨⟨none, rfl⟩, rfl⟩ (fun i σ H' _ hP => by rw [hP.2]; exact SqT.of ha) (fun i x σ H' hx hP => ?_) (fun σ H' hP => ?_)
  · obtain ⟨⟨o, rfl⟩, rfl⟩ := hP
    rw [List.getElem?_map] at hx
    obtain ⟨c, hc, rfl⟩ := Option.map_eq_some_iff.mp hx
    refine ⟨_, rfl, _, _, rfl, rfl, .inr ⟨by decide, by decide⟩, _, rfl, _, _, rfl, rfl, _, _, rfl, rfl, ⟨some (V.int ((c : Nat) : Int)), ?_⟩, rfl⟩
    rw [List.take_succ, hc, show (some c).toList = [c] from rfl, numI_snoc]
    rfl
  · obtain ⟨⟨o, rfl⟩, rfl⟩ := hP
    rw [bv_len, List.take_length]
    exact ⟨_, rfl, q⟩

def spStrOf : Sp := fun vs H Q _ => ∃ (a : Addr) (r tx : List Nat), vs = [.ref a] ∧ H a = some (.tup (bv (34 :: r))) ∧ strOf r = some (tx, []) ∧ r.length ≤ 17000 ∧ ∀ b H', Same H H' → H' b = some (.tup (bv tx)) → Q (.ref b) H'
theorem scStringOf : FnScope ["body", "string", "at"] ["body"] (defScope sStringOf) := ⟨rfl, rfl, rfl, by decide +kernel, rfl, by decide +kernel, by decide +kernel⟩
set_option maxHeartbeats 1000000 in
theorem ok_stringOf (C : Consts K mg dS tW) (F : Fun K "string_of" "string_of" sStringOf f fd) : FnOk P w K mg base CX0 1 f fd ["body"] spStrOf := by
  refine F.ok scStringOf (fun vs H Q E ⟨_, _, _, h, _⟩ => by rw [h]; rfl) (fun cdv A outer s H vs Q E hr h => ?_)
  obtain ⟨a, r, tx, rfl, ha, hst, hlen, q⟩ := h
  refine ⟨_, pss_cons (ps_set (i := 1) scStringOf.nd rfl (Or.inl rfl) (pe_lst pa_nil)) (pss_cons (ps_set (i := 2) scStringOf.nd rfl (Or.inl rfl) pe_int)
    (pss_cons (ps_while PassesOwn.never (pt_cmpR op_lt (pv 2) (pe_op op_sub (pe_callB call_len_seq rfl C.len PySem.boot_len (pa_cons (pv 0) pa_nil)) pe_int) (nomark _))
      (pss_cons (ps_if (pt_cmpR op_eq (pe_ix ix_tup (pv 0) (pv 2) (fun _ _ => rfl)) (pgi C.backslash) (nomark _))
        (pss_cons (ps_set (i := 2) scStringOf.nd rfl (Or.inl rfl) (pe_op op_add (pv 2) pe_int))
          (pss_one (ps_expr (pe_bm PySem.F.plainAttrs_list PySem.F.slot_list_append PySem.F.type_list_append mt_append (pv 1)
            (pa_cons (pe_ifExp (pt_cmpR op_eq (pe_ix ix_tup (pv 0) (pv 2) (fun _ _ => rfl)) (pgi C.smallN) (nomark _)) (pgi C.newline) (pe_ix ix_tup (pv 0) (pv 2) (fun _ _ => rfl))) pa_nil)))))
        (pss_one (ps_expr (pe_bm PySem.F.plainAttrs_list PySem.F.slot_list_append PySem.F.type_list_append mt_append (pv 1) (pa_cons (pe_ix ix_tup (pv 0) (pv 2) (fun _ _ => rfl)) pa_nil)))))
      (pss_one (ps_set (i := 2) scStringOf.nd rfl (Or.inl rfl) (pe_op op_add (pv 2) pe_int)))))
    (pss_one (ps_ret (pe_callTy call_tuple_of rfl C.tuple PyProof.Rows.boot_tuple (pa_cons (pv 1) pa_nil)))))), ?_⟩
  refine ⟨(by show 0 ≤ sizeLine; decide), fun p hp => ?_⟩
  have hpa : a ≠ p := ne_of_none ha hp
  refine ⟨fun m σ H' => ∃ (i : Nat) (acc more : List Nat), i + m = r.length ∧ acc.length ≤ i ∧ σ = [some (.ref a), some (.ref p), some (.int ((i + 1 : Nat) : Int))] ∧ H' = upd H p (.lst (bv acc)) ∧ strOf (r.drop i) = some (more, []) ∧ tx = acc ++ more,
    ⟨r.length, 0, [], tx, by omega, Nat.le_refl _, rfl, rfl, hst, rfl⟩, ?_⟩
  rintro m σ H' ⟨i, acc, more, him, hal, rfl, rfl, hs, htx⟩
  have hta : upd H p (.lst (bv acc)) a = some (.tup (bv (34 :: r))) := by rw [upd_ne hpa]; exact ha
  refine ⟨_, rfl, _, rfl, a, _, rfl, .inr (SqT.of hta), _, _, rfl, rfl, _, _, rfl, rfl, _, rfl, ?_⟩
  have hi : i < r.length := by
    by_cases z : i < r.length
    · exact z
    · rw [List.drop_eq_nil_of_le (by omega), strOf_nil] at hs; cases hs
  obtain ⟨c, hc⟩ : ∃ c, r[i]? = some c := ⟨r[i], List.getElem?_eq_getElem hi⟩
  have hdr := drop_cons hc
  have at1 : (34 :: r)[i + 1]? = some c := by simpa using hc
  refine ite2 (fun z => ?_) (fun z => ?_)
  · have hlt : i + 1 < r.length := by
      have := of_decide_eq_true z
      rw [bv_len, List.length_cons] at this; omega
    have n34 : c ≠ 34 := fun e => by
      rw [hdr, e, strOf_quote] at hs
      have := congrArg (fun x : Option (Bytes × Bytes) => x.map fun y => y.2.length) hs
      simp at this; omega
    refine ⟨fun σ' H'' => ∃ m', m' < m ∧ ∃ (i : Nat) (acc more : List Nat), i + m' = r.length ∧ acc.length ≤ i ∧ σ' = [some (.ref a), some (.ref p), some (.int ((i + 1 : Nat) : Int))] ∧ H'' = upd H p (.lst (bv acc)) ∧ strOf (r.drop i) = some (more, []) ∧ tx = acc ++ more, fun _ _ z => z, ?_⟩
    have sz : (bv acc).length < sizeLine := by
      rw [bv_len]
      exact Nat.lt_of_le_of_lt (show acc.length ≤ 17000 by omega) (by decide)
    refine ⟨_, rfl, _, rfl, a, _, _, _, rfl, rfl, SqT.of hta, at_bv at1, rfl, _, rfl, ite2 (fun z2 => ?_) (fun z2 => ?_)⟩
    · have e92 : c = 92 := by
        have := of_decide_eq_true z2
        rw [V.int.injEq] at this; omega
      subst e92
      rw [hdr] at hs
      obtain ⟨d, qq, y, e1, e2, e3⟩ := strOf_esc hs
      simp only [Prod.mk.injEq] at e3
      have hd : r[i + 1]? = some d := by
        have := congrArg (fun l : List Nat => l[0]?) e1
        rw [drop_get] at this
        simpa using this
      have hq : qq = r.drop (i + 2) := by
        have e := drop_cons hd
        rw [e1] at e
        injection e
      have at2 : (34 :: r)[i + 2]? = some d := by simpa using hd
      have ee : ((i + 1 : Nat) : Int) + 1 = ((i + 2 : Nat) : Int) := by omega
      have i2 : i + 2 ≤ r.length := by omega
      have fin : upd (upd H p (.lst (bv acc))) p (.lst (bv acc ++ [V.int (((if d = 110 then 10 else d : Nat) : Nat) : Int)])) = upd H p (.lst (bv (acc ++ [if d = 110 then 10 else d]))) := by
        rw [upd_upd, bv, bv, List.map_append]; rfl
      have last : ∃ m', m' < m ∧ ∃ (i' : Nat) (acc more : List Nat), i' + m' = r.length ∧ acc.length ≤ i' ∧ [some (V.ref a), some (V.ref p), some (V.int (((i + 2 : Nat) : Int) + 1))] = [some (.ref a), some (.ref p), some (.int ((i' + 1 : Nat) : Int))] ∧ upd H p (.lst (bv (_ ++ [if d = 110 then 10 else d]))) = upd H p (.lst (bv acc)) ∧ strOf (r.drop i') = some (more, []) ∧ tx = acc ++ more :=
        ⟨m - 2, by omega, i + 2, acc ++ [if d = 110 then 10 else d], y.1, by omega, by rw [List.length_append]; simp; omega, by
          have : ((i + 2 : Nat) : Int) + 1 = ((i + 2 + 1 : Nat) : Int) := by omega
          rw [this], rfl, by rw [← hq, e2]; obtain ⟨y1, y2⟩ := y; simp at e3; rw [e3.2], by rw [htx, e3.1, List.append_assoc]; rfl⟩
      refine ⟨_, rfl, _, _, rfl, rfl, _, rfl, .inl ⟨rfl, _, SqL.of upd_same⟩, _, rfl, _, rfl, a, _, _, _, rfl, rfl, SqT.of hta, by rw [ee]; exact at_bv at2, rfl, _, rfl, ite2 (fun z3 => ?_) (fun z3 => ?_)⟩
      · have e110 : d = 110 := by
          have := of_decide_eq_true z3
          rw [V.int.injEq] at this; omega
        rw [if_pos e110] at fin last
        refine ⟨p, _, _, rfl, rfl, upd_same, sz, ?_⟩
        refine ⟨_, rfl, _, _, rfl, rfl, ?_⟩
        rw [show upd (upd H p (.lst (bv acc))) p (.lst (bv acc ++ [V.int 10])) = upd H p (.lst (bv (acc ++ [10]))) from fin]
        first | exact last | (rw [ee]; exact last) | (show ∃ m', _; simp only [ee]; exact last)
      · have n110 : d ≠ 110 := fun e => by subst e; exact z3 (decide_eq_true rfl)
        rw [if_neg n110] at fin last
        refine ⟨_, rfl, _, rfl, a, _, _, _, rfl, rfl, SqT.of hta, by rw [ee]; exact at_bv at2, p, _, _, rfl, rfl, upd_same, sz, ?_⟩
        refine ⟨_, rfl, _, _, rfl, rfl, ?_⟩
        rw [show upd (upd H p (.lst (bv acc))) p (.lst (bv acc ++ [V.int ((d : Nat) : Int)])) = upd H p (.lst (bv (acc ++ [d]))) from fin]
        first | exact last | (rw [ee]; exact last) | (show ∃ m', _; simp only [ee]; exact last)
    · have n92 : c ≠ 92 := fun e => by subst e; exact z2 (decide_eq_true rfl)
      rw [hdr] at hs
      obtain ⟨y, e2, e3⟩ := strOf_plain n34 n92 hs
      simp only [Prod.mk.injEq] at e3
      refine ⟨_, rfl, .inl ⟨rfl, _, SqL.of upd_same⟩, _, rfl, _, rfl, a, _, _, _, rfl, rfl, SqT.of hta, at_bv at1, p, _, _, rfl, rfl, upd_same, sz, ?_⟩
      refine ⟨_, rfl, _, _, rfl, rfl, m - 1, by omega, i + 1, acc ++ [c], y.1, by omega, by rw [List.length_append]; simp; omega, by
          have : ((i + 1 : Nat) : Int) + 1 = ((i + 1 + 1 : Nat) : Int) := by omega
          show [some (V.ref a), some (V.ref p), some (V.int (((i + 1 : Nat) : Int) + 1))] = _
          rw [this], by rw [upd_upd, bv, bv, List.map_append]; rfl, by rw [e2]; obtain ⟨y1, y2⟩ := y; simp at e3; rw [e3.2], by rw [htx, e3.1, List.append_assoc]; rfl⟩
  · have hge : i + 1 = r.length := by
      have := of_decide_eq_false (Bool.eq_false_iff.mpr z)
      rw [bv_len, List.length_cons] at this; omega
    have hnil : r.drop (i + 1) = [] := List.drop_eq_nil_of_le (by omega)
    rw [hdr, hnil] at hs
    have e34 : c = 34 := by
      by_cases e : c = 34
      · exact e
      · by_cases e' : c = 92
        · subst e'
          obtain ⟨_, _, _, z1, _⟩ := strOf_esc hs
          cases z1
        · obtain ⟨y, z1, _⟩ := strOf_plain e e' hs
          rw [strOf_nil] at z1; cases z1
    rw [e34, strOf_quote] at hs
    have em : more = [] := by
      injection hs with hs
      exact (congrArg Prod.fst hs).symm
    rw [em, List.append_nil] at htx
    subst htx
    refine ⟨_, rfl, p, _, rfl, .inl ⟨SqL.of upd_same, fun l hl => q l _ ((same_new hp _).trans (same_new hl _)) upd_same⟩⟩
end
end Ru

set_option Elab.async false
set_option linter.all false
set_option maxRecDepth 100000
namespace Ru
open PySem L2 RM Kp176
section
variable {P : Program} {w : World} {K : PySem.W.Frag} {mg : Str → Option Value} {base : Heap} {f : Addr} {fd : FuncData} {dS tW CN : Addr}
variable {f1 f2 f3 f4 f5 : Addr} {d1 d2 d3 d4 d5 : FuncData}

structure TokAt (H : Hp) (r : Addr) (t : Kp176.Tok) : Prop where
  at_ : ∃ v, H r = some (.tup [kS (tokKd t), v]) ∧ ((t.kind = 0 ∨ t.kind = 3) → ∃ b, v = .ref b ∧ H b = some (.tup (bv t.text))) ∧ (t.kind = 1 → v = .int ((number t.text : Nat) : Int))
  fits : ∃ raw, Fits t raw
def Tups (H H' : Hp) : Prop := ∀ b xs, H b = some (.tup xs) → H' b = some (.tup xs)
theorem Same.tups {H H' : Hp} (h : Same H H') : Tups H H' := fun b xs e => h b _ e
theorem Tups.trans {H H1 H2 : Hp} (a : Tups H H1) (b : Tups H1 H2) : Tups H H2 := fun c xs h => b c xs (a c xs h)
theorem TokAt.tups {H H' : Hp} {r : Addr} {t : Kp176.Tok} (h : TokAt H r t) (sm : Tups H H') : TokAt H' r t := by
  obtain ⟨⟨v, h1, h2, h3⟩, hf⟩ := h
  exact ⟨⟨v, sm _ _ h1, fun z => let ⟨b, e, q⟩ := h2 z; ⟨b, e, sm _ _ q⟩, h3⟩, hf⟩
def spTok : Sp := fun vs H Q _ => ∃ (a : Addr) (raw : List Nat) (t : Kp176.Tok), vs = [.ref a] ∧ H a = some (.tup (bv raw)) ∧ raw ≠ [] ∧ raw.length ≤ 17000 ∧ Fits t raw ∧ ∀ r H', Same H H' → TokAt H' r t → Q (.ref r) H'
theorem scTokenOf : FnScope ["body", "kind"] ["body"] (defScope sTokenOf) := ⟨rfl, rfl, rfl, by decide +kernel, rfl, by decide +kernel, by decide +kernel⟩
set_option maxHeartbeats 1000000 in
theorem ok_tokenOf (C : Consts K mg dS tW) (F : Fun K "token_of" "token_of" sTokenOf f fd) (G1 : FnOk P w K mg base CX0 2 f1 d1 ["body"] spKind) (c1 : Callee K mg "kind_of" ["body"] f1 d1)
    (G2 : FnOk P w K mg base CX0 1 f2 d2 ["body"] spNum) (c2 : Callee K mg "number_of" ["body"] f2 d2) (G3 : FnOk P w K mg base CX0 1 f3 d3 ["body"] spStrOf) (c3 : Callee K mg "string_of" ["body"] f3 d3) :
    FnOk P w K mg base CX0 3 f fd ["body"] spTok := by
  refine F.ok scTokenOf (fun vs H Q E ⟨_, _, _, h, _⟩ => by rw [h]; rfl) (fun cdv A outer s H vs Q E hr h => ?_)
  obtain ⟨a, raw, t, rfl, ha, hne, hlen, hf, q⟩ := h
  have hr1 : Room 1 (A.deeper (PyProof.Rows.envOfC "token_of" (defScope sTokenOf) s.heap.objs.size f cdv)) := hr.mono (by decide)
  refine ⟨_, pss_cons (ps_set (i := 1) scTokenOf.nd rfl (Or.inl rfl) (pe_call G1 hr rfl c1.mg c1.kp c1.bd .nil pass0 (pa_cons (pv 0) pa_nil)))
    (pss_cons (ps_if (pt_cmpR op_eq (pv 1) pe_str (nomark _)) (pss_one (ps_ret (pe_tup (pa_cons (pv 1) (pa_cons (pv 0) pa_nil))))) pss_nil)
    (pss_cons (ps_if (pt_cmpR op_eq (pv 1) pe_str (nomark _)) (pss_one (ps_ret (pe_tup (pa_cons (pv 1) (pa_cons (pe_call G2 hr1 rfl c2.mg c2.kp c2.bd .nil pass0 (pa_cons (pv 0) pa_nil)) pa_nil))))) pss_nil)
    (pss_cons (ps_if (pt_cmpR op_eq (pv 1) pe_str (nomark _)) (pss_one (ps_ret (pe_tup (pa_cons (pv 1) (pa_cons (pe_call G3 hr1 rfl c3.mg c3.kp c3.bd .nil pass0 (pa_cons (pv 0) pa_nil)) pa_nil))))) pss_nil)
    (pss_one (ps_ret (pe_tup (pa_cons (pv 1) (pa_cons pe_non pa_nil)))))))), ?_⟩
  have two : 2 ≤ sizeLine := by decide
  obtain ⟨ek, _⟩ := fits_kd hf
  refine ⟨_, rfl, a, raw, rfl, ha, hne, fun H1 s1 => ?_⟩
  have ha1 := s1 _ _ ha
  rw [← ek]
  have k0 : t.kind = 0 ↔ tokKd t = .name := by
    constructor
    · intro z; rw [ek]; exact (hf.name z).1
    · intro z
      rw [ek] at z
      rcases hf.kind with k | k | k | k
      · exact k
      · rw [(hf.number k).1] at z; cases z
      · rw [(hf.string k).1] at z; cases z
      · exact absurd z (hf.word k).2.1
  have k1 : t.kind = 1 ↔ tokKd t = .number := by
    constructor
    · intro z; rw [ek]; exact (hf.number z).1
    · intro z
      rw [ek] at z
      rcases hf.kind with k | k | k | k
      · rw [(hf.name k).1] at z; cases z
      · exact k
      · rw [(hf.string k).1] at z; cases z
      · exact absurd z (hf.word k).2.2.1
  have k3 : t.kind = 3 ↔ tokKd t = .string := by
    constructor
    · intro z; rw [ek]; exact (hf.string z).1
    · intro z
      rw [ek] at z
      rcases hf.kind with k | k | k | k
      · rw [(hf.name k).1] at z; cases z
      · rw [(hf.number k).1] at z; cases z
      · exact k
      · exact absurd z (hf.word k).2.2.2.1
  refine ⟨_, rfl, rfl, _, rfl, ?_⟩
  show if decide (kS (tokKd t) = kS .name) = true then _ else _
  rw [dec_kS]
  refine ite2 (fun z => ?_) (fun z => ?_)
  · have z' := k0.mpr (of_decide_eq_true z)
    refine ⟨_, rfl, _, rfl, two, fun r hr' => q r _ (s1.trans (same_new hr' _)) ⟨⟨_, upd_same, fun _ => ⟨a, rfl, ?_⟩, fun z => ?_⟩, raw, hf⟩⟩
    · rw [(hf.name z').2]; exact same_new hr' _ _ _ ha1
    · omega
  have n0 : ¬ t.kind = 0 := fun e => z (decide_eq_true (k0.mp e))
  refine ⟨_, rfl, rfl, _, rfl, ?_⟩
  show if decide (kS (tokKd t) = kS .number) = true then _ else _
  rw [dec_kS]
  refine ite2 (fun z2 => ?_) (fun z2 => ?_)
  · have z' := k1.mpr (of_decide_eq_true z2)
    refine ⟨_, rfl, _, rfl, a, raw, rfl, ha1, two, fun r hr' => q r _ (s1.trans (same_new hr' _)) ⟨⟨_, upd_same, fun z => ?_, fun z => ?_⟩, raw, hf⟩⟩
    · omega
    · rw [numI_eq (hf.number z').2.2, (hf.number z').2.1]
  have n1 : ¬ t.kind = 1 := fun e => z2 (decide_eq_true (k1.mp e))
  refine ⟨_, rfl, rfl, _, rfl, ?_⟩
  show if decide (kS (tokKd t) = kS .string) = true then _ else _
  rw [dec_kS]
  refine ite2 (fun z3 => ?_) (fun z3 => ?_)
  · have z' := k3.mpr (of_decide_eq_true z3)
    obtain ⟨_, r0, er, es⟩ := hf.string z'
    refine ⟨_, rfl, _, rfl, a, r0, t.text, rfl, by rw [← er]; exact ha1, es, by rw [er, List.length_cons] at hlen; omega, fun b H2 s2 hb => ⟨two, fun r hr' => q r _ (s1.trans (s2.trans (same_new hr' _))) ⟨⟨_, upd_same, fun _ => ⟨b, rfl, same_new hr' _ _ _ hb⟩, fun z => ?_⟩, raw, hf⟩⟩⟩
    omega
  have n3 : ¬ t.kind = 3 := fun e => z3 (decide_eq_true (k3.mp e))
  refine ⟨_, rfl, two, fun r hr' => q r _ (s1.trans (same_new hr' _)) ⟨⟨_, upd_same, fun z => ?_, fun z => ?_⟩, raw, hf⟩⟩
  · omega
  · omega

def ToksAt (H : Hp) (p : Addr) (ts : List Kp176.Tok) : Prop := ∃ rs : List Addr, H p = some (.lst (rs.map V.ref)) ∧ Paired (TokAt H) rs ts
def spToks (K : PySem.W.Frag) (CN : Addr) : Sp := fun vs H Q E => ∃ (a : Addr) (bs : List Nat), vs = [.ref a] ∧ SqL K H a (bv bs) ∧ bs.length ≤ 17000 ∧
  (tokens bs = none → ∀ H', Same H H' → E (.ref CN) none H') ∧ (∀ ts p H', tokens bs = some ts → Same H H' → ToksAt H' p ts → Q (.ref p) H')
theorem scTokens : FnScope ["t", "tokens", "at", "end"] ["t"] (defScope sTokens) := ⟨rfl, rfl, rfl, by decide +kernel, rfl, by decide +kernel, by decide +kernel⟩
theorem in_blank (c : Nat) : inV (V.int ((c : Nat) : Int)) [.int 32, .int 10] = decide (c = 32 ∨ c = 10) := by
  show ((32 == ((c : Nat) : Int)) || ((10 == ((c : Nat) : Int)) || false)) = _
  rw [Bool.eq_iff_iff]
  simp only [Bool.or_eq_true, beq_iff_eq, Bool.or_false, decide_eq_true_eq]
  omega
theorem cut_bv (bs : List Nat) (i n : Nat) (h : i + n ≤ bs.length) : cutV (bv bs) (some ((i : Nat) : Int)) (some ((i + n : Nat) : Int)) = bv ((bs.drop i).take n) := by
  unfold cutV
  rw [HT.sIx_nat, HT.sIx_nat, bv_len, Nat.min_eq_left (by omega), Nat.min_eq_left (by omega), Nat.add_sub_cancel_left, bv, bv, List.map_take, List.map_drop]
theorem Paired.snoc' {α β : Type} {R : α → β → Prop} : ∀ {xs : List α} {ys : List β} {x : α} {y : β}, Paired R xs ys → R x y → Paired R (xs ++ [x]) (ys ++ [y])
  | _, _, _, _, .nil, h => .cons h .nil
  | _, _, _, _, .cons a b, h => .cons a (Paired.snoc' b h)
theorem tups_lst {H : Hp} {p : Addr} {xs : List V} (h : H p = some (.lst xs)) (o : HO) : Tups H (upd H p o) := fun b ys e => by rw [upd_ne (ne_of e h (by intro z; cases z))]; exact e
set_option maxHeartbeats 2000000 in
theorem ok_tokens (C : Consts K mg dS tW) (F : Fun K "tokens_of" "tokens_of" sTokens f fd) (G1 : FnOk P w K mg base (CXE P w) 4 f1 d1 ["t", "start"] (spTokEnd K CN)) (c1 : Callee K mg "token_end" ["t", "start"] f1 d1)
    (G2 : FnOk P w K mg base CX0 3 f2 d2 ["body"] spTok) (c2 : Callee K mg "token_of" ["body"] f2 d2) : FnOk P w K mg base (CXE P w) 5 f fd ["t"] (spToks K CN) := by
  refine F.okE scTokens (fun vs H Q E ⟨_, _, h, _⟩ => by rw [h]; rfl) (fun cdv A outer s H vs Q E hr h => ?_)
  obtain ⟨a, bs, rfl, hS, hlen, qE, qQ⟩ := h
  refine ⟨_, pss_cons (ps_set (i := 1) scTokens.nd rfl (Or.inl rfl) (pe_lst pa_nil)) (pss_cons (ps_set (i := 2) scTokens.nd rfl (Or.inl rfl) pe_int)
    (pss_cons (ps_while own_out (pt_cmpR op_lt (pv 2) (pe_callB call_len_seq rfl C.len PySem.boot_len (pa_cons (pv 0) pa_nil)) (nomark _))
      (pss_one (ps_if (pt_cmpR op_in_seq (pe_ix ix_list (pv 0) (pv 2) (fun _ _ => rfl)) (pe_tup (pa_cons (pgi C.blank) (pa_cons (pgi C.newline) pa_nil))) rfl)
        (pss_one (ps_set (i := 2) scTokens.nd rfl (Or.inl rfl) (pe_op op_add (pv 2) pe_int)))
        (pss_cons (ps_set (i := 3) scTokens.nd rfl (Or.inl rfl) (pe_call G1 hr rfl c1.mg c1.kp c1.bd .nil (pass_on (fun _ _ _ z => z)) (pa_cons (pv 0) (pa_cons (pv 2) pa_nil))))
        (pss_cons (ps_expr (pe_bm PySem.F.plainAttrs_list PySem.F.slot_list_append PySem.F.type_list_append mt_append (pv 1)
          (pa_cons (pe_call G2 (hr.mono (by decide)) rfl c2.mg c2.kp c2.bd .nil pass0 (pa_cons (pe_callTy call_tuple_of rfl C.tuple PyProof.Rows.boot_tuple (pa_cons (pe_slice sl_list (pv 0) (po_some (pv 2)) (po_some (pv 3))) pa_nil)) pa_nil)) pa_nil)))
        (pss_one (ps_set (i := 2) scTokens.nd rfl (Or.inl rfl) (pv 3))))))))
    (pss_one (ps_ret (pv 1))))), ?_⟩
  refine ⟨(by show 0 ≤ sizeLine; decide), fun p hp => ?_⟩
  refine ⟨fun m σ H' => ∃ (i : Nat) (acc : List Kp176.Tok) (rs : List Addr) (o3 : Option V), i + m = bs.length ∧ σ = [some (.ref a), some (.ref p), some (.int ((i : Nat) : Int)), o3] ∧ Same H H' ∧
      H' p = some (.lst (rs.map V.ref)) ∧ Paired (TokAt H') rs acc ∧ acc.length ≤ i ∧ tokens bs = (tokens (bs.drop i)).map (acc ++ ·),
    ⟨bs.length, 0, [], [], none, by omega, rfl, same_new hp _, upd_same, .nil, Nat.le_refl _, by rw [List.drop_zero]; cases tokens bs <;> rfl⟩, ?_⟩
  rintro m σ H' ⟨i, acc, rs, o3, him, rfl, sm, hpl, hpr, hal, htk⟩
  have hS' := sm.seq hS
  have hrl : rs.length = acc.length := Paired.length hpr
  refine ⟨_, rfl, _, rfl, a, _, rfl, .inl hS', _, _, rfl, rfl, _, rfl, ite2 (fun h1 => ?_) (fun h1 => ?_)⟩
  · have hlt : i < bs.length := by
      have := of_decide_eq_true h1
      rw [bv_len] at this; omega
    obtain ⟨c, hc⟩ : ∃ c, bs[i]? = some c := ⟨bs[i], List.getElem?_eq_getElem hlt⟩
    have hdr := drop_cons hc
    refine ⟨fun σ' H'' => ∃ m', m' < m ∧ ∃ (i : Nat) (acc : List Kp176.Tok) (rs : List Addr) (o3 : Option V), i + m' = bs.length ∧ σ' = [some (.ref a), some (.ref p), some (.int ((i : Nat) : Int)), o3] ∧ Same H H'' ∧
      H'' p = some (.lst (rs.map V.ref)) ∧ Paired (TokAt H'') rs acc ∧ acc.length ≤ i ∧ tokens bs = (tokens (bs.drop i)).map (acc ++ ·), fun _ _ z => z, ?_⟩
    refine ⟨_, rfl, _, rfl, a, _, _, _, rfl, rfl, hS', at_bv hc, (by show 2 ≤ sizeLine; decide), fun q1 hq1 => ⟨q1, _, rfl, .inr (SqT.of upd_same), rfl, rfl, _, rfl, ?_⟩⟩
    have s1' := same_new hq1 (.tup [.int 32, .int 10])
    have s1 := sm.trans s1'
    show if inV (V.int ((c : Nat) : Int)) [.int 32, .int 10] = true then _ else _
    rw [in_blank]
    refine ite2 (fun z1 => ?_) (fun z1 => ?_)
    · refine ⟨_, rfl, _, _, rfl, rfl, m - 1, by omega, i + 1, acc, rs, o3, by omega, ?_, s1, s1' _ _ hpl, Paired.mapP hpr (fun r t h => h.tups (Same.tups s1')), by omega, ?_⟩
      · have e : ((i : Nat) : Int) + 1 = ((i + 1 : Nat) : Int) := by omega
        show [some (V.ref a), some (V.ref p), some (V.int (((i : Nat) : Int) + 1)), o3] = _
        rw [e]
      · rw [htk, hdr, tokens_blank _ (of_decide_eq_true z1)]
    · have hnb : ¬ (c = 32 ∨ c = 10) := of_decide_eq_false (Bool.eq_false_iff.mpr z1)
      refine ⟨_, rfl, _, rfl, a, bs, i, rfl, s1.seq hS, hlt, fun H3 s3 hn => ?_, fun n H3 s3 hn => ?_⟩
      · refine qE ?_ H3 (s1.trans s3)
        rw [htk, hdr]
        rw [hdr] at hn
        rcases tokens_next (bs.drop (i + 1)) hnb with ⟨_, z⟩ | ⟨n, t, z, _⟩
        · rw [z]; rfl
        · rw [hn] at z; cases z
      · rw [hdr] at hn
        rcases tokens_next (bs.drop (i + 1)) hnb with ⟨z, _⟩ | ⟨n', t, z, n1, n2, hf, hz⟩
        · rw [hn] at z; cases z
        rw [hn] at z; cases z
        rw [← hdr] at n2 hf hz
        rw [List.length_drop] at n2
        have t3 := s1.trans s3
        have hpl3 : H3 p = some (.lst (rs.map V.ref)) := s3 _ _ (s1' _ _ hpl)
        refine ⟨_, rfl, .inl ⟨rfl, _, SqL.of hpl3⟩, _, rfl, _, rfl, _, rfl, _, rfl, _, rfl, a, _, rfl, t3.seq hS, fun q2 hq2 => ⟨q2, _, rfl, .inl ⟨SqL.of upd_same, fun b hb => ?_⟩⟩⟩
        rw [cut_bv bs i n (by omega)] at hb ⊢
        have u1 := same_new hq2 (.lst (bv ((bs.drop i).take n)))
        have u2 := same_new hb (.tup (bv ((bs.drop i).take n)))
        have u12 := u1.trans u2
        have t4 := t3.trans u12
        refine ⟨b, (bs.drop i).take n, t, rfl, upd_same, ?_, ?_, hf, fun r H4 s4 hT => ?_⟩
        · intro e
          have := congrArg List.length e
          rw [List.length_take, List.length_drop] at this
          simp at this
          omega
        · rw [List.length_take, List.length_drop]; omega
        have t5 := t4.trans s4
        have v5 := s3.trans (u12.trans s4)
        have w5 := s1'.trans v5
        have hpl5 := w5 _ _ hpl
        refine ⟨p, _, _, rfl, rfl, hpl5, ?_, ?_⟩
        · rw [List.length_map, hrl]
          exact Nat.lt_of_le_of_lt (show acc.length ≤ 17000 by omega) (by decide)
        · have hpn : H p = none := hp
          have tk : Tups H4 (upd H4 p (.lst (rs.map V.ref ++ [.ref r]))) := tups_lst hpl5 _
          refine ⟨_, rfl, m - n, by omega, i + n, acc ++ [t], rs ++ [r], _, by omega, rfl, fun x u hx => by rw [upd_ne (ne_of_none hx hpn)]; exact t5 _ _ hx, ?_, ?_, ?_, ?_⟩
          · rw [upd_same, List.map_append]; rfl
          · exact Paired.snoc' (Paired.mapP hpr fun x y h => h.tups ((Same.tups w5).trans tk)) (hT.tups tk)
          · rw [List.length_append]; simp; omega
          · rw [htk, hz, List.drop_drop]
            cases tokens (bs.drop (i + n)) with
            | none => rfl
            | some l => simp
  · have hge : i = bs.length := by
      have := of_decide_eq_false (Bool.eq_false_iff.mpr h1)
      rw [bv_len] at this; omega
    have e : tokens bs = some acc := by rw [htk, hge, List.drop_length, tokens_nil]; simp
    have fin := qQ acc p H' e sm ⟨rs, hpl, hpr⟩
    first | exact ⟨_, rfl, fin⟩ | exact iteF ⟨_, rfl, fin⟩
end
end Ru

set_option Elab.async false
set_option linter.all false
set_option maxRecDepth 100000
namespace Ru
open PySem L2 RM Kp176
abbrev NS (mg : Str → Option Value) (base : Heap) (CS : Addr) : Prop := PyProof.Rows.OwnCls "NoSheet" CS excTail "Exception.__new__" mg base

def StpAt (H : Hp) (r : Addr) : Stp → Prop
  | .str b => ∃ a, H r = some (.tup [.str "string", .ref a]) ∧ H a = some (.tup (bv b))
  | .name x => ∃ a, H r = some (.tup [.str "name", .ref a]) ∧ H a = some (.tup (bv x))
  | .amp => H r = some (.tup [.str "&", .non])
  | .get => H r = some (.tup [.str "get", .non])
  | .size => H r = some (.tup [.str "size", .non])
  | .first k => H r = some (.tup [.str "first", .int ((k : Nat) : Int)])
  | .rest k => H r = some (.tup [.str "rest", .int ((k : Nat) : Int)])
  | .differ p => H r = some (.tup [.str "differ", .int ((p : Nat) : Int)])
  | .go p => H r = some (.tup [.str "go", .int ((p : Nat) : Int)])
  | .fin => H r = some (.tup [.str "end", .non])
  | .dh => H r = some (.tup [.str "differ", .non])
  | .gh => H r = some (.tup [.str "go", .non])
theorem StpAt.tups {H H' : Hp} {r : Addr} {s : Stp} (h : StpAt H r s) (sm : Tups H H') : StpAt H' r s := by
  cases s with
  | str b => obtain ⟨a, h1, h2⟩ := h; exact ⟨a, sm _ _ h1, sm _ _ h2⟩
  | name b => obtain ⟨a, h1, h2⟩ := h; exact ⟨a, sm _ _ h1, sm _ _ h2⟩
  | _ => exact sm _ _ h
def SsAt (H : Hp) (st : Addr) (S : List Stp) : Prop := ∃ rs : List Addr, H st = some (.lst (rs.map V.ref)) ∧ Paired (StpAt H) rs S
theorem SsAt.lst {H : Hp} {st : Addr} {S : List Stp} (h : SsAt H st S) : ∃ xs, H st = some (.lst xs) ∧ xs.length = S.length := let ⟨rs, h1, h2⟩ := h; ⟨_, h1, by rw [List.length_map]; exact Paired.length h2⟩
theorem SsAt.same {H H' : Hp} {st : Addr} {S : List Stp} (h : SsAt H st S) (sm : Same H H') : SsAt H' st S := let ⟨rs, h1, h2⟩ := h; ⟨rs, sm _ _ h1, Paired.mapP h2 fun _ _ z => z.tups (Same.tups sm)⟩
theorem SsAt.push {H : Hp} {st r : Addr} {S : List Stp} {s : Stp} {xs : List V} (h : SsAt H st S) (hx : H st = some (.lst xs)) (hr : StpAt H r s) : SsAt (upd H st (.lst (xs ++ [.ref r]))) st (S ++ [s]) := by
  obtain ⟨rs, h1, h2⟩ := h
  rw [h1] at hx; cases hx
  have tk := tups_lst h1 (.lst (rs.map V.ref ++ [.ref r]))
  exact ⟨rs ++ [r], by rw [upd_same, List.map_append]; rfl, Paired.snoc' (Paired.mapP h2 fun _ _ z => z.tups tk) (hr.tups tk)⟩

def But (st : Addr) (H H' : Hp) : Prop := ∀ b u, b ≠ st → H b = some u → H' b = some u
theorem But.refl (st : Addr) (H : Hp) : But st H H := fun _ _ _ h => h
theorem But.trans {st : Addr} {H H1 H2 : Hp} (a : But st H H1) (b : But st H1 H2) : But st H H2 := fun c u n h => b c u n (a c u n h)
theorem Same.but {st : Addr} {H H' : Hp} (h : Same H H') : But st H H' := fun b u _ e => h b u e
theorem but_upd {st : Addr} {H : Hp} (o : HO) : But st H (upd H st o) := fun b u n e => by rw [upd_ne n]; exact e
theorem But.tups {st : Addr} {H H' : Hp} {xs : List V} (h : But st H H') (hs : H st = some (.lst xs)) : Tups H H' := fun b ys e => h b _ (ne_of e hs (by intro z; cases z)) e

def TkAt (H : Hp) (ak : Addr) (ts : List Kp176.Tok) : Prop := ∃ (rs : List Addr) (e : Addr), H ak = some (.lst ((rs ++ [e]).map V.ref)) ∧ Paired (TokAt H) rs ts ∧ H e = some (.tup [kS .fin, .non])
theorem TkAt.move {H H' : Hp} {ak : Addr} {ts : List Kp176.Tok} (h : TkAt H ak ts) (hk : ∀ xs, H ak = some (.lst xs) → H' ak = some (.lst xs)) (sm : Tups H H') : TkAt H' ak ts := by
  obtain ⟨rs, e, h1, h2, h3⟩ := h
  exact ⟨rs, e, hk _ h1, Paired.mapP h2 fun _ _ z => z.tups sm, sm _ _ h3⟩
theorem TkAt.same {H H' : Hp} {ak : Addr} {ts : List Kp176.Tok} (h : TkAt H ak ts) (sm : Same H H') : TkAt H' ak ts := h.move (fun _ e => sm _ _ e) (Same.tups sm)
theorem TkAt.but {st : Addr} {H H' : Hp} {ak : Addr} {ts : List Kp176.Tok} {xs : List V} (h : TkAt H ak ts) (hn : ak ≠ st) (hs : H st = some (.lst xs)) (sm : But st H H') : TkAt H' ak ts := h.move (fun _ e => sm _ _ hn e) (sm.tups hs)
theorem toks_get {H : Hp} : ∀ {rs : List Addr} {ts : List Kp176.Tok} {i : Nat} {t : Kp176.Tok}, Paired (TokAt H) rs ts → ts[i]? = some t → ∃ r, rs[i]? = some r ∧ TokAt H r t
  | _, _, _, _, .nil, e => by simp at e
  | _, _, 0, _, .cons h _, e => by simp at e; subst e; exact ⟨_, rfl, h⟩
  | _, _, i + 1, t, .cons _ r, e => by
    obtain ⟨x, h1, h2⟩ := toks_get (i := i) (t := t) r (by simpa using e)
    exact ⟨x, by simpa using h1, h2⟩
theorem toks_good {H : Hp} : ∀ {rs : List Addr} {ts : List Kp176.Tok}, Paired (TokAt H) rs ts → Good ts
  | _, _, .nil => fun t ht => by cases ht
  | _, _, .cons h r => fun t ht => by
    rcases List.mem_cons.mp ht with z | z
    · subst z; exact h.fits
    · exact toks_good r t z
theorem at_refs {rs : List Addr} {i : Nat} {r : Addr} (h : rs[i]? = some r) : atI (rs.map V.ref) ((i : Nat) : Int) = some (.ref r) := atI_nat (by rw [List.getElem?_map, h]; rfl)
theorem TkAt.tok {H : Hp} {ak : Addr} {ts : List Kp176.Tok} (h : TkAt H ak ts) {i : Nat} {t : Kp176.Tok} (ht : ts[i]? = some t) : ∃ xs r, H ak = some (.lst xs) ∧ atI xs ((i : Nat) : Int) = some (.ref r) ∧ TokAt H r t := by
  obtain ⟨rs, e, h1, h2, h3⟩ := h
  obtain ⟨r, q1, q2⟩ := toks_get h2 ht
  refine ⟨_, r, h1, at_refs ?_, q2⟩
  rw [List.getElem?_append_left (List.getElem?_eq_some_iff.mp q1).1]; exact q1
theorem TkAt.kd {H : Hp} {ak : Addr} {ts : List Kp176.Tok} (h : TkAt H ak ts) {i : Nat} {k : Kd} (hk : (kds ts)[i]? = some k) : ∃ xs r v, H ak = some (.lst xs) ∧ atI xs ((i : Nat) : Int) = some (.ref r) ∧ H r = some (.tup [kS k, v]) := by
  by_cases hi : i < ts.length
  · have ht : ts[i]? = some ts[i] := List.getElem?_eq_getElem hi
    obtain ⟨xs, r, h1, h2, ⟨v, h3, _⟩, _⟩ := h.tok ht
    rw [kds_tok ht] at hk; cases hk
    exact ⟨xs, r, v, h1, h2, h3⟩
  · have hl := (List.getElem?_eq_some_iff.mp hk).1
    rw [kds_len] at hl
    have e0 : i = ts.length := by omega
    subst e0
    rw [kds_end] at hk; cases hk
    obtain ⟨rs, e, h1, h2, h3⟩ := h
    have hrl : rs.length = ts.length := Paired.length h2
    refine ⟨_, e, .non, h1, at_refs ?_, h3⟩
    rw [List.getElem?_append_right (by omega), hrl, Nat.sub_self]; rfl

section
variable {P : Program} {w : World} {K : PySem.W.Frag} {mg : Str → Option Value} {base : Heap} {f : Addr} {fd : FuncData} {CS : Addr}
variable {f1 f2 f3 f4 f5 : Addr} {d1 d2 d3 d4 d5 : FuncData}

abbrev psBK : List Str := ["tokens", "at", "kind"]
def spBK (CS : Addr) : Sp := fun vs H Q E => ∃ (ak : Addr) (ts : List Kp176.Tok) (i : Nat) (k kk : Kd), vs = [.ref ak, .int ((i : Nat) : Int), kS kk] ∧ TkAt H ak ts ∧ (kds ts)[i]? = some k ∧
  (k = kk → Q (.int ((i + 1 : Nat) : Int)) H) ∧ (k ≠ kk → E (.ref CS) none H)
theorem scBehindKind : FnScope psBK psBK (defScope sBehindKind) := ⟨rfl, rfl, rfl, by decide +kernel, rfl, by decide +kernel, by decide +kernel⟩
theorem ok_behindKind (O : NS mg base CS) (F : Fun K "behind_kind" "behind_kind" sBehindKind f fd) : FnOk P w K mg base (CXE P w) 1 f fd psBK (spBK CS) := by
  refine F.okE scBehindKind (fun vs H Q E ⟨_, _, _, _, _, h, _⟩ => by rw [h]; rfl) (fun cdv A outer s H vs Q E hr h => ?_)
  obtain ⟨ak, ts, i, k, kk, rfl, hT, hk, qQ, qE⟩ := h
  refine ⟨_, pss_cons (ps_if (pt_cmpR op_ne (pe_ix ix_tup (pe_ix ix_list (pv 0) (pv 1) (fun _ _ => rfl)) pe_int (fun _ _ => rfl)) (pv 2) (nomark _)) (pss_one (ps_raise0 PySem.F.excBase_Exception O hr.hd rfl)) pss_nil) (pss_one (ps_ret (pe_op op_add (pv 1) pe_int))), ?_⟩
  obtain ⟨xs, r, v, h1, h2, h3⟩ := hT.kd hk
  refine ⟨_, rfl, _, rfl, ak, _, _, _, rfl, rfl, SqL.of h1, h2, r, _, _, _, rfl, rfl, SqT.of h3, atI_nat (j := 0) rfl, _, rfl, rfl, _, rfl, ?_⟩
  rw [dec_kS]
  by_cases z : k = kk
  · rw [decide_eq_true z]
    refine iteF ⟨_, rfl, _, _, rfl, rfl, ?_⟩
    have e : ((i + 1 : Nat) : Int) = ((i : Nat) : Int) + 1 := by omega
    have q := qQ z
    rw [e] at q
    exact q
  · rw [decide_eq_false z]
    exact iteT (qE z)

abbrev ps4 : List Str := ["tokens", "at", "depth", "steps"]
def spP (CS : Addr) (R : Nat → List Kp176.Tok → Option (Kp176.F × List Kp176.Tok)) (n : Nat) : Sp := fun vs H Q E => ∃ (ak : Addr) (ts : List Kp176.Tok) (i d : Nat) (st : Addr) (S : List Stp), vs = [.ref ak, .int ((i : Nat) : Int), .int ((d : Nat) : Int), .ref st] ∧
  TkAt H ak ts ∧ Good ts ∧ ts.length ≤ 4096 ∧ i ≤ ts.length ∧ d + n = 33 ∧ SsAt H st S ∧ ak ≠ st ∧ S.length ≤ i ∧ (R d (ts.drop i) = none → ∀ H', But st H H' → E (.ref CS) none H') ∧
  (∀ x j, j ≤ ts.length → R d (ts.drop i) = some (x, ts.drop j) → i + clen x ≤ j → ∀ H', But st H H' → SsAt H' st (S ++ comp x S.length) → Q (.int ((j : Nat) : Int)) H')
theorem p_len {CS : Addr} {R : Nat → List Kp176.Tok → Option (Kp176.F × List Kp176.Tok)} {n : Nat} : ∀ vs H Q E, spP CS R n vs H Q E → vs.length = ps4.length := fun vs H Q E ⟨_, _, _, _, _, _, h, _⟩ => by rw [h]; rfl

theorem in_sn (k : Kd) : inV (kS k) [.str "string", .str "name"] = decide (k = .string ∨ k = .name) := by cases k <;> rfl
theorem in_4 (k : Kd) : inV (kS k) [.str "get", .str "size", .str "first", .str "rest"] = decide (k = .kget ∨ k = .ksize ∨ k = .kfirst ∨ k = .krest) := by cases k <;> rfl
theorem in_fr (k : Kd) : inV (kS k) [.str "first", .str "rest"] = decide (k = .kfirst ∨ k = .krest) := by cases k <;> rfl
theorem in_gs (k : Kd) : inV (kS k) [.str "get", .str "size"] = decide (k = .kget ∨ k = .ksize) := by cases k <;> rfl
def gsS (k : Kd) : Stp := if k = .kget then .get else .size
def frS (k : Kd) (n : Nat) : Stp := if k = .kfirst then .first n else .rest n
theorem comp_gs (k : Kd) (e : Kp176.F) (n : Nat) : comp (gsF k e) n = comp e n ++ [gsS k] ∧ clen (gsF k e) = clen e + 1 := by
  unfold gsF gsS; split <;> exact ⟨rfl, rfl⟩
theorem comp_fr (k : Kd) (e : Kp176.F) (m n : Nat) : comp (frF k e m) n = comp e n ++ [frS k m] ∧ clen (frF k e m) = clen e + 1 := by
  unfold frF frS; split <;> exact ⟨rfl, rfl⟩
theorem stp_gs {H : Hp} {r : Addr} {k : Kd} (hk : k = .kget ∨ k = .ksize) (h : H r = some (.tup [kS k, .non])) : StpAt H r (gsS k) := by
  rcases hk with z | z <;> subst z <;> exact h
theorem stp_fr {H : Hp} {r : Addr} {k : Kd} {n : Nat} (hk : k = .kfirst ∨ k = .krest) (h : H r = some (.tup [kS k, .int ((n : Nat) : Int)])) : StpAt H r (frS k n) := by
  rcases hk with z | z <;> subst z <;> exact h
theorem small_len {n : Nat} (h : n ≤ 4100) : n < sizeLine := Nat.lt_of_le_of_lt h (by decide)

abbrev nPart : List Str := ["tokens", "at", "depth", "steps", "token", "kind"]
theorem scPart : FnScope nPart ps4 (defScope sPart) := ⟨rfl, rfl, rfl, by decide +kernel, rfl, by decide +kernel, by decide +kernel⟩
set_option maxHeartbeats 2000000 in
theorem ok_part {n : Nat} (F : Fun K "behind_part" "behind_part" sPart f fd) (G1 : FnOk P w K mg base (CXE P w) 1 f1 d1 psBK (spBK CS)) (c1 : Callee K mg "behind_kind" psBK f1 d1)
    (G2 : FnOk P w K mg base (CXE P w) (4 * n + 2) f2 d2 ps4 (spP CS FO n)) (c2 : Callee K mg "behind_formula" ps4 f2 d2) :
    FnOk P w K mg base (CXE P w) (4 * n + 3) f fd ps4 (spP CS PA (n + 1)) := by
  refine F.okE scPart p_len (fun cdv A outer s H vs Q E hr h => ?_)
  obtain ⟨ak, ts, i, d, st, S, rfl, hT, g, hts, hi, hd, hSs, hne, hSl, qE, qQ⟩ := h
  have hr1 : Room 1 (A.deeper (PyProof.Rows.envOfC "behind_part" (defScope sPart) s.heap.objs.size f cdv)) := hr.mono (by omega)
  refine ⟨_, pss_cons (ps_set (i := 4) scPart.nd rfl (Or.inl rfl) (pe_ix ix_list (pv 0) (pv 1) (fun _ _ => rfl)))
    (pss_cons (ps_set (i := 5) scPart.nd rfl (Or.inl rfl) (pe_ix ix_tup (pv 4) pe_int (fun _ _ => rfl)))
    (pss_cons (ps_if (pt_cmpR op_in_seq (pv 5) (pe_tup (pa_cons pe_str (pa_cons pe_str pa_nil))) rfl)
      (pss_cons (ps_expr (pe_bm PySem.F.plainAttrs_list PySem.F.slot_list_append PySem.F.type_list_append mt_append (pv 3) (pa_cons (pv 4) pa_nil))) (pss_one (ps_ret (pe_op op_add (pv 1) pe_int)))) pss_nil)
    (pss_cons (ps_if (pt_cmpR op_in_seq (pv 5) (pe_tup (pa_cons pe_str (pa_cons pe_str (pa_cons pe_str (pa_cons pe_str pa_nil))))) rfl) (pss_one (ps_set (i := 1) scPart.nd rfl (Or.inl rfl) (pe_op op_add (pv 1) pe_int))) pss_nil)
    (pss_cons (ps_set (i := 1) scPart.nd rfl (Or.inl rfl) (pe_call G1 hr1 rfl c1.mg c1.kp c1.bd .nil (pass_on (fun _ _ _ z => z)) (pa_cons (pv 0) (pa_cons (pv 1) (pa_cons pe_str pa_nil)))))
    (pss_cons (ps_set (i := 1) scPart.nd rfl (Or.inl rfl) (pe_call G2 hr rfl c2.mg c2.kp c2.bd .nil (pass_on (fun _ _ _ z => z)) (pa_cons (pv 0) (pa_cons (pv 1) (pa_cons (pe_op op_add (pv 2) pe_int) (pa_cons (pv 3) pa_nil))))))
    (pss_cons (ps_if (pt_cmpR op_in_seq (pv 5) (pe_tup (pa_cons pe_str (pa_cons pe_str pa_nil))) rfl)
      (pss_cons (ps_set (i := 1) scPart.nd rfl (Or.inl rfl) (pe_call G1 hr1 rfl c1.mg c1.kp c1.bd .nil (pass_on (fun _ _ _ z => z)) (pa_cons (pv 0) (pa_cons (pv 1) (pa_cons pe_str pa_nil)))))
        (pss_cons (ps_set (i := 1) scPart.nd rfl (Or.inl rfl) (pe_call G1 hr1 rfl c1.mg c1.kp c1.bd .nil (pass_on (fun _ _ _ z => z)) (pa_cons (pv 0) (pa_cons (pv 1) (pa_cons pe_str pa_nil)))))
        (pss_one (ps_expr (pe_bm PySem.F.plainAttrs_list PySem.F.slot_list_append PySem.F.type_list_append mt_append (pv 3)
          (pa_cons (pe_tup (pa_cons (pv 5) (pa_cons (pe_ix ix_tup (pe_ix ix_list (pv 0) (pe_op op_sub (pv 1) pe_int) (fun _ _ => rfl)) pe_int (fun _ _ => rfl)) pa_nil))) pa_nil))))))
      (pss_one (ps_if (pt_cmpR op_in_seq (pv 5) (pe_tup (pa_cons pe_str (pa_cons pe_str pa_nil))) rfl)
        (pss_one (ps_expr (pe_bm PySem.F.plainAttrs_list PySem.F.slot_list_append PySem.F.type_list_append mt_append (pv 3) (pa_cons (pe_tup (pa_cons (pv 5) (pa_cons pe_non pa_nil))) pa_nil)))) pss_nil)))
    (pss_one (ps_ret (pe_call G1 hr1 rfl c1.mg c1.kp c1.bd .nil (pass_on (fun _ _ _ z => z)) (pa_cons (pv 0) (pa_cons (pv 1) (pa_cons pe_str pa_nil)))))))))))), ?_⟩
  have two : 2 ≤ sizeLine := by decide
  obtain ⟨k, hk⟩ := kds_at hi
  obtain ⟨p1, p2, p3, p4, p5⟩ := PA_at g d hk
  obtain ⟨xs, r, v, h1, h2, h3⟩ := hT.kd hk
  refine ⟨_, rfl, _, rfl, ak, _, _, _, rfl, rfl, SqL.of h1, h2, ?_⟩
  refine ⟨_, rfl, r, _, _, _, rfl, rfl, SqT.of h3, atI_nat (j := 0) rfl, ?_⟩
  refine ⟨_, rfl, two, fun q1 hq1 => ⟨q1, _, rfl, .inr (SqT.of upd_same), rfl, rfl, _, rfl, ?_⟩⟩
  have s1 := same_new hq1 (.tup [.str "string", .str "name"])
  show if inV (kS k) [.str "string", .str "name"] = true then _ else _
  rw [in_sn]
  refine ite2 (fun z1 => ?_) (fun z1 => ?_)
  · have z1' := of_decide_eq_true z1
    obtain ⟨t, x, ht, hx, hPA⟩ := p1 z1'
    have hlt := tok_lt g hk (by rcases z1' with z | z <;> rw [z] <;> decide)
    have hS1 := hSs.same s1
    obtain ⟨ys, hy, hyl⟩ := hS1.lst
    obtain ⟨xs', r', h1', h2', hto⟩ := hT.tok ht
    rw [h1] at h1'; cases h1'
    rw [h2] at h2'; cases h2'
    have hkk : tokKd t = k := by
      have := kds_tok ht
      rw [hk] at this; cases this; rfl
    have hstp : ∃ sx, StpAt H r sx ∧ comp x S.length = [sx] ∧ clen x = 1 := by
      obtain ⟨⟨v', w1, w2, w3⟩, _⟩ := hto
      rcases hx with ⟨k3, rfl⟩ | ⟨k0, rfl⟩
      · obtain ⟨b, rfl, hb⟩ := w2 (.inr k3)
        have e : tokKd t = .string := by unfold tokKd; rw [if_neg (by omega), if_neg (by omega), if_pos k3]
        rw [e] at w1
        exact ⟨.str t.text, ⟨b, w1, hb⟩, rfl, rfl⟩
      · obtain ⟨b, rfl, hb⟩ := w2 (.inl k0)
        have e : tokKd t = .name := by unfold tokKd; rw [if_pos k0]
        rw [e] at w1
        exact ⟨.name t.text, ⟨b, w1, hb⟩, rfl, rfl⟩
    obtain ⟨sx, hsx, ec, el⟩ := hstp
    refine ⟨_, rfl, .inl ⟨rfl, _, SqL.of hy⟩, _, rfl, st, _, _, rfl, rfl, hy, by rw [hyl]; exact small_len (by omega), ?_⟩
    refine ⟨_, rfl, _, _, rfl, rfl, ?_⟩
    have e : ((i + 1 : Nat) : Int) = ((i : Nat) : Int) + 1 := by omega
    have q := qQ x (i + 1) (by omega) hPA (by omega) _ ((Same.but s1).trans (but_upd _)) (by rw [ec]; exact hS1.push hy (hsx.tups (Same.tups s1)))
    rw [e] at q
    exact q
  have z1' : ¬ (k = .string ∨ k = .name) := of_decide_eq_false (Bool.eq_false_iff.mpr z1)
  refine ⟨_, rfl, (by show 4 ≤ sizeLine; decide), fun q2 hq2 => ⟨q2, _, rfl, .inr (SqT.of upd_same), rfl, rfl, _, rfl, ?_⟩⟩
  have s2 := s1.trans (same_new hq2 (.tup [.str "get", .str "size", .str "first", .str "rest"]))
  have hT2 := hT.same s2
  have hS2 := hSs.same s2
  obtain ⟨ys2, hy2, _⟩ := hS2.lst
  have b2 : But st H _ := Same.but s2
  show if inV (kS k) [.str "get", .str "size", .str "first", .str "rest"] = true then _ else _
  rw [in_4]
  refine ite2 (fun z2 => ?_) (fun z2 => ?_)
  · have z2' := of_decide_eq_true z2
    have hlt := tok_lt g hk (by rcases z2' with z | z | z | z <;> rw [z] <;> decide)
    obtain ⟨k2, hk2⟩ := kds_at (ts := ts) (i := i + 1) (by omega)
    have ee : ((i : Nat) : Int) + 1 = ((i + 1 : Nat) : Int) := by omega
    have eo := eat_at g hk2 (w := .lp) (by unfold Kd.wd; decide)
    refine ⟨_, rfl, _, _, rfl, rfl, _, rfl, _, rfl, ak, ts, i + 1, k2, .lp, (by show [V.ref ak, V.int (((i : Nat) : Int) + 1), kS .lp] = _; rw [ee]), hT2, hk2, fun zk => ?_, fun zk => ?_⟩
    · rw [if_pos zk] at eo
      have hlt2 := tok_lt g hk2 (by rw [zk]; decide)
      refine ⟨_, rfl, _, rfl, _, rfl, _, _, rfl, rfl, _, rfl, ak, ts, i + 1 + 1, d + 1, st, S, rfl, hT2, g, hts, by omega, by omega, hS2, hne, by omega, fun hn H' sm => ?_, fun x j hj he hjl H' sm hS3 => ?_⟩
      · refine qE ?_ H' (b2.trans sm)
        rcases z2' with z | z | z | z
        · rw [p3 (.inl z), eo, Option.bind_some, hn]; rfl
        · rw [p3 (.inr z), eo, Option.bind_some, hn]; rfl
        · rw [p4 (.inl z), eo, Option.bind_some, hn]; rfl
        · rw [p4 (.inr z), eo, Option.bind_some, hn]; rfl
      · have b3 := b2.trans sm
        have hT3 := hT2.but hne hy2 sm
        refine ⟨_, rfl, two, fun q3 hq3 => ⟨q3, _, rfl, .inr (SqT.of upd_same), rfl, rfl, _, rfl, ?_⟩⟩
        have s4 := same_new hq3 (.tup [.str "first", .str "rest"])
        have b4 := b3.trans (Same.but s4)
        have hT4 := hT3.same s4
        have hS4 := hS3.same s4
        obtain ⟨ys4, hy4, hyl4⟩ := hS4.lst
        rw [List.length_append, comp_len] at hyl4
        show if inV (kS k) [.str "first", .str "rest"] = true then _ else _
        rw [in_fr]
        obtain ⟨k3, hk3⟩ := kds_at (ts := ts) (i := j) hj
        refine ite2 (fun z3 => ?_) (fun z3 => ?_)
        · have z3' := of_decide_eq_true z3
          have ec := eat_at g hk3 (w := .comma) (by unfold Kd.wd; decide)
          rw [p4 z3', eo, Option.bind_some, he, Option.bind_some, ec] at qE qQ
          refine ⟨_, rfl, _, rfl, ak, ts, j, k3, .comma, rfl, hT4, hk3, fun zk3 => ?_, fun zk3 => ?_⟩
          · rw [if_pos zk3, Option.bind_some] at qE qQ
            have hlt3 := tok_lt g hk3 (by rw [zk3]; decide)
            obtain ⟨k4, hk4⟩ := kds_at (ts := ts) (i := j + 1) (by omega)
            obtain ⟨n1, n2⟩ := num_at g hk4
            refine ⟨_, rfl, _, rfl, ak, ts, j + 1, k4, .number, rfl, hT4, hk4, fun zk4 => ?_, fun zk4 => ?_⟩
            · obtain ⟨t, ht, hkt⟩ := n1 zk4
              have hlt4 := tok_lt g hk4 (by rw [zk4]; decide)
              rw [tdrop_cons ht] at qE qQ
              simp only [if_pos hkt] at qE qQ
              obtain ⟨k5, hk5⟩ := kds_at (ts := ts) (i := j + 1 + 1) (by omega)
              have er := eat_at g hk5 (w := .rp) (by unfold Kd.wd; decide)
              rw [er] at qE qQ
              obtain ⟨xs5, r5, e51, e52, ⟨v5, e53, _, e54⟩, _⟩ := hT4.tok ht
              have ev := e54 hkt
              subst ev
              have em : (((j + 1 + 1 : Nat) : Int) - 1) = ((j + 1 : Nat) : Int) := by omega
              refine ⟨_, rfl, .inl ⟨rfl, _, SqL.of hy4⟩, _, rfl, _, rfl, _, rfl, _, _, rfl, rfl, ak, _, _, _, rfl, rfl, SqL.of e51, by rw [em]; exact e52, r5, _, _, _, rfl, rfl, SqT.of e53, atI_nat (j := 1) rfl, two, fun q4 hq4 => ?_⟩
              have s5 := same_new hq4 (.tup [kS k, .int ((number t.text : Nat) : Int)])
              have hy5 := s5 _ _ hy4
              have hS5 := (hS4.same s5).push hy5 (stp_fr z3' upd_same)
              have b5 := b4.trans ((Same.but s5).trans (but_upd (.lst (ys4 ++ [.ref q4]))))
              have hT5 := (hT4.same s5).but hne hy5 (but_upd (.lst (ys4 ++ [.ref q4])))
              refine ⟨st, _, _, rfl, rfl, hy5, by rw [hyl4]; exact small_len (by omega), ?_⟩
              refine ⟨_, rfl, _, rfl, ak, ts, j + 1 + 1, k5, .rp, rfl, hT5, hk5, fun zk5 => ?_, fun zk5 => ?_⟩
              · rw [if_pos zk5, Option.bind_some] at qQ
                have hlt5 := tok_lt g hk5 (by rw [zk5]; decide)
                obtain ⟨cf1, cf2⟩ := comp_fr k x (number t.text) S.length
                exact qQ _ (j + 1 + 1 + 1) (by omega) rfl (by rw [cf2]; omega) _ b5 (by rw [cf1, ← List.append_assoc]; exact hS5)
              · rw [if_neg zk5] at qE
                exact qE rfl _ b5
            · refine qE ?_ _ b4
              by_cases hjl' : j + 1 < ts.length
              · have ht : ts[j + 1]? = some ts[j + 1] := List.getElem?_eq_getElem hjl'
                rw [tdrop_cons ht]
                simp only [if_neg (n2 zk4 _ ht)]
              · rw [List.drop_eq_nil_of_le (by omega)]
          · rw [if_neg zk3] at qE
            exact qE rfl _ b4
        · have z3' : ¬ (k = .kfirst ∨ k = .krest) := of_decide_eq_false (Bool.eq_false_iff.mpr z3)
          have er := eat_at g hk3 (w := .rp) (by unfold Kd.wd; decide)
          have hgs : k = .kget ∨ k = .ksize := by
            rcases z2' with z | z | z | z
            · exact .inl z
            · exact .inr z
            · exact absurd (.inl z) z3'
            · exact absurd (.inr z) z3'
          rw [p3 hgs, eo, Option.bind_some, he, Option.bind_some, er] at qE qQ
          refine ⟨_, rfl, two, fun q5 hq5 => ⟨q5, _, rfl, .inr (SqT.of upd_same), rfl, rfl, _, rfl, ?_⟩⟩
          have s6 := same_new hq5 (.tup [.str "get", .str "size"])
          have hT6 := hT4.same s6
          have hS6 := hS4.same s6
          have hy6 := s6 _ _ hy4
          have b6 := b4.trans (Same.but s6)
          show if inV (kS k) [.str "get", .str "size"] = true then _ else _
          rw [in_gs, decide_eq_true hgs]
          refine iteT ⟨_, rfl, .inl ⟨rfl, _, SqL.of hy6⟩, _, rfl, two, fun q4 hq4 => ?_⟩
          have s5 := same_new hq4 (.tup [kS k, .non])
          have hy5 := s5 _ _ hy6
          have hS5 := (hS6.same s5).push hy5 (stp_gs hgs upd_same)
          have b5 := b6.trans ((Same.but s5).trans (but_upd (.lst (ys4 ++ [.ref q4]))))
          have hT5 := (hT6.same s5).but hne hy5 (but_upd (.lst (ys4 ++ [.ref q4])))
          refine ⟨st, _, _, rfl, rfl, hy5, by rw [hyl4]; exact small_len (by omega), ?_⟩
          refine ⟨_, rfl, _, rfl, ak, ts, j, k3, .rp, rfl, hT5, hk3, fun zk3 => ?_, fun zk3 => ?_⟩
          · rw [if_pos zk3, Option.bind_some] at qQ
            have hlt3 := tok_lt g hk3 (by rw [zk3]; decide)
            obtain ⟨cf1, cf2⟩ := comp_gs k x S.length
            exact qQ _ (j + 1) (by omega) rfl (by rw [cf2]; omega) _ b5 (by rw [cf1, ← List.append_assoc]; exact hS5)
          · rw [if_neg zk3] at qE
            exact qE rfl _ b5
    · rw [if_neg zk] at eo
      refine qE ?_ _ b2
      rcases z2' with z | z | z | z
      · rw [p3 (.inl z), eo]; rfl
      · rw [p3 (.inr z), eo]; rfl
      · rw [p4 (.inl z), eo]; rfl
      · rw [p4 (.inr z), eo]; rfl
  · have z2' : ¬ (k = .kget ∨ k = .ksize ∨ k = .kfirst ∨ k = .krest) := of_decide_eq_false (Bool.eq_false_iff.mpr z2)
    refine ⟨_, rfl, _, rfl, ak, ts, i, k, .lp, rfl, hT2, hk, fun zk => ?_, fun zk => ?_⟩
    · have hlt := tok_lt g hk (by rw [zk]; decide)
      rw [p2 zk] at qE qQ
      refine ⟨_, rfl, _, rfl, _, rfl, _, _, rfl, rfl, _, rfl, ak, ts, i + 1, d + 1, st, S, rfl, hT2, g, hts, by omega, by omega, hS2, hne, by omega, fun hn H' sm => ?_, fun x j hj he hjl H' sm hS3 => ?_⟩
      · rw [hn] at qE
        exact qE rfl H' (b2.trans sm)
      · have b3 := b2.trans sm
        have hT3 := hT2.but hne hy2 sm
        refine ⟨_, rfl, two, fun q3 hq3 => ⟨q3, _, rfl, .inr (SqT.of upd_same), rfl, rfl, _, rfl, ?_⟩⟩
        have s4 := same_new hq3 (.tup [.str "first", .str "rest"])
        have b4 := b3.trans (Same.but s4)
        have hT4 := hT3.same s4
        have hS4 := hS3.same s4
        show if inV (kS k) [.str "first", .str "rest"] = true then _ else _
        rw [in_fr, decide_eq_false (fun z => z2' (z.elim (fun z => .inr (.inr (.inl z))) (fun z => .inr (.inr (.inr z)))))]
        obtain ⟨k3, hk3⟩ := kds_at (ts := ts) (i := j) hj
        have er := eat_at g hk3 (w := .rp) (by unfold Kd.wd; decide)
        rw [he, Option.bind_some, er] at qE qQ
        refine iteF ⟨_, rfl, two, fun q5 hq5 => ⟨q5, _, rfl, .inr (SqT.of upd_same), rfl, rfl, _, rfl, ?_⟩⟩
        have s6 := same_new hq5 (.tup [.str "get", .str "size"])
        have hT6 := hT4.same s6
        have hS6 := hS4.same s6
        have b6 := b4.trans (Same.but s6)
        show if inV (kS k) [.str "get", .str "size"] = true then _ else _
        rw [in_gs, decide_eq_false (fun z => z2' (z.elim (fun z => .inl z) (fun z => .inr (.inl z))))]
        refine iteF ⟨_, rfl, _, rfl, ak, ts, j, k3, .rp, rfl, hT6, hk3, fun zk3 => ?_, fun zk3 => ?_⟩
        · rw [if_pos zk3, Option.bind_some] at qQ
          have hlt3 := tok_lt g hk3 (by rw [zk3]; decide)
          exact qQ _ (j + 1) (by omega) rfl (by show i + clen x ≤ j + 1; omega) _ b6 hS6
        · rw [if_neg zk3] at qE
          exact qE rfl _ b6
    · exact qE (p5 (fun z => z1' (.inl z)) (fun z => z1' (.inr z)) zk (fun z => z2' (.inl z)) (fun z => z2' (.inr (.inl z))) (fun z => z2' (.inr (.inr (.inl z)))) (fun z => z2' (.inr (.inr (.inr z))))) _ b2
end
end Ru

set_option Elab.async false
set_option linter.all false
set_option maxRecDepth 100000
namespace Ru
open PySem L2 RM Kp176
section
variable {P : Program} {w : World} {K : PySem.W.Frag} {mg : Str → Option Value} {base : Heap} {f : Addr} {fd : FuncData} {CS : Addr}
variable {f1 f2 f3 f4 f5 : Addr} {d1 d2 d3 d4 d5 : FuncData}

theorem drop_pos {ts : List Kp176.Tok} {i j : Nat} {n : Nat} (hi : i ≤ ts.length) (hj : j ≤ ts.length) (h : Suf n (ts.drop i) (ts.drop j)) : i + n ≤ j := by
  have := h.len
  rw [List.length_drop, List.length_drop] at this
  omega

theorem scJoin : FnScope ps4 ps4 (defScope sJoin) := ⟨rfl, rfl, rfl, by decide +kernel, rfl, by decide +kernel, by decide +kernel⟩
set_option maxHeartbeats 1000000 in
theorem ok_join {n : Nat} (F : Fun K "behind_join" "behind_join" sJoin f fd) (G : FnOk P w K mg base (CXE P w) (4 * n + 3) f1 d1 ps4 (spP CS PA (n + 1))) (c1 : Callee K mg "behind_part" ps4 f1 d1) :
    FnOk P w K mg base (CXE P w) (4 * n + 4) f fd ps4 (spP CS JO (n + 1)) := by
  refine F.okE scJoin p_len (fun cdv A outer s H vs Q E hr h => ?_)
  obtain ⟨ak, ts, i, d, st, S, rfl, hT, g, hts, hi, hd, hSs, hne, hSl, qE, qQ⟩ := h
  refine ⟨_, pss_cons (ps_set (i := 1) scJoin.nd rfl (Or.inl rfl) (pe_call G hr rfl c1.mg c1.kp c1.bd .nil (pass_on (fun _ _ _ z => z)) (pa_cons (pv 0) (pa_cons (pv 1) (pa_cons (pv 2) (pa_cons (pv 3) pa_nil))))))
    (pss_cons (ps_while own_out (pt_cmpR op_eq (pe_ix ix_tup (pe_ix ix_list (pv 0) (pv 1) (fun _ _ => rfl)) pe_int (fun _ _ => rfl)) pe_str (nomark _))
      (pss_cons (ps_set (i := 1) scJoin.nd rfl (Or.inl rfl) (pe_call G hr rfl c1.mg c1.kp c1.bd .nil (pass_on (fun _ _ _ z => z)) (pa_cons (pv 0) (pa_cons (pe_op op_add (pv 1) pe_int) (pa_cons (pv 2) (pa_cons (pv 3) pa_nil))))))
        (pss_one (ps_expr (pe_bm PySem.F.plainAttrs_list PySem.F.slot_list_append PySem.F.type_list_append mt_append (pv 3) (pa_cons (pe_tup (pa_cons pe_str (pa_cons pe_non pa_nil))) pa_nil))))))
    (pss_one (ps_ret (pv 1)))), ?_⟩
  have two : 2 ≤ sizeLine := by decide
  rw [JO_eq] at qE qQ
  obtain ⟨ys0, hy0, _⟩ := hSs.lst
  refine ⟨_, rfl, _, rfl, _, rfl, _, rfl, ak, ts, i, d, st, S, rfl, hT, g, hts, hi, hd, hSs, hne, hSl, fun hn H' sm => ?_, fun x j hj he hjl H' sm hS1 => ?_⟩
  · rw [hn] at qE
    exact qE rfl H' sm
  rw [he, Option.bind_some] at qE qQ
  refine ⟨fun m σ H'' => ∃ (j' : Nat) (a : Kp176.F), j' + m = ts.length ∧ σ = [some (.ref ak), some (.int ((j' : Nat) : Int)), some (.int ((d : Nat) : Int)), some (.ref st)] ∧ But st H H'' ∧ SsAt H'' st (S ++ comp a S.length) ∧ i + clen a ≤ j' ∧ MO d a (ts.drop j') = MO d x (ts.drop j),
    ⟨ts.length - j, j, x, by omega, rfl, sm, hS1, hjl, rfl⟩, ?_⟩
  rintro m σ H'' ⟨j', a, hm, rfl, sm', hS', hl', hM⟩
  have hT' := hT.but hne hy0 sm'
  obtain ⟨ys', hy', hyl'⟩ := hS'.lst
  obtain ⟨k, hk⟩ := kds_at (ts := ts) (i := j') (by omega)
  have ea := eat_at g hk (w := .amp) (by unfold Kd.wd; decide)
  have hM2 := hM
  rw [MO_eq] at hM2
  have ea' : eat "&" (ts.drop j') = if k = .amp then some (ts.drop (j' + 1)) else none := ea
  rw [ea'] at hM2
  obtain ⟨xs, r, v, h1, h2, h3⟩ := hT'.kd hk
  refine ⟨_, rfl, _, rfl, ak, _, _, _, rfl, rfl, SqL.of h1, h2, r, _, _, _, rfl, rfl, SqT.of h3, atI_nat (j := 0) rfl, rfl, _, rfl, ?_⟩
  show if decide (kS k = kS .amp) = true then _ else _
  rw [dec_kS]
  by_cases z : k = .amp
  · rw [decide_eq_true z]
    rw [if_pos z] at hM2
    have hlt := tok_lt g hk (by rw [z]; decide)
    refine iteT ⟨fun σ' H3 => ∃ m', m' < m ∧ ∃ (j' : Nat) (a : Kp176.F), j' + m' = ts.length ∧ σ' = [some (.ref ak), some (.int ((j' : Nat) : Int)), some (.int ((d : Nat) : Int)), some (.ref st)] ∧ But st H H3 ∧ SsAt H3 st (S ++ comp a S.length) ∧ i + clen a ≤ j' ∧ MO d a (ts.drop j') = MO d x (ts.drop j), fun _ _ z => z, ?_⟩
    have ee : ((j' : Nat) : Int) + 1 = ((j' + 1 : Nat) : Int) := by omega
    have la : (S ++ comp a S.length).length = S.length + clen a := by rw [List.length_append, comp_len]
    refine ⟨_, rfl, _, rfl, _, _, rfl, rfl, _, rfl, _, rfl, ak, ts, j' + 1, d, st, S ++ comp a S.length, (by show [V.ref ak, V.int (((j' : Nat) : Int) + 1), V.int ((d : Nat) : Int), V.ref st] = _; rw [ee]), hT', g, hts, by omega, hd, hS', hne, by rw [la]; omega, fun hn H3 s3 => ?_, fun y jn hjn hen hjl2 H3 s3 hS3 => ?_⟩
    · simp only [hn, Option.bind_none] at hM2
      rw [← hM2] at qE
      exact qE rfl H3 (sm'.trans s3)
    · have hpos := drop_pos (i := j' + 1) (by omega) hjn (PA_suf hen)
      simp only [hen, Option.bind_some] at hM2
      rw [la] at hS3
      obtain ⟨ys3, hy3, hyl3⟩ := hS3.lst
      rw [List.length_append, la, comp_len] at hyl3
      refine ⟨_, rfl, .inl ⟨rfl, _, SqL.of hy3⟩, two, fun q4 hq4 => ?_⟩
      have s5 := same_new hq4 (.tup [.str "&", .non])
      have hy5 := s5 _ _ hy3
      have hS5 := (hS3.same s5).push (s := .amp) hy5 (show StpAt _ q4 .amp from upd_same)
      refine ⟨st, _, _, rfl, rfl, hy5, by rw [hyl3]; exact small_len (by omega), ?_⟩
      refine ⟨ts.length - jn, by omega, jn, .both a y, by omega, rfl, sm'.trans (s3.trans ((Same.but s5).trans (but_upd _))), ?_, by simp only [clen]; omega, hM2⟩
      have e : S ++ comp (.both a y) S.length = S ++ comp a S.length ++ comp y (S.length + clen a) ++ [.amp] := by simp only [comp, List.append_assoc]
      rw [e]; exact hS5
  · rw [decide_eq_false z]
    rw [if_neg z] at hM2
    refine iteF ⟨_, rfl, ?_⟩
    rw [← hM2] at qQ
    exact qQ a j' (by omega) rfl hl' H'' sm' hS'

abbrev nChoice : List Str := ["tokens", "at", "depth", "steps", "differ", "go"]
theorem scChoice : FnScope nChoice ps4 (defScope sChoice) := ⟨rfl, rfl, rfl, by decide +kernel, rfl, by decide +kernel, by decide +kernel⟩
def chF (d : Nat) (ts : List Kp176.Tok) : Option (Kp176.F × List Kp176.Tok) := (JO d (ts.drop 1)).bind fun a => (eat "=" a.2).bind fun q => (JO d q).bind fun b =>
    (eat "then" b.2).bind fun t => (FO (d + 1) t).bind fun x => (eat "else" x.2).bind fun u => (FO (d + 1) u).bind fun y => some (.ite a.1 b.1 x.1 y.1, y.2)
def spCh (CS : Addr) (n : Nat) : Sp := fun vs H Q E => ∃ (ak : Addr) (ts : List Kp176.Tok) (i d : Nat) (st : Addr) (S : List Stp), vs = [.ref ak, .int ((i : Nat) : Int), .int ((d : Nat) : Int), .ref st] ∧
  TkAt H ak ts ∧ Good ts ∧ ts.length ≤ 4096 ∧ (kds ts)[i]? = some .kif ∧ i ≤ ts.length ∧ d + (n + 1) = 33 ∧ SsAt H st S ∧ ak ≠ st ∧ S.length ≤ i ∧ (chF d (ts.drop i) = none → ∀ H', But st H H' → E (.ref CS) none H') ∧
  (∀ x j, j ≤ ts.length → chF d (ts.drop i) = some (x, ts.drop j) → i + clen x ≤ j → ∀ H', But st H H' → SsAt H' st (S ++ comp x S.length) → Q (.int ((j : Nat) : Int)) H')
theorem paired_set {α β : Type} {R : α → β → Prop} : ∀ {xs : List α} {ys : List β} {i : Nat} {x : α} {y : β}, Paired R xs ys → R x y → Paired R (xs.set i x) (ys.set i y)
  | _, _, _, _, _, .nil, _ => .nil
  | _, _, 0, _, _, .cons _ t, h => .cons h t
  | _, _, i + 1, _, _, .cons a t, h => .cons a (paired_set t h)
theorem SsAt.set {H : Hp} {st r : Addr} {S : List Stp} {s : Stp} {xs : List V} {i : Nat} (h : SsAt H st S) (hx : H st = some (.lst xs)) (hr : StpAt H r s) : SsAt (upd H st (.lst (xs.set i (.ref r)))) st (S.set i s) := by
  obtain ⟨rs, h1, h2⟩ := h
  rw [h1] at hx; cases hx
  have tk := tups_lst h1 (.lst ((rs.map V.ref).set i (.ref r)))
  exact ⟨rs.set i r, by rw [upd_same, List.map_set], paired_set (Paired.mapP h2 fun _ _ z => z.tups tk) (hr.tups tk)⟩
theorem ixN_of {n i : Nat} (h : i < n) : ixN n ((i : Nat) : Int) = some i := by
  unfold ixN
  rw [if_pos (by omega), if_pos (by omega)]
  simp
theorem set_mid {α : Type} (l r : List α) (h v : α) : (l ++ h :: r).set l.length v = l ++ v :: r := by
  rw [List.set_append_right _ _ (Nat.le_refl _), Nat.sub_self]; rfl

set_option maxHeartbeats 4000000 in
theorem ok_choice {n : Nat} (ln : mg "len" = none) (F : Fun K "behind_choice" "behind_choice" sChoice f fd) (G1 : FnOk P w K mg base (CXE P w) 1 f1 d1 psBK (spBK CS)) (c1 : Callee K mg "behind_kind" psBK f1 d1)
    (G2 : FnOk P w K mg base (CXE P w) (4 * n + 2) f2 d2 ps4 (spP CS FO n)) (c2 : Callee K mg "behind_formula" ps4 f2 d2)
    (G3 : FnOk P w K mg base (CXE P w) (4 * n + 4) f3 d3 ps4 (spP CS JO (n + 1))) (c3 : Callee K mg "behind_join" ps4 f3 d3) :
    FnOk P w K mg base (CXE P w) (4 * n + 5) f fd ps4 (spCh CS n) := by
  refine F.okE scChoice (fun vs H Q E ⟨_, _, _, _, _, _, h, _⟩ => by rw [h]; rfl) (fun cdv A outer s H vs Q E hr h => ?_)
  obtain ⟨ak, ts, i, d, st, S, rfl, hT, g, hts, hk, hi, hd, hSs, hne, hSl, qE, qQ⟩ := h
  have hr1 : Room 1 (A.deeper (PyProof.Rows.envOfC "behind_choice" (defScope sChoice) s.heap.objs.size f cdv)) := hr.mono (by omega)
  have hr2 : Room (4 * n + 2) (A.deeper (PyProof.Rows.envOfC "behind_choice" (defScope sChoice) s.heap.objs.size f cdv)) := hr.mono (by omega)
  refine ⟨_, pss_cons (ps_set (i := 1) scChoice.nd rfl (Or.inl rfl) (pe_call G1 hr1 rfl c1.mg c1.kp c1.bd .nil (pass_on (fun _ _ _ z => z)) (pa_cons (pv 0) (pa_cons (pv 1) (pa_cons pe_str pa_nil)))))
    (pss_cons (ps_set (i := 1) scChoice.nd rfl (Or.inl rfl) (pe_call G3 hr rfl c3.mg c3.kp c3.bd .nil (pass_on (fun _ _ _ z => z)) (pa_cons (pv 0) (pa_cons (pv 1) (pa_cons (pv 2) (pa_cons (pv 3) pa_nil))))))
    (pss_cons (ps_set (i := 1) scChoice.nd rfl (Or.inl rfl) (pe_call G1 hr1 rfl c1.mg c1.kp c1.bd .nil (pass_on (fun _ _ _ z => z)) (pa_cons (pv 0) (pa_cons (pv 1) (pa_cons pe_str pa_nil)))))
    (pss_cons (ps_set (i := 1) scChoice.nd rfl (Or.inl rfl) (pe_call G3 hr rfl c3.mg c3.kp c3.bd .nil (pass_on (fun _ _ _ z => z)) (pa_cons (pv 0) (pa_cons (pv 1) (pa_cons (pv 2) (pa_cons (pv 3) pa_nil))))))
    (pss_cons (ps_set (i := 1) scChoice.nd rfl (Or.inl rfl) (pe_call G1 hr1 rfl c1.mg c1.kp c1.bd .nil (pass_on (fun _ _ _ z => z)) (pa_cons (pv 0) (pa_cons (pv 1) (pa_cons pe_str pa_nil)))))
    (pss_cons (ps_set (i := 4) scChoice.nd rfl (Or.inl rfl) (pe_callB call_len_seq rfl ln PySem.boot_len (pa_cons (pv 3) pa_nil)))
    (pss_cons (ps_expr (pe_bm PySem.F.plainAttrs_list PySem.F.slot_list_append PySem.F.type_list_append mt_append (pv 3) (pa_cons (pe_tup (pa_cons pe_str (pa_cons pe_non pa_nil))) pa_nil)))
    (pss_cons (ps_set (i := 1) scChoice.nd rfl (Or.inl rfl) (pe_call G2 hr2 rfl c2.mg c2.kp c2.bd .nil (pass_on (fun _ _ _ z => z)) (pa_cons (pv 0) (pa_cons (pv 1) (pa_cons (pe_op op_add (pv 2) pe_int) (pa_cons (pv 3) pa_nil))))))
    (pss_cons (ps_set (i := 5) scChoice.nd rfl (Or.inl rfl) (pe_callB call_len_seq rfl ln PySem.boot_len (pa_cons (pv 3) pa_nil)))
    (pss_cons (ps_expr (pe_bm PySem.F.plainAttrs_list PySem.F.slot_list_append PySem.F.type_list_append mt_append (pv 3) (pa_cons (pe_tup (pa_cons pe_str (pa_cons pe_non pa_nil))) pa_nil)))
    (pss_cons (ps_asg (pe_tup (pa_cons pe_str (pa_cons (pe_callB call_len_seq rfl ln PySem.boot_len (pa_cons (pv 3) pa_nil)) pa_nil))) (pg_sub (pv 3) (pv 4) set_list))
    (pss_cons (ps_set (i := 1) scChoice.nd rfl (Or.inl rfl) (pe_call G1 hr1 rfl c1.mg c1.kp c1.bd .nil (pass_on (fun _ _ _ z => z)) (pa_cons (pv 0) (pa_cons (pv 1) (pa_cons pe_str pa_nil)))))
    (pss_cons (ps_set (i := 1) scChoice.nd rfl (Or.inl rfl) (pe_call G2 hr2 rfl c2.mg c2.kp c2.bd .nil (pass_on (fun _ _ _ z => z)) (pa_cons (pv 0) (pa_cons (pv 1) (pa_cons (pe_op op_add (pv 2) pe_int) (pa_cons (pv 3) pa_nil))))))
    (pss_cons (ps_asg (pe_tup (pa_cons pe_str (pa_cons (pe_callB call_len_seq rfl ln PySem.boot_len (pa_cons (pv 3) pa_nil)) pa_nil))) (pg_sub (pv 3) (pv 5) set_list))
    (pss_one (ps_ret (pv 1)))))))))))))))), ?_⟩
  have two : 2 ≤ sizeLine := by decide
  have hlt := tok_lt g hk (by decide)
  obtain ⟨ys0, hy0, _⟩ := hSs.lst
  unfold chF at qE qQ
  rw [List.drop_drop] at qE qQ
  refine ⟨_, rfl, _, rfl, ak, ts, i, .kif, .kif, rfl, hT, hk, fun _ => ?_, fun z => absurd rfl z⟩
  refine ⟨_, rfl, _, rfl, _, rfl, _, rfl, ak, ts, i + 1, d, st, S, rfl, hT, g, hts, by omega, hd, hSs, hne, by omega, fun hn H' sm => ?_, fun xa j1 hj1 h1 hl1 H1 b1 hS1 => ?_⟩
  · rw [hn] at qE; exact qE rfl H' sm
  rw [h1, Option.bind_some] at qE qQ
  have hT1 := hT.but hne hy0 b1
  obtain ⟨ys1, hy1, _⟩ := hS1.lst
  obtain ⟨k1, hk1⟩ := kds_at (ts := ts) (i := j1) hj1
  have e1 : eat "=" (ts.drop j1) = _ := eat_at g hk1 (w := .eq) (by unfold Kd.wd; decide)
  rw [e1] at qE qQ
  refine ⟨_, rfl, _, rfl, ak, ts, j1, k1, .eq, rfl, hT1, hk1, fun z1 => ?_, fun z1 => ?_⟩
  case refine_2 => rw [if_neg z1] at qE; exact qE rfl H1 b1
  rw [if_pos z1, Option.bind_some] at qE qQ
  have l1 := tok_lt g hk1 (by rw [z1]; decide)
  have la : (S ++ comp xa S.length).length = S.length + clen xa := by rw [List.length_append, comp_len]
  refine ⟨_, rfl, _, rfl, _, rfl, _, rfl, ak, ts, j1 + 1, d, st, _, rfl, hT1, g, hts, by omega, hd, hS1, hne, by rw [la]; omega, fun hn H' sm => ?_, fun xb j2 hj2 h2 hl2 H2 b2' hS2 => ?_⟩
  · rw [hn] at qE; exact qE rfl H' (b1.trans sm)
  rw [h2, Option.bind_some] at qE qQ
  rw [la] at hS2
  have b2 := b1.trans b2'
  have hT2 := hT1.but hne hy1 b2'
  obtain ⟨ys2, hy2, hyl2⟩ := hS2.lst
  have lb : (S ++ comp xa S.length ++ comp xb (S.length + clen xa)).length = S.length + clen xa + clen xb := by rw [List.length_append, la, comp_len]
  rw [lb] at hyl2
  obtain ⟨k2, hk2⟩ := kds_at (ts := ts) (i := j2) hj2
  have e2 : eat "then" (ts.drop j2) = _ := eat_at g hk2 (w := .kthen) (by unfold Kd.wd; decide)
  rw [e2] at qE qQ
  refine ⟨_, rfl, _, rfl, ak, ts, j2, k2, .kthen, rfl, hT2, hk2, fun z2 => ?_, fun z2 => ?_⟩
  case refine_2 => rw [if_neg z2] at qE; exact qE rfl H2 b2
  rw [if_pos z2, Option.bind_some] at qE qQ
  have l2 := tok_lt g hk2 (by rw [z2]; decide)
  -- differ = len(steps); the hole
  refine ⟨_, rfl, st, _, rfl, .inl (SqL.of hy2), ?_⟩
  rw [hyl2]
  refine ⟨_, rfl, .inl ⟨rfl, _, SqL.of hy2⟩, two, fun q1 hq1 => ?_⟩
  have s3 := same_new hq1 (.tup [.str "differ", .non])
  have hy3 := s3 _ _ hy2
  have hS3 := (hS2.same s3).push (s := .dh) hy3 (show StpAt _ q1 .dh from upd_same)
  have b3 := b2.trans ((Same.but s3).trans (but_upd (.lst (ys2 ++ [.ref q1]))))
  have hT3 := (hT2.same s3).but hne hy3 (but_upd (.lst (ys2 ++ [.ref q1])))
  refine ⟨st, _, _, rfl, rfl, hy3, by rw [hyl2]; exact small_len (by omega), ?_⟩
  generalize hHH3 : upd (upd H2 q1 (.tup [.str "differ", .non])) st (.lst (ys2 ++ [.ref q1])) = H3 at hS3 b3 hT3 ⊢
  obtain ⟨ys3, hy3', hyl3⟩ := hS3.lst
  have lc : (S ++ comp xa S.length ++ comp xb (S.length + clen xa) ++ [Stp.dh]).length = S.length + clen xa + clen xb + 1 := by rw [List.length_append, lb]; rfl
  refine ⟨_, rfl, _, rfl, _, rfl, _, _, rfl, rfl, _, rfl, ak, ts, j2 + 1, d + 1, st, _, rfl, hT3, g, hts, by omega, by omega, hS3, hne, by rw [lc]; omega, fun hn H' sm => ?_, fun xc j3 hj3 h3 hl3 H4 b4' hS4 => ?_⟩
  · rw [hn] at qE; exact qE rfl H' (b3.trans sm)
  rw [h3, Option.bind_some] at qE qQ
  rw [lc] at hS4
  have b4 := b3.trans b4'
  have hT4 := hT3.but hne hy3' b4'
  obtain ⟨ys4, hy4, hyl4⟩ := hS4.lst
  rw [List.length_append, lc, comp_len] at hyl4
  -- go = len(steps); the hole; steps[differ] = ..
  refine ⟨_, rfl, st, _, rfl, .inl (SqL.of hy4), ?_⟩
  rw [hyl4]
  refine ⟨_, rfl, .inl ⟨rfl, _, SqL.of hy4⟩, two, fun q2 hq2 => ?_⟩
  have s5 := same_new hq2 (.tup [.str "go", .non])
  have hy5 := s5 _ _ hy4
  have hS5 := (hS4.same s5).push (s := .gh) hy5 (show StpAt _ q2 .gh from upd_same)
  have b5 := b4.trans ((Same.but s5).trans (but_upd (.lst (ys4 ++ [.ref q2]))))
  have hT5 := (hT4.same s5).but hne hy5 (but_upd (.lst (ys4 ++ [.ref q2])))
  refine ⟨st, _, _, rfl, rfl, hy5, by rw [hyl4]; exact small_len (by omega), ?_⟩
  generalize hHH5 : upd (upd H4 q2 (.tup [.str "go", .non])) st (.lst (ys4 ++ [.ref q2])) = H5 at hS5 b5 hT5 ⊢
  obtain ⟨ys5, hy5', hyl5⟩ := hS5.lst
  rw [List.length_append, List.length_append, lc, comp_len] at hyl5
  have hyl5' : ys5.length = S.length + clen xa + clen xb + 1 + clen xc + 1 := hyl5
  refine ⟨_, rfl, st, _, rfl, .inl (SqL.of hy5'), two, fun q3 hq3 => ?_⟩
  rw [hyl5']
  have s6 := same_new hq3 (.tup [.str "differ", .int ((S.length + clen xa + clen xb + 1 + clen xc + 1 : Nat) : Int)])
  have hy6 := s6 _ _ hy5'
  have hS6 := (hS5.same s6).set (s := .differ (S.length + clen xa + clen xb + 1 + clen xc + 1)) (i := S.length + clen xa + clen xb) hy6 (show StpAt _ q3 (.differ _) from upd_same)
  have b6 := b5.trans ((Same.but s6).trans (but_upd (.lst (ys5.set (S.length + clen xa + clen xb) (.ref q3)))))
  have hT6 := (hT5.same s6).but hne hy6 (but_upd (.lst (ys5.set (S.length + clen xa + clen xb) (.ref q3))))
  refine ⟨_, rfl, _, rfl, st, _, _, _, rfl, rfl, hy6, ixN_of (by rw [hyl5']; omega), ?_⟩
  have es6 : (S ++ comp xa S.length ++ comp xb (S.length + clen xa) ++ [Stp.dh] ++ comp xc (S.length + clen xa + clen xb + 1) ++ [Stp.gh]).set (S.length + clen xa + clen xb) (.differ (S.length + clen xa + clen xb + 1 + clen xc + 1)) =
      S ++ comp xa S.length ++ comp xb (S.length + clen xa) ++ (.differ (S.length + clen xa + clen xb + 1 + clen xc + 1) :: (comp xc (S.length + clen xa + clen xb + 1) ++ [Stp.gh])) := by
    have := set_mid (S ++ comp xa S.length ++ comp xb (S.length + clen xa)) (comp xc (S.length + clen xa + clen xb + 1) ++ [Stp.gh]) Stp.dh (.differ (S.length + clen xa + clen xb + 1 + clen xc + 1))
    rw [lb] at this
    rw [← this]
    simp only [List.append_assoc, List.cons_append, List.nil_append]
  rw [es6] at hS6
  generalize hHH6 : upd (upd H5 q3 (.tup [.str "differ", .int ((S.length + clen xa + clen xb + 1 + clen xc + 1 : Nat) : Int)])) st (.lst (ys5.set (S.length + clen xa + clen xb) (.ref q3))) = H6 at hS6 b6 hT6 ⊢
  obtain ⟨ys6, hy6', hyl6⟩ := hS6.lst
  have lg : (S ++ comp xa S.length ++ comp xb (S.length + clen xa) ++ (.differ (S.length + clen xa + clen xb + 1 + clen xc + 1) :: (comp xc (S.length + clen xa + clen xb + 1) ++ [Stp.gh]))).length = S.length + clen xa + clen xb + 1 + clen xc + 1 := by
    rw [List.length_append, lb, List.length_cons, List.length_append, comp_len]; simp only [List.length_cons, List.length_nil]; omega
  obtain ⟨k3, hk3⟩ := kds_at (ts := ts) (i := j3) hj3
  have e3 : eat "else" (ts.drop j3) = _ := eat_at g hk3 (w := .kelse) (by unfold Kd.wd; decide)
  rw [e3] at qE qQ
  refine ⟨_, rfl, _, rfl, ak, ts, j3, k3, .kelse, rfl, hT6, hk3, fun z3 => ?_, fun z3 => ?_⟩
  case refine_2 => rw [if_neg z3] at qE; exact qE rfl H6 b6
  rw [if_pos z3, Option.bind_some] at qE qQ
  have l3 := tok_lt g hk3 (by rw [z3]; decide)
  refine ⟨_, rfl, _, rfl, _, rfl, _, _, rfl, rfl, _, rfl, ak, ts, j3 + 1, d + 1, st, _, rfl, hT6, g, hts, by omega, by omega, hS6, hne, by rw [lg]; omega, fun hn H' sm => ?_, fun xd j4 hj4 h4 hl4 H7 b7' hS7 => ?_⟩
  · rw [hn] at qE; exact qE rfl H' (b6.trans sm)
  rw [h4, Option.bind_some] at qQ
  rw [lg] at hS7
  have b7 := b6.trans b7'
  obtain ⟨ys7, hy7, hyl7⟩ := hS7.lst
  rw [List.length_append, lg, comp_len] at hyl7
  refine ⟨_, rfl, st, _, rfl, .inl (SqL.of hy7), two, fun q4 hq4 => ?_⟩
  rw [hyl7]
  have s8 := same_new hq4 (.tup [.str "go", .int ((S.length + clen xa + clen xb + 1 + clen xc + 1 + clen xd : Nat) : Int)])
  have hy8 := s8 _ _ hy7
  have hS8 := (hS7.same s8).set (s := .go (S.length + clen xa + clen xb + 1 + clen xc + 1 + clen xd)) (i := S.length + clen xa + clen xb + 1 + clen xc) hy8 (show StpAt _ q4 (.go _) from upd_same)
  have b8 := b7.trans ((Same.but s8).trans (but_upd (.lst (ys7.set (S.length + clen xa + clen xb + 1 + clen xc) (.ref q4)))))
  refine ⟨_, rfl, _, rfl, st, _, _, _, rfl, rfl, hy8, ixN_of (by rw [hyl7]; omega), ?_⟩
  refine ⟨_, rfl, ?_⟩
  refine qQ (.ite xa xb xc xd) j4 hj4 rfl (by simp only [clen]; omega) _ b8 ?_
  have es8 : (S ++ comp xa S.length ++ comp xb (S.length + clen xa) ++ (.differ (S.length + clen xa + clen xb + 1 + clen xc + 1) :: (comp xc (S.length + clen xa + clen xb + 1) ++ [Stp.gh])) ++ comp xd (S.length + clen xa + clen xb + 1 + clen xc + 1)).set (S.length + clen xa + clen xb + 1 + clen xc) (.go (S.length + clen xa + clen xb + 1 + clen xc + 1 + clen xd)) =
      S ++ comp (.ite xa xb xc xd) S.length := by
    have lh : (S ++ comp xa S.length ++ comp xb (S.length + clen xa) ++ (.differ (S.length + clen xa + clen xb + 1 + clen xc + 1) :: comp xc (S.length + clen xa + clen xb + 1))).length = S.length + clen xa + clen xb + 1 + clen xc := by
      rw [List.length_append, lb, List.length_cons, comp_len]; omega
    have := set_mid (S ++ comp xa S.length ++ comp xb (S.length + clen xa) ++ (.differ (S.length + clen xa + clen xb + 1 + clen xc + 1) :: comp xc (S.length + clen xa + clen xb + 1))) (comp xd (S.length + clen xa + clen xb + 1 + clen xc + 1)) Stp.gh (.go (S.length + clen xa + clen xb + 1 + clen xc + 1 + clen xd))
    rw [lh] at this
    have e0 : S ++ comp xa S.length ++ comp xb (S.length + clen xa) ++ (.differ (S.length + clen xa + clen xb + 1 + clen xc + 1) :: (comp xc (S.length + clen xa + clen xb + 1) ++ [Stp.gh])) ++ comp xd (S.length + clen xa + clen xb + 1 + clen xc + 1) =
        S ++ comp xa S.length ++ comp xb (S.length + clen xa) ++ (.differ (S.length + clen xa + clen xb + 1 + clen xc + 1) :: comp xc (S.length + clen xa + clen xb + 1)) ++ Stp.gh :: comp xd (S.length + clen xa + clen xb + 1 + clen xc + 1) := by
      simp only [List.append_assoc, List.cons_append, List.nil_append]
    rw [e0, this]
    simp only [comp, List.append_assoc, List.cons_append]
  rw [← es8]; exact hS8

theorem scFormula : FnScope ps4 ps4 (defScope sFormula) := ⟨rfl, rfl, rfl, by decide +kernel, rfl, by decide +kernel, by decide +kernel⟩
theorem ok_formula {n : Nat} (mD : ∃ t, mg "MOST_DEEP" = some (.int 32 t)) (O : NS mg base CS) (F : Fun K "behind_formula" "behind_formula" sFormula f fd)
    (G3 : FnOk P w K mg base (CXE P w) (4 * n + 4) f3 d3 ps4 (spP CS JO (n + 1))) (c3 : Callee K mg "behind_join" ps4 f3 d3)
    (G4 : FnOk P w K mg base (CXE P w) (4 * n + 5) f4 d4 ps4 (spCh CS n)) (c4 : Callee K mg "behind_choice" ps4 f4 d4) :
    FnOk P w K mg base (CXE P w) (4 * (n + 1) + 2) f fd ps4 (spP CS FO (n + 1)) := by
  refine F.okE scFormula p_len (fun cdv A outer s H vs Q E hr h => ?_)
  obtain ⟨ak, ts, i, d, st, S, rfl, hT, g, hts, hi, hd, hSs, hne, hSl, qE, qQ⟩ := h
  refine ⟨_, pss_cons (ps_if (pt_cmpR op_gt (pv 2) (pgi mD) (nomark _)) (pss_one (ps_raise0 PySem.F.excBase_Exception O hr.hd rfl)) pss_nil)
    (pss_cons (ps_if (pt_cmpR op_eq (pe_ix ix_tup (pe_ix ix_list (pv 0) (pv 1) (fun _ _ => rfl)) pe_int (fun _ _ => rfl)) pe_str (nomark _))
      (pss_one (ps_ret (pe_call G4 (hr.mono (by omega)) rfl c4.mg c4.kp c4.bd .nil (pass_on (fun _ _ _ z => z)) (pa_cons (pv 0) (pa_cons (pv 1) (pa_cons (pv 2) (pa_cons (pv 3) pa_nil))))))) pss_nil)
    (pss_one (ps_ret (pe_call G3 (hr.mono (by omega)) rfl c3.mg c3.kp c3.bd .nil (pass_on (fun _ _ _ z => z)) (pa_cons (pv 0) (pa_cons (pv 1) (pa_cons (pv 2) (pa_cons (pv 3) pa_nil)))))))), ?_⟩
  obtain ⟨k, hk⟩ := kds_at hi
  rw [FO_eq, if_neg (by unfold DEEP; omega), show isTok "if" (ts.drop i) = decide (k = .kif) from isTok_at g hk (w := .kif) (by unfold Kd.wd; decide)] at qE qQ
  refine ⟨_, rfl, _, _, rfl, rfl, _, rfl, ite2 (fun z => ?_) (fun z => ?_)⟩
  · have := of_decide_eq_true z
    omega
  obtain ⟨xs, r, v, h1, h2, h3⟩ := hT.kd hk
  refine ⟨_, rfl, _, rfl, ak, _, _, _, rfl, rfl, SqL.of h1, h2, r, _, _, _, rfl, rfl, SqT.of h3, atI_nat (j := 0) rfl, rfl, _, rfl, ?_⟩
  show if decide (kS k = kS .kif) = true then _ else _
  rw [dec_kS]
  by_cases z1 : k = .kif
  · rw [decide_eq_true z1]
    rw [decide_eq_true z1, if_pos rfl] at qE qQ
    exact iteT ⟨_, rfl, _, rfl, _, rfl, _, rfl, ak, ts, i, d, st, S, rfl, hT, g, hts, by rw [← z1]; exact hk, hi, hd, hSs, hne, hSl, qE, qQ⟩
  · rw [decide_eq_false z1]
    rw [decide_eq_false z1, if_neg (by decide)] at qE qQ
    exact iteF ⟨_, rfl, _, rfl, _, rfl, _, rfl, ak, ts, i, d, st, S, rfl, hT, g, hts, hi, hd, hSs, hne, hSl, qE, qQ⟩
theorem ok_formula0 (mD : ∃ t, mg "MOST_DEEP" = some (.int 32 t)) (O : NS mg base CS) (F : Fun K "behind_formula" "behind_formula" sFormula f fd) : FnOk P w K mg base (CXE P w) 1 f fd ps4 (spP CS FO 0) := by
  refine F.okE scFormula p_len (fun cdv A outer s H vs Q E hr h => ?_)
  obtain ⟨ak, ts, i, d, st, S, rfl, hT, g, hts, hi, hd, hSs, hne, hSl, qE, qQ⟩ := h
  refine ⟨_, pss_cons (ps_if (pt_cmpR op_gt (pv 2) (pgi mD) (nomark _)) (pss_one (ps_raise0 PySem.F.excBase_Exception O hr.hd rfl)) pss_nil)
    (pss_cons ps_never (pss_one ps_never)), ?_⟩
  rw [FO_eq, if_pos (by unfold DEEP; omega)] at qE
  refine ⟨_, rfl, _, _, rfl, rfl, _, rfl, ite2 (fun z => ?_) (fun z => ?_)⟩
  · exact qE rfl H (But.refl st H)
  · exact absurd (decide_eq_true (by omega)) z
end
end Ru

set_option Elab.async false
set_option linter.all false
set_option maxRecDepth 100000
namespace Ru
open PySem L2 RM Kp176
def ruF : List Kp176.Tok → Option (Kp176.F × List Kp176.Tok)
  | [] => none
  | t :: r => if t.kind = 0 then (eat "=" r).bind fun q => (FO 1 q).bind fun e => (eat ";" e.2).bind fun z => some (e.1, z) else none
theorem ruF_cons (t : Kp176.Tok) (r : List Kp176.Tok) : ruF (t :: r) = if t.kind = 0 then (eat "=" r).bind fun q => (FO 1 q).bind fun e => (eat ";" e.2).bind fun z => some (e.1, z) else none := rfl
theorem RU_ruF (t : Kp176.Tok) (r : List Kp176.Tok) : RU (t :: r) = (ruF (t :: r)).bind fun p => (RU p.2).bind fun l => some ((t.text, p.1) :: l) := by
  rw [RU_cons]
  have e0 : ruF (t :: r) = if t.kind = 0 then (eat "=" r).bind fun q => (FO 1 q).bind fun e => (eat ";" e.2).bind fun z => some (e.1, z) else none := rfl
  rw [e0]
  by_cases k : t.kind = 0
  · rw [if_pos k, if_pos k]
    cases eat "=" r with
    | none => rfl
    | some q =>
      rw [Option.bind_some, Option.bind_some]
      cases FO 1 q with
      | none => rfl
      | some e =>
        rw [Option.bind_some, Option.bind_some]
        cases eat ";" e.2 with
        | none => rfl
        | some z => rfl
  · rw [if_neg k, if_neg k]; rfl
section
variable {P : Program} {w : World} {K : PySem.W.Frag} {mg : Str → Option Value} {base : Heap} {f : Addr} {fd : FuncData} {CS : Addr}
variable {f1 f2 f3 f4 f5 : Addr} {d1 d2 d3 d4 d5 : FuncData}

abbrev psRule : List Str := ["tokens", "at", "steps"]
def spRule (CS : Addr) : Sp := fun vs H Q E => ∃ (ak : Addr) (ts : List Kp176.Tok) (i : Nat) (st : Addr), vs = [.ref ak, .int ((i : Nat) : Int), .ref st] ∧
  TkAt H ak ts ∧ Good ts ∧ ts.length ≤ 4096 ∧ i ≤ ts.length ∧ SsAt H st [] ∧ ak ≠ st ∧ (ruF (ts.drop i) = none → ∀ H', But st H H' → E (.ref CS) none H') ∧
  (∀ t x j, ts[i]? = some t → t.kind = 0 → j ≤ ts.length → ruF (ts.drop i) = some (x, ts.drop j) → i + clen x + 1 ≤ j → ∀ H', But st H H' → SsAt H' st (prog x) → Q (.int ((j : Nat) : Int)) H')
theorem scRule : FnScope psRule psRule (defScope sRule) := ⟨rfl, rfl, rfl, by decide +kernel, rfl, by decide +kernel, by decide +kernel⟩
set_option maxHeartbeats 1000000 in
theorem ok_rule (F : Fun K "behind_rule" "behind_rule" sRule f fd) (G1 : FnOk P w K mg base (CXE P w) 1 f1 d1 psBK (spBK CS)) (c1 : Callee K mg "behind_kind" psBK f1 d1)
    (G2 : FnOk P w K mg base (CXE P w) 130 f2 d2 ps4 (spP CS FO 32)) (c2 : Callee K mg "behind_formula" ps4 f2 d2) : FnOk P w K mg base (CXE P w) 131 f fd psRule (spRule CS) := by
  refine F.okE scRule (fun vs H Q E ⟨_, _, _, _, h, _⟩ => by rw [h]; rfl) (fun cdv A outer s H vs Q E hr h => ?_)
  obtain ⟨ak, ts, i, st, rfl, hT, g, hts, hi, hSs, hne, qE, qQ⟩ := h
  have hr1 : Room 1 (A.deeper (PyProof.Rows.envOfC "behind_rule" (defScope sRule) s.heap.objs.size f cdv)) := hr.mono (by decide)
  refine ⟨_, pss_cons (ps_set (i := 1) scRule.nd rfl (Or.inl rfl) (pe_call G1 hr1 rfl c1.mg c1.kp c1.bd .nil (pass_on (fun _ _ _ z => z)) (pa_cons (pv 0) (pa_cons (pv 1) (pa_cons pe_str pa_nil)))))
    (pss_cons (ps_set (i := 1) scRule.nd rfl (Or.inl rfl) (pe_call G1 hr1 rfl c1.mg c1.kp c1.bd .nil (pass_on (fun _ _ _ z => z)) (pa_cons (pv 0) (pa_cons (pv 1) (pa_cons pe_str pa_nil)))))
    (pss_cons (ps_set (i := 1) scRule.nd rfl (Or.inl rfl) (pe_call G2 hr rfl c2.mg c2.kp c2.bd .nil (pass_on (fun _ _ _ z => z)) (pa_cons (pv 0) (pa_cons (pv 1) (pa_cons pe_int (pa_cons (pv 2) pa_nil))))))
    (pss_cons (ps_expr (pe_bm PySem.F.plainAttrs_list PySem.F.slot_list_append PySem.F.type_list_append mt_append (pv 2) (pa_cons (pe_tup (pa_cons pe_str (pa_cons pe_non pa_nil))) pa_nil)))
    (pss_one (ps_ret (pe_call G1 hr1 rfl c1.mg c1.kp c1.bd .nil (pass_on (fun _ _ _ z => z)) (pa_cons (pv 0) (pa_cons (pv 1) (pa_cons pe_str pa_nil))))))))), ?_⟩
  have two : 2 ≤ sizeLine := by decide
  obtain ⟨ys0, hy0, _⟩ := hSs.lst
  obtain ⟨k, hk⟩ := kds_at hi
  obtain ⟨n1, n2⟩ := name_at g hk
  refine ⟨_, rfl, _, rfl, ak, ts, i, k, .name, rfl, hT, hk, fun z1 => ?_, fun z1 => ?_⟩
  case refine_2 =>
    refine qE ?_ H (But.refl st H)
    by_cases hil : i < ts.length
    · have ht : ts[i]? = some ts[i] := List.getElem?_eq_getElem hil
      rw [tdrop_cons ht]
      rw [ruF_cons, if_neg (n2 z1 _ ht)]
    · rw [List.drop_eq_nil_of_le (by omega)]; rfl
  obtain ⟨t, ht, k0⟩ := n1 z1
  have l1 := tok_lt g hk (by rw [z1]; decide)
  rw [tdrop_cons ht, ruF_cons, if_pos k0] at qE qQ
  obtain ⟨k2, hk2⟩ := kds_at (ts := ts) (i := i + 1) (by omega)
  have e2 : eat "=" (ts.drop (i + 1)) = _ := eat_at g hk2 (w := .eq) (by unfold Kd.wd; decide)
  rw [e2] at qE qQ
  refine ⟨_, rfl, _, rfl, ak, ts, i + 1, k2, .eq, rfl, hT, hk2, fun z2 => ?_, fun z2 => ?_⟩
  case refine_2 =>
    rw [if_neg z2] at qE
    exact qE rfl H (But.refl st H)
  rw [if_pos z2, Option.bind_some] at qE qQ
  have l2 := tok_lt g hk2 (by rw [z2]; decide)
  refine ⟨_, rfl, _, rfl, _, rfl, ak, ts, i + 1 + 1, 1, st, [], rfl, hT, g, hts, by omega, by omega, hSs, hne, Nat.zero_le _, fun hn H3 s3' => ?_, fun x j hj he hjl H3 b3 hS3 => ?_⟩
  · rw [hn] at qE
    exact qE rfl H3 s3'
  rw [he, Option.bind_some] at qE qQ
  have hT3 := hT.but hne hy0 b3
  rw [List.nil_append] at hS3
  have hS3' : SsAt H3 st (comp x 0) := hS3
  obtain ⟨ys3, hy3, hyl3⟩ := hS3'.lst
  rw [comp_len] at hyl3
  refine ⟨_, rfl, .inl ⟨rfl, _, SqL.of hy3⟩, two, fun q4 hq4 => ?_⟩
  have s5 := same_new hq4 (.tup [.str "end", .non])
  have hy5 := s5 _ _ hy3
  have hS5 := (hS3'.same s5).push (s := .fin) hy5 (show StpAt _ q4 .fin from upd_same)
  have b5 := b3.trans ((Same.but s5).trans (but_upd (.lst (ys3 ++ [.ref q4]))))
  have hT5 := (hT3.same s5).but hne hy5 (but_upd (.lst (ys3 ++ [.ref q4])))
  refine ⟨st, _, _, rfl, rfl, hy5, by rw [hyl3]; exact small_len (by omega), ?_⟩
  obtain ⟨k3, hk3⟩ := kds_at (ts := ts) (i := j) hj
  have e3 : eat ";" (ts.drop j) = _ := eat_at g hk3 (w := .semi) (by unfold Kd.wd; decide)
  rw [e3] at qE qQ
  refine ⟨_, rfl, _, rfl, ak, ts, j, k3, .semi, rfl, hT5, hk3, fun z3 => ?_, fun z3 => ?_⟩
  case refine_2 =>
    rw [if_neg z3] at qE
    exact qE rfl _ b5
  rw [if_pos z3, Option.bind_some] at qQ
  have l3 := tok_lt g hk3 (by rw [z3]; decide)
  exact qQ t x (j + 1) ht k0 (by omega) rfl (by omega) _ b5 hS5

def RuleAt (rl : Addr) (H : Hp) (r : Addr) (q : Bytes × Kp176.F) : Prop := ∃ b sa, H r = some (.tup [.ref b, .ref sa]) ∧ H b = some (.tup (bv q.1)) ∧ SsAt H sa (prog q.2) ∧ sa ≠ rl
def RulesAt (H : Hp) (p : Addr) (l : Sheet) : Prop := ∃ rs : List Addr, H p = some (.lst (rs.map V.ref)) ∧ Paired (RuleAt p H) rs l
theorem SsAt.move {H H' : Hp} {st : Addr} {S : List Stp} (h : SsAt H st S) (hk : ∀ xs, H st = some (.lst xs) → H' st = some (.lst xs)) (sm : Tups H H') : SsAt H' st S := let ⟨rs, h1, h2⟩ := h; ⟨rs, hk _ h1, Paired.mapP h2 fun _ _ z => z.tups sm⟩
theorem RuleAt.but {rl st : Addr} {H H' : Hp} {r : Addr} {q : Bytes × Kp176.F} (h : RuleAt rl H r q) (hn : ∀ sa xs, H sa = some (.lst xs) → sa ≠ rl → sa ≠ st) (ht : Tups H H') (b : But st H H') : RuleAt rl H' r q := by
  obtain ⟨a, sa, h1, h2, h3, h4⟩ := h
  refine ⟨a, sa, ht _ _ h1, ht _ _ h2, h3.move (fun xs e => b _ _ (hn sa xs e h4) e) ht, h4⟩
theorem RuleAt.same {rl : Addr} {H H' : Hp} {r : Addr} {q : Bytes × Kp176.F} (h : RuleAt rl H r q) (sm : Same H H') : RuleAt rl H' r q := by
  obtain ⟨a, sa, h1, h2, h3, h4⟩ := h
  exact ⟨a, sa, sm _ _ h1, sm _ _ h2, h3.same sm, h4⟩
def spRules (CS : Addr) : Sp := fun vs H Q E => ∃ (p : Addr) (ts : List Kp176.Tok), vs = [.ref p] ∧ ToksAt H p ts ∧ ts.length ≤ 4096 ∧
  (RU ts = none → ∀ H', Same H H' → E (.ref CS) none H') ∧ (∀ l q H', RU ts = some l → Same H H' → RulesAt H' q l → l.length ≤ 4096 → (∀ x ∈ l, clen x.2 + 1 ≤ 4097) → Q (.ref q) H')
abbrev nRules : List Str := ["sheet_tokens", "tokens", "rules", "at", "name", "steps"]
theorem scRules : FnScope nRules ["sheet_tokens"] (defScope sRules) := ⟨rfl, rfl, rfl, by decide +kernel, rfl, by decide +kernel, by decide +kernel⟩
set_option maxHeartbeats 4000000 in
theorem ok_rules (F : Fun K "rules_of" "rules_of" sRules f fd) (G1 : FnOk P w K mg base (CXE P w) 131 f1 d1 psRule (spRule CS)) (c1 : Callee K mg "behind_rule" psRule f1 d1) : FnOk P w K mg base (CXE P w) 132 f fd ["sheet_tokens"] (spRules CS) := by
  refine F.okE scRules (fun vs H Q E ⟨_, _, h, _⟩ => by rw [h]; rfl) (fun cdv A outer s H vs Q E hr h => ?_)
  obtain ⟨p, ts, rfl, ⟨rs, hp, hpr⟩, hlen, qE, qQ⟩ := h
  have g := toks_good hpr
  have hrl : rs.length = ts.length := Paired.length hpr
  refine ⟨_, pss_cons (ps_set (i := 1) scRules.nd rfl (Or.inl rfl) (pe_op op_cat (pv 0) (pe_lst (pa_cons (pe_tup (pa_cons pe_str (pa_cons pe_non pa_nil))) pa_nil)))) <|
    pss_cons (ps_set (i := 2) scRules.nd rfl (Or.inl rfl) (pe_lst pa_nil)) <| pss_cons (ps_set (i := 3) scRules.nd rfl (Or.inl rfl) pe_int) <|
    pss_cons (ps_while own_out (pt_cmpR op_ne (pe_ix ix_tup (pe_ix ix_list (pv 1) (pv 3) (fun _ _ => rfl)) pe_int (fun _ _ => rfl)) pe_str (nomark _))
      (pss_cons (ps_set (i := 4) scRules.nd rfl (Or.inl rfl) (pe_ix ix_tup (pe_ix ix_list (pv 1) (pv 3) (fun _ _ => rfl)) pe_int (fun _ _ => rfl))) <|
      pss_cons (ps_set (i := 5) scRules.nd rfl (Or.inl rfl) (pe_lst pa_nil)) <|
      pss_cons (ps_set (i := 3) scRules.nd rfl (Or.inl rfl) (pe_call G1 hr rfl c1.mg c1.kp c1.bd .nil (pass_on (fun _ _ _ z => z)) (pa_cons (pv 1) (pa_cons (pv 3) (pa_cons (pv 5) pa_nil))))) <|
      pss_one (ps_expr (pe_bm PySem.F.plainAttrs_list PySem.F.slot_list_append PySem.F.type_list_append mt_append (pv 2) (pa_cons (pe_tup (pa_cons (pv 4) (pa_cons (pv 5) pa_nil))) pa_nil))))) <|
    pss_one (ps_ret (pv 2)), ?_⟩
  have two : 2 ≤ sizeLine := by decide
  refine ⟨_, rfl, two, fun e0 he0 => ⟨(by show 1 ≤ sizeLine; decide), fun e1 he1 => ?_⟩⟩
  have s1 := same_new he0 (.tup [.str "end", .non])
  have s2 := s1.trans (same_new he1 (.lst [.ref e0]))
  refine ⟨p, e1, _, _, rfl, rfl, s2 _ _ hp, upd_same, ?_, fun ak hak => ?_⟩
  · rw [List.length_map, hrl]
    exact Nat.le_of_lt (Nat.lt_of_le_of_lt (show ts.length + 1 ≤ 4097 by omega) (by decide))
  have ek : rs.map V.ref ++ [V.ref e0] = (rs ++ [e0]).map V.ref := by rw [List.map_append]; rfl
  rw [ek]
  have s3 := s2.trans (same_new hak (.lst ((rs ++ [e0]).map V.ref)))
  have he0' : upd (upd (upd H e0 (.tup [.str "end", .non])) e1 (.lst [.ref e0])) ak (.lst ((rs ++ [e0]).map V.ref)) e0 = some (.tup [kS .fin, .non]) := (same_new hak _) _ _ ((same_new he1 _) _ _ upd_same)
  have hT3 : TkAt (upd (upd (upd H e0 (.tup [.str "end", .non])) e1 (.lst [.ref e0])) ak (.lst ((rs ++ [e0]).map V.ref))) ak ts := ⟨rs, e0, upd_same, Paired.mapP hpr fun _ _ z => z.tups (Same.tups s3), he0'⟩
  refine ⟨(by show 0 ≤ sizeLine; decide), fun nm hnm => ?_⟩
  have s4 := s3.trans (same_new hnm (.lst []))
  have hT4 := hT3.same (same_new hnm (.lst []))
  have hnmH : H nm = none := s3.free hnm
  have hnea : ak ≠ nm := ne_of_none upd_same hnm
  -- the rules
  refine ⟨fun m σ H' => ∃ (i : Nat) (pre : Sheet) (o4 o5 : Option V), i + m = ts.length + 1 ∧ i ≤ ts.length ∧ pre.length ≤ i ∧ σ = [some (.ref p), some (.ref ak), some (.ref nm), some (.int ((i : Nat) : Int)), o4, o5] ∧ Same H H' ∧
      TkAt H' ak ts ∧ RulesAt H' nm pre ∧ (∀ x ∈ pre, clen x.2 + 1 ≤ 4097) ∧ RU ts = (RU (ts.drop i)).map (pre ++ ·),
    ⟨ts.length + 1, 0, [], none, none, by omega, Nat.zero_le _, Nat.le_refl _, rfl, s4, hT4, ⟨[], upd_same, .nil⟩, (fun x hx => by cases hx), by rw [List.drop_zero]; cases RU ts <;> rfl⟩, ?_⟩
  rintro m σ H' ⟨i, pre, o4, o5, him, hi, hpi, rfl, sm, hT', hRA, hcl, hRU⟩
  obtain ⟨as, hna, hnp⟩ := id hRA
  obtain ⟨k, hk⟩ := kds_at hi
  obtain ⟨xs, r, v, h1, h2, h3⟩ := hT'.kd hk
  refine ⟨_, rfl, _, rfl, ak, _, _, _, rfl, rfl, SqL.of h1, h2, r, _, _, _, rfl, rfl, SqT.of h3, atI_nat (j := 0) rfl, rfl, _, rfl, ?_⟩
  show if (!decide (kS k = kS .fin)) = true then _ else _
  rw [dec_kS]
  by_cases z0 : k = .fin
  · rw [decide_eq_true z0]
    have hie : i = ts.length := by
      rcases at_cases g hk with ⟨_, z⟩ | ⟨_, _, _, _, z1, z2, _⟩
      · exact z
      · exact absurd z0 z2
    have e : RU ts = some pre := by rw [hRU, hie, List.drop_length, RU_nil]; simp
    exact iteF ⟨_, rfl, qQ pre nm H' e sm hRA (by omega) hcl⟩
  rw [decide_eq_false z0]
  refine iteT ⟨fun σ' H3 => ∃ m', m' < m ∧ ∃ (i : Nat) (pre : Sheet) (o4 o5 : Option V), i + m' = ts.length + 1 ∧ i ≤ ts.length ∧ pre.length ≤ i ∧ σ' = [some (.ref p), some (.ref ak), some (.ref nm), some (.int ((i : Nat) : Int)), o4, o5] ∧ Same H H3 ∧
      TkAt H3 ak ts ∧ RulesAt H3 nm pre ∧ (∀ x ∈ pre, clen x.2 + 1 ≤ 4097) ∧ RU ts = (RU (ts.drop i)).map (pre ++ ·), fun _ _ z => z, ?_⟩
  obtain ⟨t, raw, ht, hf, hkt, _, hilt⟩ : ∃ t raw, ts[i]? = some t ∧ Fits t raw ∧ tokKd t = k ∧ k ≠ .fin ∧ i < ts.length := by
    rcases at_cases g hk with ⟨z, _⟩ | h
    · exact absurd z z0
    · exact h
  rw [tdrop_cons ht, RU_ruF, ← tdrop_cons ht] at hRU
  refine ⟨_, rfl, _, rfl, ak, _, _, _, rfl, rfl, SqL.of h1, h2, r, _, _, _, rfl, rfl, SqT.of h3, atI_nat (j := 1) rfl, ?_⟩
  refine ⟨(by show 0 ≤ sizeLine; decide), fun st hst => ?_⟩
  have s5 := same_new hst (.lst [])
  have hSs : SsAt (upd H' st (.lst [])) st [] := ⟨[], upd_same, .nil⟩
  have hne : ak ≠ st := ne_of_none h1 hst
  have hns : nm ≠ st := ne_of_none hna hst
  have hT5 := hT'.same s5
  have hstH : H st = none := sm.free hst
  refine ⟨_, rfl, _, rfl, _, rfl, ak, ts, i, st, rfl, hT5, g, hlen, hi, hSs, hne, fun hn H6 b6 => ?_, fun t' x j ht' k0 hj he hjl H6 b6 hS6 => ?_⟩
  · rw [hn] at hRU
    refine qE (by rw [hRU]; rfl) H6 fun b u hb => ?_
    exact b6 b u (ne_of_none hb hstH) (s5 _ _ (sm _ _ hb))
  rw [ht] at ht'; cases ht'
  rw [he, Option.bind_some] at hRU
  have sH6 : Same H H6 := fun b u hb => b6 b u (ne_of_none hb hstH) (s5 _ _ (sm _ _ hb))
  have sH' : ∀ b u, H' b = some u → H6 b = some u := fun b u hb => b6 b u (ne_of_none hb hst) (s5 _ _ hb)
  have hT6 := hT'.same sH'
  have hna6 := sH' _ _ hna
  -- the name's bytes
  obtain ⟨xs7, r7, w1, w2, ⟨v7, w3, w4, _⟩, _⟩ := hT'.tok ht
  rw [h1] at w1; cases w1
  rw [h2] at w2; cases w2
  rw [h3] at w3
  have ev : v = v7 := by
    injection w3 with w3
    injection w3 with w3
    injection w3 with _ w3
    injection w3
  subst ev
  obtain ⟨b, rfl, hb⟩ := w4 (.inl k0)
  refine ⟨_, rfl, .inl ⟨rfl, _, SqL.of hna6⟩, _, rfl, _, rfl, two, fun q4 hq4 => ?_⟩
  have s8 := same_new hq4 (.tup [.ref b, .ref st])
  have hna8 := s8 _ _ hna6
  have tk8 : Tups H6 (upd (upd H6 q4 (.tup [.ref b, .ref st])) nm (.lst (as.map V.ref ++ [.ref q4]))) := (Same.tups s8).trans (tups_lst hna8 _)
  have bt8 : But nm H6 (upd (upd H6 q4 (.tup [.ref b, .ref st])) nm (.lst (as.map V.ref ++ [.ref q4]))) := (Same.but s8).trans (but_upd _)
  refine ⟨nm, _, _, rfl, rfl, hna8, ?_, ?_⟩
  · rw [List.length_map, Paired.length hnp]
    exact small_len (by omega)
  refine ⟨m - (j - i), by omega, j, pre ++ [(t.text, x)], _, _, by omega, by omega, by rw [List.length_append]; simp; omega, rfl, fun y u hy => ?_, ?_, ⟨as ++ [q4], ?_, ?_⟩, ?_, ?_⟩
  · rw [upd_ne (ne_of_none hy hnmH)]; exact s8 _ _ (sH6 _ _ hy)
  · exact hT6.move (fun xs e => by rw [upd_ne hnea]; exact s8 _ _ e) tk8
  · rw [upd_same, List.map_append]; rfl
  · refine Paired.snoc' (Paired.mapP hnp fun y z h => ?_) ?_
    · exact RuleAt.but (h.same sH') (fun sa xs e n => n) tk8 bt8
    · refine ⟨b, st, ?_, tk8 _ _ (sH' _ _ hb), hS6.move (fun xs e => bt8 _ _ (Ne.symm hns) e) tk8, Ne.symm hns⟩
      rw [upd_ne (ne_of upd_same hna8 (by intro z; cases z))]; exact upd_same
  · intro y hy
    rcases List.mem_append.mp hy with z | z
    · exact hcl y z
    · rw [List.mem_singleton.mp z]; show clen x + 1 ≤ 4097; omega
  · rw [hRU]
    show Option.map _ ((RU (ts.drop j)).bind _) = _
    cases RU (ts.drop j) with
    | none => rfl
    | some l => simp
end
end Ru

set_option Elab.async false
set_option linter.all false
set_option maxRecDepth 100000
namespace L2
open PySem PySem.Spec PyProof.Rows
theorem for_enum {K : PySem.W.Frag} {a : Addr} {xs : List V} {g : TG} {tb : TS} {D : Ends} {σ : St} {H : Hp} (Pv : Nat → St → Hp → Prop) (h0 : Pv 0 σ H) (hl : ∀ i σ H, i ≤ xs.length → Pv i σ H → SqL K H a xs)
    (hs : ∀ i x σ H T, xs[i]? = some x → Pv i σ H → H T = none → g (.ref T) σ (upd H T (.tup [.int ((i : Nat) : Int), x])) fun σ2 H2 => tb { D with nx := Pv (i + 1), ct := Pv (i + 1), bk := D.nx } σ2 H2) (hd : ∀ σ H, Pv xs.length σ H → D.nx σ H) :
    ∃ W : Nat → Nat → St → Hp → Prop, (∃ m, W 0 m σ H) ∧ ∀ i m σ H, W i m σ H →
      ((Ite K a).stop i H ∧ D.nx σ H) ∨ ((Ite K a).go i H ∧ ∃ N : St → Hp → Prop, (∀ σ' H', N σ' H' → ∃ m', m' < m ∧ W (i + 1) m' σ' H') ∧ ∀ x H', (Ite K a).yld i H x H' → g x σ H' fun σ2 H2 => tb { D with nx := N, ct := N, bk := D.nx } σ2 H2) := by
  refine ⟨fun i m σ H => m = xs.length - i ∧ i ≤ xs.length ∧ Pv i σ H, ⟨xs.length, by simp, Nat.zero_le _, h0⟩, ?_⟩
  rintro i m σ H ⟨rfl, hi, p⟩
  have q := hl i σ H hi p
  by_cases hlt : i < xs.length
  · refine .inr ⟨⟨xs, xs[i], q, by simp [hlt]⟩, Pv (i + 1), fun σ' H' p' => ⟨xs.length - (i + 1), by omega, rfl, hlt, p'⟩, fun x H' y => ?_⟩
    obtain ⟨T, z, rfl, hT, rfl, y⟩ := y
    exact hs i z σ H T (y xs q) p hT
  · have e : i = xs.length := by omega
    subst e
    exact .inl ⟨⟨xs, q, Nat.le_refl _⟩, hd σ H p⟩
end L2
namespace Ru
open PySem L2 RM Kp176
section
variable {P : Program} {w : World} {K : PySem.W.Frag} {mg : Str → Option Value} {base : Heap} {f : Addr} {fd : FuncData} {CS CN : Addr}
variable {f1 f2 f3 f4 f5 : Addr} {d1 d2 d3 d4 d5 : FuncData}
def NamesAt (H : Hp) (p : Addr) (ns : List (List Nat)) : Prop := ∃ as : List Addr, H p = some (.lst (as.map V.ref)) ∧ Paired (fun a x => H a = some (.tup (bv x))) as ns
def spRep : Sp := fun vs H Q _ => ∃ (p : Addr) (ns : List (List Nat)), vs = [.ref p] ∧ NamesAt H p ns ∧ ns.length ≤ 17000 ∧
  (∀ k H', k < ns.length → doubled ns k = true → (∀ j, j < k → doubled ns j = false) → Same H H' → Q (.int ((k : Nat) : Int)) H') ∧ (∀ H', (∀ j, j < ns.length → doubled ns j = false) → Same H H' → Q .non H')
theorem scRepeated : FnScope ["names", "seen", "number", "name"] ["names"] (defScope sRepeated) := ⟨rfl, rfl, rfl, by decide +kernel, rfl, by decide +kernel, by decide +kernel⟩
abbrev keyN (x : List Nat) : List Key := x.map fun b => Sum.inl ((b : Nat) : Int)
theorem keyN_kV (x : List Nat) : (keyN x).map kV = bv x := by unfold keyN; rw [List.map_map]; rfl
theorem keyN_inj : ∀ {x y : List Nat}, keyN x = keyN y → x = y
  | [], [], _ => rfl
  | [], _ :: _, h => by cases h
  | _ :: _, [], h => by cases h
  | a :: x, b :: y, h => by
    simp only [List.map_cons, List.cons.injEq, Sum.inl.injEq] at h
    rw [keyN_inj h.2, show a = b by omega]
theorem names_get {H : Hp} : ∀ {as : List Addr} {ns : List (List Nat)} {i : Nat} {x : List Nat}, Paired (fun a x => H a = some (.tup (bv x))) as ns → ns[i]? = some x → ∃ a, as[i]? = some a ∧ H a = some (.tup (bv x))
  | _, _, _, _, .nil, e => by simp at e
  | _, _, 0, _, .cons h _, e => by simp at e; subst e; exact ⟨_, rfl, h⟩
  | _, _, i + 1, x, .cons _ r, e => by
    obtain ⟨a, h1, h2⟩ := names_get (i := i) (x := x) r (by simpa using e)
    exact ⟨a, by simpa using h1, h2⟩
def seenD (ns : List (List Nat)) : List (List Key × V) := ns.map fun x => (keyN x, .bl true)
theorem seen_val (ns : List (List Nat)) (x : List Nat) : (valV (seenD ns) (keyN x)).isSome = ns.contains x := by
  unfold valV seenD
  induction ns with
  | nil => rfl
  | cons y r ih =>
    rw [List.map_cons, List.find?_cons, List.contains_cons]
    by_cases z : y = x
    · subst z
      rw [decide_eq_true rfl]; simp
    · rw [decide_eq_false (fun q => z (keyN_inj q))]
      have : (x == y) = false := by simp; exact fun q => z q.symm
      rw [this, Bool.false_or]
      exact ih
set_option maxHeartbeats 1000000 in
theorem ok_repeated (me : mg "enumerate" = none) (F : Fun K "first_repeated" "first_repeated" sRepeated f fd) : FnOk P w K mg base CX0 1 f fd ["names"] spRep := by
  refine F.ok scRepeated (fun vs H Q E ⟨_, _, h, _⟩ => by rw [h]; rfl) (fun cdv A outer s H vs Q E hr h => ?_)
  obtain ⟨p, ns, rfl, ⟨as, hp, hpr⟩, hlen, qS, qN⟩ := h
  have hal : as.length = ns.length := Paired.length hpr
  refine ⟨_, pss_cons (ps_set (i := 1) scRepeated.nd rfl (Or.inl rfl) pe_dnewT)
    (pss_cons (ps_for PassesOwn.never rfl (pi_enum rfl me (pa_cons (pv 0) pa_nil)) (pg_tup rfl (pgs_cons (pg_name (i := 2) scRepeated.nd rfl (Or.inl rfl)) (pgs_cons (pg_name (i := 3) scRepeated.nd rfl (Or.inl rfl)) pgs_nil)))
      (pss_cons (ps_if (pt_cmp (pc_din (hu_of hr) (pv 3) (pv 1)) rfl) (pss_one (ps_ret (pv 2))) pss_nil) (pss_one (ps_dput (hu_of hr) (pv 1) (pv 3) pe_bl rfl))))
    (pss_one (ps_ret pe_non))), ?_⟩
  refine fun d hd => ⟨_, rfl, p, _, rfl, SqL.of (by rw [upd_ne (ne_of_none hp hd)]; exact hp), ?_⟩
  refine for_enum (xs := as.map V.ref) (fun i σ H' => (∃ o2 o3, σ = [some (.ref p), some (.ref d), o2, o3]) ∧ (∀ b u, H b = some u → H' b = some u) ∧ H' d = some (.dT (seenD (ns.take i))) ∧ ∀ j, j < i → doubled ns j = false)
    ⟨⟨none, none, rfl⟩, fun b u hb => by rw [upd_ne (ne_of_none hb hd)]; exact hb, upd_same, fun j hj => absurd hj (Nat.not_lt_zero _)⟩ (fun i σ H' _ hP => SqL.of (hP.2.1 _ _ hp)) (fun i x σ H' T hx hP hT => ?_) (fun σ H' hP => ?_)
  · obtain ⟨⟨o2, o3, rfl⟩, sm, hsd, hb⟩ := hP
    rw [List.getElem?_map] at hx
    obtain ⟨a, ha, rfl⟩ := Option.map_eq_some_iff.mp hx
    have hi : i < ns.length := by rw [← hal]; exact (List.getElem?_eq_some_iff.mp ha).1
    have hn : ns[i]? = some ns[i] := List.getElem?_eq_getElem hi
    obtain ⟨a', e1, hta⟩ := names_get hpr hn
    rw [ha] at e1; cases e1
    have s1 := same_new hT (.tup [.int ((i : Nat) : Int), .ref a])
    have hta' : upd H' T (.tup [.int ((i : Nat) : Int), .ref a]) a = some (.tup ((keyN ns[i]).map kV)) := by rw [keyN_kV]; exact s1 _ _ (sm _ _ hta)
    have hsd' := s1 _ _ hsd
    refine ⟨T, _, rfl, SqT.of upd_same, rfl, _, _, rfl, _, _, rfl, rfl, ?_⟩
    refine ⟨_, rfl, _, rfl, d, _, rfl, DGet.t hsd' hta', _, rfl, ?_⟩
    rw [seen_val]
    have hdb : doubled ns i = (ns.take i).contains ns[i] := by unfold doubled; rw [hn]
    rw [← hdb]
    refine ite2 (fun z => ?_) (fun z => ?_)
    · exact ⟨_, rfl, qS i _ hi z hb fun b u hbu => s1 _ _ (sm _ _ hbu)⟩
    · have z' : doubled ns i = false := Bool.eq_false_iff.mpr z
      have hnone : valV (seenD (ns.take i)) (keyN ns[i]) = none := by
        have q := seen_val (ns.take i) ns[i]
        rw [← hdb, z'] at q
        cases w : valV (seenD (ns.take i)) (keyN ns[i]) with
        | none => rfl
        | some v => rw [w] at q; cases q
      have hdH : H d = none := hd
      refine ⟨_, rfl, _, rfl, d, _, rfl, DPut.t hsd' hta' ?_, ⟨_, _, rfl⟩, fun b u hbu => ?_, ?_, fun j hj => ?_⟩
      · unfold seenD
        rw [List.length_map, List.length_take]
        exact Nat.lt_of_le_of_lt (show min i ns.length ≤ 17000 by omega) (by decide)
      · rw [upd_ne (ne_of_none hbu hdH)]; exact s1 _ _ (sm _ _ hbu)
      · rw [upd_same, putK_new _ hnone]
        congr 2
        unfold seenD
        rw [List.take_succ, hn, List.map_append]
        rfl
      · by_cases e : j = i
        · subst e; exact z'
        · exact hb j (by omega)
  · obtain ⟨_, sm, _, hb⟩ := hP
    rw [List.length_map, hal] at hb
    exact qN H' hb sm

def rnOut (ns : List (List Nat)) : List Int := if 64 < ns.length then [1, -28, 64] else match (List.range ns.length).find? (doubled ns) with
  | some k => [1, -22, (k : Int)]
  | none => [0, (ns.length : Int)]
structure Consts2 (mg : Str → Option Value) : Prop where
  mostBytes : ∃ t, mg "MOST_BYTES" = some (.int 16384 t)
  mostTokens : ∃ t, mg "MOST_TOKENS" = some (.int 4096 t)
  mostDeep : ∃ t, mg "MOST_DEEP" = some (.int 32 t)
  mostRules : ∃ t, mg "MOST_RULES" = some (.int 64 t)
  numberForm : ∃ t, mg "NUMBER_FORM" = some (.int 0 t)
  refusalForm : ∃ t, mg "REFUSAL_FORM" = some (.int 1 t)
  tooMuch : ∃ t, mg "TOO_MUCH" = some (.int (-28) t)
  notReadable : ∃ t, mg "NOT_READABLE" = some (.int (-71) t)
  oneTwice : ∃ t, mg "ONE_NAME_TWICE" = some (.int (-22) t)
  len : mg "len" = none
  enumerate : mg "enumerate" = none

def spRef : Sp := fun vs H Q _ => ∃ n m : Int, vs = [.int n, .int m] ∧ ∀ p H', Same H H' → H' p = some (.lst [.int 1, .int n, .int m]) → Q (.ref p) H'
theorem scRefusal : FnScope ["number", "at"] ["number", "at"] (defScope sRefusal) := ⟨rfl, rfl, rfl, by decide +kernel, rfl, by decide +kernel, by decide +kernel⟩
theorem ok_refusal (C : Consts2 mg) (F : Fun K "refusal" "refusal" sRefusal f fd) : FnOkH P w K mg base 1 f fd ["number", "at"] spRef := by
  refine F.okH scRefusal (fun vs H Q E ⟨_, _, h, _⟩ => by rw [h]; rfl) (fun cdv A outer s H vs Q E hr h => ?_)
  obtain ⟨n, m, rfl, q⟩ := h
  refine ⟨_, pss_one (ps_ret (pe_lst (pa_cons (pgi C.refusalForm) (pa_cons (pv 0) (pa_cons (pv 1) pa_nil))))), ?_⟩
  exact ⟨_, rfl, _, rfl, (by show 3 ≤ sizeLine; decide), fun p hp => q p _ (same_new hp _) upd_same⟩


abbrev iv (l : List Int) : List V := l.map V.int
def spRR : Sp := fun vs H Q _ => ∃ (p : Addr) (l : Sheet), vs = [.ref p] ∧ RulesAt H p l ∧ l.length ≤ 4096 ∧ ∀ q H', Same H H' → H' q = some (.lst (iv (rnOut (l.map Prod.fst)))) → Q (.ref q) H'
theorem rules_get {H : Hp} {p : Addr} : ∀ {rs : List Addr} {l : Sheet} {i : Nat} {r : Addr}, Paired (RuleAt p H) rs l → rs[i]? = some r → ∃ q, l[i]? = some q ∧ RuleAt p H r q
  | _, _, _, _, .nil, e => by simp at e
  | _, _, 0, _, .cons h _, e => by simp at e; subst e; exact ⟨_, rfl, h⟩
  | _, _, i + 1, t, .cons _ r, e => by
    obtain ⟨x, h1, h2⟩ := rules_get (i := i) r (by simpa using e)
    exact ⟨x, by simpa using h1, h2⟩
theorem scReadRules : FnScope ["rules", "second", "name", "steps"] ["rules"] (defScope sReadRules) := ⟨rfl, rfl, rfl, by decide +kernel, rfl, by decide +kernel, by decide +kernel⟩
set_option maxHeartbeats 1000000 in
theorem ok_readRules (C : Consts2 mg) (F : Fun K "read_rules" "read_rules" sReadRules f fd) (G1 : FnOkH P w K mg base 1 f1 d1 ["number", "at"] spRef) (c1 : Callee K mg "refusal" ["number", "at"] f1 d1)
    (G2 : FnOk P w K mg base CX0 1 f2 d2 ["names"] spRep) (c2 : Callee K mg "first_repeated" ["names"] f2 d2) : FnOk P w K mg base CX0 2 f fd ["rules"] spRR := by
  refine F.ok scReadRules (fun vs H Q E ⟨_, _, h, _⟩ => by rw [h]; rfl) (fun cdv A outer s H vs Q E hr h => ?_)
  obtain ⟨p, l, rfl, hRA, hlen, q⟩ := h
  obtain ⟨rs, hp, hpr⟩ := id hRA
  have hal : rs.length = l.length := Paired.length hpr
  refine ⟨_, pss_cons (ps_if (pt_cmpR op_gt (pe_callB call_len_seq rfl C.len PySem.boot_len (pa_cons (pv 0) pa_nil)) (pgi C.mostRules) (nomark _))
      (pss_one (ps_ret (pe_call G1.ok hr rfl c1.mg c1.kp c1.bd .nil pass0 (pa_cons (pgi C.tooMuch) (pa_cons (pgi C.mostRules) pa_nil))))) pss_nil)
    (pss_cons (ps_set (i := 1) scReadRules.nd rfl (Or.inl rfl) (pe_call G2 hr rfl c2.mg c2.kp c2.bd .nil pass0 (pa_cons (pe_lc (own := [("name", 2), ("steps", 3)]) (g := gTup K 2 (gCons (gName 2) (gCons (gName 3) gNil))) (te := tVar 2) (tt := tYes) rfl scReadRules.nd (pi_list (pv 0)) (blkOk_by rfl)
        (fun _ _ _ _ _ => pg_tup rfl (pgs_cons (pg_name (i := 2) scReadRules.nd rfl (Or.inl rfl) (Or.inr rfl)) (pgs_cons (pg_name (i := 3) scReadRules.nd rfl (Or.inl rfl) (Or.inr rfl)) pgs_nil))) (fun _ _ _ _ _ => pts_nil) (fun _ _ _ _ _ => pv 2)) pa_nil)))
    (pss_cons (ps_if (pt_cmpR op_notN (pv 1) pe_non (nomark _)) (pss_one (ps_ret (pe_call G1.ok hr rfl c1.mg c1.kp c1.bd .nil pass0 (pa_cons (pgi C.oneTwice) (pa_cons (pv 1) pa_nil))))) pss_nil)
    (pss_one (ps_ret (pe_lst (pa_cons (pgi C.numberForm) (pa_cons (pe_callB call_len_seq rfl C.len PySem.boot_len (pa_cons (pv 0) pa_nil)) pa_nil))))))), ?_⟩
  have hll : (l.map Prod.fst).length = l.length := List.length_map _
  refine ⟨_, rfl, p, _, rfl, .inl (SqL.of hp), _, _, rfl, rfl, _, rfl, ite2 (fun z => ?_) (fun z => ?_)⟩
  · have z' := of_decide_eq_true z
    rw [List.length_map, hal] at z'
    refine ⟨_, _, rfl, fun r H' sm hr' => q r H' sm ?_⟩
    unfold rnOut
    rw [if_pos (by rw [hll]; omega), hr']
    rfl
  have z' : ¬ 64 < (l.map Prod.fst).length := by
    have := of_decide_eq_false (Bool.eq_false_iff.mpr z)
    rw [List.length_map, hal] at this
    rw [hll]; omega
  refine ⟨_, rfl, p, rfl, ⟨_, SqL.of hp⟩, fun D hD => ?_⟩
  refine lc_list (K := K) (xs := rs.map V.ref) (fun j H' => ∃ as : List Addr, H' = upd H D (.lst (as.map V.ref)) ∧ Paired (fun a x => H a = some (.tup (bv x))) as ((l.take j).map Prod.fst)) ⟨[], rfl, .nil⟩
    (fun j H' _ ⟨as, e, _⟩ => by rw [e]; exact SqL.of (by rw [upd_ne (ne_of_none hp hD)]; exact hp)) (fun j x H' hx hP => ?_) (fun H' hP => ?_)
  · obtain ⟨as, rfl, has⟩ := hP
    rw [List.getElem?_map] at hx
    obtain ⟨r, hr', rfl⟩ := Option.map_eq_some_iff.mp hx
    obtain ⟨qq, hq, b, sa, h1, h2, h3, h4⟩ := rules_get hpr hr'
    have nd : ∀ x o, H x = some o → upd H D (.lst (as.map V.ref)) x = some o := fun x o hx => by rw [upd_ne (ne_of_none hx hD)]; exact hx
    refine ⟨r, _, rfl, SqT.of (nd _ _ h1), rfl, _, _, rfl, _, _, rfl, rfl, rfl, ?_⟩
    unfold tYes
    dsimp only
    refine iteT ⟨_, rfl, _, upd_same, ?_, as ++ [b], ?_, ?_⟩
    · rw [List.length_map, Paired.length has, List.length_map, List.length_take]
      exact small_len (by omega)
    · rw [upd_upd, List.map_append]; rfl
    · rw [List.take_succ, hq, List.map_append]
      exact Paired.snoc' has h2
  obtain ⟨as, rfl, has⟩ := hP
  rw [List.length_map, hal, List.take_length] at has
  have s1 := same_new hD (.lst (as.map V.ref))
  refine ⟨D, l.map Prod.fst, rfl, ⟨as, upd_same, Paired.mapP has fun a x e => s1 _ _ e⟩, by rw [hll]; omega, fun k H' hk hd hb sm => ?_, fun H' hb sm => ?_⟩
  · refine ⟨_, rfl, rfl, _, rfl, iteT ⟨_, rfl, _, _, rfl, fun r H2 sm2 hr' => q r H2 (s1.trans (sm.trans sm2)) ?_⟩⟩
    unfold rnOut
    rw [if_neg z', find_range hk hd hb, hr']
    rfl
  · refine ⟨_, rfl, rfl, _, rfl, iteF ⟨_, rfl, p, _, rfl, .inl (SqL.of (sm _ _ (s1 _ _ hp))), (by show 2 ≤ sizeLine; decide), fun r hr' => q r _ (s1.trans (sm.trans (same_new hr' _))) ?_⟩⟩
    unfold rnOut
    rw [if_neg z', find_range_none hb, upd_same, List.length_map, hal, hll]
    rfl

def rdO : (Int × Nat) ⊕ Sheet → List Int
  | .inl x => [1, x.1, ((x.2 : Nat) : Int)]
  | .inr l => [0, ((l.length : Nat) : Int)]
theorem rnOut_rdO (l : Sheet) : rnOut (l.map Prod.fst) = rdO (if 64 < l.length then .inl (-28, 64) else match twice l with
        | some k => .inl (-22, k)
        | none => .inr l) := by
  unfold rnOut
  rw [List.length_map]
  by_cases h : 64 < l.length
  · rw [if_pos h, if_pos h]; rfl
  · rw [if_neg h, if_neg h, twice_eq]
    cases (List.range l.length).find? fun k => doubled (l.map Prod.fst) k <;> rfl
def spSheet (K : PySem.W.Frag) : Sp := fun vs H Q _ => ∃ (a : Addr) (bs : List Nat), vs = [.ref a] ∧ SqL K H a (bv bs) ∧ bs.length ≤ 17000 ∧
  ∀ r q p H', Same H H' → H' r = some (.tup [.ref q, .ref p]) → H' q = some (.lst (iv (rdO (Kp176.read bs)))) → (∀ l, Kp176.read bs = .inr l → RulesAt H' p l ∧ l.length ≤ 64 ∧ ∀ x ∈ l, clen x.2 + 1 ≤ 4097) → Q (.ref r) H'
theorem scReadSheet : FnScope ["t", "tokens", "rules"] ["t"] (defScope sReadSheet) := ⟨rfl, rfl, rfl, by decide +kernel, rfl, by decide +kernel, by decide +kernel⟩
theorem RulesAt.same {H H' : Hp} {p : Addr} {l : Sheet} (h : RulesAt H p l) (sm : Same H H') : RulesAt H' p l := let ⟨rs, h1, h2⟩ := h; ⟨rs, sm _ _ h1, Paired.mapP h2 fun _ _ z => z.same sm⟩
set_option maxHeartbeats 2000000 in
theorem ok_readSheet (C : Consts2 mg) (ON : NP mg base CN) (OS : NS mg base CS) (F : Fun K "read_sheet" "read_sheet" sReadSheet f fd) (G1 : FnOkH P w K mg base 1 f1 d1 ["number", "at"] spRef) (c1 : Callee K mg "refusal" ["number", "at"] f1 d1)
    (G2 : FnOk P w K mg base (CXE P w) 5 f2 d2 ["t"] (spToks K CN)) (c2 : Callee K mg "tokens_of" ["t"] f2 d2) (G3 : FnOk P w K mg base (CXE P w) 132 f3 d3 ["sheet_tokens"] (spRules CS)) (c3 : Callee K mg "rules_of" ["sheet_tokens"] f3 d3)
    (G4 : FnOk P w K mg base CX0 2 f4 d4 ["rules"] spRR) (c4 : Callee K mg "read_rules" ["rules"] f4 d4) : FnOk P w K mg base CX0 133 f fd ["t"] (spSheet K) := by
  refine F.ok scReadSheet (fun vs H Q E ⟨_, _, h, _⟩ => by rw [h]; rfl) (fun cdv A outer s H vs Q E hr h => ?_)
  obtain ⟨a, bs, rfl, hS, hlen, q⟩ := h
  have hr1 : Room 1 (A.deeper (PyProof.Rows.envOfC "read_sheet" (defScope sReadSheet) s.heap.objs.size f cdv)) := hr.mono (by decide)
  refine ⟨_, pss_cons (ps_if (pt_cmpR op_gt (pe_callB call_len_seq rfl C.len PySem.boot_len (pa_cons (pv 0) pa_nil)) (pgi C.mostBytes) (nomark _))
      (pss_one (ps_ret (pe_tup (pa_cons (pe_call G1.ok hr1 rfl c1.mg c1.kp c1.bd .nil pass0 (pa_cons (pgi C.tooMuch) (pa_cons pe_int pa_nil))) (pa_cons (pe_lst pa_nil) pa_nil))))) pss_nil)
    (pss_cons (ps_try rfl rfl rfl rfl rfl ON (by decide)
      (fun J pn EL hp => pss_one (ps_set (i := 1) scReadSheet.nd rfl (Or.inl rfl) (pe_callS G2 (hr.mono (by decide)) rfl c2.mg c2.kp c2.bd .nil hp (pa_cons (pv 0) pa_nil))))
      (fun pn e => pss_one (ps_ret (pe_tup (pa_cons (pe_callH G1 (hr1.h.mark _) rfl c1.mg c1.kp c1.bd (pa_cons (pgi C.notReadable) (pa_cons pe_int pa_nil))) (pa_cons (pe_lst pa_nil) pa_nil))))))
    (pss_cons (ps_if (pt_cmpR op_gt (pe_callB call_len_seq rfl C.len PySem.boot_len (pa_cons (pv 1) pa_nil)) (pgi C.mostTokens) (nomark _))
      (pss_one (ps_ret (pe_tup (pa_cons (pe_call G1.ok hr1 rfl c1.mg c1.kp c1.bd .nil pass0 (pa_cons (pgi C.tooMuch) (pa_cons pe_int pa_nil))) (pa_cons (pe_lst pa_nil) pa_nil))))) pss_nil)
    (pss_cons (ps_try rfl rfl rfl rfl rfl OS (by decide)
      (fun J pn EL hp => pss_one (ps_set (i := 2) scReadSheet.nd rfl (Or.inl rfl) (pe_callS G3 hr rfl c3.mg c3.kp c3.bd .nil hp (pa_cons (pv 1) pa_nil))))
      (fun pn e => pss_one (ps_ret (pe_tup (pa_cons (pe_callH G1 (hr1.h.mark _) rfl c1.mg c1.kp c1.bd (pa_cons (pgi C.notReadable) (pa_cons pe_int pa_nil))) (pa_cons (pe_lst pa_nil) pa_nil))))))
    (pss_one (ps_ret (pe_tup (pa_cons (pe_call G4 (hr.mono (by decide)) rfl c4.mg c4.kp c4.bd .nil pass0 (pa_cons (pv 2) pa_nil)) (pa_cons (pv 2) pa_nil)))))))), ?_⟩
  have two : 2 ≤ sizeLine := by decide
  have zero : 0 ≤ sizeLine := by decide
  -- a refusal, with no rules
  have fin : ∀ (v : Int) (n : Nat) (r : Addr) (H1 H2 : Hp), Same H H1 → Same H1 H2 → Kp176.read bs = .inl (v, n) → H2 r = some (.lst [.int 1, .int v, .int ((n : Nat) : Int)]) →
      (0 ≤ sizeLine) ∧ ∀ e, H2 e = none → 2 ≤ sizeLine ∧ ∀ t, upd H2 e (.lst []) t = none → Q (.ref t) (upd (upd H2 e (.lst [])) t (.tup [.ref r, .ref e])) := fun v n r H1 H2 s1 s2 hrd hr' => by
    refine ⟨zero, fun e he => ⟨two, fun t ht => q t r e _ (s1.trans (s2.trans ((same_new he _).trans (same_new ht _)))) upd_same ?_ fun l hl => ?_⟩⟩
    · rw [hrd]; exact same_new ht _ _ _ (same_new he _ _ _ hr')
    · rw [hrd] at hl; cases hl
  refine ⟨_, rfl, a, _, rfl, .inl hS, _, _, rfl, rfl, _, rfl, ite2 (fun z => ?_) (fun z => ?_)⟩
  · have z' := of_decide_eq_true z
    rw [bv_len] at z'
    have hrd : Kp176.read bs = .inl (-28, 0) := by unfold Kp176.read; rw [if_pos (by unfold MOST; omega)]
    exact ⟨_, _, rfl, fun r H' sm hr' => fin (-28) 0 r H H' (Same.refl H) sm hrd hr'⟩
  have z' : bs.length ≤ 16384 := by
    have := of_decide_eq_false (Bool.eq_false_iff.mpr z)
    rw [bv_len] at this
    omega
  have hrd := read_eq z'
  refine ⟨_, rfl, a, bs, rfl, hS, hlen, fun hn H' sm => ⟨rfl, _, _, rfl, fun r H2 sm2 hr' => ?_⟩, fun ts p H' ht sm hT => ?_⟩
  · rw [hn] at hrd
    exact fin (-71) 0 r H' H2 sm sm2 hrd hr'
  rw [ht] at hrd
  dsimp only at hrd
  obtain ⟨rs, hp, hpr⟩ := id hT
  have hrl : rs.length = ts.length := Paired.length hpr
  refine ⟨_, rfl, p, _, rfl, .inl (SqL.of hp), _, _, rfl, rfl, _, rfl, ite2 (fun z2 => ?_) (fun z2 => ?_)⟩
  · have z2' := of_decide_eq_true z2
    rw [List.length_map, hrl] at z2'
    rw [if_pos (show 4096 < ts.length by omega)] at hrd
    exact ⟨_, _, rfl, fun r H2 sm2 hr' => fin (-28) 0 r H' H2 sm sm2 hrd hr'⟩
  have z2' : ¬ 4096 < ts.length := by
    have := of_decide_eq_false (Bool.eq_false_iff.mpr z2)
    rw [List.length_map, hrl] at this
    omega
  rw [if_neg z2'] at hrd
  refine ⟨_, rfl, p, ts, rfl, hT, by omega, fun hn H2 sm2 => ⟨rfl, _, _, rfl, fun r H3 sm3 hr' => ?_⟩, fun l nm H2 hl sm2 hN hll hcl => ?_⟩
  · rw [hn] at hrd
    exact fin (-71) 0 r H2 H3 (sm.trans sm2) sm3 hrd hr'
  rw [hl] at hrd
  dsimp only at hrd
  refine ⟨_, rfl, nm, l, rfl, hN, hll, fun r H3 sm3 hr' => ⟨_, rfl, two, fun t ht' => ?_⟩⟩
  have s4 := same_new ht' (.tup [.ref r, .ref nm])
  refine q t r nm _ (sm.trans (sm2.trans (sm3.trans s4))) upd_same ?_ fun l' hl' => ?_
  · have e2 : rnOut (l.map Prod.fst) = rdO (Kp176.read bs) := by rw [hrd]; exact rnOut_rdO l
    rw [e2] at hr'
    exact s4 _ _ hr'
  · rw [hrd] at hl'
    have e : l' = l ∧ ¬ 64 < l.length := by
      split at hl'
      · cases hl'
      · rename_i n64
        split at hl'
        · cases hl'
        · cases hl'; exact ⟨rfl, n64⟩
    rw [e.1]
    exact ⟨hN.same (sm3.trans s4), by omega, hcl⟩
end
end Ru

set_option Elab.async false
set_option linter.all false
set_option maxRecDepth 100000
namespace Ru
open PySem L2 RM Kp176

theorem putF_hit (f : Str) (v x : V) (r : List (Str × V)) : putF f v ((f, x) :: r) = (f, v) :: r := by
  show (if f = f then (f, v) :: r else _) = _
  rw [if_pos rfl]
theorem putF_miss {f k : Str} (h : ¬ k = f) (v x : V) (r : List (Str × V)) : putF f v ((k, x) :: r) = (k, x) :: putF f v r := by
  show (if k = f then (k, v) :: r else _) = _
  rw [if_neg h]
theorem putF_nil (f : Str) (v : V) : putF f v [] = [(f, v)] := rfl
theorem look_hit (f : Str) (x : V) (r : List (Str × V)) : List.lookup f ((f, x) :: r) = some x := by
  simp [List.lookup]
theorem look_miss {f k : Str} (h : ¬ f = k) (x : V) (r : List (Str × V)) : List.lookup f ((k, x) :: r) = List.lookup f r := by
  have hb : (f == k) = false := beq_eq_false_iff_ne.mpr h
  simp only [List.lookup, hb]
def oF (nm sa : Addr) (i : Int) : List (Str × V) := [("name", .ref nm), ("steps", .ref sa), ("place", .int i)]
def wF (d lo lt : Addr) (n : Int) : List (Str × V) := [("rules", .ref d), ("reads", .int n), ("opened", .ref lo), ("texts", .ref lt)]
theorem nst : ¬ (("name" : Str) = "steps") := by decide +kernel
theorem npl : ¬ (("name" : Str) = "place") := by decide +kernel
theorem spl : ¬ (("steps" : Str) = "place") := by decide +kernel
theorem stn : ¬ (("steps" : Str) = "name") := by decide +kernel
theorem pln : ¬ (("place" : Str) = "name") := by decide +kernel
theorem pls : ¬ (("place" : Str) = "steps") := by decide +kernel
theorem rre : ¬ (("rules" : Str) = "reads") := by decide +kernel
theorem rop : ¬ (("rules" : Str) = "opened") := by decide +kernel
theorem rtx : ¬ (("rules" : Str) = "texts") := by decide +kernel
theorem reo : ¬ (("reads" : Str) = "opened") := by decide +kernel
theorem ret' : ¬ (("reads" : Str) = "texts") := by decide +kernel
theorem rer : ¬ (("reads" : Str) = "rules") := by decide +kernel
theorem opt' : ¬ (("opened" : Str) = "texts") := by decide +kernel
theorem opr : ¬ (("opened" : Str) = "rules") := by decide +kernel
theorem ope : ¬ (("opened" : Str) = "reads") := by decide +kernel
theorem txr : ¬ (("texts" : Str) = "rules") := by decide +kernel
theorem txe : ¬ (("texts" : Str) = "reads") := by decide +kernel
theorem txo : ¬ (("texts" : Str) = "opened") := by decide +kernel
theorem oF_name (nm sa : Addr) (i : Int) : (oF nm sa i).lookup ("name" : Str) = some (.ref nm) := look_hit _ _ _
theorem oF_steps (nm sa : Addr) (i : Int) : (oF nm sa i).lookup ("steps" : Str) = some (.ref sa) := by
  unfold oF
  rw [look_miss stn, look_hit]
theorem oF_place (nm sa : Addr) (i : Int) : (oF nm sa i).lookup ("place" : Str) = some (.int i) := by
  unfold oF
  rw [look_miss pln, look_miss pls, look_hit]
theorem oF_put (nm sa : Addr) (i j : Int) : putF "place" (.int j) (oF nm sa i) = oF nm sa j := by
  unfold oF
  rw [putF_miss npl, putF_miss spl, putF_hit]
theorem wF_rules (d lo lt : Addr) (n : Int) : (wF d lo lt n).lookup ("rules" : Str) = some (.ref d) := look_hit _ _ _
theorem wF_reads (d lo lt : Addr) (n : Int) : (wF d lo lt n).lookup ("reads" : Str) = some (.int n) := by
  unfold wF
  rw [look_miss rer, look_hit]
theorem wF_opened (d lo lt : Addr) (n : Int) : (wF d lo lt n).lookup ("opened" : Str) = some (.ref lo) := by
  unfold wF
  rw [look_miss opr, look_miss ope, look_hit]
theorem wF_texts (d lo lt : Addr) (n : Int) : (wF d lo lt n).lookup ("texts" : Str) = some (.ref lt) := by
  unfold wF
  rw [look_miss txr, look_miss txe, look_miss txo, look_hit]
theorem wF_put (d lo lt : Addr) (n m : Int) : putF "reads" (.int m) (wF d lo lt n) = wF d lo lt m := by
  unfold wF
  rw [putF_miss rre, putF_hit]

structure Txt (K : PySem.W.Frag) (mg : Str → Option Value) (C D : Addr) : Prop where
  clC : Cls K C
  nName : NoAttr K C "name"
  nSteps : NoAttr K C "steps"
  nPlace : NoAttr K C "place"
  mgC : mg "OpenRule" = some (.ref C)
  clD : Cls K D
  nRules : NoAttr K D "rules"
  nReads : NoAttr K D "reads"
  nOpened : NoAttr K D "opened"
  nTexts : NoAttr K D "texts"
  mgD : mg "Work" = some (.ref D)
structure Consts3 (mg : Str → Option Value) : Prop where
  mostText : ∃ t, mg "MOST_TEXT_BYTES" = some (.int 4096 t)
  mostReads : ∃ t, mg "MOST_READS" = some (.int 20000 t)
  textForm : ∃ t, mg "TEXT_FORM" = some (.int 2 t)
  noRule : ∃ t, mg "NO_RULE" = some (.int (-2) t)
  inRing : ∃ t, mg "IN_A_RING" = some (.int (-40) t)
  manyReads : ∃ t, mg "TOO_MANY_READS" = some (.int (-62) t)
  len : mg "len" = none
  tuple : mg "tuple" = none
  ord : mg "ord" = none
  list : mg "list" = none
  str : mg "str" = none
  dict : mg "dict" = none

section
variable {P : Program} {w : World} {K : PySem.W.Frag} {mg : Str → Option Value} {base : Heap} {f : Addr} {fd : FuncData} {C D : Addr}
variable {f1 f2 f3 f4 f5 : Addr} {d1 d2 d3 d4 d5 : FuncData}

def spInitO (C : Addr) : Sp := fun vs H Q _ => ∃ (p dx nm sa : Addr), vs = [.ref p, .ref nm, .ref sa] ∧ H p = some (.ins C dx []) ∧ ∀ H' : Hp, H' p = some (.ins C dx (oF nm sa 0)) → But p H H' → Q .non H'
theorem scInitO : FnScope ["self", "name", "steps"] ["self", "name", "steps"] (defScope sInitOpen) := ⟨rfl, rfl, rfl, by decide +kernel, rfl, by decide +kernel, by decide +kernel⟩
theorem ok_initO (F : Fun K "__init__" "OpenRule.__init__" sInitOpen f fd) (T : Txt K mg C D) : FnOk P w K mg base CX0 1 f fd ["self", "name", "steps"] (spInitO C) := by
  refine F.ok scInitO (fun vs H Q E ⟨_, _, _, _, h, _⟩ => by rw [h]; rfl) (fun cdv A outer s H vs Q E hr h => ?_)
  obtain ⟨p, dx, nm, sa, rfl, hp, k⟩ := h
  refine ⟨_, pss_cons (ps_fld (pv 0) (pv 1) rfl) (pss_cons (ps_fld (pv 0) (pv 2) rfl) (pss_one (ps_fld (pv 0) pe_int rfl))), ?_⟩
  refine ⟨_, rfl, _, rfl, p, C, dx, [], rfl, hp, T.clC, T.nName, (by show 0 < 1000; decide), ?_⟩
  refine ⟨_, rfl, _, rfl, p, C, dx, _, rfl, upd_same, T.clC, T.nSteps, (by show 1 < 1000; decide), ?_⟩
  refine ⟨_, rfl, p, C, dx, _, rfl, upd_same, T.clC, T.nPlace, (by rw [putF_nil, putF_miss nst, putF_nil]; show 2 < 1000; decide), ?_⟩
  refine k _ ?_ fun b u hb e => by rw [upd_ne hb, upd_ne hb, upd_ne hb]; exact e
  rw [upd_same, putF_nil, putF_miss nst, putF_nil, putF_miss npl, putF_miss spl, putF_nil]
  rfl
def spInitW (D : Addr) : Sp := fun vs H Q _ => ∃ (p dx d : Addr), vs = [.ref p, .ref d] ∧ H p = some (.ins D dx []) ∧
  ∀ (lo lt : Addr) (H' : Hp), H' p = some (.ins D dx (wF d lo lt 0)) → H' lo = some (.lst []) → H' lt = some (.lst []) → H lo = none → H lt = none → lo ≠ lt → But p H H' → Q .non H'
theorem scInitW : FnScope ["self", "rules"] ["self", "rules"] (defScope sInitWork) := ⟨rfl, rfl, rfl, by decide +kernel, rfl, by decide +kernel, by decide +kernel⟩
theorem ok_initW (F : Fun K "__init__" "Work.__init__" sInitWork f fd) (T : Txt K mg C D) : FnOk P w K mg base CX0 1 f fd ["self", "rules"] (spInitW D) := by
  refine F.ok scInitW (fun vs H Q E ⟨_, _, _, h, _⟩ => by rw [h]; rfl) (fun cdv A outer s H vs Q E hr h => ?_)
  obtain ⟨p, dx, d, rfl, hp, k⟩ := h
  refine ⟨_, pss_cons (ps_fld (pv 0) (pv 1) rfl) (pss_cons (ps_fld (pv 0) pe_int rfl) (pss_cons (ps_fld (pv 0) (pe_lst pa_nil) rfl) (pss_one (ps_fld (pv 0) (pe_lst pa_nil) rfl)))), ?_⟩
  have zero : 0 ≤ sizeLine := by decide
  refine ⟨_, rfl, _, rfl, p, D, dx, [], rfl, hp, T.clD, T.nRules, (by show 0 < 1000; decide), ?_⟩
  refine ⟨_, rfl, p, D, dx, _, rfl, upd_same, T.clD, T.nReads, (by show 1 < 1000; decide), ?_⟩
  refine ⟨zero, fun lo hlo => ⟨_, rfl, p, D, dx, _, rfl, by rw [upd_ne (ne_of_none upd_same hlo)]; exact upd_same, T.clD, T.nOpened, (by rw [putF_nil, putF_miss rre, putF_nil]; show 2 < 1000; decide), ?_⟩⟩
  refine ⟨zero, fun lt hlt => ⟨_, rfl, p, D, dx, _, rfl, by rw [upd_ne (ne_of_none upd_same hlt)]; exact upd_same, T.clD, T.nTexts, (by rw [putF_nil, putF_miss rre, putF_nil, putF_miss rop, putF_miss reo, putF_nil]; show 3 < 1000; decide), ?_⟩⟩
  have plo : lo ≠ p := fun e => by
    subst e
    exact absurd upd_same (by rw [hlo]; intro z; cases z)
  have plt : lt ≠ p := fun e => by
    subst e
    exact absurd upd_same (by rw [hlt]; intro z; cases z)
  have hll : lo ≠ lt := fun e => by
    subst e
    rw [upd_ne plo, upd_same] at hlt; cases hlt
  have nlo : H lo = none := by rw [upd_ne plo, upd_ne plo] at hlo; exact hlo
  have nlt : H lt = none := by rw [upd_ne plt, upd_ne (Ne.symm hll), upd_ne plt, upd_ne plt] at hlt; exact hlt
  refine k lo lt _ ?_ ?_ ?_ nlo nlt hll fun b u hb e => ?_
  · rw [upd_same, putF_nil, putF_miss rre, putF_nil, putF_miss rop, putF_miss reo, putF_nil, putF_miss rtx, putF_miss ret', putF_miss opt', putF_nil]
    rfl
  · rw [upd_ne plo, upd_ne hll, upd_ne plo, upd_same]
  · rw [upd_ne plt, upd_same]
  · rw [upd_ne hb, upd_ne (ne_of_none e nlt), upd_ne hb, upd_ne (ne_of_none e nlo), upd_ne hb, upd_ne hb]; exact e
end
end Ru
namespace L2
open PySem PySem.Spec PyProof.Rows
theorem in_tuples {X : Cx} (hu : X.A.units + 65 < cLine) : OpR X (compareOp .In) (fun x y H Q => ∃ (b p : Addr) (as : List Addr) (n : List Nat) (ms : List (List Nat)), x = .ref b ∧ y = .ref p ∧ H b = some (.tup (Ru.bv n)) ∧ SqL X.K H p (as.map V.ref) ∧
    Paired (fun a m => H a = some (.tup (Ru.bv m))) as ms ∧ Q (.bl (ms.contains n)) H) := by
  intro pins s σ H x y v u Q I rx ry h
  classical
  obtain ⟨b, p, as, n, ms, rfl, rfl, hb, hp, hms, q⟩ := h
  cases rx
  cases ry
  obtain ⟨its, r, pl, hz⟩ := I.list hp
  have ei := refs_at r
  subst ei
  obtain ⟨ds, rb⟩ := Dp.reads I (.tuple (n.map fun b => PyData.int ((b : Nat) : Int))) (.ref b) (.ref b) (.tup (SqT.of hb) (Ru.dp_ints n)) rfl
  have mem : ∀ {as : List Addr} {ms : List (List Nat)}, Paired (fun a m => H a = some (.tup (Ru.bv m))) as ms → ∀ y ∈ as.map Value.ref, ∃ a m, y = .ref a ∧ H a = some (.tup (Ru.bv m)) := by
    intro as ms hm
    induction hm with
    | nil => intro y hy; cases hy
    | cons h _ ih =>
      intro y hy
      rcases List.mem_cons.mp hy with z | z
      · exact ⟨_, _, z, h⟩
      · exact ih y z
  have bvi : ∀ {m m' : List Nat}, Ru.bv m = Ru.bv m' → m = m' := by
    intro m
    induction m with
    | nil => intro m' e; cases m' with
      | nil => rfl
      | cons _ _ => cases e
    | cons c r ih => intro m' e; cases m' with
      | nil => cases e
      | cons c' r' =>
        simp only [List.map_cons, List.cons.injEq, V.int.injEq] at e
        rw [ih e.2, show c = c' by omega]
  let e : Value → Bool := fun y => match y with
    | .ref a => decide (H a = some (.tup (Ru.bv n)))
    | _ => false
  have he : ∀ y ∈ (as.map Value.ref).toArray, SeqAt.EqAt X.A.in1 s y (.ref b) (e y) := fun y hy => by
    obtain ⟨a, m, rfl, hm⟩ := mem hms y (by simpa using hy)
    obtain ⟨es, ra⟩ := Dp.reads I (.tuple (m.map fun b => PyData.int ((b : Nat) : Int))) (.ref a) (.ref a) (.tup (SqT.of hm) (Ru.dp_ints m)) rfl
    have key := SeqAt.eqAt_reads _ _ X.A.in1 s _ _ _ _ ra rb (SeqAt.canLay_of_shaped (Ru.shaped_ints m)) (SeqAt.canLay_of_shaped (Ru.shaped_ints n)) (SeqAt.room_of_shaped (Ru.shaped_ints m) (by show X.A.units + 1 + 64 < cLine; omega))
    have ee : PyData.eqv (.tuple (m.map fun b => PyData.int ((b : Nat) : Int))) (.tuple (n.map fun b => PyData.int ((b : Nat) : Int))) = e (.ref a) := by
      show PyData.eqvAll _ _ = _
      rw [Ru.eqv_ints]
      show decide (m = n) = decide (H a = some (.tup (Ru.bv n)))
      rw [Bool.eq_iff_iff, decide_eq_true_eq, decide_eq_true_eq, hm]
      constructor
      · intro z; rw [z]
      · intro z
        injection z with z
        injection z with z
        exact bvi z
    rw [ee] at key
    exact key
  have ec : ∀ {as : List Addr} {ms : List (List Nat)}, Paired (fun a m => H a = some (.tup (Ru.bv m))) as ms → (as.map Value.ref).any e = ms.contains n := by
    intro as ms hms
    induction hms with
    | nil => rfl
    | @cons a m as ms h _ ih =>
      rw [List.map_cons, List.any_cons, List.contains_cons, ih]
      congr 1
      show decide (H a = some (.tup (Ru.bv n))) = (n == m)
      rw [Bool.eq_iff_iff, decide_eq_true_eq, beq_iff_eq, h]
      constructor
      · intro z
        injection z with z
        injection z with z
        exact (bvi z).symm
      · intro z; rw [z]
  refine SeqAt.in_listAt e pl.isList he ⟨.bl _, H, I, rfl, ?_⟩
  rw [show (as.map Value.ref).toArray.any e = (as.map Value.ref).any e by simp, ec hms]
  exact q
end L2

set_option Elab.async false
set_option linter.all false
set_option maxRecDepth 100000
namespace Ru
open PySem L2 RM Kp176

def RDict (H0 : Hp) (d : Addr) (s : Sheet) : Prop := ∃ kvs : List (List Key × V), H0 d = some (.dT kvs) ∧ Paired (fun kv (q : Bytes × Kp176.F) => kv.1 = keyN q.1 ∧ ∃ sa, kv.2 = V.ref sa ∧ SsAt H0 sa (prog q.2)) kvs s
theorem rdict_none {H0 : Hp} {x : Bytes} : ∀ {kvs : List (List Key × V)} {s : Sheet}, Paired (fun kv (q : Bytes × Kp176.F) => kv.1 = keyN q.1 ∧ ∃ sa, kv.2 = V.ref sa ∧ SsAt H0 sa (prog q.2)) kvs s →
    (s.find? fun q => q.1 == x) = none → valV kvs (keyN x) = none
  | _, _, .nil, _ => rfl
  | _, _, .cons (a := kv) (b := q) h t, e => by
    rw [List.find?_cons] at e
    by_cases z : q.1 = x
    · simp [z] at e
    · have z' : (q.1 == x) = false := by simpa using z
      rw [z'] at e
      rw [valV_neg (fun h' => z (keyN_inj (h.1.symm.trans h')))]
      exact rdict_none t e
theorem rdict_some {H0 : Hp} {x : Bytes} : ∀ {kvs : List (List Key × V)} {s : Sheet} {q : Bytes × Kp176.F}, Paired (fun kv (q : Bytes × Kp176.F) => kv.1 = keyN q.1 ∧ ∃ sa, kv.2 = V.ref sa ∧ SsAt H0 sa (prog q.2)) kvs s →
    (s.find? fun q => q.1 == x) = some q → ∃ sa, valV kvs (keyN x) = some (.ref sa) ∧ SsAt H0 sa (prog q.2)
  | _, _, _, .nil, e => by cases e
  | _, _, q0, .cons (a := kv) (b := q) h t, e => by
    rw [List.find?_cons] at e
    by_cases z : q.1 = x
    · have z' : (q.1 == x) = true := by simpa using z
      rw [z'] at e
      cases e
      obtain ⟨h1, sa, h2, h3⟩ := h
      exact ⟨sa, by rw [valV_pos (h1.trans (by rw [z])), h2], h3⟩
    · have z' : (q.1 == x) = false := by simpa using z
      rw [z'] at e
      rw [valV_neg (fun h' => z (keyN_inj (h.1.symm.trans h')))]
      exact rdict_some t e

def FrAt (C : Addr) (H0 H : Hp) (wk : Addr) (r : Addr) (fr : Frm) : Prop := ∃ dx nm sa, H r = some (.ins C dx (oF nm sa ((fr.2.2 : Nat) : Int))) ∧ H nm = some (.tup (bv fr.1)) ∧ SsAt H0 sa fr.2.1 ∧ H0 r = none ∧ r ≠ wk
def OpAt (C : Addr) (H0 : Hp) (lo wk : Addr) (op : List Frm) (H : Hp) : Prop := ∃ rs : List Addr, H lo = some (.lst (rs.reverse.map V.ref)) ∧ Paired (FrAt C H0 H wk) rs op ∧ rs.Nodup
def TxO (H0 H : Hp) (lo lt a : Addr) (b : Bytes) : Prop := H a = some (.lst (bv b)) ∧ H0 a = none ∧ a ≠ lo ∧ a ≠ lt
def TxAt (H0 : Hp) (lo lt : Addr) (tx : List Bytes) (H : Hp) : Prop := ∃ as : List Addr, H lt = some (.lst (as.reverse.map V.ref)) ∧ Paired (TxO H0 H lo lt) as tx ∧ as.Nodup
structure WS (C D : Addr) (H0 : Hp) (wk d lo lt : Addr) (m : MS) (H : Hp) : Prop where
  same : Same H0 H
  nw : H0 wk = none
  nlo : H0 lo = none
  nlt : H0 lt = none
  ll : lo ≠ lt
  wrk : ∃ dx, H wk = some (.ins D dx (wF d lo lt (20000 - ((m.n : Nat) : Int))))
  op : OpAt C H0 lo wk m.op H
  tx : TxAt H0 lo lt m.tx H

def Keep (S : List Addr) (H H' : Hp) : Prop := ∀ b u, b ∉ S → H b = some u → H' b = some u
theorem Keep.trans {S : List Addr} {H H1 H2 : Hp} (a : Keep S H H1) (b : Keep S H1 H2) : Keep S H H2 := fun c u n h => b c u n (a c u n h)
theorem Keep.of {S : List Addr} {H H' : Hp} (h : Same H H') : Keep S H H' := fun b u _ e => h b u e
theorem keep_upd {S : List Addr} {H : Hp} {a : Addr} (h : a ∈ S) (o : HO) : Keep S H (upd H a o) := fun b u n e => by rw [upd_ne (fun z => n (by rw [z]; exact h))]; exact e
theorem frs_keep {C : Addr} {H0 H H' : Hp} {wk : Addr} {rs : List Addr} {op : List Frm} (h : Paired (FrAt C H0 H wk) rs op) (k : ∀ b u, b ≠ wk → (∀ xs, u ≠ .lst xs) → H b = some u → H' b = some u) (kt : Tups H H') : Paired (FrAt C H0 H' wk) rs op :=
  Paired.mapP h fun r fr ⟨dx, nm, sa, h1, h2, h3, h4, h5⟩ => ⟨dx, nm, sa, k r _ h5 (fun xs z => by cases z) h1, kt _ _ h2, h3, h4, h5⟩
theorem txs_keep {H0 H H' : Hp} {lo lt : Addr} : ∀ {as : List Addr} {tx : List Bytes}, Paired (TxO H0 H lo lt) as tx → (∀ a ∈ as, ∀ u, H a = some u → H' a = some u) → Paired (TxO H0 H' lo lt) as tx
  | _, _, .nil, _ => .nil
  | _, _, .cons h t, k => .cons ⟨k _ List.mem_cons_self _ h.1, h.2⟩ (txs_keep t fun a ha => k a (List.mem_cons_of_mem _ ha))
theorem tx_mem {H0 H : Hp} {lo lt : Addr} : ∀ {as : List Addr} {tx : List Bytes}, Paired (TxO H0 H lo lt) as tx → ∀ a ∈ as, ∃ b, TxO H0 H lo lt a b
  | _, _, .nil, a, ha => by cases ha
  | _, _, .cons h t, a, ha => by
    rcases List.mem_cons.mp ha with z | z
    · subst z; exact ⟨_, h⟩
    · exact tx_mem t a z
theorem fr_mem {C : Addr} {H0 H : Hp} {wk : Addr} : ∀ {rs : List Addr} {op : List Frm}, Paired (FrAt C H0 H wk) rs op → ∀ r ∈ rs, ∃ fr, FrAt C H0 H wk r fr
  | _, _, .nil, a, ha => by cases ha
  | _, _, .cons h t, a, ha => by
    rcases List.mem_cons.mp ha with z | z
    · subst z; exact ⟨_, h⟩
    · exact fr_mem t a z
theorem paired_rev {α β : Type} {R : α → β → Prop} : ∀ {xs : List α} {ys : List β}, Paired R xs ys → Paired R xs.reverse ys.reverse
  | _, _, .nil => .nil
  | _, _, .cons h t => by rw [List.reverse_cons, List.reverse_cons]; exact Paired.snoc' (paired_rev t) h

def cE (c2 c40 c28 c62 : Addr) (v : Int) : Addr := if v = -2 then c2 else if v = -40 then c40 else if v = -28 then c28 else c62

section
variable {P : Program} {w : World} {K : PySem.W.Frag} {mg : Str → Option Value} {base : Heap} {f : Addr} {fd : FuncData} {C D : Addr} {c2 c40 c28 c62 : Addr}
variable {f1 f2 f3 f4 f5 : Addr} {d1 d2 d3 d4 d5 : FuncData}
abbrev NR (x : Str) (mg : Str → Option Value) (base : Heap) (c : Addr) : Prop := PyProof.Rows.OwnCls x c excTail "Exception.__new__" mg base

theorem fr_get {C : Addr} {H0 H : Hp} {wk : Addr} : ∀ {rs : List Addr} {op : List Frm} {i : Nat} {r : Addr}, Paired (FrAt C H0 H wk) rs op → rs[i]? = some r → ∃ fr, op[i]? = some fr ∧ FrAt C H0 H wk r fr
  | _, _, _, _, .nil, e => by simp at e
  | _, _, 0, _, .cons h _, e => by simp at e; subst e; exact ⟨_, rfl, h⟩
  | _, _, i + 1, t, .cons _ r, e => by
    obtain ⟨x, h1, h2⟩ := fr_get (i := i) r (by simpa using e)
    exact ⟨x, by simpa using h1, h2⟩

def spOpen (C D c2 c40 c28 c62 : Addr) : Sp := fun vs H Q E => ∃ (wk nb : Addr) (s : Sheet) (H0 : Hp) (d lo lt : Addr) (m : MS) (x : Bytes), vs = [.ref wk, .ref nb] ∧ RDict H0 d s ∧ WS C D H0 wk d lo lt m H ∧ H nb = some (.tup (bv x)) ∧ m.op.length ≤ 100 ∧
  (∀ v, opn s x m = .inl v → ∀ H', E (.ref (cE c2 c40 c28 c62 v)) none H') ∧ (∀ m', opn s x m = .inr m' → ∀ H', WS C D H0 wk d lo lt m' H' → Q .non H')
abbrev nOpen : List Str := ["work", "name", "rule"]
theorem scOpen : FnScope nOpen ["work", "name"] (defScope sOpenRule) := ⟨rfl, rfl, rfl, by decide +kernel, rfl, by decide +kernel, by decide +kernel⟩
set_option maxHeartbeats 4000000 in
theorem ok_open (C3 : Consts3 mg) (T : Txt K mg C D) (O1 : NR "NoRule" mg base c2) (O2 : NR "Ring" mg base c40) (O4 : NR "TooManyReads" mg base c62) (M : Mk K C f1) (GI : FnOk P w K mg base CX0 1 f1 d1 ["self", "name", "steps"] (spInitO C)) (bI : Binds K d1 ["self", "name", "steps"] [])
    (F : Fun K "open_rule" "open_rule" sOpenRule f fd) : FnOk P w K mg base (CXE P w) 3 f fd ["work", "name"] (spOpen C D c2 c40 c28 c62) := by
  refine F.okE scOpen (fun vs H Q E ⟨_, _, _, _, _, _, _, _, _, h, _⟩ => by rw [h]; rfl) (fun cdv A outer s0 H vs Q E hr h => ?_)
  obtain ⟨wk, nb, s, H0, d, lo, lt, m, x, rfl, ⟨kvs, hd0, hkv⟩, W, hnb, hop, qE, qQ⟩ := h
  have hu2 : (A.deeper (PyProof.Rows.envOfC "open_rule" (defScope sOpenRule) s0.heap.objs.size f cdv)).units + 65 < cLine := by have := hr.un; omega
  refine ⟨_, pss_cons (ps_fld (pv 0) (pe_op op_add (pe_fld (pv 0) rfl) pe_int) rfl)
    (pss_cons (ps_if (pt_cmp (pc_dnotin (hu_of hr) (pv 1) (pe_fld (pv 0) rfl)) rfl) (pss_one (ps_raise0 PySem.F.excBase_Exception O1 hr.hd rfl)) pss_nil)
    (pss_cons (ps_if (pt_cmpR (in_tuples hu2) (pv 1) (pe_lc (own := [("rule", 2)]) (g := gName 2) (te := tFld K (tVar 2) "name") (tt := tYes) rfl scOpen.nd (pi_list (pe_fld (pv 0) rfl)) (blkOk_by rfl)
        (fun _ _ _ _ _ => pg_name (i := 2) scOpen.nd rfl (Or.inl rfl) (Or.inr rfl)) (fun _ _ _ _ _ => pts_nil) (fun _ _ _ _ _ => pe_fld (pv 2) rfl)) rfl) (pss_one (ps_raise0 PySem.F.excBase_Exception O2 hr.hd rfl)) pss_nil)
    (pss_cons (ps_if (pt_cmpR op_gt (pe_fld (pv 0) rfl) (pgi C3.mostReads) (nomark _)) (pss_one (ps_raise0 PySem.F.excBase_Exception O4 hr.hd rfl)) pss_nil)
    (pss_one (ps_expr (pe_bm PySem.F.plainAttrs_list PySem.F.slot_list_append PySem.F.type_list_append mt_append (pe_fld (pv 0) rfl)
      (pa_cons (pe_make M GI (hr.mono (by decide)) rfl T.mgC bI .nil pass0 (pa_cons (pv 1) (pa_cons (pe_dget (hu_of hr) (pe_fld (pv 0) rfl) (pv 1) (fun _ _ => rfl)) pa_nil))) pa_nil))))))), ?_⟩
  obtain ⟨dx, hw⟩ := W.wrk
  obtain ⟨rs, hlo, hrs, hnd⟩ := W.op
  obtain ⟨as, hlt, has, hand⟩ := W.tx
  have hwlo : wk ≠ lo := ne_of hw hlo (by intro z; cases z)
  have hwlt : wk ≠ lt := ne_of hw hlt (by intro z; cases z)
  refine ⟨_, rfl, wk, D, dx, _, _, rfl, hw, T.clD, T.nReads, wF_reads _ _ _ _, _, _, rfl, rfl, _, rfl, wk, D, dx, _, rfl, hw, T.clD, T.nReads, (by show 4 < 1000; decide), ?_⟩
  rw [wF_put]
  have k1 : Keep [wk, lo] H (upd H wk (.ins D dx (wF d lo lt (20000 - ((m.n : Nat) : Int) + 1)))) := keep_upd (by simp) _
  generalize hH1 : upd H wk (.ins D dx (wF d lo lt (20000 - ((m.n : Nat) : Int) + 1))) = H1 at k1 ⊢
  have hw1 : H1 wk = some (.ins D dx (wF d lo lt (20000 - ((m.n : Nat) : Int) + 1))) := by rw [← hH1]; exact upd_same
  have t1 : Tups H H1 := fun b xs e => k1 b _ (by
    have n1 : b ≠ wk := ne_of e hw (by intro z; cases z)
    have n2 : b ≠ lo := ne_of e hlo (by intro z; cases z)
    simp [n1, n2]) e
  have hlo1 : H1 lo = some (.lst (rs.reverse.map V.ref)) := by rw [← hH1, upd_ne (Ne.symm hwlo)]; exact hlo
  have s01 : Same H0 H1 := fun b u e => by
    rw [← hH1, upd_ne (ne_of_none e W.nw)]; exact W.same _ _ e
  have hnb1 : H1 nb = some (.tup ((keyN x).map kV)) := by rw [keyN_kV]; exact t1 _ _ hnb
  have hd1 := s01 _ _ hd0
  refine ⟨_, rfl, _, rfl, wk, D, dx, _, _, rfl, hw1, T.clD, T.nRules, wF_rules _ _ _ _, d, _, rfl, DGet.t hd1 hnb1, _, rfl, ?_⟩
  have hopn : opn s x m = match s.find? fun q => q.1 == x with
    | none => .inl (-2)
    | some q => if (m.op.map (·.1)).contains x then .inl (-40) else match m.n with
      | 0 => .inl (-62)
      | k + 1 => .inr ⟨(x, prog q.2, 0) :: m.op, m.tx, k⟩ := rfl
  rw [hopn] at qE qQ
  cases hf : s.find? fun q => q.1 == x with
  | none =>
    rw [rdict_none hkv hf]
    rw [hf] at qE
    exact iteT (qE (-2) rfl H1)
  | some q =>
    rw [hf] at qE qQ
    dsimp only at qE qQ
    obtain ⟨sa, hval, hsa⟩ := rdict_some hkv hf
    rw [hval]
    refine iteF ?_
    refine ⟨_, rfl, _, rfl, wk, D, dx, _, _, rfl, hw1, T.clD, T.nOpened, wF_opened _ _ _ _, lo, rfl, ⟨_, SqL.of hlo1⟩, fun Dl hDl => ?_⟩
    have hrs1 : Paired (FrAt C H0 H1 wk) rs m.op := frs_keep hrs (fun b u n1 n2 e => k1 b u (by
      have n3 : b ≠ lo := fun z => by subst z; rw [hlo] at e; cases e; exact n2 _ rfl
      simp [n1, n3]) e) t1
    have hrev := paired_rev hrs1
    refine lc_list (K := K) (xs := rs.reverse.map V.ref) (fun j H' => ∃ ns : List Addr, H' = upd H1 Dl (.lst (ns.map V.ref)) ∧ Paired (fun a x => H1 a = some (.tup (bv x))) ns ((m.op.reverse.take j).map (·.1))) ⟨[], rfl, .nil⟩
      (fun j H' _ ⟨ns, e, _⟩ => by rw [e]; exact SqL.of (by rw [upd_ne (ne_of_none hlo1 hDl)]; exact hlo1)) (fun j y H' hx hP => ?_) (fun H' hP => ?_)
    · obtain ⟨ns, rfl, hns⟩ := hP
      rw [List.getElem?_map] at hx
      obtain ⟨r, hr', rfl⟩ := Option.map_eq_some_iff.mp hx
      obtain ⟨fr, hq, dxr, nm, sar, g1, g2, g3, g4, g5⟩ := fr_get hrev hr'
      refine ⟨rfl, ?_⟩
      unfold tYes
      dsimp only
      refine iteT ⟨_, rfl, r, C, dxr, _, _, rfl, by rw [upd_ne (ne_of_none g1 hDl)]; exact g1, T.clC, T.nName, oF_name _ _ _, _, upd_same, ?_, ns ++ [nm], ?_, ?_⟩
      · rw [List.length_map, Paired.length hns, List.length_map, List.length_take, List.length_reverse]
        exact small_len (by omega)
      · rw [upd_upd, List.map_append]; rfl
      · rw [List.take_succ, hq, List.map_append]
        exact Paired.snoc' hns g2
    obtain ⟨ns, rfl, hns⟩ := hP
    rw [List.length_map, List.length_reverse, Paired.length hrs, ← List.length_reverse, List.take_length] at hns
    have s2 := same_new hDl (.lst (ns.map V.ref))
    have k2 : Keep [wk, lo] H (upd H1 Dl (.lst (ns.map V.ref))) := k1.trans (Keep.of s2)
    have hw2 := s2 _ _ hw1
    have hlo2 := s2 _ _ hlo1
    generalize hH2 : upd H1 Dl (.lst (ns.map V.ref)) = H2 at s2 k2 hw2 hlo2 ⊢
    have hDl2 : H2 Dl = some (.lst (ns.map V.ref)) := by rw [← hH2]; exact upd_same
    have hnb2 := s2 _ _ (t1 _ _ hnb)
    refine ⟨nb, Dl, ns, x, m.op.reverse.map (·.1), rfl, rfl, hnb2, SqL.of hDl2, Paired.mapP hns fun a y e => s2 _ _ e, _, rfl, ?_⟩
    have ec : (m.op.reverse.map (·.1)).contains x = (m.op.map (·.1)).contains x := by
      rw [List.map_reverse]; simp
    rw [ec]
    by_cases z : (m.op.map (·.1)).contains x = true
    · rw [if_pos z] at qE
      rw [z]
      exact iteT (qE (-40) rfl H2)
    rw [if_neg z] at qE qQ
    rw [Bool.eq_false_iff.mpr z]
    refine iteF ?_
    refine ⟨_, rfl, wk, D, dx, _, _, rfl, hw2, T.clD, T.nReads, wF_reads _ _ _ _, _, _, rfl, rfl, _, rfl, ite2 (fun zr => ?_) (fun zr => ?_)⟩
    · have zr' := of_decide_eq_true zr
      have n0 : m.n = 0 := by omega
      rw [n0] at qE
      exact qE (-62) rfl H2
    have zr' : ∃ k, m.n = k + 1 := by
      have := of_decide_eq_false (Bool.eq_false_iff.mpr zr)
      exact ⟨m.n - 1, by omega⟩
    obtain ⟨k, hk⟩ := zr'
    rw [hk] at qQ
    have hd2 := s2 _ _ hd1
    refine ⟨_, rfl, wk, D, dx, _, _, rfl, hw2, T.clD, T.nOpened, wF_opened _ _ _ _, .inl ⟨rfl, _, SqL.of hlo2⟩, _, rfl, _, rfl, wk, D, dx, _, _, rfl, hw2, T.clD, T.nRules, wF_rules _ _ _ _, _, rfl, d, .ref sa, rfl, ?_, ?_⟩
    · have g := DGet.t (kvs := kvs) hd2 (show H2 nb = some (.tup ((keyN x).map kV)) by rw [keyN_kV]; exact hnb2)
      rw [hval] at g
      exact g
    intro r dxr nr ndr ner
    refine ⟨r, dxr, nb, sa, rfl, upd_same, fun H3 hr3 b3 => ⟨rfl, ?_⟩⟩
    have s3 : Same H2 H3 := Same.made nr ndr fun b o e hb => b3 b o hb e
    have k3 : Keep [wk, lo] H H3 := k2.trans (Keep.of s3)
    have hlo3 := s3 _ _ hlo2
    have hw3 := s3 _ _ hw2
    refine ⟨lo, _, _, rfl, rfl, hlo3, ?_, ?_⟩
    · rw [List.length_map, List.length_reverse, Paired.length hrs]
      exact small_len (by omega)
    have k4 : Keep [wk, lo] H (upd H3 lo (.lst (rs.reverse.map V.ref ++ [.ref r]))) := k3.trans (keep_upd (by simp) _)
    have hrlo : r ≠ lo := fun z => by subst z; rw [hlo2] at nr; cases nr
    have nrH : H r = none := by
      cases e : H r with
      | none => rfl
      | some u =>
        by_cases q1 : r = wk
        · subst q1; rw [hw2] at nr; cases nr
        · have := k2 r u (by simp [q1, hrlo]) e
          rw [this] at nr; cases nr
    have nr0 : H0 r = none := W.same.free nrH
    refine qQ _ rfl _ ⟨fun b u e => ?_, W.nw, W.nlo, W.nlt, W.ll, ⟨dx, ?_⟩, ⟨r :: rs, ?_, ?_, ?_⟩, ⟨as, ?_, ?_, hand⟩⟩
    · exact k4 b u (by
        have n1 : b ≠ wk := ne_of_none e W.nw
        have n2 : b ≠ lo := ne_of_none e W.nlo
        simp [n1, n2]) (W.same _ _ e)
    · rw [upd_ne hwlo, hw3, hk]
      have e : 20000 - ((k + 1 : Nat) : Int) + 1 = 20000 - ((k : Nat) : Int) := by omega
      rw [e]
    · rw [upd_same, List.reverse_cons, List.map_append]; rfl
    · have t4 : Tups H (upd H3 lo (.lst (rs.reverse.map V.ref ++ [.ref r]))) := fun b xs e => k4 b _ (by
        have n1 : b ≠ wk := ne_of e hw (by intro z; cases z)
        have n2 : b ≠ lo := ne_of e hlo (by intro z; cases z)
        simp [n1, n2]) e
      refine .cons ⟨dxr, nb, sa, ?_, t4 _ _ hnb, hsa, nr0, fun z => ?_⟩ (frs_keep hrs (fun b u n1 n2 e => k4 b u (by
        have n3 : b ≠ lo := fun z => by subst z; rw [hlo] at e; cases e; exact n2 _ rfl
        simp [n1, n3]) e) t4)
      · rw [upd_ne hrlo]; exact hr3
      · subst z; rw [hw2] at nr; cases nr
    · refine List.nodup_cons.mpr ⟨fun hm => ?_, hnd⟩
      obtain ⟨fr, _, _, _, g1, _⟩ := fr_mem hrs r hm
      rw [g1] at nrH; cases nrH
    · exact k4 lt _ (by simp [Ne.symm hwlt, Ne.symm W.ll]) hlt
    · refine txs_keep has fun a ha u e => k4 a u ?_ e
      obtain ⟨b, g1, g2, g3, g4⟩ := tx_mem has a ha
      have n1 : a ≠ wk := ne_of g1 hw (by intro z; cases z)
      simp [n1, g3]
end
end Ru

set_option Elab.async false
set_option linter.all false
set_option maxRecDepth 100000
namespace Ru
open PySem L2 RM Kp176

structure Fx (H0 : Hp) (lo : Addr) (H H' : Hp) : Prop where
  nl : ∀ b u, (∀ xs, u ≠ .lst xs) → H b = some u → H' b = some u
  old : ∀ b u, H0 b = some u → H b = some u → H' b = some u
  op : ∀ xs, H lo = some (.lst xs) → H' lo = some (.lst xs)
theorem Fx.of {H0 : Hp} {lo : Addr} {H H' : Hp} (h : Same H H') : Fx H0 lo H H' := ⟨fun b u _ e => h b u e, fun b u _ e => h b u e, fun _ e => h _ _ e⟩
theorem Fx.trans {H0 : Hp} {lo : Addr} {H H1 H2 : Hp} (a : Fx H0 lo H H1) (b : Fx H0 lo H1 H2) : Fx H0 lo H H2 := ⟨fun c u n e => b.nl c u n (a.nl c u n e), fun c u n e => b.old c u n (a.old c u n e), fun xs e => b.op xs (a.op xs e)⟩
theorem Fx.wr {H0 : Hp} {lo a : Addr} {H : Hp} {xs : List V} (ha : H a = some (.lst xs)) (h0 : H0 a = none) (hn : a ≠ lo) (o : HO) : Fx H0 lo H (upd H a o) :=
  ⟨fun b u n e => by rw [upd_ne (fun z => by subst z; rw [ha] at e; cases e; exact n _ rfl)]; exact e, fun b u e0 e => by rw [upd_ne (ne_of_none e0 h0)]; exact e, fun ys e => by rw [upd_ne (Ne.symm hn)]; exact e⟩
theorem Fx.tups {H0 : Hp} {lo : Addr} {H H' : Hp} (h : Fx H0 lo H H') : Tups H H' := fun b xs e => h.nl b _ (fun ys z => by cases z) e

def txAct : Stp → List Bytes → Option (Int ⊕ List Bytes)
  | .str b, tx => some (if 4096 < b.length then .inl (-28) else .inr (b :: tx))
  | .amp, b :: a :: tx => some (if 4096 < a.length + b.length then .inl (-28) else .inr ((a ++ b) :: tx))
  | .size, a :: tx => some (.inr (digits a.length :: tx))
  | .first k, a :: tx => some (.inr (a.take k :: tx))
  | .rest k, a :: tx => some (.inr (a.drop k :: tx))
  | _, _ => none

section
variable {P : Program} {w : World} {K : PySem.W.Frag} {mg : Str → Option Value} {base : Heap} {f : Addr} {fd : FuncData} {c28 : Addr}
variable {f1 f2 f3 f4 f5 : Addr} {d1 d2 d3 d4 d5 : FuncData}

theorem pop_last {a : Addr} {as : List Addr} : ((a :: as).reverse.map V.ref)[((a :: as).reverse.map V.ref).length - 1]? = some (.ref a) := by
  rw [List.reverse_cons, List.map_append, List.length_append]
  simp
theorem pop_rest {a : Addr} {as : List Addr} : ((a :: as).reverse.map V.ref).dropLast = as.reverse.map V.ref := by
  rw [List.reverse_cons, List.map_append]
  simp
theorem TxAt.push {H0 H : Hp} {lo lt l : Addr} {tx : List Bytes} {b : Bytes} {xs : List V} (h : TxAt H0 lo lt tx H) (hx : H lt = some (.lst xs)) (hl : H l = some (.lst (bv b))) (h0 : H0 l = none) (hlo : l ≠ lo) (hlt : l ≠ lt) (hnew : ∀ as : List Addr, Paired (TxO H0 H lo lt) as tx → xs = as.reverse.map V.ref → l ∉ as) :
    TxAt H0 lo lt (b :: tx) (upd H lt (.lst (xs ++ [.ref l]))) := by
  obtain ⟨as, h1, h2, h3⟩ := h
  rw [h1] at hx; cases hx
  refine ⟨l :: as, by rw [upd_same, List.reverse_cons, List.map_append]; rfl, .cons ⟨by rw [upd_ne hlt]; exact hl, h0, hlo, hlt⟩ (txs_keep h2 fun a ha u e => ?_), List.nodup_cons.mpr ⟨hnew as h2 rfl, h3⟩⟩
  obtain ⟨_, _, _, _, g⟩ := tx_mem h2 a ha
  rw [upd_ne g]; exact e
theorem TxAt.same {H0 H H' : Hp} {lo lt : Addr} {tx : List Bytes} (h : TxAt H0 lo lt tx H) (sm : Same H H') : TxAt H0 lo lt tx H' := by
  obtain ⟨as, h1, h2, h3⟩ := h
  exact ⟨as, sm _ _ h1, txs_keep h2 fun a _ u e => sm _ _ e, h3⟩
theorem TxAt.pop {H0 H : Hp} {lo lt : Addr} {tx : List Bytes} {b : Bytes} (h : TxAt H0 lo lt (b :: tx) H) : ∃ (a : Addr) (xs : List V), H lt = some (.lst xs) ∧ xs[xs.length - 1]? = some (.ref a) ∧ H a = some (.lst (bv b)) ∧ H0 a = none ∧ a ≠ lo ∧ a ≠ lt ∧
    TxAt H0 lo lt tx (upd H lt (.lst xs.dropLast)) ∧ upd H lt (.lst xs.dropLast) a = some (.lst (bv b)) ∧ (∀ as : List Addr, xs.dropLast = as.reverse.map V.ref → a ∉ as) := by
  obtain ⟨as, h1, h2, h3⟩ := h
  cases h2 with
  | @cons a _ as' _ g t =>
    obtain ⟨g1, g2, g3, g4⟩ := g
    obtain ⟨n1, n2⟩ := List.nodup_cons.mp h3
    refine ⟨a, _, h1, pop_last, g1, g2, g3, g4, ⟨as', by rw [upd_same, pop_rest], txs_keep t fun c hc u e => ?_, n2⟩, by rw [upd_ne g4]; exact g1, fun bs e => ?_⟩
    · obtain ⟨_, _, _, _, z⟩ := tx_mem t c hc
      rw [upd_ne z]; exact e
    · rw [pop_rest] at e
      have inj : ∀ (l m : List Addr), l.map V.ref = m.map V.ref → l = m := by
        intro l
        induction l with
        | nil => intro m e; cases m with
          | nil => rfl
          | cons _ _ => cases e
        | cons x l ih => intro m e; cases m with
          | nil => cases e
          | cons y m =>
            simp only [List.map_cons, List.cons.injEq, V.ref.injEq] at e
            rw [e.1, ih m e.2]
      have := inj _ _ e
      have e2 : as' = bs := by
        have := congrArg List.reverse this
        rwa [List.reverse_reverse, List.reverse_reverse] at this
      rw [← e2]; exact n1
theorem tx_size {H0 H : Hp} {lo lt : Addr} {tx : List Bytes} {xs : List V} (h : TxAt H0 lo lt tx H) (hx : H lt = some (.lst xs)) : xs.length = tx.length := by
  obtain ⟨as, h1, h2, _⟩ := h
  rw [h1] at hx; cases hx
  rw [List.length_map, List.length_reverse]; exact Paired.length h2

def spLeave (c28 : Addr) : Sp := fun vs H Q E => ∃ (lt b : Addr) (H0 : Hp) (lo : Addr) (tx : List Bytes) (s : Bytes), vs = [.ref lt, .ref b] ∧ TxAt H0 lo lt tx H ∧ H0 lt = none ∧ Same H0 H ∧ lo ≠ lt ∧ (∃ ys, H lo = some (.lst ys)) ∧ H b = some (.tup (bv s)) ∧ tx.length ≤ 1000000 ∧
  (4096 < s.length → ∀ H', E (.ref c28) none H') ∧ (¬ 4096 < s.length → ∀ H', TxAt H0 lo lt (s :: tx) H' → Fx H0 lo H H' → Q .non H')
theorem scLeave : FnScope ["texts", "string"] ["texts", "string"] (defScope sLeave) := ⟨rfl, rfl, rfl, by decide +kernel, rfl, by decide +kernel, by decide +kernel⟩
theorem pile_len {n : Nat} (h : n ≤ 1000000) : n < sizeLine := Nat.lt_of_le_of_lt h (by decide)
theorem ok_leave (C3 : Consts3 mg) (O3 : NR "TextTooLong" mg base c28) (F : Fun K "leave_string" "leave_string" sLeave f fd) : FnOk P w K mg base (CXE P w) 1 f fd ["texts", "string"] (spLeave c28) := by
  refine F.okE scLeave (fun vs H Q E ⟨_, _, _, _, _, _, h, _⟩ => by rw [h]; rfl) (fun cdv A outer s0 H vs Q E hr h => ?_)
  obtain ⟨lt, b, H0, lo, tx, s, rfl, hT, nlt, sm, hll, ⟨ys, hlo⟩, hb, hn, qE, qQ⟩ := h
  refine ⟨_, pss_cons (ps_if (pt_cmpR op_gt (pe_callB call_len_seq rfl C3.len PySem.boot_len (pa_cons (pv 1) pa_nil)) (pgi C3.mostText) (nomark _)) (pss_one (ps_raise0 PySem.F.excBase_Exception O3 hr.hd rfl)) pss_nil)
    (pss_one (ps_expr (pe_bm PySem.F.plainAttrs_list PySem.F.slot_list_append PySem.F.type_list_append mt_append (pv 0) (pa_cons (pe_callTy call_list_of rfl C3.list PyProof.Rows.boot_list (pa_cons (pv 1) pa_nil)) pa_nil)))), ?_⟩
  obtain ⟨xs, hx⟩ : ∃ xs, H lt = some (.lst xs) := let ⟨as, h1, _⟩ := hT; ⟨_, h1⟩
  refine ⟨_, rfl, b, _, rfl, .inr (SqT.of hb), _, _, rfl, rfl, _, rfl, ite2 (fun z => ?_) (fun z => ?_)⟩
  · have := of_decide_eq_true z
    rw [bv_len] at this
    exact qE (by omega) H
  have z' : ¬ 4096 < s.length := by
    have := of_decide_eq_false (Bool.eq_false_iff.mpr z)
    rw [bv_len] at this; omega
  refine ⟨_, rfl, .inl ⟨rfl, _, SqL.of hx⟩, _, rfl, b, _, rfl, .inr (SqT.of hb), fun l hl => ?_⟩
  have s1 := same_new hl (.lst (bv s))
  have hx1 := s1 _ _ hx
  have hT1 := hT.same s1
  refine ⟨lt, _, _, rfl, rfl, hx1, by rw [tx_size hT hx]; exact pile_len hn, ?_⟩
  refine qQ z' _ (hT1.push hx1 upd_same (sm.free hl) (ne_of_none hlo hl).symm (ne_of_none hx hl).symm fun as h2 e hm => ?_) ((Fx.of s1).trans (Fx.wr hx1 nlt (Ne.symm hll) _))
  obtain ⟨as', g1, g2, g3⟩ := hT
  rw [hx] at g1; cases g1
  have e' : as' = as := by
    have : as'.reverse.map V.ref = as.reverse.map V.ref := e
    have inj : ∀ (l m : List Addr), l.map V.ref = m.map V.ref → l = m := by
      intro l
      induction l with
      | nil => intro m e; cases m with
        | nil => rfl
        | cons _ _ => cases e
      | cons x l ih => intro m e; cases m with
        | nil => cases e
        | cons y m =>
          simp only [List.map_cons, List.cons.injEq, V.ref.injEq] at e
          rw [e.1, ih m e.2]
    have := congrArg List.reverse (inj _ _ this)
    rwa [List.reverse_reverse, List.reverse_reverse] at this
  subst e'
  obtain ⟨_, q, _⟩ := tx_mem g2 l hm
  rw [hl] at q; cases q

def spPut (c28 : Addr) : Sp := fun vs H Q E => ∃ (lt : Addr) (H0 : Hp) (lo : Addr) (tx : List Bytes) (a b : Bytes), vs = [.ref lt] ∧ TxAt H0 lo lt (b :: a :: tx) H ∧ H0 lt = none ∧ lo ≠ lt ∧ (∀ t ∈ b :: a :: tx, t.length ≤ 4096) ∧
  (4096 < a.length + b.length → ∀ H', E (.ref c28) none H') ∧ (¬ 4096 < a.length + b.length → ∀ H', TxAt H0 lo lt ((a ++ b) :: tx) H' → Fx H0 lo H H' → Q .non H')
theorem scPut : FnScope ["texts", "right", "left"] ["texts"] (defScope sPut) := ⟨rfl, rfl, rfl, by decide +kernel, rfl, by decide +kernel, by decide +kernel⟩
theorem last_ix {xs : List V} {v : V} (h : xs[xs.length - 1]? = some v) : atI xs (-1) = some v := by
  have hl : 0 < xs.length := by
    cases xs with
    | nil => simp at h
    | cons _ _ => simp
  unfold atI ixN
  rw [if_neg (by decide), if_pos (by omega)]
  have e : ((-1 : Int) + (xs.length : Int)).toNat = xs.length - 1 := by omega
  rw [Option.bind_some, e]; exact h
set_option maxHeartbeats 1000000 in
theorem ok_put (C3 : Consts3 mg) (O3 : NR "TextTooLong" mg base c28) (F : Fun K "put_together" "put_together" sPut f fd) : FnOk P w K mg base (CXE P w) 1 f fd ["texts"] (spPut c28) := by
  refine F.okE scPut (fun vs H Q E ⟨_, _, _, _, _, _, h, _⟩ => by rw [h]; rfl) (fun cdv A outer s0 H vs Q E hr h => ?_)
  obtain ⟨lt, H0, lo, tx, a, b, rfl, hT, nlt, hll, hsm, qE, qQ⟩ := h
  refine ⟨_, pss_cons (ps_set (i := 1) scPut.nd rfl (Or.inl rfl) (pe_bm0 PySem.F.plainAttrs_list PySem.F.slot_list_pop PySem.F.type_list_pop mt_pop (pv 0)))
    (pss_cons (ps_set (i := 2) scPut.nd rfl (Or.inl rfl) (pe_ix ix_list (pv 0) (pe_un un_neg pe_int) (fun _ _ => rfl)))
    (pss_cons (ps_if (pt_cmpR op_gt (pe_op op_add (pe_callB call_len_seq rfl C3.len PySem.boot_len (pa_cons (pv 2) pa_nil)) (pe_callB call_len_seq rfl C3.len PySem.boot_len (pa_cons (pv 1) pa_nil))) (pgi C3.mostText) (nomark _)) (pss_one (ps_raise0 PySem.F.excBase_Exception O3 hr.hd rfl)) pss_nil)
    (pss_one (ps_expr (pe_bm PySem.F.plainAttrs_list PySem.F.slot_list_extend PySem.F.type_list_extend mt_extend (pv 2) (pa_cons (pv 1) pa_nil)))))), ?_⟩
  obtain ⟨ra, xs, hx, hpop, hra, ra0, ralo, ralt, hT1, hra1, hnin⟩ := hT.pop
  obtain ⟨as1, e1, e2, e3⟩ := hT1
  cases e2 with
  | @cons la _ as' _ g t =>
    obtain ⟨hla, la0, lalo, lalt⟩ := g
    obtain ⟨n1, n2⟩ := List.nodup_cons.mp e3
    have hlen : (bv a).length = a.length := bv_len a
    have hlenb : (bv b).length = b.length := bv_len b
    have sa := hsm a (List.mem_cons_of_mem _ List.mem_cons_self)
    have sb := hsm b List.mem_cons_self
    have f1 : Fx H0 lo H (upd H lt (.lst xs.dropLast)) := Fx.wr hx nlt (Ne.symm hll) _
    refine ⟨_, rfl, .inl ⟨rfl, _, SqL.of hx⟩, lt, _, _, rfl, rfl, hx, hpop, ?_⟩
    refine ⟨_, rfl, _, rfl, lt, _, _, _, rfl, rfl, SqL.of e1, last_ix pop_last, ?_⟩
    refine ⟨_, rfl, la, _, rfl, .inl (SqL.of hla), _, rfl, ra, _, rfl, .inl (SqL.of hra1), _, _, rfl, rfl, _, _, rfl, rfl, _, rfl, ite2 (fun z => ?_) (fun z => ?_)⟩
    · have := of_decide_eq_true z
      rw [hlen, hlenb] at this
      exact qE (by omega) _
    have z' : ¬ 4096 < a.length + b.length := by
      have := of_decide_eq_false (Bool.eq_false_iff.mpr z)
      rw [hlen, hlenb] at this; omega
    refine ⟨_, rfl, .inl ⟨rfl, _, SqL.of hla⟩, _, rfl, la, ra, _, _, rfl, rfl, hla, hra1, ?_, ?_⟩
    · rw [hlen, hlenb]
      exact Nat.le_of_lt (pile_len (by omega))
    · have eb : bv a ++ bv b = bv (a ++ b) := by rw [bv, bv, bv, List.map_append]
      rw [eb]
      refine qQ z' _ ⟨la :: as', by rw [upd_ne (Ne.symm lalt)]; exact e1, .cons ⟨upd_same, la0, lalo, lalt⟩ (txs_keep t fun c hc u e => ?_), e3⟩ (f1.trans (Fx.wr hla la0 lalo _))
      rw [upd_ne (fun z => n1 (by rw [← z]; exact hc))]; exact e

def spDig : Sp := fun vs H Q _ => ∃ n : Nat, vs = [.int ((n : Nat) : Int)] ∧ n ≤ 4096 ∧ ∀ l H', Same H H' → H l = none → H' l = some (.lst (bv (digits n))) → Q (.ref l) H'
theorem scDigits : FnScope ["number", "digit"] ["number"] (defScope sDigits) := ⟨rfl, rfl, rfl, by decide +kernel, rfl, by decide +kernel, by decide +kernel⟩
theorem dig_cps (n : Nat) : (Str.ofString (toString ((n : Nat) : Int))).cps.toList = digits n := by
  rw [PySem.Str.ofString_eq_toList]
  have e : toString ((n : Nat) : Int) = toString n := rfl
  rw [e]
  rfl
theorem ok_digits (C3 : Consts3 mg) (F : Fun K "digits_of" "digits_of" sDigits f fd) : FnOk P w K mg base CX0 1 f fd ["number"] spDig := by
  refine F.ok scDigits (fun vs H Q E ⟨_, h, _⟩ => by rw [h]; rfl) (fun cdv A outer s0 H vs Q E hr h => ?_)
  obtain ⟨n, rfl, hn, q⟩ := h
  refine ⟨_, pss_one (ps_ret (pe_lc (own := [("digit", 1)]) (te := tCB (fun xs H Q => ∃ x, xs = [.str x] ∧ x.length = 1 ∧ Q (.int (x.cps.getD 0 0 : Nat)) H) (tCons (tVar 1) tNil)) (tt := tYes) rfl scDigits.nd
      (pi_str (pe_callTy call_str_int rfl C3.str PyProof.Rows.boot_str (pa_cons (pv 0) pa_nil))) (blkOk_by rfl)
      (fun _ _ _ _ _ => pg_name (i := 1) scDigits.nd rfl (Or.inl rfl) (Or.inr rfl)) (fun _ _ _ _ _ => pts_nil) (fun _ _ _ _ _ => pe_callB call_ord rfl C3.ord PyProof.Rows.boot_ord (pa_cons (pv 1) pa_nil)))), ?_⟩
  have hlog : (((n : Nat) : Int)).natAbs.log2 < 1920 := by
    have e : (((n : Nat) : Int)).natAbs = n := by omega
    rw [e]
    by_cases z : n = 0
    · subst z; decide
    · have := (Nat.log2_lt z (k := 1920)).mpr (Nat.lt_of_le_of_lt hn (by decide))
      exact this
  refine ⟨_, rfl, _, rfl, hlog, _, rfl, fun D hD => ?_⟩
  have hds : (digits n).length ≤ 4096 := digits_small n hn
  refine lc_str (fun j H'' => H'' = upd H D (.lst (bv ((digits n).take j)))) rfl (fun j c H'' hc hH => ?_) (fun H'' hH => ?_)
  · subst hH
    refine ⟨rfl, ?_⟩
    unfold tYes
    dsimp only
    refine iteT ⟨_, rfl, _, rfl, rfl, _, upd_same, ?_, ?_⟩
    · rw [bv_len, List.length_take]
      exact small_len (by omega)
    · rw [upd_upd]
      congr 2
      have hc' : (digits n)[j]? = some c := by rw [← dig_cps n]; simpa using hc
      rw [List.take_succ, hc', bv, bv, List.map_append]
      rfl
  · subst hH
    have et : (digits n).take (Str.ofString (toString ((n : Nat) : Int))).cps.size = digits n := by
      have e : (digits n).length = (Str.ofString (toString ((n : Nat) : Int))).cps.size := by rw [← dig_cps n]; exact Array.length_toList
      rw [← e, List.take_length]
    exact q D _ (same_new hD _) hD (by rw [upd_same]; exact congrArg (fun z => some (HO.lst (bv z))) et)
end
end Ru

set_option Elab.async false
set_option linter.all false
set_option maxRecDepth 100000
namespace Ru
open PySem L2 RM Kp176
theorem iteFz {b : Bool} {p q : Prop} (h : b = false) (hq : q) : if b = true then p else q := by rw [h]; exact iteF hq
theorem iteTz {b : Bool} {p q : Prop} (h : b = true) (hp : p) : if b = true then p else q := by rw [h]; exact iteT hp
def StV (H : Hp) : Stp → V → V → Prop
  | .str b, x, y => x = .str "string" ∧ ∃ a, y = .ref a ∧ H a = some (.tup (bv b))
  | .name b, x, y => x = .str "name" ∧ ∃ a, y = .ref a ∧ H a = some (.tup (bv b))
  | .amp, x, y => x = .str "&" ∧ y = .non
  | .get, x, y => x = .str "get" ∧ y = .non
  | .size, x, y => x = .str "size" ∧ y = .non
  | .first k, x, y => x = .str "first" ∧ y = .int ((k : Nat) : Int)
  | .rest k, x, y => x = .str "rest" ∧ y = .int ((k : Nat) : Int)
  | .differ p, x, y => x = .str "differ" ∧ y = .int ((p : Nat) : Int)
  | .go p, x, y => x = .str "go" ∧ y = .int ((p : Nat) : Int)
  | .fin, x, y => x = .str "end" ∧ y = .non
  | .dh, x, y => x = .str "differ" ∧ y = .non
  | .gh, x, y => x = .str "go" ∧ y = .non
theorem StpAt.vals {H : Hp} {r : Addr} {s : Stp} (h : StpAt H r s) : ∃ x y, H r = some (.tup [x, y]) ∧ StV H s x y := by
  cases s with
  | str b => obtain ⟨a, h1, h2⟩ := h; exact ⟨_, _, h1, rfl, a, rfl, h2⟩
  | name b => obtain ⟨a, h1, h2⟩ := h; exact ⟨_, _, h1, rfl, a, rfl, h2⟩
  | _ => exact ⟨_, _, h, rfl, rfl⟩
theorem StV.tups {H H' : Hp} {s : Stp} {x y : V} (h : StV H s x y) (t : Tups H H') : StV H' s x y := by
  cases s with
  | str b => obtain ⟨h1, a, h2, h3⟩ := h; exact ⟨h1, a, h2, t _ _ h3⟩
  | name b => obtain ⟨h1, a, h2, h3⟩ := h; exact ⟨h1, a, h2, t _ _ h3⟩
  | _ => exact h

theorem TxAt.pushN {H0 H H' : Hp} {lo lt l : Addr} {tx : List Bytes} {b : Bytes} {xs ys : List V} (h : TxAt H0 lo lt tx H) (s0 : Same H0 H) (hx : H lt = some (.lst xs)) (hlo : H lo = some (.lst ys)) (sm : Same H H') (hn : H l = none) (hl : H' l = some (.lst (bv b))) :
    TxAt H0 lo lt (b :: tx) (upd H' lt (.lst (xs ++ [.ref l]))) := by
  have n1 : l ≠ lo := (ne_of_none hlo hn).symm
  have n2 : l ≠ lt := (ne_of_none hx hn).symm
  obtain ⟨as, h1, h2, h3⟩ := h
  rw [h1] at hx; cases hx
  refine ⟨l :: as, by rw [upd_same, List.reverse_cons, List.map_append]; rfl, .cons ⟨by rw [upd_ne n2]; exact hl, s0.free hn, n1, n2⟩ (txs_keep h2 fun a ha u e => ?_), List.nodup_cons.mpr ⟨fun hm => ?_, h3⟩⟩
  · obtain ⟨_, _, _, _, g⟩ := tx_mem h2 a ha
    rw [upd_ne g]; exact sm _ _ e
  · obtain ⟨_, q, _⟩ := tx_mem h2 l hm
    rw [hn] at q; cases q
theorem cut_first (a : Bytes) (k : Nat) : cutV (bv a) none (some ((k : Nat) : Int)) = bv (a.take k) := by
  unfold cutV
  rw [HT.sIx_nat, HT.sIx_none, List.drop_zero, bv_len, Nat.sub_zero, bv, bv, List.map_take]
  by_cases h : k ≤ a.length
  · rw [Nat.min_eq_left h]
  · rw [Nat.min_eq_right (by omega), List.take_of_length_le (by rw [List.length_map]; exact Nat.le_refl _), List.take_of_length_le (by rw [List.length_map]; omega)]
theorem cut_rest (a : Bytes) (k : Nat) : cutV (bv a) (some ((k : Nat) : Int)) none = bv (a.drop k) := by
  unfold cutV
  rw [HT.sIx_nat, HT.sIx_none, bv_len, bv, bv, List.map_drop]
  by_cases h : k ≤ a.length
  · rw [Nat.min_eq_left h, List.take_of_length_le (by rw [List.length_drop, List.length_map]; exact Nat.le_refl _)]
  · rw [Nat.min_eq_right (by omega), List.drop_eq_nil_of_le (by rw [List.length_map]; exact Nat.le_refl _), List.drop_eq_nil_of_le (by rw [List.length_map]; omega), List.take_nil]

section
variable {P : Program} {w : World} {K : PySem.W.Frag} {mg : Str → Option Value} {base : Heap} {f : Addr} {fd : FuncData} {c28 : Addr}
variable {f1 f2 f3 f4 f5 : Addr} {d1 d2 d3 d4 d5 : FuncData}
def spText (c28 : Addr) : Sp := fun vs H Q E => ∃ (lt : Addr) (H0 : Hp) (lo : Addr) (tx : List Bytes) (st : Stp) (x y : V) (r : Int ⊕ List Bytes), vs = [.ref lt, x, y] ∧ TxAt H0 lo lt tx H ∧ H0 lt = none ∧ Same H0 H ∧ lo ≠ lt ∧ (∃ ys, H lo = some (.lst ys)) ∧
  StV H st x y ∧ txAct st tx = some r ∧ tx.length ≤ 1000000 ∧ Sm tx ∧ (∀ v, r = .inl v → ∀ H', E (.ref c28) none H') ∧ (∀ tx', r = .inr tx' → ∀ H', TxAt H0 lo lt tx' H' → Fx H0 lo H H' → Q .non H')
abbrev psText : List Str := ["texts", "what", "value"]
theorem scText : FnScope psText psText (defScope sTextStep) := ⟨rfl, rfl, rfl, by decide +kernel, rfl, by decide +kernel, by decide +kernel⟩
set_option maxHeartbeats 2000000 in
theorem ok_text (C3 : Consts3 mg) (F : Fun K "text_step" "text_step" sTextStep f fd) (G1 : FnOk P w K mg base (CXE P w) 1 f1 d1 ["texts", "string"] (spLeave c28)) (c1 : Callee K mg "leave_string" ["texts", "string"] f1 d1)
    (G2 : FnOk P w K mg base (CXE P w) 1 f2 d2 ["texts"] (spPut c28)) (c2 : Callee K mg "put_together" ["texts"] f2 d2) (G3 : FnOk P w K mg base CX0 1 f3 d3 ["number"] spDig) (c3 : Callee K mg "digits_of" ["number"] f3 d3) :
    FnOk P w K mg base (CXE P w) 2 f fd psText (spText c28) := by
  refine F.okE scText (fun vs H Q E ⟨_, _, _, _, _, _, _, _, h, _⟩ => by rw [h]; rfl) (fun cdv A outer s0 H vs Q E hr h => ?_)
  obtain ⟨lt, H0, lo, tx, st, x, y, r, rfl, hT, nlt, s0', hll, ⟨ys, hlo⟩, hV, hA, hn, hsm, qE, qQ⟩ := h
  refine ⟨_, pss_one (ps_if (pt_cmpR op_eq (pv 1) pe_str (nomark _)) (pss_one (ps_expr (pe_call G1 hr rfl c1.mg c1.kp c1.bd .nil (pass_on (fun _ _ _ z => z)) (pa_cons (pv 0) (pa_cons (pv 2) pa_nil)))))
    (pss_one (ps_if (pt_cmpR op_eq (pv 1) pe_str (nomark _)) (pss_one (ps_expr (pe_call G2 hr rfl c2.mg c2.kp c2.bd .nil (pass_on (fun _ _ _ z => z)) (pa_cons (pv 0) pa_nil))))
    (pss_one (ps_if (pt_cmpR op_eq (pv 1) pe_str (nomark _)) (pss_one (ps_expr (pe_bm PySem.F.plainAttrs_list PySem.F.slot_list_append PySem.F.type_list_append mt_append (pv 0)
        (pa_cons (pe_call G3 hr rfl c3.mg c3.kp c3.bd .nil pass0 (pa_cons (pe_callB call_len_seq rfl C3.len PySem.boot_len (pa_cons (pe_bm0 PySem.F.plainAttrs_list PySem.F.slot_list_pop PySem.F.type_list_pop mt_pop (pv 0)) pa_nil)) pa_nil)) pa_nil))))
    (pss_one (ps_if (pt_cmpR op_eq (pv 1) pe_str (nomark _)) (pss_one (ps_expr (pe_bm PySem.F.plainAttrs_list PySem.F.slot_list_append PySem.F.type_list_append mt_append (pv 0)
        (pa_cons (pe_slice sl_list (pe_bm0 PySem.F.plainAttrs_list PySem.F.slot_list_pop PySem.F.type_list_pop mt_pop (pv 0)) po_none (po_some (pv 2))) pa_nil))))
    (pss_one (ps_expr (pe_bm PySem.F.plainAttrs_list PySem.F.slot_list_append PySem.F.type_list_append mt_append (pv 0)
        (pa_cons (pe_slice sl_list (pe_bm0 PySem.F.plainAttrs_list PySem.F.slot_list_pop PySem.F.type_list_pop mt_pop (pv 0)) (po_some (pv 2)) po_none) pa_nil))))))))))), ?_⟩
  cases st with
  | str b =>
    obtain ⟨rfl, a, rfl, ha⟩ := hV
    have hA' : some (if 4096 < b.length then Sum.inl (-28) else .inr (b :: tx)) = some r := hA
    injection hA' with hA'
    refine ⟨_, rfl, rfl, _, rfl, iteTz (by decide +kernel) ⟨_, rfl, _, rfl, lt, a, H0, lo, tx, b, rfl, hT, nlt, s0', hll, ⟨ys, hlo⟩, ha, hn, fun z => ?_, fun z => ?_⟩⟩
    · rw [if_pos z] at hA'
      exact qE _ hA'.symm
    · rw [if_neg z] at hA'
      exact qQ _ hA'.symm
  | amp =>
    obtain ⟨rfl, rfl⟩ := hV
    match tx, hT, hA, hn, hsm with
    | [], _, hA, _, _ => cases hA
    | [_], _, hA, _, _ => cases hA
    | b :: a :: tx, hT, hA, hn, hsm =>
      have hA' : some (if 4096 < a.length + b.length then Sum.inl (-28) else .inr ((a ++ b) :: tx)) = some r := hA
      injection hA' with hA'
      refine ⟨_, rfl, rfl, _, rfl, iteFz (by decide +kernel) ⟨_, rfl, rfl, _, rfl, iteTz (by decide +kernel) ⟨_, rfl, lt, H0, lo, tx, a, b, rfl, hT, nlt, hll, hsm, fun z => ?_, fun z => ?_⟩⟩⟩
      · rw [if_pos z] at hA'
        exact qE _ hA'.symm
      · rw [if_neg z] at hA'
        exact qQ _ hA'.symm
  | size =>
    obtain ⟨rfl, rfl⟩ := hV
    match tx, hT, hA, hn, hsm with
    | [], _, hA, _, _ => cases hA
    | a :: tx, hT, hA, hn, hsm =>
      have hA' : some (Sum.inr (digits a.length :: tx)) = some r := hA
      injection hA' with hA'
      obtain ⟨ra, xs, hx, hpop, hra, ra0, ralo, ralt, hT1, hra1, _⟩ := hT.pop
      have f1 : Fx H0 lo H (upd H lt (.lst xs.dropLast)) := Fx.wr hx nlt (Ne.symm hll) _
      have s1 : Same H0 (upd H lt (.lst xs.dropLast)) := fun c u e => f1.old c u e (s0' _ _ e)
      have hlo1 := f1.op _ hlo
      refine ⟨_, rfl, rfl, _, rfl, iteFz (by decide +kernel) ⟨_, rfl, rfl, _, rfl, iteFz (by decide +kernel) ⟨_, rfl, rfl, _, rfl, iteTz (by decide +kernel)
        ⟨_, rfl, .inl ⟨rfl, _, SqL.of hx⟩, _, rfl, .inl ⟨rfl, _, SqL.of hx⟩, lt, _, _, rfl, rfl, hx, hpop, ra, _, rfl, .inl (SqL.of hra1), a.length, ?_, hsm a List.mem_cons_self, fun l H2 sm2 hl0 hl => ?_⟩⟩⟩⟩
      · rw [bv_len]; rfl
      · have hx2 := sm2 _ _ (upd_same (H := H) (a := lt) (o := .lst xs.dropLast))
        have hx1 : upd H lt (.lst xs.dropLast) lt = some (.lst xs.dropLast) := upd_same
        refine ⟨lt, _, _, rfl, rfl, hx2, by rw [List.length_dropLast, tx_size hT hx]; exact pile_len (by omega), ?_⟩
        exact qQ _ hA'.symm _ (hT1.pushN s1 hx1 hlo1 sm2 hl0 hl) (f1.trans ((Fx.of sm2).trans (Fx.wr hx2 nlt (Ne.symm hll) _)))
  | first k =>
    obtain ⟨rfl, rfl⟩ := hV
    match tx, hT, hA, hn, hsm with
    | [], _, hA, _, _ => cases hA
    | a :: tx, hT, hA, hn, hsm =>
      have hA' : some (Sum.inr (a.take k :: tx)) = some r := hA
      injection hA' with hA'
      obtain ⟨ra, xs, hx, hpop, hra, ra0, ralo, ralt, hT1, hra1, _⟩ := hT.pop
      have f1 : Fx H0 lo H (upd H lt (.lst xs.dropLast)) := Fx.wr hx nlt (Ne.symm hll) _
      have s1 : Same H0 (upd H lt (.lst xs.dropLast)) := fun c u e => f1.old c u e (s0' _ _ e)
      have hlo1 := f1.op _ hlo
      have hx1 : upd H lt (.lst xs.dropLast) lt = some (.lst xs.dropLast) := upd_same
      refine ⟨_, rfl, rfl, _, rfl, iteFz (by decide +kernel) ⟨_, rfl, rfl, _, rfl, iteFz (by decide +kernel) ⟨_, rfl, rfl, _, rfl, iteFz (by decide +kernel) ⟨_, rfl, rfl, _, rfl, iteTz (by decide +kernel)
        ⟨_, rfl, .inl ⟨rfl, _, SqL.of hx⟩, _, rfl, .inl ⟨rfl, _, SqL.of hx⟩, lt, _, _, rfl, rfl, hx, hpop, _, rfl, _, rfl, ra, _, rfl, SqL.of hra1, fun l hl => ?_⟩⟩⟩⟩⟩
      rw [cut_first]
      have sm2 := same_new hl (.lst (bv (a.take k)))
      have hx2 := sm2 _ _ hx1
      refine ⟨lt, _, _, rfl, rfl, hx2, by rw [List.length_dropLast, tx_size hT hx]; exact pile_len (by omega), ?_⟩
      exact qQ _ hA'.symm _ (hT1.pushN s1 hx1 hlo1 sm2 hl upd_same) (f1.trans ((Fx.of sm2).trans (Fx.wr hx2 nlt (Ne.symm hll) _)))
  | rest k =>
    obtain ⟨rfl, rfl⟩ := hV
    match tx, hT, hA, hn, hsm with
    | [], _, hA, _, _ => cases hA
    | a :: tx, hT, hA, hn, hsm =>
      have hA' : some (Sum.inr (a.drop k :: tx)) = some r := hA
      injection hA' with hA'
      obtain ⟨ra, xs, hx, hpop, hra, ra0, ralo, ralt, hT1, hra1, _⟩ := hT.pop
      have f1 : Fx H0 lo H (upd H lt (.lst xs.dropLast)) := Fx.wr hx nlt (Ne.symm hll) _
      have s1 : Same H0 (upd H lt (.lst xs.dropLast)) := fun c u e => f1.old c u e (s0' _ _ e)
      have hlo1 := f1.op _ hlo
      have hx1 : upd H lt (.lst xs.dropLast) lt = some (.lst xs.dropLast) := upd_same
      refine ⟨_, rfl, rfl, _, rfl, iteFz (by decide +kernel) ⟨_, rfl, rfl, _, rfl, iteFz (by decide +kernel) ⟨_, rfl, rfl, _, rfl, iteFz (by decide +kernel) ⟨_, rfl, rfl, _, rfl, iteFz (by decide +kernel)
        ⟨_, rfl, .inl ⟨rfl, _, SqL.of hx⟩, _, rfl, .inl ⟨rfl, _, SqL.of hx⟩, lt, _, _, rfl, rfl, hx, hpop, _, rfl, _, rfl, ra, _, rfl, SqL.of hra1, fun l hl => ?_⟩⟩⟩⟩⟩
      rw [cut_rest]
      have sm2 := same_new hl (.lst (bv (a.drop k)))
      have hx2 := sm2 _ _ hx1
      refine ⟨lt, _, _, rfl, rfl, hx2, by rw [List.length_dropLast, tx_size hT hx]; exact pile_len (by omega), ?_⟩
      exact qQ _ hA'.symm _ (hT1.pushN s1 hx1 hlo1 sm2 hl upd_same) (f1.trans ((Fx.of sm2).trans (Fx.wr hx2 nlt (Ne.symm hll) _)))
  | name b => cases hA
  | get => cases hA
  | differ q => cases hA
  | go q => cases hA
  | fin => cases hA
  | dh => cases hA
  | gh => cases hA
end
end Ru

set_option Elab.async false
set_option linter.all false
set_option maxRecDepth 100000
namespace Ru
open PySem L2 RM Kp176
section
variable {C D : Addr} {H0 H H' : Hp} {wk d lo lt : Addr}
theorem WS.texts {m : MS} {tx' : List Bytes} (W : WS C D H0 wk d lo lt m H) (hT : TxAt H0 lo lt tx' H') (fx : Fx H0 lo H H') : WS C D H0 wk d lo lt ⟨m.op, tx', m.n⟩ H' := by
  obtain ⟨dx, hw⟩ := W.wrk
  obtain ⟨rs, hlo, hrs, hnd⟩ := W.op
  exact ⟨fun b u e => fx.old b u e (W.same _ _ e), W.nw, W.nlo, W.nlt, W.ll, ⟨dx, fx.nl _ _ (fun xs z => by cases z) hw⟩, ⟨rs, fx.op _ hlo, frs_keep hrs (fun b u _ n e => fx.nl b u n e) fx.tups, hnd⟩, hT⟩
theorem WS.new {m : MS} (W : WS C D H0 wk d lo lt m H) (sm : Same H H') : WS C D H0 wk d lo lt m H' := W.texts (W.tx.same sm) (Fx.of sm)
theorem WS.place {x : Bytes} {p : List Stp} {i j : Nat} {op : List Frm} {tx : List Bytes} {n : Nat} {r dx nm sa : Addr} {rs : List Addr} (W : WS C D H0 wk d lo lt ⟨(x, p, i) :: op, tx, n⟩ H) (hlo : H lo = some (.lst ((r :: rs).reverse.map V.ref))) (hnd : (r :: rs).Nodup)
    (hr : H r = some (.ins C dx (oF nm sa ((i : Nat) : Int)))) (hnm : H nm = some (.tup (bv x))) (hsa : SsAt H0 sa p) (h0 : H0 r = none) (hrw : r ≠ wk) (hop : Paired (FrAt C H0 H wk) rs op) :
    WS C D H0 wk d lo lt ⟨(x, p, j) :: op, tx, n⟩ (upd H r (.ins C dx (oF nm sa ((j : Nat) : Int)))) := by
  obtain ⟨dxw, hw⟩ := W.wrk
  obtain ⟨n1, n2⟩ := List.nodup_cons.mp hnd
  obtain ⟨as, hlt, has, hand⟩ := W.tx
  have nins : ∀ b xs, H b = some (.lst xs) → b ≠ r := fun b xs e => ne_of e hr (by intro z; cases z)
  have ntup : ∀ b xs, H b = some (.tup xs) → b ≠ r := fun b xs e => ne_of e hr (by intro z; cases z)
  refine ⟨fun b u e => by rw [upd_ne (ne_of_none e h0)]; exact W.same _ _ e, W.nw, W.nlo, W.nlt, W.ll, ⟨dxw, by rw [upd_ne (Ne.symm hrw)]; exact hw⟩, ⟨r :: rs, by rw [upd_ne (nins _ _ hlo)]; exact hlo, .cons ⟨dx, nm, sa, upd_same, by rw [upd_ne (ntup _ _ hnm)]; exact hnm, hsa, h0, hrw⟩ ?_, hnd⟩,
    ⟨as, by rw [upd_ne (nins _ _ hlt)]; exact hlt, txs_keep has fun a ha u e => ?_, hand⟩⟩
  · have : ∀ {rs : List Addr} {op : List Frm}, Paired (FrAt C H0 H wk) rs op → r ∉ rs → Paired (FrAt C H0 (upd H r (.ins C dx (oF nm sa ((j : Nat) : Int)))) wk) rs op := by
      intro rs op h
      induction h with
      | nil => intro _; exact .nil
      | @cons r' fr rs op h _ ih =>
        intro hn
        obtain ⟨dx', nm', sa', g1, g2, g3, g4, g5⟩ := h
        have ne : r' ≠ r := fun z => hn (by rw [z]; exact List.mem_cons_self)
        exact .cons ⟨dx', nm', sa', by rw [upd_ne ne]; exact g1, by rw [upd_ne (ntup _ _ g2)]; exact g2, g3, g4, g5⟩ (ih fun z => hn (List.mem_cons_of_mem _ z))
    exact this hop n1
  · obtain ⟨b, g1, _⟩ := tx_mem has a ha
    rw [upd_ne (nins _ _ g1)]; exact e
end
theorem act_text {s : Sheet} {x : Bytes} {p : List Stp} {i : Nat} {op : List Frm} {n : Nat} {st : Stp} {tx : List Bytes} {y : Int ⊕ MS} (h : act s x p i op n st tx = some y) (hst : (∃ b, st = .str b) ∨ st = .amp ∨ st = .size ∨ (∃ k, st = .first k) ∨ ∃ k, st = .rest k) :
    ∃ r, txAct st tx = some r ∧ (∀ v, r = .inl v → y = .inl (-28)) ∧ (∀ tx', r = .inr tx' → y = .inr ⟨(x, p, i + 1) :: op, tx', n⟩) := by
  rcases hst with ⟨b, rfl⟩ | rfl | rfl | ⟨k, rfl⟩ | ⟨k, rfl⟩
  · have h' : some (if 4096 < b.length then Sum.inl (-28) else .inr ⟨(x, p, i + 1) :: op, b :: tx, n⟩) = some y := h
    injection h' with h'
    refine ⟨_, rfl, fun v e => ?_, fun tx' e => ?_⟩
    · split at e
      · rename_i z; rw [if_pos z] at h'; exact h'.symm
      · cases e
    · split at e
      · cases e
      · rename_i z; rw [if_neg z] at h'; cases e; exact h'.symm
  · match tx, h with
    | b :: a :: tx, h =>
      have h' : some (if 4096 < a.length + b.length then Sum.inl (-28) else .inr ⟨(x, p, i + 1) :: op, (a ++ b) :: tx, n⟩) = some y := h
      injection h' with h'
      refine ⟨_, rfl, fun v e => ?_, fun tx' e => ?_⟩
      · split at e
        · rename_i z; rw [if_pos z] at h'; exact h'.symm
        · cases e
      · split at e
        · cases e
        · rename_i z; rw [if_neg z] at h'; cases e; exact h'.symm
  · match tx, h with
    | a :: tx, h =>
      have h' : some (Sum.inr ⟨(x, p, i + 1) :: op, digits a.length :: tx, n⟩) = some y := h
      injection h' with h'
      exact ⟨_, rfl, (fun v e => by cases e), (fun tx' e => by cases e; exact h'.symm)⟩
  · match tx, h with
    | a :: tx, h =>
      have h' : some (Sum.inr ⟨(x, p, i + 1) :: op, a.take k :: tx, n⟩) = some y := h
      injection h' with h'
      exact ⟨_, rfl, (fun v e => by cases e), (fun tx' e => by cases e; exact h'.symm)⟩
  · match tx, h with
    | a :: tx, h =>
      have h' : some (Sum.inr ⟨(x, p, i + 1) :: op, a.drop k :: tx, n⟩) = some y := h
      injection h' with h'
      exact ⟨_, rfl, (fun v e => by cases e), (fun tx' e => by cases e; exact h'.symm)⟩
theorem lst_reads {K : PySem.W.Frag} {H : Hp} {a : Addr} {b : Bytes} (h : H a = some (.lst (bv b))) : Dp K H (.ref a) (.list (b.map fun c => PyData.int ((c : Nat) : Int))) := .lst (SqL.of h) (dp_ints b)
theorem shaped_lst (bs : List Nat) : SeqAt.shaped (.list (bs.map fun b => PyData.int ((b : Nat) : Int))) = true := shaped_ints bs

section
variable {P : Program} {w : World} {K : PySem.W.Frag} {mg : Str → Option Value} {base : Heap} {f : Addr} {fd : FuncData} {C D : Addr} {c2 c40 c28 c62 : Addr}
variable {f1 f2 f3 f4 f5 : Addr} {d1 d2 d3 d4 d5 : FuncData}
theorem stp_get {H : Hp} : ∀ {rs : List Addr} {S : List Stp} {i : Nat} {s : Stp}, Paired (StpAt H) rs S → S[i]? = some s → ∃ r, rs[i]? = some r ∧ StpAt H r s
  | _, _, _, _, .nil, e => by simp at e
  | _, _, 0, _, .cons h _, e => by simp at e; subst e; exact ⟨_, rfl, h⟩
  | _, _, i + 1, t, .cons _ r, e => by
    obtain ⟨x, h1, h2⟩ := stp_get (i := i) r (by simpa using e)
    exact ⟨x, by simpa using h1, h2⟩

def spTake (C D c2 c40 c28 c62 : Addr) : Sp := fun vs H Q E => ∃ (wk r : Addr) (s : Sheet) (H0 : Hp) (d lo lt : Addr) (m : MS) (xs : List V) (y : Int ⊕ MS), vs = [.ref wk, .ref r] ∧ RDict H0 d s ∧ WS C D H0 wk d lo lt m H ∧ H lo = some (.lst xs) ∧ xs[xs.length - 1]? = some (.ref r) ∧ mstep s m = some y ∧
  m.op.length ≤ 64 ∧ m.tx.length ≤ 1000000 ∧ Sm m.tx ∧ (∀ v, y = .inl v → ∀ H', E (.ref (cE c2 c40 c28 c62 v)) none H') ∧ (∀ m', y = .inr m' → ∀ H', WS C D H0 wk d lo lt m' H' → Q .non H')
abbrev nTake : List Str := ["work", "rule", "what", "value"]
theorem scTake : FnScope nTake ["work", "rule"] (defScope sTakeStep) := ⟨rfl, rfl, rfl, by decide +kernel, rfl, by decide +kernel, by decide +kernel⟩
set_option maxHeartbeats 8000000 in
theorem ok_take (C3 : Consts3 mg) (T : Txt K mg C D) (F : Fun K "take_step" "take_step" sTakeStep f fd) (G1 : FnOk P w K mg base (CXE P w) 3 f1 d1 ["work", "name"] (spOpen C D c2 c40 c28 c62)) (c1 : Callee K mg "open_rule" ["work", "name"] f1 d1)
    (G2 : FnOk P w K mg base (CXE P w) 2 f2 d2 psText (spText c28)) (c2' : Callee K mg "text_step" psText f2 d2) : FnOk P w K mg base (CXE P w) 4 f fd ["work", "rule"] (spTake C D c2 c40 c28 c62) := by
  refine F.okE scTake (fun vs H Q E ⟨_, _, _, _, _, _, _, _, _, _, h, _⟩ => by rw [h]; rfl) (fun cdv A outer s0 H vs Q E hr h => ?_)
  obtain ⟨wk, r, s, H0, d, lo, lt, m, xs, y, rfl, hRD, W, hlo, hlast, hst, hol, htl, hsm, qE, qQ⟩ := h
  refine ⟨_, pss_cons (ps_set (i := 2) scTake.nd rfl (Or.inl rfl) (pe_ix ix_tup (pe_ix ix_list (pe_fld (pv 1) rfl) (pe_fld (pv 1) rfl) (fun _ _ => rfl)) pe_int (fun _ _ => rfl)))
    (pss_cons (ps_set (i := 3) scTake.nd rfl (Or.inl rfl) (pe_ix ix_tup (pe_ix ix_list (pe_fld (pv 1) rfl) (pe_fld (pv 1) rfl) (fun _ _ => rfl)) pe_int (fun _ _ => rfl)))
    (pss_cons (ps_fld (pv 1) (pe_op op_add (pe_fld (pv 1) rfl) pe_int) rfl)
    (pss_one (ps_if (pt_cmpR op_eq (pv 2) pe_str (nomark _)) (pss_one (ps_expr (pe_call G1 hr rfl c1.mg c1.kp c1.bd .nil (pass_on (fun _ _ _ z => z)) (pa_cons (pv 0) (pa_cons (pv 3) pa_nil)))))
    (pss_one (ps_if (pt_cmpR op_eq (pv 2) pe_str (nomark _)) (pss_one (ps_expr (pe_call G1 hr rfl c1.mg c1.kp c1.bd .nil (pass_on (fun _ _ _ z => z)) (pa_cons (pv 0) (pa_cons (pe_callTy call_tuple_of rfl C3.tuple PyProof.Rows.boot_tuple (pa_cons (pe_bm0 PySem.F.plainAttrs_list PySem.F.slot_list_pop PySem.F.type_list_pop mt_pop (pe_fld (pv 0) rfl)) pa_nil)) pa_nil)))))
    (pss_one (ps_if (pt_cmpR op_eq (pv 2) pe_str (nomark _)) (pss_one (ps_if (pt_cmpR (op_neD hr.units) (pe_bm0 PySem.F.plainAttrs_list PySem.F.slot_list_pop PySem.F.type_list_pop mt_pop (pe_fld (pv 0) rfl)) (pe_bm0 PySem.F.plainAttrs_list PySem.F.slot_list_pop PySem.F.type_list_pop mt_pop (pe_fld (pv 0) rfl)) (nomark _))
        (pss_one (ps_fld (pv 1) (pv 3) rfl)) pss_nil))
    (pss_one (ps_if (pt_cmpR op_eq (pv 2) pe_str (nomark _)) (pss_one (ps_fld (pv 1) (pv 3) rfl))
    (pss_one (ps_if (pt_cmpR op_eq (pv 2) pe_str (nomark _)) (pss_one (ps_expr (pe_bm0 PySem.F.plainAttrs_list PySem.F.slot_list_pop PySem.F.type_list_pop mt_pop (pe_fld (pv 0) rfl))))
    (pss_one (ps_expr (pe_call G2 (hr.mono (by decide)) rfl c2'.mg c2'.kp c2'.bd .nil (pass_on (fun _ _ _ z => z)) (pa_cons (pe_fld (pv 0) rfl) (pa_cons (pv 2) (pa_cons (pv 3) pa_nil)))))))))))))))))), ?_⟩
  obtain ⟨op0, tx, n⟩ := m
  cases op0 with
  | nil => cases hst
  | cons fr op =>
    obtain ⟨x, p, i⟩ := fr
    obtain ⟨rs0, hlo', hrs, hnd⟩ := W.op
    rw [hlo] at hlo'; cases hlo'
    cases hrs with
    | @cons r' _ rs _ hfr hop =>
      rw [pop_last] at hlast
      injection hlast with hlast
      injection hlast with hlast
      subst hlast
      obtain ⟨dxr, nm, sa, hr1, hnm, hsa, h0r, hrw⟩ := hfr
      have hst' : (match p[i]? with
        | none => none
        | some st => act s x p i op n st tx) = some y := hst
      cases hpi : p[i]? with
      | none => rw [hpi] at hst'; cases hst'
      | some st =>
        rw [hpi] at hst'
        dsimp only at hst'
        have hsaH := hsa.same W.same
        obtain ⟨ss, hsl, hsp⟩ := hsaH
        obtain ⟨sr, hsr, hstp⟩ := stp_get hsp hpi
        obtain ⟨what, val, htp, hV⟩ := hstp.vals
        refine ⟨_, rfl, r', C, dxr, _, _, rfl, hr1, T.clC, T.nSteps, oF_steps _ _ _, _, rfl, r', C, dxr, _, _, rfl, hr1, T.clC, T.nPlace, oF_place _ _ _, sa, _, _, _, rfl, rfl, SqL.of hsl, at_refs hsr, sr, _, _, _, rfl, rfl, SqT.of htp, atI_nat (j := 0) rfl, ?_⟩
        refine ⟨_, rfl, r', C, dxr, _, _, rfl, hr1, T.clC, T.nSteps, oF_steps _ _ _, _, rfl, r', C, dxr, _, _, rfl, hr1, T.clC, T.nPlace, oF_place _ _ _, sa, _, _, _, rfl, rfl, SqL.of hsl, at_refs hsr, sr, _, _, _, rfl, rfl, SqT.of htp, atI_nat (j := 1) rfl, ?_⟩
        refine ⟨_, rfl, r', C, dxr, _, _, rfl, hr1, T.clC, T.nPlace, oF_place _ _ _, _, _, rfl, rfl, _, rfl, r', C, dxr, _, rfl, hr1, T.clC, T.nPlace, (by show 3 < 1000; decide), ?_⟩
        have e1 : ((i : Nat) : Int) + 1 = ((i + 1 : Nat) : Int) := by omega
        rw [oF_put, e1]
        have W1 := W.place (j := i + 1) hlo hnd hr1 hnm hsa h0r hrw hop
        have tk1 : Tups H (upd H r' (.ins C dxr (oF nm sa ((i + 1 : Nat) : Int)))) := fun b ys e => by rw [upd_ne (ne_of e hr1 (by intro z; cases z))]; exact e
        have hV1 := hV.tups tk1
        have hlo1 : upd H r' (.ins C dxr (oF nm sa ((i + 1 : Nat) : Int))) lo = some (.lst ((r' :: rs).reverse.map V.ref)) := by rw [upd_ne (ne_of hlo hr1 (by intro z; cases z))]; exact hlo
        have hr2 : upd H r' (.ins C dxr (oF nm sa ((i + 1 : Nat) : Int))) r' = some (.ins C dxr (oF nm sa ((i + 1 : Nat) : Int))) := upd_same
        have hnm1 := tk1 _ _ hnm
        generalize upd H r' (.ins C dxr (oF nm sa ((i + 1 : Nat) : Int))) = H1 at W1 tk1 hV1 hlo1 hr2 hnm1 ⊢
        obtain ⟨rs1, hl1, hrs1, hnd1⟩ := W1.op
        have ers : rs1 = r' :: rs := by
          rw [hlo1] at hl1
          injection hl1 with hl1
          injection hl1 with hl1
          have inj : ∀ (l m : List Addr), l.map V.ref = m.map V.ref → l = m := by
            intro l
            induction l with
            | nil => intro m e; cases m with
              | nil => rfl
              | cons _ _ => cases e
            | cons x l ih => intro m e; cases m with
              | nil => cases e
              | cons y m =>
                simp only [List.map_cons, List.cons.injEq, V.ref.injEq] at e
                rw [e.1, ih m e.2]
          have := congrArg List.reverse (inj _ _ hl1)
          rw [List.reverse_reverse, List.reverse_reverse] at this
          exact this.symm
        subst ers
        have hop1 : Paired (FrAt C H0 H1 wk) rs op := by cases hrs1 with | cons _ t => exact t
        obtain ⟨dxw, hw1⟩ := W1.wrk
        obtain ⟨as1, hlt1, has1, hand1⟩ := id W1.tx
        have hol' : (((x, p, i + 1) :: op : List Frm)).length ≤ 100 := by
          have : (((x, p, i) :: op : List Frm)).length ≤ 64 := hol
          rw [List.length_cons] at this ⊢; omega
        have ce : cE c2 c40 c28 c62 (-28) = c28 := rfl
        have nc : ∀ xs, HO.ins C dxr (oF nm sa ((i + 1 : Nat) : Int)) ≠ .lst xs := fun xs z => by cases z
        cases st with
        | name b =>
          obtain ⟨rfl, a, rfl, ha⟩ := hV1
          have hA : some (opn s b ⟨(x, p, i + 1) :: op, tx, n⟩) = some y := hst'
          injection hA with hA
          refine ⟨_, rfl, rfl, _, rfl, iteTz (by decide +kernel) ⟨_, rfl, _, rfl, wk, a, s, H0, d, lo, lt, _, b, rfl, hRD, W1, ha, hol', fun v e => qE v (hA.symm.trans e), fun m' e => qQ m' (hA.symm.trans e)⟩⟩
        | get =>
          obtain ⟨rfl, rfl⟩ := hV1
          cases tx with
          | nil => cases hst'
          | cons a tx =>
            have hA : some (opn s a ⟨(x, p, i + 1) :: op, tx, n⟩) = some y := hst'
            injection hA with hA
            obtain ⟨ra, xs, hx, hpop, hra, ra0, ralo, ralt, hT1, hra1, _⟩ := W1.tx.pop
            have W2 := W1.texts hT1 (Fx.wr hx W1.nlt (Ne.symm W1.ll) (.lst xs.dropLast))
            refine ⟨_, rfl, rfl, _, rfl, iteFz (by decide +kernel) ⟨_, rfl, rfl, _, rfl, iteTz (by decide +kernel) ⟨_, rfl, _, rfl, wk, D, dxw, _, _, rfl, hw1, T.clD, T.nTexts, wF_texts _ _ _ _, .inl ⟨rfl, _, SqL.of hx⟩, lt, _, _, rfl, rfl, hx, hpop, ra, _, rfl, .inl ⟨SqL.of hra1, fun l hl => ?_⟩⟩⟩⟩
            exact ⟨wk, l, s, H0, d, lo, lt, _, a, rfl, hRD, W2.new (same_new hl _), upd_same, hol', fun v e => qE v (hA.symm.trans e), fun m' e => qQ m' (hA.symm.trans e)⟩
        | differ q =>
          obtain ⟨rfl, rfl⟩ := hV1
          cases tx with
          | nil => cases hst'
          | cons b tx =>
            cases tx with
            | nil => cases hst'
            | cons a tx =>
              have hA : some (Sum.inr ⟨(x, p, if a = b then i + 1 else q) :: op, tx, n⟩) = some y := hst'
              injection hA with hA
              obtain ⟨rb, xs, hx, hpop, hrb, rb0, rblo, rblt, hT1, hrb1, _⟩ := W1.tx.pop
              have f1 := Fx.wr hx W1.nlt (Ne.symm W1.ll) (.lst xs.dropLast)
              have W2 := W1.texts hT1 f1
              obtain ⟨dxw2, hw2⟩ := W2.wrk
              obtain ⟨ra, xs2, hx2, hpop2, hra, ra0, ralo, ralt, hT2, hra1, _⟩ := W2.tx.pop
              have f2 := Fx.wr hx2 W1.nlt (Ne.symm W1.ll) (.lst xs2.dropLast)
              have W3 := W2.texts hT2 f2
              have f12 := f1.trans f2
              have hrb3 : upd (upd H1 lt (.lst xs.dropLast)) lt (.lst xs2.dropLast) rb = some (.lst (bv b)) := by rw [upd_ne rblt]; exact hrb1
              refine ⟨_, rfl, rfl, _, rfl, iteFz (by decide +kernel) ⟨_, rfl, rfl, _, rfl, iteFz (by decide +kernel) ⟨_, rfl, rfl, _, rfl, iteTz (by decide +kernel) ⟨_, rfl, wk, D, dxw, _, _, rfl, hw1, T.clD, T.nTexts, wF_texts _ _ _ _, .inl ⟨rfl, _, SqL.of hx⟩, lt, _, _, rfl, rfl, hx, hpop, _, rfl, wk, D, dxw2, _, _, rfl, hw2, T.clD, T.nTexts, wF_texts _ _ _ _, .inl ⟨rfl, _, SqL.of hx2⟩, lt, _, _, rfl, rfl, hx2, hpop2, _, _, lst_reads hrb3, lst_reads hra1, shaped_lst b, shaped_lst a, _, rfl, ?_⟩⟩⟩⟩
              have ee : PyData.eqv (.list (b.map fun c => PyData.int ((c : Nat) : Int))) (.list (a.map fun c => PyData.int ((c : Nat) : Int))) = decide (b = a) := eqv_ints b a
              rw [ee]
              by_cases z : b = a
              · rw [decide_eq_true z]
                rw [if_pos z.symm] at hA
                exact iteF (qQ _ hA.symm _ W3)
              · rw [decide_eq_false z]
                rw [if_neg (Ne.symm z)] at hA
                have hr3 := f12.nl _ _ nc hr2
                refine iteT ⟨_, rfl, _, rfl, r', C, dxr, _, rfl, hr3, T.clC, T.nPlace, (by show 3 < 1000; decide), ?_⟩
                rw [oF_put]
                exact qQ _ hA.symm _ (W3.place (j := q) (f12.op _ hlo1) hnd hr3 (f12.tups _ _ hnm1) hsa h0r hrw (frs_keep hop1 (fun b u _ n e => f12.nl b u n e) f12.tups))
        | go q =>
          obtain ⟨rfl, rfl⟩ := hV1
          have hA : some (Sum.inr ⟨(x, p, q) :: op, tx, n⟩) = some y := hst'
          injection hA with hA
          refine ⟨_, rfl, rfl, _, rfl, iteFz (by decide +kernel) ⟨_, rfl, rfl, _, rfl, iteFz (by decide +kernel) ⟨_, rfl, rfl, _, rfl, iteFz (by decide +kernel) ⟨_, rfl, rfl, _, rfl, iteTz (by decide +kernel) ⟨_, rfl, _, rfl, r', C, dxr, _, rfl, hr2, T.clC, T.nPlace, (by show 3 < 1000; decide), ?_⟩⟩⟩⟩⟩
          rw [oF_put]
          exact qQ _ hA.symm _ (W1.place (j := q) hlo1 hnd hr2 hnm1 hsa h0r hrw hop1)
        | fin =>
          obtain ⟨rfl, rfl⟩ := hV1
          have hA : some (Sum.inr ⟨op, tx, n⟩) = some y := hst'
          injection hA with hA
          refine ⟨_, rfl, rfl, _, rfl, iteFz (by decide +kernel) ⟨_, rfl, rfl, _, rfl, iteFz (by decide +kernel) ⟨_, rfl, rfl, _, rfl, iteFz (by decide +kernel) ⟨_, rfl, rfl, _, rfl, iteFz (by decide +kernel) ⟨_, rfl, rfl, _, rfl, iteTz (by decide +kernel) ⟨_, rfl, wk, D, dxw, _, _, rfl, hw1, T.clD, T.nOpened, wF_opened _ _ _ _, .inl ⟨rfl, _, SqL.of hlo1⟩, lo, _, _, rfl, rfl, hlo1, pop_last, ?_⟩⟩⟩⟩⟩⟩
          have nlo : ∀ b u, (∀ xs, u ≠ .lst xs) → H1 b = some u → upd H1 lo (.lst ((r' :: rs).reverse.map V.ref).dropLast) b = some u := fun b u n e => by
            rw [upd_ne (fun z => by subst z; rw [hlo1] at e; cases e; exact n _ rfl)]; exact e
          refine qQ _ hA.symm _ ⟨fun b u e => by rw [upd_ne (ne_of_none e W1.nlo)]; exact W1.same _ _ e, W1.nw, W1.nlo, W1.nlt, W1.ll, ⟨dxw, nlo _ _ (fun xs z => by cases z) hw1⟩, ⟨rs, by rw [upd_same, pop_rest], frs_keep hop1 (fun b u _ n e => nlo b u n e) (fun b ys e => nlo b _ (fun xs z => by cases z) e), (List.nodup_cons.mp hnd).2⟩,
            ⟨as1, by rw [upd_ne (Ne.symm W1.ll)]; exact hlt1, txs_keep has1 fun a ha u e => ?_, hand1⟩⟩
          obtain ⟨b, g1, g2, g3, g4⟩ := tx_mem has1 a ha
          rw [upd_ne g3]; exact e
        | dh => cases hst'
        | gh => cases hst'
        | str b =>
          obtain ⟨rt, hrt, hE, hQ⟩ := act_text hst' (.inl ⟨b, rfl⟩)
          have hV2 := hV1
          obtain ⟨rfl, a, rfl, ha⟩ := hV1
          refine ⟨_, rfl, rfl, _, rfl, iteFz (by decide +kernel) ⟨_, rfl, rfl, _, rfl, iteFz (by decide +kernel) ⟨_, rfl, rfl, _, rfl, iteFz (by decide +kernel) ⟨_, rfl, rfl, _, rfl, iteFz (by decide +kernel) ⟨_, rfl, rfl, _, rfl, iteFz (by decide +kernel) ⟨_, rfl, wk, D, dxw, _, _, rfl, hw1, T.clD, T.nTexts, wF_texts _ _ _ _, _, rfl, _, rfl, lt, H0, lo, tx, _, _, _, rt, rfl, W1.tx, W1.nlt, W1.same, W1.ll, ⟨_, hlo1⟩, hV2, hrt, htl, hsm, fun v e H' => ?_, fun tx' e H' hT fx => ?_⟩⟩⟩⟩⟩⟩
          · rw [← ce]; exact qE _ (hE v e) H'
          · exact qQ _ (hQ tx' e) H' (W1.texts hT fx)
        | amp =>
          obtain ⟨rt, hrt, hE, hQ⟩ := act_text hst' (.inr (.inl rfl))
          have hV2 := hV1
          obtain ⟨rfl, rfl⟩ := hV1
          refine ⟨_, rfl, rfl, _, rfl, iteFz (by decide +kernel) ⟨_, rfl, rfl, _, rfl, iteFz (by decide +kernel) ⟨_, rfl, rfl, _, rfl, iteFz (by decide +kernel) ⟨_, rfl, rfl, _, rfl, iteFz (by decide +kernel) ⟨_, rfl, rfl, _, rfl, iteFz (by decide +kernel) ⟨_, rfl, wk, D, dxw, _, _, rfl, hw1, T.clD, T.nTexts, wF_texts _ _ _ _, _, rfl, _, rfl, lt, H0, lo, tx, _, _, _, rt, rfl, W1.tx, W1.nlt, W1.same, W1.ll, ⟨_, hlo1⟩, hV2, hrt, htl, hsm, fun v e H' => ?_, fun tx' e H' hT fx => ?_⟩⟩⟩⟩⟩⟩
          · rw [← ce]; exact qE _ (hE v e) H'
          · exact qQ _ (hQ tx' e) H' (W1.texts hT fx)
        | size =>
          obtain ⟨rt, hrt, hE, hQ⟩ := act_text hst' (.inr (.inr (.inl rfl)))
          have hV2 := hV1
          obtain ⟨rfl, rfl⟩ := hV1
          refine ⟨_, rfl, rfl, _, rfl, iteFz (by decide +kernel) ⟨_, rfl, rfl, _, rfl, iteFz (by decide +kernel) ⟨_, rfl, rfl, _, rfl, iteFz (by decide +kernel) ⟨_, rfl, rfl, _, rfl, iteFz (by decide +kernel) ⟨_, rfl, rfl, _, rfl, iteFz (by decide +kernel) ⟨_, rfl, wk, D, dxw, _, _, rfl, hw1, T.clD, T.nTexts, wF_texts _ _ _ _, _, rfl, _, rfl, lt, H0, lo, tx, _, _, _, rt, rfl, W1.tx, W1.nlt, W1.same, W1.ll, ⟨_, hlo1⟩, hV2, hrt, htl, hsm, fun v e H' => ?_, fun tx' e H' hT fx => ?_⟩⟩⟩⟩⟩⟩
          · rw [← ce]; exact qE _ (hE v e) H'
          · exact qQ _ (hQ tx' e) H' (W1.texts hT fx)
        | first k =>
          obtain ⟨rt, hrt, hE, hQ⟩ := act_text hst' (.inr (.inr (.inr (.inl ⟨k, rfl⟩))))
          have hV2 := hV1
          obtain ⟨rfl, rfl⟩ := hV1
          refine ⟨_, rfl, rfl, _, rfl, iteFz (by decide +kernel) ⟨_, rfl, rfl, _, rfl, iteFz (by decide +kernel) ⟨_, rfl, rfl, _, rfl, iteFz (by decide +kernel) ⟨_, rfl, rfl, _, rfl, iteFz (by decide +kernel) ⟨_, rfl, rfl, _, rfl, iteFz (by decide +kernel) ⟨_, rfl, wk, D, dxw, _, _, rfl, hw1, T.clD, T.nTexts, wF_texts _ _ _ _, _, rfl, _, rfl, lt, H0, lo, tx, _, _, _, rt, rfl, W1.tx, W1.nlt, W1.same, W1.ll, ⟨_, hlo1⟩, hV2, hrt, htl, hsm, fun v e H' => ?_, fun tx' e H' hT fx => ?_⟩⟩⟩⟩⟩⟩
          · rw [← ce]; exact qE _ (hE v e) H'
          · exact qQ _ (hQ tx' e) H' (W1.texts hT fx)
        | rest k =>
          obtain ⟨rt, hrt, hE, hQ⟩ := act_text hst' (.inr (.inr (.inr (.inr ⟨k, rfl⟩))))
          have hV2 := hV1
          obtain ⟨rfl, rfl⟩ := hV1
          refine ⟨_, rfl, rfl, _, rfl, iteFz (by decide +kernel) ⟨_, rfl, rfl, _, rfl, iteFz (by decide +kernel) ⟨_, rfl, rfl, _, rfl, iteFz (by decide +kernel) ⟨_, rfl, rfl, _, rfl, iteFz (by decide +kernel) ⟨_, rfl, rfl, _, rfl, iteFz (by decide +kernel) ⟨_, rfl, wk, D, dxw, _, _, rfl, hw1, T.clD, T.nTexts, wF_texts _ _ _ _, _, rfl, _, rfl, lt, H0, lo, tx, _, _, _, rt, rfl, W1.tx, W1.nlt, W1.same, W1.ll, ⟨_, hlo1⟩, hV2, hrt, htl, hsm, fun v e H' => ?_, fun tx' e H' hT fx => ?_⟩⟩⟩⟩⟩⟩
          · rw [← ce]; exact qE _ (hE v e) H'
          · exact qQ _ (hQ tx' e) H' (W1.texts hT fx)
end
end Ru

set_option Elab.async false
set_option linter.all false
set_option maxRecDepth 100000
namespace RM
open Kp176
theorem runs_nil {s : Sheet} {B : Nat} {tx : List Bytes} {n : Nat} {ans : Int ⊕ Bytes} : ∀ {k : Nat}, runs s B k ⟨[], tx, n⟩ = some ans → ∃ b, tx = [b] ∧ ans = .inr b
  | 0, h => by
    match tx, h with
    | [], h => cases (show (none : Option (Int ⊕ Bytes)) = some ans from h)
    | [b], h =>
      have h' : some (Sum.inr b) = some ans := h
      injection h' with h'
      exact ⟨b, rfl, h'.symm⟩
    | _ :: _ :: _, h => cases (show (none : Option (Int ⊕ Bytes)) = some ans from h)
  | k + 1, h => by
    unfold runs at h
    exact runs_nil (k := k) h
theorem runs_cons {s : Sheet} {B k : Nat} {fr : Frm} {op : List Frm} {tx : List Bytes} {n : Nat} {ans : Int ⊕ Bytes} (h : runs s B k ⟨fr :: op, tx, n⟩ = some ans) :
    ∃ k', k = k' + 1 ∧ tx.length ≤ B ∧ op.length + 1 ≤ s.length ∧ Sm tx ∧ ∃ y, mstep s ⟨fr :: op, tx, n⟩ = some y ∧ (∀ v, y = .inl v → ans = .inl v) ∧ (∀ m', y = .inr m' → runs s B k' m' = some ans) := by
  cases k with
  | zero => unfold runs at h; cases h
  | succ k =>
    unfold runs at h
    dsimp only at h
    by_cases g : B < tx.length ∨ s.length < (fr :: op).length ∨ ¬ (∀ b ∈ tx, b.length ≤ 4096)
    · rw [if_pos g] at h; cases h
    · rw [if_neg g] at h
      have g1 : tx.length ≤ B := by
        by_cases q : tx.length ≤ B
        · exact q
        · exact absurd (.inl (by omega)) g
      have g2 : op.length + 1 ≤ s.length := by
        by_cases q : op.length + 1 ≤ s.length
        · exact q
        · exact absurd (.inr (.inl (by rw [List.length_cons]; omega))) g
      have g3 : Sm tx := by
        by_cases q : ∀ b ∈ tx, b.length ≤ 4096
        · exact q
        · exact absurd (.inr (.inr q)) g
      refine ⟨k, rfl, g1, g2, g3, ?_⟩
      cases hy : mstep s ⟨fr :: op, tx, n⟩ with
      | none => rw [hy] at h; cases h
      | some y =>
        rw [hy] at h
        refine ⟨y, rfl, fun v e => ?_, fun m' e => ?_⟩
        · subst e; injection h with h; exact h.symm
        · subst e; exact h
abbrev Code (v : Int) : Prop := v = -2 ∨ v = -40 ∨ v = -28 ∨ v = -62
theorem opn_code {s : Sheet} {x : Bytes} {m : MS} {v : Int} (h : opn s x m = .inl v) : Code v := by
  unfold opn at h
  split at h
  · injection h with h; exact .inl h.symm
  · split at h
    · injection h with h; exact .inr (.inl h.symm)
    · split at h
      · injection h with h; exact .inr (.inr (.inr h.symm))
      · cases h
theorem act_code {s : Sheet} {x : Bytes} {p : List Stp} {i : Nat} {op : List Frm} {n : Nat} {st : Stp} {tx : List Bytes} {v : Int} (h : act s x p i op n st tx = some (.inl v)) : Code v := by
  unfold act at h
  split at h
  · injection h with h
    split at h
    · injection h with h; exact .inr (.inr (.inl h.symm))
    · cases h
  · injection h with h; exact opn_code h
  · injection h with h
    split at h
    · injection h with h; exact .inr (.inr (.inl h.symm))
    · cases h
  · injection h with h; exact opn_code h
  all_goals first | (injection h with h; cases h) | cases h
theorem mstep_code {s : Sheet} {m : MS} {v : Int} (h : mstep s m = some (.inl v)) : Code v := by
  unfold mstep at h
  split at h
  · cases h
  · split at h
    · cases h
    · exact act_code h
theorem worked_small {s : Sheet} {y b : Bytes} (h : worked s y = .inr b) : b.length ≤ 4096 := by
  have q := leads_name (s := s) (M := (s.map fun q => clen q.2 + 1).sum) (B := (s.length + 1) * (s.map fun q => clen q.2 + 1).sum) (fun q hq => ?_) (s.length + 1) [] y [] 20000 ⟨rfl, List.nodup_nil, fun w hw => by cases hw⟩ (fun c hc => by cases hc) (by simp)
  · unfold worked at h
    have e : work s (s.length + 1) [] y READS = work s (s.length + 1) (([] : List Frm).map (·.1)) y 20000 := rfl
    rw [e] at h
    cases hw : work s (s.length + 1) (([] : List Frm).map (·.1)) y 20000 with
    | inl v => rw [hw] at h; cases h
    | inr r =>
      rw [hw] at h q
      injection h with h
      rw [← h]; exact q.1
  · have : ∀ (l : Sheet) (q : Bytes × F), q ∈ l → clen q.2 + 1 ≤ (l.map fun q => clen q.2 + 1).sum := by
      intro l
      induction l with
      | nil => intro q hq; cases hq
      | cons a l ih =>
        intro q hq
        rw [List.map_cons, List.sum_cons]
        rcases List.mem_cons.mp hq with z | z
        · rw [z]; omega
        · have := ih q z; omega
    exact this s q hq
theorem twice_nodup {l : Sheet} (h : twice l = none) : (l.map Prod.fst).Nodup := by
  have h' : ∀ j, j < l.length → doubled (l.map Prod.fst) j = false := by
    intro j hj
    rw [twice_eq, List.find?_eq_none] at h
    exact Bool.eq_false_iff.mpr (h j (List.mem_range.mpr hj))
  have key : ∀ n, n ≤ l.length → ((l.map Prod.fst).take n).Nodup := by
    intro n
    induction n with
    | zero => intro _; simp
    | succ n ih =>
      intro hn
      have hn' : n < (l.map Prod.fst).length := by rw [List.length_map]; omega
      have hg : (l.map Prod.fst)[n]? = some (l.map Prod.fst)[n] := List.getElem?_eq_getElem hn'
      have hd := h' n (by omega)
      unfold doubled at hd
      rw [hg] at hd
      dsimp only at hd
      rw [List.take_succ, hg]
      refine List.nodup_append.mpr ⟨ih (by omega), by simp, fun a ha b hb e => ?_⟩
      have hb' : b = (l.map Prod.fst)[n] := by simpa using hb
      rw [e, hb'] at ha
      have : ((l.map Prod.fst).take n).contains (l.map Prod.fst)[n] = true := by simpa using ha
      rw [this] at hd; cases hd
  have := key l.length (Nat.le_refl _)
  rwa [List.take_of_length_le (by rw [List.length_map]; exact Nat.le_refl _)] at this
theorem read_twice {bs : List Nat} {l : Sheet} (h : Kp176.read bs = .inr l) : twice l = none := by
  unfold Kp176.read at h
  split at h
  · cases h
  · split at h
    · cases h
    · split at h
      · cases h
      · split at h
        · cases h
        · split at h
          · cases h
          · split at h
            · cases h
            · rename_i e
              injection h with h
              rw [← h]; exact e
end RM
namespace Ru
open PySem L2 RM Kp176
def wkA : Int ⊕ Bytes → List Int
  | .inl v => [0, v]
  | .inr b => 2 :: ((b.length : Nat) : Int) :: b.map fun c => ((c : Nat) : Int)
def wkO : (Int × Nat) ⊕ Sheet → Bytes → List Int
  | .inl x, _ => [0, x.1]
  | .inr l, nm => wkA (worked l nm)
theorem wr_bytes (b : Bytes) : Kp176Neutral.wrKp176_Bytes b = ((b.length : Nat) : Int) :: b.map fun c => ((c : Nat) : Int) := by
  unfold Kp176Neutral.wrKp176_Bytes Kp176Neutral.wrList
  congr 1
  induction b with
  | nil => rfl
  | cons c r ih => rw [List.flatMap_cons, ih]; rfl
theorem wkO_due (t name : List Int) : wkO (Kp176.read (Kp176Neutral.nats t)) (Kp176Neutral.nats name) = PyKp176.ru_work t name := by
  unfold PyKp176.ru_work Kp176Neutral.f
  simp only [Kp176Neutral.callOf]
  by_cases h : t.length ≤ 16384
  · rw [if_pos h]
    show _ = Kp176Neutral.wrKp176_Ans (match Kp176.read (Kp176Neutral.nats t) with
      | .inl v => .num v.1
      | .inr l => match worked l (Kp176Neutral.nats name) with
        | .inl v => .num v
        | .inr b => .text b)
    cases Kp176.read (Kp176Neutral.nats t) with
    | inl v => rfl
    | inr l =>
      dsimp only [wkO]
      cases worked l (Kp176Neutral.nats name) with
      | inl v => rfl
      | inr b =>
        show 2 :: ((b.length : Nat) : Int) :: _ = [2] ++ Kp176Neutral.wrKp176_Bytes b
        rw [wr_bytes]; rfl
  · rw [if_neg h]
    have e : Kp176.read (Kp176Neutral.nats t) = .inl (-28, 0) := by unfold Kp176.read; rw [if_pos (by unfold MOST; rw [nats_len]; omega)]
    rw [e]; rfl

section
variable {P : Program} {w : World} {K : PySem.W.Frag} {mg : Str → Option Value} {base : Heap} {f : Addr} {fd : FuncData} {C D : Addr} {c2 c40 c28 c62 : Addr}
variable {f1 f2 f3 f4 f5 : Addr} {d1 d2 d3 d4 d5 : FuncData}

def spWorked (c2 c40 c28 c62 : Addr) : Sp := fun vs H Q E => ∃ (d nb : Addr) (s : Sheet) (x : Bytes), vs = [.ref d, .ref nb] ∧ RDict H d s ∧ H nb = some (.tup (bv x)) ∧ s.length ≤ 64 ∧ (∀ q ∈ s, clen q.2 + 1 ≤ 4097) ∧
  (∀ v, worked s x = .inl v → Code v → ∀ H', E (.ref (cE c2 c40 c28 c62 v)) none H') ∧ (∀ b, worked s x = .inr b → ∀ a H', H' a = some (.lst (bv b)) → Q (.ref a) H')
abbrev nWorked : List Str := ["rules", "name", "work"]
theorem scWorked : FnScope nWorked ["rules", "name"] (defScope sWorkedOut) := ⟨rfl, rfl, rfl, by decide +kernel, rfl, by decide +kernel, by decide +kernel⟩
set_option maxHeartbeats 4000000 in
theorem ok_worked (C3 : Consts3 mg) (T : Txt K mg C D) (M : Mk K D f1) (GI : FnOk P w K mg base CX0 1 f1 d1 ["self", "rules"] (spInitW D)) (bI : Binds K d1 ["self", "rules"] []) (F : Fun K "worked_out" "worked_out" sWorkedOut f fd)
    (G1 : FnOk P w K mg base (CXE P w) 3 f2 d2 ["work", "name"] (spOpen C D c2 c40 c28 c62)) (c1 : Callee K mg "open_rule" ["work", "name"] f2 d2)
    (G2 : FnOk P w K mg base (CXE P w) 4 f3 d3 ["work", "rule"] (spTake C D c2 c40 c28 c62)) (c2' : Callee K mg "take_step" ["work", "rule"] f3 d3) : FnOk P w K mg base (CXE P w) 5 f fd ["rules", "name"] (spWorked c2 c40 c28 c62) := by
  refine F.okE scWorked (fun vs H Q E ⟨_, _, _, _, h, _⟩ => by rw [h]; rfl) (fun cdv A outer s0 H vs Q E hr h => ?_)
  obtain ⟨d, nb, s, x, rfl, hRD, hnb, hsl, hM, qE, qQ⟩ := h
  refine ⟨_, pss_cons (ps_set (i := 2) scWorked.nd rfl (Or.inl rfl) (pe_make M GI (hr.mono (by decide)) rfl T.mgD bI .nil pass0 (pa_cons (pv 0) pa_nil)))
    (pss_cons (ps_expr (pe_call G1 (hr.mono (by decide)) rfl c1.mg c1.kp c1.bd .nil (pass_on (fun _ _ _ z => z)) (pa_cons (pv 2) (pa_cons (pv 1) pa_nil))))
    (pss_cons (ps_while own_out (pt_cmpR op_gt (pe_callB call_len_seq rfl C3.len PySem.boot_len (pa_cons (pe_fld (pv 2) rfl) pa_nil)) pe_int (nomark _))
      (pss_one (ps_expr (pe_call G2 hr rfl c2'.mg c2'.kp c2'.bd .nil (pass_on (fun _ _ _ z => z)) (pa_cons (pv 2) (pa_cons (pe_ix ix_list (pe_fld (pv 2) rfl) (pe_un un_neg pe_int) (fun _ _ => rfl)) pa_nil))))))
    (pss_one (ps_ret (pe_ix ix_list (pe_fld (pv 2) rfl) pe_int (fun _ _ => rfl)))))), ?_⟩
  have hB : (s.length + 1) * 4097 ≤ 1000000 := by
    have : (s.length + 1) * 4097 ≤ 65 * 4097 := Nat.mul_le_mul_right _ (by omega)
    omega
  obtain ⟨k0, hk0⟩ := leads_all (s := s) (B := 1000000) (M := 4097) hM hB x
  refine ⟨_, rfl, ?_⟩
  intro wk dx nw ndx nex
  refine ⟨wk, dx, d, rfl, upd_same, fun lo lt H1 hw1 hlo1 hlt1 nlo nlt hll b1 => ⟨rfl, ?_⟩⟩
  have sA : Same H (upd (upd H dx (.own wk)) wk (.ins D dx [])) := fun b u e => by rw [upd_ne (ne_of_none e nw), upd_ne (ne_of_none e ndx)]; exact e
  have s1 : Same H H1 := Same.made nw ndx fun b o e hb => b1 b o hb e
  have W0 : WS C D H wk d lo lt ⟨[], [], 20000⟩ H1 := ⟨s1, nw, sA.free nlo, sA.free nlt, hll, ⟨dx, by
    have e : (20000 : Int) - ((20000 : Nat) : Int) = 0 := by decide
    rw [e]; exact hw1⟩, ⟨[], hlo1, .nil, List.nodup_nil⟩, ⟨[], hlt1, .nil, List.nodup_nil⟩⟩
  refine ⟨_, rfl, _, rfl, wk, nb, s, H, d, lo, lt, _, x, rfl, hRD, W0, s1 _ _ hnb, (by show 0 ≤ 100; decide), fun v e H' => ?_, fun m1 e H2 W1 => ?_⟩
  · rw [e] at hk0
    have hw : worked s x = .inl v := by injection hk0 with hk0; exact hk0.symm
    exact qE v hw (opn_code e) H'
  rw [e] at hk0
  have hk1 : runs s 1000000 k0 m1 = some (worked s x) := hk0
  refine ⟨fun j σ H' => ∃ m, runs s 1000000 j m = some (worked s x) ∧ WS C D H wk d lo lt m H' ∧ σ = [some (.ref d), some (.ref nb), some (.ref wk)], ⟨k0, m1, hk1, W1, rfl⟩, ?_⟩
  rintro j σ H' ⟨⟨op, tx, n⟩, hrun, W, rfl⟩
  obtain ⟨dxw, hw⟩ := W.wrk
  obtain ⟨rs, hlo, hrs, hnd⟩ := id W.op
  obtain ⟨as, hlt, has, _⟩ := id W.tx
  have hlen : (rs.reverse.map V.ref).length = op.length := by rw [List.length_map, List.length_reverse]; exact Paired.length hrs
  refine ⟨_, rfl, wk, D, dxw, _, _, rfl, hw, T.clD, T.nOpened, wF_opened _ _ _ _, lo, _, rfl, .inl (SqL.of hlo), _, _, rfl, rfl, _, rfl, ?_⟩
  rw [hlen]
  cases op with
  | nil =>
    refine iteFz (by decide) ?_
    obtain ⟨b, etx, eans⟩ := runs_nil hrun
    have etx' : tx = [b] := etx
    subst etx'
    cases has with
    | @cons a _ as' _ g t =>
      cases t
      exact ⟨_, rfl, wk, D, dxw, _, _, rfl, hw, T.clD, T.nTexts, wF_texts _ _ _ _, lt, _, _, _, rfl, rfl, SqL.of hlt, atI_nat (j := 0) rfl, qQ b eans a H' g.1⟩
  | cons fr op =>
    obtain ⟨j', hj, hb1, hb2, hsm, y, hy, h1, h2⟩ := runs_cons hrun
    refine iteTz (by rw [List.length_cons]; exact decide_eq_true (by omega)) ?_
    refine ⟨fun σ' H3 => ∃ j2, j2 < j ∧ ∃ m, runs s 1000000 j2 m = some (worked s x) ∧ WS C D H wk d lo lt m H3 ∧ σ' = [some (.ref d), some (.ref nb), some (.ref wk)], fun _ _ z => z, ?_⟩
    cases hrs with
    | @cons r _ rs' _ hfr hop =>
      refine ⟨_, rfl, _, rfl, wk, D, dxw, _, _, rfl, hw, T.clD, T.nOpened, wF_opened _ _ _ _, _, rfl, lo, _, _, _, rfl, rfl, SqL.of hlo, last_ix pop_last, wk, r, s, H, d, lo, lt, _, _, y, rfl, hRD, W, hlo, pop_last, hy, (by show (fr :: op).length ≤ 64; rw [List.length_cons]; omega), hb1, hsm, fun v e H3 => ?_, fun m' e H3 W3 => ?_⟩
      · have hv := h1 v e
        exact qE v hv (by subst e; exact mstep_code hy) H3
      · exact ⟨j', by omega, m', h2 m' e, W3, rfl⟩

def spAns : Sp := fun vs H Q _ => ∃ (d nb : Addr) (s : Sheet) (x : Bytes), vs = [.ref d, .ref nb] ∧ RDict H d s ∧ H nb = some (.tup (bv x)) ∧ s.length ≤ 64 ∧ (∀ q ∈ s, clen q.2 + 1 ≤ 4097) ∧ ∀ q H', H' q = some (.lst (iv (wkA (worked s x)))) → Q (.ref q) H'
theorem scAns : FnScope ["rules", "name", "text"] ["rules", "name"] (defScope sWorkAnswer) := ⟨rfl, rfl, rfl, by decide +kernel, rfl, by decide +kernel, by decide +kernel⟩
theorem iv_text (b : Bytes) : [V.int 2, V.int ((b.length : Nat) : Int)] ++ bv b = iv (wkA (.inr b)) := by
  show _ = V.int 2 :: V.int ((b.length : Nat) : Int) :: (b.map fun c => ((c : Nat) : Int)).map V.int
  rw [List.map_map]; rfl
set_option maxHeartbeats 2000000 in
theorem ok_answer (Cn : Consts2 mg) (C3 : Consts3 mg) (O1 : NR "NoRule" mg base c2) (O2 : NR "Ring" mg base c40) (O3 : NR "TextTooLong" mg base c28) (O4 : NR "TooManyReads" mg base c62)
    (a1 : apartIn K c40 c2 = true) (a2 : apartIn K c28 c2 = true) (a3 : apartIn K c62 c2 = true) (a4 : apartIn K c28 c40 = true) (a5 : apartIn K c62 c40 = true) (a6 : apartIn K c62 c28 = true)
    (F : Fun K "work_answer" "work_answer" sWorkAnswer f fd) (G1 : FnOk P w K mg base (CXE P w) 5 f1 d1 ["rules", "name"] (spWorked c2 c40 c28 c62)) (c1 : Callee K mg "worked_out" ["rules", "name"] f1 d1) : FnOk P w K mg base CX0 6 f fd ["rules", "name"] spAns := by
  refine F.ok scAns (fun vs H Q E ⟨_, _, _, _, h, _⟩ => by rw [h]; rfl) (fun cdv A outer s0 H vs Q E hr h => ?_)
  obtain ⟨d, nb, s, x, rfl, hRD, hnb, hsl, hM, q⟩ := h
  refine ⟨_, pss_cons (ps_tryN rfl rfl rfl rfl
      (.cons rfl O1 (by decide) (by decide) (fun pn e => pss_one (ps_ret (pe_lst (pa_cons (pgi Cn.numberForm) (pa_cons (pgi C3.noRule) pa_nil)))))
          (fun p hp => by
            rcases List.mem_cons.mp hp with z | z
            · rw [z]; exact a1
            · rcases List.mem_cons.mp z with z | z
              · rw [z]; exact a2
              · rw [List.mem_singleton.mp z]; exact a3)
        (.cons rfl O2 (by decide) (by decide) (fun pn e => pss_one (ps_ret (pe_lst (pa_cons (pgi Cn.numberForm) (pa_cons (pgi C3.inRing) pa_nil)))))
          (fun p hp => by
            rcases List.mem_cons.mp hp with z | z
            · rw [z]; exact a4
            · rw [List.mem_singleton.mp z]; exact a5)
        (.cons rfl O3 (by decide) (by decide) (fun pn e => pss_one (ps_ret (pe_lst (pa_cons (pgi Cn.numberForm) (pa_cons (pgi Cn.tooMuch) pa_nil)))))
          (fun p hp => by rw [List.mem_singleton.mp hp]; exact a6)
        (.cons rfl O4 (by decide) (by decide) (fun pn e => pss_one (ps_ret (pe_lst (pa_cons (pgi Cn.numberForm) (pa_cons (pgi C3.manyReads) pa_nil)))))
          (fun p hp => by cases hp) .nil))))
      (fun J pn EL hp => pss_one (ps_set (i := 2) scAns.nd rfl (Or.inl rfl) (pe_callS G1 hr rfl c1.mg c1.kp c1.bd .nil hp (pa_cons (pv 0) (pa_cons (pv 1) pa_nil))))))
    (pss_one (ps_ret (pe_op op_cat (pe_lst (pa_cons (pgi C3.textForm) (pa_cons (pe_callB call_len_seq rfl C3.len PySem.boot_len (pa_cons (pv 2) pa_nil)) pa_nil))) (pv 2)))), ?_⟩
  have two : 2 ≤ sizeLine := by decide
  refine ⟨_, rfl, _, rfl, d, nb, s, x, rfl, hRD, hnb, hsl, hM, fun v hv hc H' => ?_, fun b hb a H' ha => ?_⟩
  · rw [hv] at q
    rcases hc with rfl | rfl | rfl | rfl
    · exact ⟨_, List.mem_cons_self, rfl, two, fun p hp => q p _ upd_same⟩
    · exact ⟨_, List.mem_cons_of_mem _ List.mem_cons_self, rfl, two, fun p hp => q p _ upd_same⟩
    · exact ⟨_, List.mem_cons_of_mem _ (List.mem_cons_of_mem _ List.mem_cons_self), rfl, two, fun p hp => q p _ upd_same⟩
    · exact ⟨_, List.mem_cons_of_mem _ (List.mem_cons_of_mem _ (List.mem_cons_of_mem _ List.mem_cons_self)), rfl, two, fun p hp => q p _ upd_same⟩
  · have hbl := worked_small hb
    rw [hb] at q
    refine ⟨_, rfl, a, _, rfl, .inl (SqL.of ha), two, fun l hl => ⟨_, rfl, l, a, _, _, rfl, rfl, upd_same, same_new hl _ _ _ ha, ?_, fun r hr' => q r _ ?_⟩⟩
    · rw [bv_len]
      exact Nat.le_of_lt (Nat.lt_of_le_of_lt (show 2 + b.length ≤ 4098 by omega) (by decide))
    · rw [upd_same, bv_len]
      exact congrArg (fun z => some (HO.lst z)) (iv_text b)
end
end Ru

set_option Elab.async false
set_option linter.all false
set_option maxRecDepth 100000
namespace Ru
open PySem L2 RM Kp176
theorem rules_kvs {H : Hp} {p : Addr} : ∀ {rs : List Addr} {l : Sheet}, Paired (RuleAt p H) rs l → ∃ kvs : List (List Key × V), Paired (fun r kv => ∃ b, H r = some (.tup [.ref b, kv.2]) ∧ H b = some (.tup (kv.1.map kV))) rs kvs ∧
    Paired (fun kv (q : Bytes × Kp176.F) => kv.1 = keyN q.1 ∧ ∃ sa, kv.2 = V.ref sa ∧ SsAt H sa (prog q.2)) kvs l
  | _, _, .nil => ⟨[], .nil, .nil⟩
  | _, _, .cons (a := r) (b := q) h t => by
    obtain ⟨kvs, k1, k2⟩ := rules_kvs t
    obtain ⟨b, sa, h1, h2, h3, _⟩ := h
    exact ⟨(keyN q.1, .ref sa) :: kvs, .cons ⟨b, h1, by rw [keyN_kV]; exact h2⟩ k1, .cons ⟨rfl, sa, rfl, h3⟩ k2⟩
theorem kvs_keys {H : Hp} : ∀ {kvs : List (List Key × V)} {l : Sheet}, Paired (fun kv (q : Bytes × Kp176.F) => kv.1 = keyN q.1 ∧ ∃ sa, kv.2 = V.ref sa ∧ SsAt H sa (prog q.2)) kvs l → kvs.map (·.1) = (l.map Prod.fst).map keyN
  | _, _, .nil => rfl
  | _, _, .cons h t => by rw [List.map_cons, List.map_cons, List.map_cons, kvs_keys t, h.1]
theorem valV_out {acc : List (List Key × V)} {k : List Key} (h : k ∉ acc.map (·.1)) : valV acc k = none := by
  induction acc with
  | nil => rfl
  | cons a acc ih =>
    rw [List.map_cons] at h
    rw [valV_neg (fun e => h (by rw [← e]; exact List.mem_cons_self))]
    exact ih fun z => h (List.mem_cons_of_mem _ z)
theorem mergeT_new : ∀ (kvs acc : List (List Key × V)), (acc.map (·.1) ++ kvs.map (·.1)).Nodup → mergeT acc kvs = acc ++ kvs
  | [], acc, _ => by rw [List.append_nil]; rfl
  | q :: r, acc, h => by
    show mergeT (putK acc q.1 q.2) r = _
    have hk : q.1 ∉ acc.map (·.1) := fun hm => by
      rw [List.map_cons] at h
      exact (List.nodup_append.mp h).2.2 q.1 hm q.1 List.mem_cons_self rfl
    rw [putK_new _ (valV_out hk), mergeT_new r (acc ++ [(q.1, q.2)]) (by
      rw [List.map_append, List.append_assoc]
      exact h), List.append_assoc]
    rfl
theorem nodup_keys {l : List (List Nat)} (h : l.Nodup) : (l.map keyN).Nodup := by
  induction l with
  | nil => simp
  | cons a l ih =>
    obtain ⟨h1, h2⟩ := List.nodup_cons.mp h
    rw [List.map_cons]
    refine List.nodup_cons.mpr ⟨fun hm => ?_, ih h2⟩
    obtain ⟨b, hb, e⟩ := List.mem_map.mp hm
    rw [keyN_inj e] at hb
    exact h1 hb
section
variable {P : Program} {w : World} {K : PySem.W.Frag} {mg : Str → Option Value} {base : Heap} {f : Addr} {fd : FuncData}
variable {f1 f2 : Addr} {d1 d2 : FuncData}
def spWork (K : PySem.W.Frag) : Sp := fun vs H Q _ => ∃ (a a2 : Addr) (bs nm : List Nat), vs = [.ref a, .ref a2] ∧ SqL K H a (bv bs) ∧ SqL K H a2 (bv nm) ∧ bs.length ≤ 17000 ∧ nm.length ≤ 17 ∧ ∀ q H', H' q = some (.lst (iv (wkO (Kp176.read bs) nm))) → Q (.ref q) H'
theorem scWork : FnScope ["t", "name", "sheet", "answer"] ["t", "name"] (defScope sWork) := ⟨rfl, rfl, rfl, by decide +kernel, rfl, by decide +kernel, by decide +kernel⟩
set_option maxHeartbeats 2000000 in
theorem ok_work (Cn : Consts2 mg) (C3 : Consts3 mg) (F : Fun K "ru_work" "ru_work" sWork f fd) (G1 : FnOk P w K mg base CX0 133 f1 d1 ["t"] (spSheet K)) (c1 : Callee K mg "read_sheet" ["t"] f1 d1)
    (G2 : FnOk P w K mg base CX0 6 f2 d2 ["rules", "name"] spAns) (c2 : Callee K mg "work_answer" ["rules", "name"] f2 d2) : FnOk P w K mg base CX0 134 f fd ["t", "name"] (spWork K) := by
  refine F.ok scWork (fun vs H Q E ⟨_, _, _, _, h, _⟩ => by rw [h]; rfl) (fun cdv A outer s0 H vs Q E hr h => ?_)
  obtain ⟨a, a2, bs, nm, rfl, hS, hS2, hlen, hlen2, q⟩ := h
  have hu2 : (A.deeper (PyProof.Rows.envOfC "ru_work" (defScope sWork) s0.heap.objs.size f cdv)).units + 2 < cLine := by have := hr.un; omega
  refine ⟨_, pss_cons (ps_set (i := 2) scWork.nd rfl (Or.inl rfl) (pe_call G1 hr rfl c1.mg c1.kp c1.bd .nil pass0 (pa_cons (pv 0) pa_nil)))
    (pss_cons (ps_set (i := 3) scWork.nd rfl (Or.inl rfl) (pe_ix ix_tup (pv 2) pe_int (fun _ _ => rfl)))
    (pss_cons (ps_if (pt_cmpR op_eq (pe_ix ix_list (pv 3) pe_int (fun _ _ => rfl)) (pgi Cn.refusalForm) (nomark _)) (pss_one (ps_ret (pe_lst (pa_cons (pgi Cn.numberForm) (pa_cons (pe_ix ix_list (pv 3) pe_int (fun _ _ => rfl)) pa_nil))))) pss_nil)
    (pss_one (ps_ret (pe_call G2 (hr.mono (by decide)) rfl c2.mg c2.kp c2.bd .nil pass0
      (pa_cons (pe_callTy (call_dictT rfl hu2) rfl C3.dict PyProof.Rows.boot_dict (pa_cons (pe_ix ix_tup (pv 2) pe_int (fun _ _ => rfl)) pa_nil))
        (pa_cons (pe_callTy call_tuple_of rfl C3.tuple PyProof.Rows.boot_tuple (pa_cons (pv 1) pa_nil)) pa_nil))))))), ?_⟩
  have two : 2 ≤ sizeLine := by decide
  refine ⟨_, rfl, a, bs, rfl, hS, hlen, fun r qa p H1 s1 hr1 hqa hl => ?_⟩
  refine ⟨_, rfl, r, _, _, _, rfl, rfl, SqT.of hr1, atI_nat (j := 0) rfl, ?_⟩
  cases hrd : Kp176.read bs with
  | inl e =>
    rw [hrd] at hqa q
    refine ⟨_, rfl, qa, _, _, _, rfl, rfl, SqL.of hqa, atI_nat (j := 0) rfl, rfl, _, rfl, iteTz (by decide) ⟨_, rfl, qa, _, _, _, rfl, rfl, SqL.of hqa, atI_nat (j := 1) rfl, two, fun l hl' => q l _ ?_⟩⟩
    rw [upd_same]; rfl
  | inr l =>
    rw [hrd] at hqa q
    obtain ⟨hRA, hll, hcl⟩ := hl l hrd
    obtain ⟨rs, hp, hpr⟩ := hRA
    obtain ⟨kvs, hk1, hk2⟩ := rules_kvs hpr
    have hmerge : mergeT [] kvs = kvs := by
      have := mergeT_new kvs [] (by
        rw [List.map_nil, List.nil_append, kvs_keys hk2]
        exact nodup_keys (twice_nodup (read_twice hrd)))
      rwa [List.nil_append] at this
    refine ⟨_, rfl, qa, _, _, _, rfl, rfl, SqL.of hqa, atI_nat (j := 0) rfl, rfl, _, rfl, iteFz (by decide) ?_⟩
    refine ⟨_, rfl, r, _, _, _, rfl, rfl, SqT.of hr1, atI_nat (j := 1) rfl, p, rs, kvs, rfl, SqL.of hp, hk1, fun d hd => ?_⟩
    rw [hmerge]
    have s2 := same_new hd (.dT kvs)
    have hS2' := (s1.trans s2).seq hS2
    refine ⟨_, rfl, a2, _, rfl, .inl ⟨hS2', fun nb hnb => ?_⟩⟩
    have s3 := same_new hnb (.tup (bv nm))
    have s23 := s2.trans s3
    refine ⟨d, nb, l, nm, rfl, ⟨kvs, s3 _ _ upd_same, Paired.mapP hk2 fun kv qq z => ⟨z.1, let ⟨sa, e1, e2⟩ := z.2; ⟨sa, e1, e2.same s23⟩⟩⟩, upd_same, hll, hcl, fun r' H' h' => q r' H' h'⟩
end
end Ru

set_option Elab.async false
set_option linter.all false
set_option maxRecDepth 100000
namespace Ru
open PySem L2 RM Kp176

set_option maxHeartbeats 0 in
theorem all_mk {r : PySem.W.OpenSpec} {w : World} {K : PySem.W.Frag} {h : Heap} {mg : Str → Option Value} {fa dS tW f1 f2 f3 f4 f5 f6 f7 f8 f9 f10 f11 f12 f13 f14 f15 f16 f17 f18 f19 f20 f21 f22 f23 f24 f25 f26 f27 f28 f29 f30 f31 f32 f33 f34 E1 E2 E3 E4 E5 E6 D1 fi1 D2 fi2 : Addr} (X : K.In h) (G : h.Ns mainGlobals mg) (hfa : mg "ru_work" = some (.ref fa))
    {od1 an1 : Option Addr} {sl1 : Array (Option Value)} {oc1 kV1 dc1 pm1 cd1 ct1 : Value}
    (a1 : PySem.W.nsIn K mainGlobals "is_letter" = some (some (.ref f1))) (l1 : K.lookup f1 = some ⟨oc1, od1, .func (PySem.W.fnOf "is_letter" "is_letter" (defArgs sLetter) (defBody sLetter) (defScope sLetter) .none kV1 dc1 pm1 an1 cd1 ct1), sl1⟩) (c1 : PySem.W.codeIn K cd1 "is_letter" = true) (k1 : PySem.W.keepIn K (.ref f1) = true)
    {od2 an2 : Option Addr} {sl2 : Array (Option Value)} {oc2 kV2 dc2 pm2 cd2 ct2 : Value}
    (a2 : PySem.W.nsIn K mainGlobals "is_digit" = some (some (.ref f2))) (l2 : K.lookup f2 = some ⟨oc2, od2, .func (PySem.W.fnOf "is_digit" "is_digit" (defArgs sDigit) (defBody sDigit) (defScope sDigit) .none kV2 dc2 pm2 an2 cd2 ct2), sl2⟩) (c2 : PySem.W.codeIn K cd2 "is_digit" = true) (k2 : PySem.W.keepIn K (.ref f2) = true)
    {od3 an3 : Option Addr} {sl3 : Array (Option Value)} {oc3 kV3 dc3 pm3 cd3 ct3 : Value}
    (a3 : PySem.W.nsIn K mainGlobals "is_name_byte" = some (some (.ref f3))) (l3 : K.lookup f3 = some ⟨oc3, od3, .func (PySem.W.fnOf "is_name_byte" "is_name_byte" (defArgs sNameByte) (defBody sNameByte) (defScope sNameByte) .none kV3 dc3 pm3 an3 cd3 ct3), sl3⟩) (c3 : PySem.W.codeIn K cd3 "is_name_byte" = true) (k3 : PySem.W.keepIn K (.ref f3) = true)
    {od4 an4 : Option Addr} {sl4 : Array (Option Value)} {oc4 kV4 dc4 pm4 cd4 ct4 : Value}
    (a4 : PySem.W.nsIn K mainGlobals "name_end" = some (some (.ref f4))) (l4 : K.lookup f4 = some ⟨oc4, od4, .func (PySem.W.fnOf "name_end" "name_end" (defArgs sNameEnd) (defBody sNameEnd) (defScope sNameEnd) .none kV4 dc4 pm4 an4 cd4 ct4), sl4⟩) (c4 : PySem.W.codeIn K cd4 "name_end" = true) (k4 : PySem.W.keepIn K (.ref f4) = true)
    {od5 an5 : Option Addr} {sl5 : Array (Option Value)} {oc5 kV5 dc5 pm5 cd5 ct5 : Value}
    (a5 : PySem.W.nsIn K mainGlobals "number_end" = some (some (.ref f5))) (l5 : K.lookup f5 = some ⟨oc5, od5, .func (PySem.W.fnOf "number_end" "number_end" (defArgs sNumberEnd) (defBody sNumberEnd) (defScope sNumberEnd) .none kV5 dc5 pm5 an5 cd5 ct5), sl5⟩) (c5 : PySem.W.codeIn K cd5 "number_end" = true) (k5 : PySem.W.keepIn K (.ref f5) = true)
    {od6 an6 : Option Addr} {sl6 : Array (Option Value)} {oc6 kV6 dc6 pm6 cd6 ct6 : Value}
    (a6 : PySem.W.nsIn K mainGlobals "string_byte_end" = some (some (.ref f6))) (l6 : K.lookup f6 = some ⟨oc6, od6, .func (PySem.W.fnOf "string_byte_end" "string_byte_end" (defArgs sByteEnd) (defBody sByteEnd) (defScope sByteEnd) .none kV6 dc6 pm6 an6 cd6 ct6), sl6⟩) (c6 : PySem.W.codeIn K cd6 "string_byte_end" = true) (k6 : PySem.W.keepIn K (.ref f6) = true)
    {od7 an7 : Option Addr} {sl7 : Array (Option Value)} {oc7 kV7 dc7 pm7 cd7 ct7 : Value}
    (a7 : PySem.W.nsIn K mainGlobals "string_end" = some (some (.ref f7))) (l7 : K.lookup f7 = some ⟨oc7, od7, .func (PySem.W.fnOf "string_end" "string_end" (defArgs sStringEnd) (defBody sStringEnd) (defScope sStringEnd) .none kV7 dc7 pm7 an7 cd7 ct7), sl7⟩) (c7 : PySem.W.codeIn K cd7 "string_end" = true) (k7 : PySem.W.keepIn K (.ref f7) = true)
    {od8 an8 : Option Addr} {sl8 : Array (Option Value)} {oc8 kV8 dc8 pm8 cd8 ct8 : Value}
    (a8 : PySem.W.nsIn K mainGlobals "token_end" = some (some (.ref f8))) (l8 : K.lookup f8 = some ⟨oc8, od8, .func (PySem.W.fnOf "token_end" "token_end" (defArgs sTokenEnd) (defBody sTokenEnd) (defScope sTokenEnd) .none kV8 dc8 pm8 an8 cd8 ct8), sl8⟩) (c8 : PySem.W.codeIn K cd8 "token_end" = true) (k8 : PySem.W.keepIn K (.ref f8) = true)
    {od9 an9 : Option Addr} {sl9 : Array (Option Value)} {oc9 kV9 dc9 pm9 cd9 ct9 : Value}
    (a9 : PySem.W.nsIn K mainGlobals "word_or_name" = some (some (.ref f9))) (l9 : K.lookup f9 = some ⟨oc9, od9, .func (PySem.W.fnOf "word_or_name" "word_or_name" (defArgs sWordOr) (defBody sWordOr) (defScope sWordOr) .none kV9 dc9 pm9 an9 cd9 ct9), sl9⟩) (c9 : PySem.W.codeIn K cd9 "word_or_name" = true) (k9 : PySem.W.keepIn K (.ref f9) = true)
    {od10 an10 : Option Addr} {sl10 : Array (Option Value)} {oc10 kV10 dc10 pm10 cd10 ct10 : Value}
    (a10 : PySem.W.nsIn K mainGlobals "kind_of" = some (some (.ref f10))) (l10 : K.lookup f10 = some ⟨oc10, od10, .func (PySem.W.fnOf "kind_of" "kind_of" (defArgs sKindOf) (defBody sKindOf) (defScope sKindOf) .none kV10 dc10 pm10 an10 cd10 ct10), sl10⟩) (c10 : PySem.W.codeIn K cd10 "kind_of" = true) (k10 : PySem.W.keepIn K (.ref f10) = true)
    {od11 an11 : Option Addr} {sl11 : Array (Option Value)} {oc11 kV11 dc11 pm11 cd11 ct11 : Value}
    (a11 : PySem.W.nsIn K mainGlobals "number_of" = some (some (.ref f11))) (l11 : K.lookup f11 = some ⟨oc11, od11, .func (PySem.W.fnOf "number_of" "number_of" (defArgs sNumberOf) (defBody sNumberOf) (defScope sNumberOf) .none kV11 dc11 pm11 an11 cd11 ct11), sl11⟩) (c11 : PySem.W.codeIn K cd11 "number_of" = true) (k11 : PySem.W.keepIn K (.ref f11) = true)
    {od12 an12 : Option Addr} {sl12 : Array (Option Value)} {oc12 kV12 dc12 pm12 cd12 ct12 : Value}
    (a12 : PySem.W.nsIn K mainGlobals "string_of" = some (some (.ref f12))) (l12 : K.lookup f12 = some ⟨oc12, od12, .func (PySem.W.fnOf "string_of" "string_of" (defArgs sStringOf) (defBody sStringOf) (defScope sStringOf) .none kV12 dc12 pm12 an12 cd12 ct12), sl12⟩) (c12 : PySem.W.codeIn K cd12 "string_of" = true) (k12 : PySem.W.keepIn K (.ref f12) = true)
    {od13 an13 : Option Addr} {sl13 : Array (Option Value)} {oc13 kV13 dc13 pm13 cd13 ct13 : Value}
    (a13 : PySem.W.nsIn K mainGlobals "token_of" = some (some (.ref f13))) (l13 : K.lookup f13 = some ⟨oc13, od13, .func (PySem.W.fnOf "token_of" "token_of" (defArgs sTokenOf) (defBody sTokenOf) (defScope sTokenOf) .none kV13 dc13 pm13 an13 cd13 ct13), sl13⟩) (c13 : PySem.W.codeIn K cd13 "token_of" = true) (k13 : PySem.W.keepIn K (.ref f13) = true)
    {od14 an14 : Option Addr} {sl14 : Array (Option Value)} {oc14 kV14 dc14 pm14 cd14 ct14 : Value}
    (a14 : PySem.W.nsIn K mainGlobals "tokens_of" = some (some (.ref f14))) (l14 : K.lookup f14 = some ⟨oc14, od14, .func (PySem.W.fnOf "tokens_of" "tokens_of" (defArgs sTokens) (defBody sTokens) (defScope sTokens) .none kV14 dc14 pm14 an14 cd14 ct14), sl14⟩) (c14 : PySem.W.codeIn K cd14 "tokens_of" = true) (k14 : PySem.W.keepIn K (.ref f14) = true)
    {od15 an15 : Option Addr} {sl15 : Array (Option Value)} {oc15 kV15 dc15 pm15 cd15 ct15 : Value}
    (a15 : PySem.W.nsIn K mainGlobals "behind_kind" = some (some (.ref f15))) (l15 : K.lookup f15 = some ⟨oc15, od15, .func (PySem.W.fnOf "behind_kind" "behind_kind" (defArgs sBehindKind) (defBody sBehindKind) (defScope sBehindKind) .none kV15 dc15 pm15 an15 cd15 ct15), sl15⟩) (c15 : PySem.W.codeIn K cd15 "behind_kind" = true) (k15 : PySem.W.keepIn K (.ref f15) = true)
    {od16 an16 : Option Addr} {sl16 : Array (Option Value)} {oc16 kV16 dc16 pm16 cd16 ct16 : Value}
    (a16 : PySem.W.nsIn K mainGlobals "behind_part" = some (some (.ref f16))) (l16 : K.lookup f16 = some ⟨oc16, od16, .func (PySem.W.fnOf "behind_part" "behind_part" (defArgs sPart) (defBody sPart) (defScope sPart) .none kV16 dc16 pm16 an16 cd16 ct16), sl16⟩) (c16 : PySem.W.codeIn K cd16 "behind_part" = true) (k16 : PySem.W.keepIn K (.ref f16) = true)
    {od17 an17 : Option Addr} {sl17 : Array (Option Value)} {oc17 kV17 dc17 pm17 cd17 ct17 : Value}
    (a17 : PySem.W.nsIn K mainGlobals "behind_join" = some (some (.ref f17))) (l17 : K.lookup f17 = some ⟨oc17, od17, .func (PySem.W.fnOf "behind_join" "behind_join" (defArgs sJoin) (defBody sJoin) (defScope sJoin) .none kV17 dc17 pm17 an17 cd17 ct17), sl17⟩) (c17 : PySem.W.codeIn K cd17 "behind_join" = true) (k17 : PySem.W.keepIn K (.ref f17) = true)
    {od18 an18 : Option Addr} {sl18 : Array (Option Value)} {oc18 kV18 dc18 pm18 cd18 ct18 : Value}
    (a18 : PySem.W.nsIn K mainGlobals "behind_choice" = some (some (.ref f18))) (l18 : K.lookup f18 = some ⟨oc18, od18, .func (PySem.W.fnOf "behind_choice" "behind_choice" (defArgs sChoice) (defBody sChoice) (defScope sChoice) .none kV18 dc18 pm18 an18 cd18 ct18), sl18⟩) (c18 : PySem.W.codeIn K cd18 "behind_choice" = true) (k18 : PySem.W.keepIn K (.ref f18) = true)
    {od19 an19 : Option Addr} {sl19 : Array (Option Value)} {oc19 kV19 dc19 pm19 cd19 ct19 : Value}
    (a19 : PySem.W.nsIn K mainGlobals "behind_formula" = some (some (.ref f19))) (l19 : K.lookup f19 = some ⟨oc19, od19, .func (PySem.W.fnOf "behind_formula" "behind_formula" (defArgs sFormula) (defBody sFormula) (defScope sFormula) .none kV19 dc19 pm19 an19 cd19 ct19), sl19⟩) (c19 : PySem.W.codeIn K cd19 "behind_formula" = true) (k19 : PySem.W.keepIn K (.ref f19) = true)
    {od20 an20 : Option Addr} {sl20 : Array (Option Value)} {oc20 kV20 dc20 pm20 cd20 ct20 : Value}
    (a20 : PySem.W.nsIn K mainGlobals "behind_rule" = some (some (.ref f20))) (l20 : K.lookup f20 = some ⟨oc20, od20, .func (PySem.W.fnOf "behind_rule" "behind_rule" (defArgs sRule) (defBody sRule) (defScope sRule) .none kV20 dc20 pm20 an20 cd20 ct20), sl20⟩) (c20 : PySem.W.codeIn K cd20 "behind_rule" = true) (k20 : PySem.W.keepIn K (.ref f20) = true)
    {od21 an21 : Option Addr} {sl21 : Array (Option Value)} {oc21 kV21 dc21 pm21 cd21 ct21 : Value}
    (a21 : PySem.W.nsIn K mainGlobals "rules_of" = some (some (.ref f21))) (l21 : K.lookup f21 = some ⟨oc21, od21, .func (PySem.W.fnOf "rules_of" "rules_of" (defArgs sRules) (defBody sRules) (defScope sRules) .none kV21 dc21 pm21 an21 cd21 ct21), sl21⟩) (c21 : PySem.W.codeIn K cd21 "rules_of" = true) (k21 : PySem.W.keepIn K (.ref f21) = true)
    {od22 an22 : Option Addr} {sl22 : Array (Option Value)} {oc22 kV22 dc22 pm22 cd22 ct22 : Value}
    (a22 : PySem.W.nsIn K mainGlobals "first_repeated" = some (some (.ref f22))) (l22 : K.lookup f22 = some ⟨oc22, od22, .func (PySem.W.fnOf "first_repeated" "first_repeated" (defArgs sRepeated) (defBody sRepeated) (defScope sRepeated) .none kV22 dc22 pm22 an22 cd22 ct22), sl22⟩) (c22 : PySem.W.codeIn K cd22 "first_repeated" = true) (k22 : PySem.W.keepIn K (.ref f22) = true)
    {od23 an23 : Option Addr} {sl23 : Array (Option Value)} {oc23 kV23 dc23 pm23 cd23 ct23 : Value}
    (a23 : PySem.W.nsIn K mainGlobals "refusal" = some (some (.ref f23))) (l23 : K.lookup f23 = some ⟨oc23, od23, .func (PySem.W.fnOf "refusal" "refusal" (defArgs sRefusal) (defBody sRefusal) (defScope sRefusal) .none kV23 dc23 pm23 an23 cd23 ct23), sl23⟩) (c23 : PySem.W.codeIn K cd23 "refusal" = true) (k23 : PySem.W.keepIn K (.ref f23) = true)
    {od24 an24 : Option Addr} {sl24 : Array (Option Value)} {oc24 kV24 dc24 pm24 cd24 ct24 : Value}
    (a24 : PySem.W.nsIn K mainGlobals "read_rules" = some (some (.ref f24))) (l24 : K.lookup f24 = some ⟨oc24, od24, .func (PySem.W.fnOf "read_rules" "read_rules" (defArgs sReadRules) (defBody sReadRules) (defScope sReadRules) .none kV24 dc24 pm24 an24 cd24 ct24), sl24⟩) (c24 : PySem.W.codeIn K cd24 "read_rules" = true) (k24 : PySem.W.keepIn K (.ref f24) = true)
    {od25 an25 : Option Addr} {sl25 : Array (Option Value)} {oc25 kV25 dc25 pm25 cd25 ct25 : Value}
    (a25 : PySem.W.nsIn K mainGlobals "read_sheet" = some (some (.ref f25))) (l25 : K.lookup f25 = some ⟨oc25, od25, .func (PySem.W.fnOf "read_sheet" "read_sheet" (defArgs sReadSheet) (defBody sReadSheet) (defScope sReadSheet) .none kV25 dc25 pm25 an25 cd25 ct25), sl25⟩) (c25 : PySem.W.codeIn K cd25 "read_sheet" = true) (k25 : PySem.W.keepIn K (.ref f25) = true)
    {od26 an26 : Option Addr} {sl26 : Array (Option Value)} {oc26 kV26 dc26 pm26 cd26 ct26 : Value}
    (a26 : PySem.W.nsIn K mainGlobals "open_rule" = some (some (.ref f26))) (l26 : K.lookup f26 = some ⟨oc26, od26, .func (PySem.W.fnOf "open_rule" "open_rule" (defArgs sOpenRule) (defBody sOpenRule) (defScope sOpenRule) .none kV26 dc26 pm26 an26 cd26 ct26), sl26⟩) (c26 : PySem.W.codeIn K cd26 "open_rule" = true) (k26 : PySem.W.keepIn K (.ref f26) = true)
    {od27 an27 : Option Addr} {sl27 : Array (Option Value)} {oc27 kV27 dc27 pm27 cd27 ct27 : Value}
    (a27 : PySem.W.nsIn K mainGlobals "leave_string" = some (some (.ref f27))) (l27 : K.lookup f27 = some ⟨oc27, od27, .func (PySem.W.fnOf "leave_string" "leave_string" (defArgs sLeave) (defBody sLeave) (defScope sLeave) .none kV27 dc27 pm27 an27 cd27 ct27), sl27⟩) (c27 : PySem.W.codeIn K cd27 "leave_string" = true) (k27 : PySem.W.keepIn K (.ref f27) = true)
    {od28 an28 : Option Addr} {sl28 : Array (Option Value)} {oc28 kV28 dc28 pm28 cd28 ct28 : Value}
    (a28 : PySem.W.nsIn K mainGlobals "put_together" = some (some (.ref f28))) (l28 : K.lookup f28 = some ⟨oc28, od28, .func (PySem.W.fnOf "put_together" "put_together" (defArgs sPut) (defBody sPut) (defScope sPut) .none kV28 dc28 pm28 an28 cd28 ct28), sl28⟩) (c28 : PySem.W.codeIn K cd28 "put_together" = true) (k28 : PySem.W.keepIn K (.ref f28) = true)
    {od29 an29 : Option Addr} {sl29 : Array (Option Value)} {oc29 kV29 dc29 pm29 cd29 ct29 : Value}
    (a29 : PySem.W.nsIn K mainGlobals "digits_of" = some (some (.ref f29))) (l29 : K.lookup f29 = some ⟨oc29, od29, .func (PySem.W.fnOf "digits_of" "digits_of" (defArgs sDigits) (defBody sDigits) (defScope sDigits) .none kV29 dc29 pm29 an29 cd29 ct29), sl29⟩) (c29 : PySem.W.codeIn K cd29 "digits_of" = true) (k29 : PySem.W.keepIn K (.ref f29) = true)
    {od30 an30 : Option Addr} {sl30 : Array (Option Value)} {oc30 kV30 dc30 pm30 cd30 ct30 : Value}
    (a30 : PySem.W.nsIn K mainGlobals "text_step" = some (some (.ref f30))) (l30 : K.lookup f30 = some ⟨oc30, od30, .func (PySem.W.fnOf "text_step" "text_step" (defArgs sTextStep) (defBody sTextStep) (defScope sTextStep) .none kV30 dc30 pm30 an30 cd30 ct30), sl30⟩) (c30 : PySem.W.codeIn K cd30 "text_step" = true) (k30 : PySem.W.keepIn K (.ref f30) = true)
    {od31 an31 : Option Addr} {sl31 : Array (Option Value)} {oc31 kV31 dc31 pm31 cd31 ct31 : Value}
    (a31 : PySem.W.nsIn K mainGlobals "take_step" = some (some (.ref f31))) (l31 : K.lookup f31 = some ⟨oc31, od31, .func (PySem.W.fnOf "take_step" "take_step" (defArgs sTakeStep) (defBody sTakeStep) (defScope sTakeStep) .none kV31 dc31 pm31 an31 cd31 ct31), sl31⟩) (c31 : PySem.W.codeIn K cd31 "take_step" = true) (k31 : PySem.W.keepIn K (.ref f31) = true)
    {od32 an32 : Option Addr} {sl32 : Array (Option Value)} {oc32 kV32 dc32 pm32 cd32 ct32 : Value}
    (a32 : PySem.W.nsIn K mainGlobals "worked_out" = some (some (.ref f32))) (l32 : K.lookup f32 = some ⟨oc32, od32, .func (PySem.W.fnOf "worked_out" "worked_out" (defArgs sWorkedOut) (defBody sWorkedOut) (defScope sWorkedOut) .none kV32 dc32 pm32 an32 cd32 ct32), sl32⟩) (c32 : PySem.W.codeIn K cd32 "worked_out" = true) (k32 : PySem.W.keepIn K (.ref f32) = true)
    {od33 an33 : Option Addr} {sl33 : Array (Option Value)} {oc33 kV33 dc33 pm33 cd33 ct33 : Value}
    (a33 : PySem.W.nsIn K mainGlobals "work_answer" = some (some (.ref f33))) (l33 : K.lookup f33 = some ⟨oc33, od33, .func (PySem.W.fnOf "work_answer" "work_answer" (defArgs sWorkAnswer) (defBody sWorkAnswer) (defScope sWorkAnswer) .none kV33 dc33 pm33 an33 cd33 ct33), sl33⟩) (c33 : PySem.W.codeIn K cd33 "work_answer" = true) (k33 : PySem.W.keepIn K (.ref f33) = true)
    {od34 an34 : Option Addr} {sl34 : Array (Option Value)} {oc34 kV34 dc34 pm34 cd34 ct34 : Value}
    (a34 : PySem.W.nsIn K mainGlobals "ru_work" = some (some (.ref f34))) (l34 : K.lookup f34 = some ⟨oc34, od34, .func (PySem.W.fnOf "ru_work" "ru_work" (defArgs sWork) (defBody sWork) (defScope sWork) .none kV34 dc34 pm34 an34 cd34 ct34), sl34⟩) (c34 : PySem.W.codeIn K cd34 "ru_work" = true) (k34 : PySem.W.keepIn K (.ref f34) = true)
    {od101 an101 : Option Addr} {sl101 : Array (Option Value)} {oc101 kV101 dc101 pm101 cd101 ct101 : Value}
    (aD1 : PySem.W.nsIn K mainGlobals "OpenRule" = some (some (.ref D1))) (a101 : PySem.W.findIn K (.ref D1) "__init__" = some (some (.ref fi1))) (i101 : PySem.W.isFn K (.ref fi1) = true) (l101 : K.lookup fi1 = some ⟨oc101, od101, .func (PySem.W.fnOf "__init__" "OpenRule.__init__" (defArgs sInitOpen) (defBody sInitOpen) (defScope sInitOpen) .none kV101 dc101 pm101 an101 cd101 ct101), sl101⟩) (c101 : PySem.W.codeIn K cd101 "OpenRule.__init__" = true) (k101 : PySem.W.keepIn K (.ref fi1) = true)
    (pg1 : PySem.W.plainGet K D1 Str.empty = true) (hd1 : PySem.W.hasDictIn K D1 = true) (po1 : PySem.W.plainOver K D1 = true) (sa1 : PySem.W.findIn K (.ref D1) "__setattr__" = some (some (.builtin "object.__setattr__"))) (mk1 : PySem.W.makesIn K D1 = true) (kc1 : PySem.W.keepIn K (.ref D1) = true)
    (n11 : PySem.W.findIn K (.ref D1) "name" = some none)
    (n12 : PySem.W.findIn K (.ref D1) "steps" = some none)
    (n13 : PySem.W.findIn K (.ref D1) "place" = some none)
    {od102 an102 : Option Addr} {sl102 : Array (Option Value)} {oc102 kV102 dc102 pm102 cd102 ct102 : Value}
    (aD2 : PySem.W.nsIn K mainGlobals "Work" = some (some (.ref D2))) (a102 : PySem.W.findIn K (.ref D2) "__init__" = some (some (.ref fi2))) (i102 : PySem.W.isFn K (.ref fi2) = true) (l102 : K.lookup fi2 = some ⟨oc102, od102, .func (PySem.W.fnOf "__init__" "Work.__init__" (defArgs sInitWork) (defBody sInitWork) (defScope sInitWork) .none kV102 dc102 pm102 an102 cd102 ct102), sl102⟩) (c102 : PySem.W.codeIn K cd102 "Work.__init__" = true) (k102 : PySem.W.keepIn K (.ref fi2) = true)
    (pg2 : PySem.W.plainGet K D2 Str.empty = true) (hd2 : PySem.W.hasDictIn K D2 = true) (po2 : PySem.W.plainOver K D2 = true) (sa2 : PySem.W.findIn K (.ref D2) "__setattr__" = some (some (.builtin "object.__setattr__"))) (mk2 : PySem.W.makesIn K D2 = true) (kc2 : PySem.W.keepIn K (.ref D2) = true)
    (n21 : PySem.W.findIn K (.ref D2) "rules" = some none)
    (n22 : PySem.W.findIn K (.ref D2) "reads" = some none)
    (n23 : PySem.W.findIn K (.ref D2) "opened" = some none)
    (n24 : PySem.W.findIn K (.ref D2) "texts" = some none)
    {tk1 : PySem.Tok} (g1 : PySem.W.nsIn K mainGlobals "NEWLINE" = some (some (.int 10 tk1)))
    {tk2 : PySem.Tok} (g2 : PySem.W.nsIn K mainGlobals "BLANK" = some (some (.int 32 tk2)))
    {tk3 : PySem.Tok} (g3 : PySem.W.nsIn K mainGlobals "QUOTE" = some (some (.int 34 tk3)))
    {tk4 : PySem.Tok} (g4 : PySem.W.nsIn K mainGlobals "BACKSLASH" = some (some (.int 92 tk4)))
    {tk5 : PySem.Tok} (g5 : PySem.W.nsIn K mainGlobals "UNDERSCORE" = some (some (.int 95 tk5)))
    {tk6 : PySem.Tok} (g6 : PySem.W.nsIn K mainGlobals "SMALL_A" = some (some (.int 97 tk6)))
    {tk7 : PySem.Tok} (g7 : PySem.W.nsIn K mainGlobals "SMALL_N" = some (some (.int 110 tk7)))
    {tk8 : PySem.Tok} (g8 : PySem.W.nsIn K mainGlobals "SMALL_Z" = some (some (.int 122 tk8)))
    {tk9 : PySem.Tok} (g9 : PySem.W.nsIn K mainGlobals "DIGIT_0" = some (some (.int 48 tk9)))
    {tk10 : PySem.Tok} (g10 : PySem.W.nsIn K mainGlobals "DIGIT_9" = some (some (.int 57 tk10)))
    {tk11 : PySem.Tok} (g11 : PySem.W.nsIn K mainGlobals "LOWEST_IN_STRING" = some (some (.int 32 tk11)))
    {tk12 : PySem.Tok} (g12 : PySem.W.nsIn K mainGlobals "MOST_NAME_BYTES" = some (some (.int 16 tk12)))
    {tk13 : PySem.Tok} (g13 : PySem.W.nsIn K mainGlobals "MOST_DIGITS" = some (some (.int 4 tk13)))
    {tk14 : PySem.Tok} (g14 : PySem.W.nsIn K mainGlobals "MOST_BYTES" = some (some (.int 16384 tk14)))
    {tk15 : PySem.Tok} (g15 : PySem.W.nsIn K mainGlobals "MOST_TOKENS" = some (some (.int 4096 tk15)))
    {tk16 : PySem.Tok} (g16 : PySem.W.nsIn K mainGlobals "MOST_DEEP" = some (some (.int 32 tk16)))
    {tk17 : PySem.Tok} (g17 : PySem.W.nsIn K mainGlobals "MOST_RULES" = some (some (.int 64 tk17)))
    {tk18 : PySem.Tok} (g18 : PySem.W.nsIn K mainGlobals "NUMBER_FORM" = some (some (.int 0 tk18)))
    {tk19 : PySem.Tok} (g19 : PySem.W.nsIn K mainGlobals "REFUSAL_FORM" = some (some (.int 1 tk19)))
    {tk20 : PySem.Tok} (g20 : PySem.W.nsIn K mainGlobals "TOO_MUCH" = some (some (.int (-28) tk20)))
    {tk21 : PySem.Tok} (g21 : PySem.W.nsIn K mainGlobals "NOT_READABLE" = some (some (.int (-71) tk21)))
    {tk22 : PySem.Tok} (g22 : PySem.W.nsIn K mainGlobals "ONE_NAME_TWICE" = some (some (.int (-22) tk22)))
    {tk23 : PySem.Tok} (g23 : PySem.W.nsIn K mainGlobals "MOST_TEXT_BYTES" = some (some (.int 4096 tk23)))
    {tk24 : PySem.Tok} (g24 : PySem.W.nsIn K mainGlobals "MOST_READS" = some (some (.int 20000 tk24)))
    {tk25 : PySem.Tok} (g25 : PySem.W.nsIn K mainGlobals "TEXT_FORM" = some (some (.int 2 tk25)))
    {tk26 : PySem.Tok} (g26 : PySem.W.nsIn K mainGlobals "NO_RULE" = some (some (.int (-2) tk26)))
    {tk27 : PySem.Tok} (g27 : PySem.W.nsIn K mainGlobals "IN_A_RING" = some (some (.int (-40) tk27)))
    {tk28 : PySem.Tok} (g28 : PySem.W.nsIn K mainGlobals "TOO_MANY_READS" = some (some (.int (-62) tk28)))
    (z1 : PySem.W.nsIn K mainGlobals "len" = some none)
    (z2 : PySem.W.nsIn K mainGlobals "tuple" = some none)
    (z3 : PySem.W.nsIn K mainGlobals "ord" = some none)
    (z4 : PySem.W.nsIn K mainGlobals "enumerate" = some none)
    (z5 : PySem.W.nsIn K mainGlobals "list" = some none)
    (z6 : PySem.W.nsIn K mainGlobals "str" = some none)
    (z7 : PySem.W.nsIn K mainGlobals "dict" = some none)
    (x1 : PySem.W.nsIn K mainGlobals "NotParted" = some (some (.ref E1))) (y1 : PySem.W.excIn K E1 excTail "Exception.__new__" = true)
    (x2 : PySem.W.nsIn K mainGlobals "NoSheet" = some (some (.ref E2))) (y2 : PySem.W.excIn K E2 excTail "Exception.__new__" = true)
    (x3 : PySem.W.nsIn K mainGlobals "NoRule" = some (some (.ref E3))) (y3 : PySem.W.excIn K E3 excTail "Exception.__new__" = true)
    (x4 : PySem.W.nsIn K mainGlobals "Ring" = some (some (.ref E4))) (y4 : PySem.W.excIn K E4 excTail "Exception.__new__" = true)
    (x5 : PySem.W.nsIn K mainGlobals "TextTooLong" = some (some (.ref E5))) (y5 : PySem.W.excIn K E5 excTail "Exception.__new__" = true)
    (x6 : PySem.W.nsIn K mainGlobals "TooManyReads" = some (some (.ref E6))) (y6 : PySem.W.excIn K E6 excTail "Exception.__new__" = true)
    (ap43 : apartIn K E4 E3 = true)
    (ap53 : apartIn K E5 E3 = true)
    (ap63 : apartIn K E6 E3 = true)
    (ap54 : apartIn K E5 E4 = true)
    (ap64 : apartIn K E6 E4 = true)
    (ap65 : apartIn K E6 E5 = true)
    {es : Array DictEntry} {ep : Nat} (u1 : PySem.W.nsIn K mainGlobals "SIGNS" = some (some (.ref dS))) (u2 : K.lookup dS = some ⟨.type "dict", none, .dict es ep, #[]⟩)
    (u3 : es.toList.map entI = sigD.map fun p => some (hashInt p.1, p.1, p.2)) (u4 : (dS == sysModules) = false)
    {ow : Option Addr} {nw : Nat} {slw : Array (Option Value)} {q0 q1 q2 q3 q4 q5 q6 : PySem.Tok} (v1 : PySem.W.nsIn K mainGlobals "WORDS" = some (some (.ref tW))) (v2 : K.lookup tW = some ⟨.type "tuple", ow, .seq #[.str "if" q0, .str "then" q1, .str "else" q2, .str "get" q3, .str "first" q4, .str "rest" q5, .str "size" q6] nw, slw⟩) :
    ∃ fd : FuncData, (∀ (s : Shared) (us : List Value), us.length = ["t", "name"].length → BindsTo s fd ⟨us, []⟩ ((["t", "name"] : List Str).zip us)) ∧ ∀ base : Heap, K.In base → base.Ns mainGlobals mg → FnOk r.prog w K mg base CX0 134 fa fd ["t", "name"] (spWork K) := by
  have e := hfa.symm.trans (PySem.W.mg_of X G a34)
  cases e
  have F_is_letter := fun_mk (st := sLetter) l1 c1 k1
  have C_is_letter : Callee K mg "is_letter" ["byte"] f1 _ := ⟨F_is_letter.binds (ps := ["byte"]) fun _ _ _ _ _ _ us hl => match us, hl with | [_], _ => rfl, k1, PySem.W.mg_of X G a1⟩
  have F_is_digit := fun_mk (st := sDigit) l2 c2 k2
  have C_is_digit : Callee K mg "is_digit" ["byte"] f2 _ := ⟨F_is_digit.binds (ps := ["byte"]) fun _ _ _ _ _ _ us hl => match us, hl with | [_], _ => rfl, k2, PySem.W.mg_of X G a2⟩
  have F_is_name_byte := fun_mk (st := sNameByte) l3 c3 k3
  have C_is_name_byte : Callee K mg "is_name_byte" ["byte"] f3 _ := ⟨F_is_name_byte.binds (ps := ["byte"]) fun _ _ _ _ _ _ us hl => match us, hl with | [_], _ => rfl, k3, PySem.W.mg_of X G a3⟩
  have F_name_end := fun_mk (st := sNameEnd) l4 c4 k4
  have C_name_end : Callee K mg "name_end" ["t", "start"] f4 _ := ⟨F_name_end.binds (ps := ["t", "start"]) fun _ _ _ _ _ _ us hl => match us, hl with | [_, _], _ => rfl, k4, PySem.W.mg_of X G a4⟩
  have F_number_end := fun_mk (st := sNumberEnd) l5 c5 k5
  have C_number_end : Callee K mg "number_end" ["t", "start"] f5 _ := ⟨F_number_end.binds (ps := ["t", "start"]) fun _ _ _ _ _ _ us hl => match us, hl with | [_, _], _ => rfl, k5, PySem.W.mg_of X G a5⟩
  have F_string_byte_end := fun_mk (st := sByteEnd) l6 c6 k6
  have C_string_byte_end : Callee K mg "string_byte_end" ["t", "at"] f6 _ := ⟨F_string_byte_end.binds (ps := ["t", "at"]) fun _ _ _ _ _ _ us hl => match us, hl with | [_, _], _ => rfl, k6, PySem.W.mg_of X G a6⟩
  have F_string_end := fun_mk (st := sStringEnd) l7 c7 k7
  have C_string_end : Callee K mg "string_end" ["t", "start"] f7 _ := ⟨F_string_end.binds (ps := ["t", "start"]) fun _ _ _ _ _ _ us hl => match us, hl with | [_, _], _ => rfl, k7, PySem.W.mg_of X G a7⟩
  have F_token_end := fun_mk (st := sTokenEnd) l8 c8 k8
  have C_token_end : Callee K mg "token_end" ["t", "start"] f8 _ := ⟨F_token_end.binds (ps := ["t", "start"]) fun _ _ _ _ _ _ us hl => match us, hl with | [_, _], _ => rfl, k8, PySem.W.mg_of X G a8⟩
  have F_word_or_name := fun_mk (st := sWordOr) l9 c9 k9
  have C_word_or_name : Callee K mg "word_or_name" ["body"] f9 _ := ⟨F_word_or_name.binds (ps := ["body"]) fun _ _ _ _ _ _ us hl => match us, hl with | [_], _ => rfl, k9, PySem.W.mg_of X G a9⟩
  have F_kind_of := fun_mk (st := sKindOf) l10 c10 k10
  have C_kind_of : Callee K mg "kind_of" ["body"] f10 _ := ⟨F_kind_of.binds (ps := ["body"]) fun _ _ _ _ _ _ us hl => match us, hl with | [_], _ => rfl, k10, PySem.W.mg_of X G a10⟩
  have F_number_of := fun_mk (st := sNumberOf) l11 c11 k11
  have C_number_of : Callee K mg "number_of" ["body"] f11 _ := ⟨F_number_of.binds (ps := ["body"]) fun _ _ _ _ _ _ us hl => match us, hl with | [_], _ => rfl, k11, PySem.W.mg_of X G a11⟩
  have F_string_of := fun_mk (st := sStringOf) l12 c12 k12
  have C_string_of : Callee K mg "string_of" ["body"] f12 _ := ⟨F_string_of.binds (ps := ["body"]) fun _ _ _ _ _ _ us hl => match us, hl with | [_], _ => rfl, k12, PySem.W.mg_of X G a12⟩
  have F_token_of := fun_mk (st := sTokenOf) l13 c13 k13
  have C_token_of : Callee K mg "token_of" ["body"] f13 _ := ⟨F_token_of.binds (ps := ["body"]) fun _ _ _ _ _ _ us hl => match us, hl with | [_], _ => rfl, k13, PySem.W.mg_of X G a13⟩
  have F_tokens_of := fun_mk (st := sTokens) l14 c14 k14
  have C_tokens_of : Callee K mg "tokens_of" ["t"] f14 _ := ⟨F_tokens_of.binds (ps := ["t"]) fun _ _ _ _ _ _ us hl => match us, hl with | [_], _ => rfl, k14, PySem.W.mg_of X G a14⟩
  have F_behind_kind := fun_mk (st := sBehindKind) l15 c15 k15
  have C_behind_kind : Callee K mg "behind_kind" ["tokens", "at", "kind"] f15 _ := ⟨F_behind_kind.binds (ps := ["tokens", "at", "kind"]) fun _ _ _ _ _ _ us hl => match us, hl with | [_, _, _], _ => rfl, k15, PySem.W.mg_of X G a15⟩
  have F_behind_part := fun_mk (st := sPart) l16 c16 k16
  have C_behind_part : Callee K mg "behind_part" ["tokens", "at", "depth", "steps"] f16 _ := ⟨F_behind_part.binds (ps := ["tokens", "at", "depth", "steps"]) fun _ _ _ _ _ _ us hl => match us, hl with | [_, _, _, _], _ => rfl, k16, PySem.W.mg_of X G a16⟩
  have F_behind_join := fun_mk (st := sJoin) l17 c17 k17
  have C_behind_join : Callee K mg "behind_join" ["tokens", "at", "depth", "steps"] f17 _ := ⟨F_behind_join.binds (ps := ["tokens", "at", "depth", "steps"]) fun _ _ _ _ _ _ us hl => match us, hl with | [_, _, _, _], _ => rfl, k17, PySem.W.mg_of X G a17⟩
  have F_behind_choice := fun_mk (st := sChoice) l18 c18 k18
  have C_behind_choice : Callee K mg "behind_choice" ["tokens", "at", "depth", "steps"] f18 _ := ⟨F_behind_choice.binds (ps := ["tokens", "at", "depth", "steps"]) fun _ _ _ _ _ _ us hl => match us, hl with | [_, _, _, _], _ => rfl, k18, PySem.W.mg_of X G a18⟩
  have F_behind_formula := fun_mk (st := sFormula) l19 c19 k19
  have C_behind_formula : Callee K mg "behind_formula" ["tokens", "at", "depth", "steps"] f19 _ := ⟨F_behind_formula.binds (ps := ["tokens", "at", "depth", "steps"]) fun _ _ _ _ _ _ us hl => match us, hl with | [_, _, _, _], _ => rfl, k19, PySem.W.mg_of X G a19⟩
  have F_behind_rule := fun_mk (st := sRule) l20 c20 k20
  have C_behind_rule : Callee K mg "behind_rule" ["tokens", "at", "steps"] f20 _ := ⟨F_behind_rule.binds (ps := ["tokens", "at", "steps"]) fun _ _ _ _ _ _ us hl => match us, hl with | [_, _, _], _ => rfl, k20, PySem.W.mg_of X G a20⟩
  have F_rules_of := fun_mk (st := sRules) l21 c21 k21
  have C_rules_of : Callee K mg "rules_of" ["sheet_tokens"] f21 _ := ⟨F_rules_of.binds (ps := ["sheet_tokens"]) fun _ _ _ _ _ _ us hl => match us, hl with | [_], _ => rfl, k21, PySem.W.mg_of X G a21⟩
  have F_first_repeated := fun_mk (st := sRepeated) l22 c22 k22
  have C_first_repeated : Callee K mg "first_repeated" ["names"] f22 _ := ⟨F_first_repeated.binds (ps := ["names"]) fun _ _ _ _ _ _ us hl => match us, hl with | [_], _ => rfl, k22, PySem.W.mg_of X G a22⟩
  have F_refusal := fun_mk (st := sRefusal) l23 c23 k23
  have C_refusal : Callee K mg "refusal" ["number", "at"] f23 _ := ⟨F_refusal.binds (ps := ["number", "at"]) fun _ _ _ _ _ _ us hl => match us, hl with | [_, _], _ => rfl, k23, PySem.W.mg_of X G a23⟩
  have F_read_rules := fun_mk (st := sReadRules) l24 c24 k24
  have C_read_rules : Callee K mg "read_rules" ["rules"] f24 _ := ⟨F_read_rules.binds (ps := ["rules"]) fun _ _ _ _ _ _ us hl => match us, hl with | [_], _ => rfl, k24, PySem.W.mg_of X G a24⟩
  have F_read_sheet := fun_mk (st := sReadSheet) l25 c25 k25
  have C_read_sheet : Callee K mg "read_sheet" ["t"] f25 _ := ⟨F_read_sheet.binds (ps := ["t"]) fun _ _ _ _ _ _ us hl => match us, hl with | [_], _ => rfl, k25, PySem.W.mg_of X G a25⟩
  have F_open_rule := fun_mk (st := sOpenRule) l26 c26 k26
  have C_open_rule : Callee K mg "open_rule" ["work", "name"] f26 _ := ⟨F_open_rule.binds (ps := ["work", "name"]) fun _ _ _ _ _ _ us hl => match us, hl with | [_, _], _ => rfl, k26, PySem.W.mg_of X G a26⟩
  have F_leave_string := fun_mk (st := sLeave) l27 c27 k27
  have C_leave_string : Callee K mg "leave_string" ["texts", "string"] f27 _ := ⟨F_leave_string.binds (ps := ["texts", "string"]) fun _ _ _ _ _ _ us hl => match us, hl with | [_, _], _ => rfl, k27, PySem.W.mg_of X G a27⟩
  have F_put_together := fun_mk (st := sPut) l28 c28 k28
  have C_put_together : Callee K mg "put_together" ["texts"] f28 _ := ⟨F_put_together.binds (ps := ["texts"]) fun _ _ _ _ _ _ us hl => match us, hl with | [_], _ => rfl, k28, PySem.W.mg_of X G a28⟩
  have F_digits_of := fun_mk (st := sDigits) l29 c29 k29
  have C_digits_of : Callee K mg "digits_of" ["number"] f29 _ := ⟨F_digits_of.binds (ps := ["number"]) fun _ _ _ _ _ _ us hl => match us, hl with | [_], _ => rfl, k29, PySem.W.mg_of X G a29⟩
  have F_text_step := fun_mk (st := sTextStep) l30 c30 k30
  have C_text_step : Callee K mg "text_step" ["texts", "what", "value"] f30 _ := ⟨F_text_step.binds (ps := ["texts", "what", "value"]) fun _ _ _ _ _ _ us hl => match us, hl with | [_, _, _], _ => rfl, k30, PySem.W.mg_of X G a30⟩
  have F_take_step := fun_mk (st := sTakeStep) l31 c31 k31
  have C_take_step : Callee K mg "take_step" ["work", "rule"] f31 _ := ⟨F_take_step.binds (ps := ["work", "rule"]) fun _ _ _ _ _ _ us hl => match us, hl with | [_, _], _ => rfl, k31, PySem.W.mg_of X G a31⟩
  have F_worked_out := fun_mk (st := sWorkedOut) l32 c32 k32
  have C_worked_out : Callee K mg "worked_out" ["rules", "name"] f32 _ := ⟨F_worked_out.binds (ps := ["rules", "name"]) fun _ _ _ _ _ _ us hl => match us, hl with | [_, _], _ => rfl, k32, PySem.W.mg_of X G a32⟩
  have F_work_answer := fun_mk (st := sWorkAnswer) l33 c33 k33
  have C_work_answer : Callee K mg "work_answer" ["rules", "name"] f33 _ := ⟨F_work_answer.binds (ps := ["rules", "name"]) fun _ _ _ _ _ _ us hl => match us, hl with | [_, _], _ => rfl, k33, PySem.W.mg_of X G a33⟩
  have Fm := fun_mk (st := sWork) l34 c34 k34
  have FI1 := fun_mk (st := sInitOpen) l101 c101 k101
  have BI1 := FI1.binds (ps := ["self", "name", "steps"]) fun _ _ _ _ _ _ us hl => match us, hl with | [_, _, _], _ => rfl
  have FI2 := fun_mk (st := sInitWork) l102 c102 k102
  have BI2 := FI2.binds (ps := ["self", "rules"]) fun _ _ _ _ _ _ us hl => match us, hl with | [_, _], _ => rfl
  have C : Consts K mg dS tW := ⟨⟨_, PySem.W.mg_of X G g1⟩, ⟨_, PySem.W.mg_of X G g2⟩, ⟨_, PySem.W.mg_of X G g3⟩, ⟨_, PySem.W.mg_of X G g4⟩, ⟨_, PySem.W.mg_of X G g5⟩, ⟨_, PySem.W.mg_of X G g6⟩, ⟨_, PySem.W.mg_of X G g7⟩, ⟨_, PySem.W.mg_of X G g8⟩, ⟨_, PySem.W.mg_of X G g9⟩, ⟨_, PySem.W.mg_of X G g10⟩, ⟨_, PySem.W.mg_of X G g11⟩, ⟨_, PySem.W.mg_of X G g12⟩, ⟨_, PySem.W.mg_of X G g13⟩, PySem.W.mg_of X G u1, PySem.W.mg_of X G v1, PySem.W.mg_none_of X G z1, PySem.W.mg_none_of X G z2, PySem.W.mg_none_of X G z3, ⟨⟨es, ep, u2, u3⟩, by decide, u4⟩,
    fun H => .inr ⟨_, _, _, v2, rfl, rfl, (by show 7 ≤ sizeLine; decide), .cons ⟨_, rfl⟩ (.cons ⟨_, rfl⟩ (.cons ⟨_, rfl⟩ (.cons ⟨_, rfl⟩ (.cons ⟨_, rfl⟩ (.cons ⟨_, rfl⟩ (.cons ⟨_, rfl⟩ .nil))))))⟩⟩
  have C2 : Consts2 mg := ⟨⟨_, PySem.W.mg_of X G g14⟩, ⟨_, PySem.W.mg_of X G g15⟩, ⟨_, PySem.W.mg_of X G g16⟩, ⟨_, PySem.W.mg_of X G g17⟩, ⟨_, PySem.W.mg_of X G g18⟩, ⟨_, PySem.W.mg_of X G g19⟩, ⟨_, PySem.W.mg_of X G g20⟩, ⟨_, PySem.W.mg_of X G g21⟩, ⟨_, PySem.W.mg_of X G g22⟩, PySem.W.mg_none_of X G z1, PySem.W.mg_none_of X G z4⟩
  have C3 : Consts3 mg := ⟨⟨_, PySem.W.mg_of X G g23⟩, ⟨_, PySem.W.mg_of X G g24⟩, ⟨_, PySem.W.mg_of X G g25⟩, ⟨_, PySem.W.mg_of X G g26⟩, ⟨_, PySem.W.mg_of X G g27⟩, ⟨_, PySem.W.mg_of X G g28⟩, PySem.W.mg_none_of X G z1, PySem.W.mg_none_of X G z2, PySem.W.mg_none_of X G z3, PySem.W.mg_none_of X G z5, PySem.W.mg_none_of X G z6, PySem.W.mg_none_of X G z7⟩
  have T : Txt K mg D1 D2 := ⟨⟨pg1, hd1, po1, sa1⟩, n11, n12, n13, PySem.W.mg_of X G aD1, ⟨pg2, hd2, po2, sa2⟩, n21, n22, n23, n24, PySem.W.mg_of X G aD2⟩
  refine ⟨PySem.W.fnOf "ru_work" "ru_work" (defArgs sWork) (defBody sWork) (defScope sWork) .none kV34 dc34 pm34 an34 cd34 ct34, fun s us hl => match us, hl with | [_, _], _ => .of_eq rfl, fun base kb nb => ?_⟩
  have ON : NP mg base E1 := exc_at kb nb x1 y1
  have OS : NS mg base E2 := exc_at kb nb x2 y2
  have O_is_letter := ok_letter (P := r.prog) (w := w) (base := base) C F_is_letter
  have O_is_digit := ok_digit (P := r.prog) (w := w) (base := base) C F_is_digit
  have O_is_name_byte := ok_nameByte C F_is_name_byte O_is_letter C_is_letter O_is_digit C_is_digit
  have O_name_end := ok_nameEnd C ON F_name_end O_is_name_byte C_is_name_byte
  have O_number_end := ok_numberEnd C ON F_number_end O_is_digit C_is_digit
  have O_sbe := ok_byteEnd (P := r.prog) (w := w) C ON F_string_byte_end
  have O_string_end := ok_stringEnd C ON F_string_end O_sbe C_string_byte_end
  have O_token_end := ok_tokenEnd C ON F_token_end O_string_end C_string_end O_is_letter C_is_letter O_name_end C_name_end O_is_digit C_is_digit O_number_end C_number_end
  have O_word := ok_wordOr (P := r.prog) (w := w) (base := base) C F_word_or_name
  have O_kind := ok_kindOf C F_kind_of O_is_digit C_is_digit O_word C_word_or_name
  have O_num := ok_numberOf (P := r.prog) (w := w) (base := base) C F_number_of
  have O_str := ok_stringOf (P := r.prog) (w := w) (base := base) C F_string_of
  have O_tok := ok_tokenOf C F_token_of O_kind C_kind_of O_num C_number_of O_str C_string_of
  have O_toks := ok_tokens C F_tokens_of O_token_end C_token_end O_tok C_token_of
  have O_bk := ok_behindKind (P := r.prog) (w := w) OS F_behind_kind
  have grammar : ∀ n : Nat, FnOk r.prog w K mg base (CXE r.prog w) (4 * n + 2) f19 (PySem.W.fnOf "behind_formula" "behind_formula" (defArgs sFormula) (defBody sFormula) (defScope sFormula) .none kV19 dc19 pm19 an19 cd19 ct19) ps4 (spP E2 FO n) := fun n => by
    induction n with
    | zero => exact (ok_formula0 (P := r.prog) (w := w) C2.mostDeep OS F_behind_formula).mono (by decide)
    | succ n ih =>
      have p := ok_part F_behind_part O_bk C_behind_kind ih C_behind_formula
      have j := ok_join F_behind_join p C_behind_part
      have c := ok_choice C2.len F_behind_choice O_bk C_behind_kind ih C_behind_formula j C_behind_join
      exact ok_formula C2.mostDeep OS F_behind_formula j C_behind_join c C_behind_choice
  have O_rule := ok_rule F_behind_rule O_bk C_behind_kind (grammar 32) C_behind_formula
  have O_rules := ok_rules F_rules_of O_rule C_behind_rule
  have O_rep := ok_repeated (P := r.prog) (w := w) (base := base) C2.enumerate F_first_repeated
  have O_ref := ok_refusal (P := r.prog) (w := w) (base := base) C2 F_refusal
  have O_rr := ok_readRules C2 F_read_rules O_ref C_refusal O_rep C_first_repeated
  have O_sheet := ok_readSheet C2 ON OS F_read_sheet O_ref C_refusal O_toks C_tokens_of O_rules C_rules_of O_rr C_read_rules
  have ONR : NR "NoRule" mg base E3 := exc_at kb nb x3 y3
  have ORi : NR "Ring" mg base E4 := exc_at kb nb x4 y4
  have OTL : NR "TextTooLong" mg base E5 := exc_at kb nb x5 y5
  have OTM : NR "TooManyReads" mg base E6 := exc_at kb nb x6 y6
  have GI1 := ok_initO (P := r.prog) (w := w) (base := base) FI1 T
  have GI2 := ok_initW (P := r.prog) (w := w) (base := base) FI2 T
  have O_open := ok_open (c2 := E3) (c40 := E4) (c28 := E5) (c62 := E6) C3 T ONR ORi OTM ⟨mk1, a101, i101, kc1⟩ GI1 BI1 F_open_rule
  have O_leave := ok_leave (P := r.prog) (w := w) C3 OTL F_leave_string
  have O_put := ok_put (P := r.prog) (w := w) C3 OTL F_put_together
  have O_dig := ok_digits (P := r.prog) (w := w) (base := base) C3 F_digits_of
  have O_text := ok_text C3 F_text_step O_leave C_leave_string O_put C_put_together O_dig C_digits_of
  have O_take := ok_take C3 T F_take_step O_open C_open_rule O_text C_text_step
  have O_worked := ok_worked C3 T ⟨mk2, a102, i102, kc2⟩ GI2 BI2 F_worked_out O_open C_open_rule O_take C_take_step
  have O_ans := ok_answer C2 C3 ONR ORi OTL OTM ap43 ap53 ap63 ap54 ap64 ap65 F_work_answer O_worked C_worked_out
  exact ok_work C2 C3 Fm O_sheet C_read_sheet O_ans C_work_answer
theorem said : PySem.Challenge.rw_sheettexts_s02_ru_work.wellSaid = true := by decide +kernel
end Ru
theorem PySem.W.Fast.tw16755895863976375600 : True := trivial
theorem PySem.W.Fast.tw2605289622747486493 : True := trivial
theorem PySem.W.Fast.tw9152361324658951710 : True := trivial
theorem PySem.W.Fast.tw1901396870206057200 : True := trivial
theorem PySem.W.Fast.tw6546424463267834278 : True := trivial
theorem PySem.W.Fast.tw9484763813448579321 : True := trivial
open PySem PySem.W PyProof.Rows
set_option maxRecDepth 100000 in
set_option maxHeartbeats 0 in
theorem PySem.Challenge.cw_sheettexts_s02_ru_work_holds : PySem.Challenge.rw_sheettexts_s02_ru_work.Holds := by
  have said := Ru.said
  w_on; k_headS; (case hw => exact ⟨[.list [], .list []], by decide +kernel, by decide +kernel⟩)
  k_fillS
  refine L2.walk_spec (r := PySem.Challenge.rw_sheettexts_s02_ru_work) (CX := fun _ => L2.CX0) (sp := Ru.spWork) (k := 134) (ps := ["t", "name"]) rfl ⟨rfl, by decide, by decide⟩ (fun w h Y => PySem.W.kIn_of Y) ?F ?A (fun _ _ _ _ _ z => z)
  case F =>
    intro w mg fa h KX G hmg
    refine' Ru.all_mk KX G hmg ?a1 ?l1 ?c1 ?k1 ?a2 ?l2 ?c2 ?k2 ?a3 ?l3 ?c3 ?k3 ?a4 ?l4 ?c4 ?k4 ?a5 ?l5 ?c5 ?k5 ?a6 ?l6 ?c6 ?k6 ?a7 ?l7 ?c7 ?k7 ?a8 ?l8 ?c8 ?k8 ?a9 ?l9 ?c9 ?k9 ?a10 ?l10 ?c10 ?k10 ?a11 ?l11 ?c11 ?k11 ?a12 ?l12 ?c12 ?k12 ?a13 ?l13 ?c13 ?k13 ?a14 ?l14 ?c14 ?k14 ?a15 ?l15 ?c15 ?k15 ?a16 ?l16 ?c16 ?k16 ?a17 ?l17 ?c17 ?k17 ?a18 ?l18 ?c18 ?k18 ?a19 ?l19 ?c19 ?k19 ?a20 ?l20 ?c20 ?k20 ?a21 ?l21 ?c21 ?k21 ?a22 ?l22 ?c22 ?k22 ?a23 ?l23 ?c23 ?k23 ?a24 ?l24 ?c24 ?k24 ?a25 ?l25 ?c25 ?k25 ?a26 ?l26 ?c26 ?k26 ?a27 ?l27 ?c27 ?k27 ?a28 ?l28 ?c28 ?k28 ?a29 ?l29 ?c29 ?k29 ?a30 ?l30 ?c30 ?k30 ?a31 ?l31 ?c31 ?k31 ?a32 ?l32 ?c32 ?k32 ?a33 ?l33 ?c33 ?k33 ?a34 ?l34 ?c34 ?k34 ?aD1 ?a101 ?i101 ?l101 ?c101 ?k101 ?pg1 ?hd1 ?po1 ?sa1 ?mk1 ?kc1 ?n11 ?n12 ?n13 ?aD2 ?a102 ?i102 ?l102 ?c102 ?k102 ?pg2 ?hd2 ?po2 ?sa2 ?mk2 ?kc2 ?n21 ?n22 ?n23 ?n24 ?g1 ?g2 ?g3 ?g4 ?g5 ?g6 ?g7 ?g8 ?g9 ?g10 ?g11 ?g12 ?g13 ?g14 ?g15 ?g16 ?g17 ?g18 ?g19 ?g20 ?g21 ?g22 ?g23 ?g24 ?g25 ?g26 ?g27 ?g28 ?z1 ?z2 ?z3 ?z4 ?z5 ?z6 ?z7 ?x1 ?y1 ?x2 ?y2 ?x3 ?y3 ?x4 ?y4 ?x5 ?y5 ?x6 ?y6 ?ap43 ?ap53 ?ap63 ?ap54 ?ap64 ?ap65 ?u1 ?u2 ?u3 ?u4 ?v1 ?v2
    (case a1 => k_is)
    (case l1 => k_is)
    (case c1 => k_is)
    (case k1 => k_is)
    (case a2 => k_is)
    (case l2 => k_is)
    (case c2 => k_is)
    (case k2 => k_is)
    (case a3 => k_is)
    (case l3 => k_is)
    (case c3 => k_is)
    (case k3 => k_is)
    (case a4 => k_is)
    (case l4 => k_is)
    (case c4 => k_is)
    (case k4 => k_is)
    (case a5 => k_is)
    (case l5 => k_is)
    (case c5 => k_is)
    (case k5 => k_is)
    (case a6 => k_is)
    (case l6 => k_is)
    (case c6 => k_is)
    (case k6 => k_is)
    (case a7 => k_is)
    (case l7 => k_is)
    (case c7 => k_is)
    (case k7 => k_is)
    (case a8 => k_is)
    (case l8 => k_is)
    (case c8 => k_is)
    (case k8 => k_is)
    (case a9 => k_is)
    (case l9 => k_is)
    (case c9 => k_is)
    (case k9 => k_is)
    (case a10 => k_is)
    (case l10 => k_is)
    (case c10 => k_is)
    (case k10 => k_is)
    (case a11 => k_is)
    (case l11 => k_is)
    (case c11 => k_is)
    (case k11 => k_is)
    (case a12 => k_is)
    (case l12 => k_is)
    (case c12 => k_is)
    (case k12 => k_is)
    (case a13 => k_is)
    (case l13 => k_is)
    (case c13 => k_is)
    (case k13 => k_is)
    (case a14 => k_is)
    (case l14 => k_is)
    (case c14 => k_is)
    (case k14 => k_is)
    (case a15 => k_is)
    (case l15 => k_is)
    (case c15 => k_is)
    (case k15 => k_is)
    (case a16 => k_is)
    (case l16 => k_is)
    (case c16 => k_is)
    (case k16 => k_is)
    (case a17 => k_is)
    (case l17 => k_is)
    (case c17 => k_is)
    (case k17 => k_is)
    (case a18 => k_is)
    (case l18 => k_is)
    (case c18 => k_is)
    (case k18 => k_is)
    (case a19 => k_is)
    (case l19 => k_is)
    (case c19 => k_is)
    (case k19 => k_is)
    (case a20 => k_is)
    (case l20 => k_is)
    (case c20 => k_is)
    (case k20 => k_is)
    (case a21 => k_is)
    (case l21 => k_is)
    (case c21 => k_is)
    (case k21 => k_is)
    (case a22 => k_is)
    (case l22 => k_is)
    (case c22 => k_is)
    (case k22 => k_is)
    (case a23 => k_is)
    (case l23 => k_is)
    (case c23 => k_is)
    (case k23 => k_is)
    (case a24 => k_is)
    (case l24 => k_is)
    (case c24 => k_is)
    (case k24 => k_is)
    (case a25 => k_is)
    (case l25 => k_is)
    (case c25 => k_is)
    (case k25 => k_is)
    (case a26 => k_is)
    (case l26 => k_is)
    (case c26 => k_is)
    (case k26 => k_is)
    (case a27 => k_is)
    (case l27 => k_is)
    (case c27 => k_is)
    (case k27 => k_is)
    (case a28 => k_is)
    (case l28 => k_is)
    (case c28 => k_is)
    (case k28 => k_is)
    (case a29 => k_is)
    (case l29 => k_is)
    (case c29 => k_is)
    (case k29 => k_is)
    (case a30 => k_is)
    (case l30 => k_is)
    (case c30 => k_is)
    (case k30 => k_is)
    (case a31 => k_is)
    (case l31 => k_is)
    (case c31 => k_is)
    (case k31 => k_is)
    (case a32 => k_is)
    (case l32 => k_is)
    (case c32 => k_is)
    (case k32 => k_is)
    (case a33 => k_is)
    (case l33 => k_is)
    (case c33 => k_is)
    (case k33 => k_is)
    (case a34 => k_is)
    (case l34 => k_is)
    (case c34 => k_is)
    (case k34 => k_is)
    (case aD1 => k_is)
    (case a101 => k_is)
    (case i101 => k_is)
    (case l101 => k_is)
    (case c101 => k_is)
    (case k101 => k_is)
    (case pg1 => k_is)
    (case hd1 => k_is)
    (case po1 => k_is)
    (case sa1 => k_is)
    (case mk1 => k_is)
    (case kc1 => k_is)
    (case n11 => k_is)
    (case n12 => k_is)
    (case n13 => k_is)
    (case aD2 => k_is)
    (case a102 => k_is)
    (case i102 => k_is)
    (case l102 => k_is)
    (case c102 => k_is)
    (case k102 => k_is)
    (case pg2 => k_is)
    (case hd2 => k_is)
    (case po2 => k_is)
    (case sa2 => k_is)
    (case mk2 => k_is)
    (case kc2 => k_is)
    (case n21 => k_is)
    (case n22 => k_is)
    (case n23 => k_is)
    (case n24 => k_is)
    (case g1 => k_is)
    (case g2 => k_is)
    (case g3 => k_is)
    (case g4 => k_is)
    (case g5 => k_is)
    (case g6 => k_is)
    (case g7 => k_is)
    (case g8 => k_is)
    (case g9 => k_is)
    (case g10 => k_is)
    (case g11 => k_is)
    (case g12 => k_is)
    (case g13 => k_is)
    (case g14 => k_is)
    (case g15 => k_is)
    (case g16 => k_is)
    (case g17 => k_is)
    (case g18 => k_is)
    (case g19 => k_is)
    (case g20 => k_is)
    (case g21 => k_is)
    (case g22 => k_is)
    (case g23 => k_is)
    (case g24 => k_is)
    (case g25 => k_is)
    (case g26 => k_is)
    (case g27 => k_is)
    (case g28 => k_is)
    (case z1 => k_is)
    (case z2 => k_is)
    (case z3 => k_is)
    (case z4 => k_is)
    (case z5 => k_is)
    (case z6 => k_is)
    (case z7 => k_is)
    (case x1 => k_is)
    (case y1 => k_exc)
    (case x2 => k_is)
    (case y2 => k_exc)
    (case x3 => k_is)
    (case y3 => k_exc)
    (case x4 => k_is)
    (case y4 => k_exc)
    (case x5 => k_is)
    (case y5 => k_exc)
    (case x6 => k_is)
    (case y6 => k_exc)
    (case ap43 => rfl)
    (case ap53 => rfl)
    (case ap63 => rfl)
    (case ap54 => rfl)
    (case ap64 => rfl)
    (case ap65 => rfl)
    (case u1 => k_is)
    (case u2 => k_is)
    (case u3 => rfl)
    (case u4 => decide)
    (case v1 => k_is)
    (case v2 => k_is)
  case A =>
    intro as hpre
    obtain ⟨a, hw, _, rfl⟩ := (OpenSpec.pre_iff Ru.said as).mp hpre
    obtain ⟨ns, ms, ⟨⟩⟩ := a
    have hw' : (Codec.inList 0 17000 (Codec.inInt 0 255) ns && (Codec.inList 0 17 (Codec.inInt 0 255) ms && true)) = true := hw
    unfold Codec.inList Codec.inLen Codec.inNat at hw'
    simp only [Bool.and_eq_true, decide_eq_true_eq, List.all_eq_true] at hw'
    obtain ⟨⟨⟨_, hl⟩, hz⟩, ⟨⟨_, hl2⟩, hz2⟩, _⟩ := hw'
    have h0 : ∀ z ∈ ns, 0 ≤ z := fun z hm => by
      have := hz z hm
      unfold Codec.inInt at this
      simp only [Bool.and_eq_true, decide_eq_true_eq] at this
      exact this.1
    have h02 : ∀ z ∈ ms, 0 ≤ z := fun z hm => by
      have := hz2 z hm
      unfold Codec.inInt at this
      simp only [Bool.and_eq_true, decide_eq_true_eq] at this
      exact this.1
    refine ⟨[ns, ms], rfl, rfl, fun m hm => ?_, PyKp176.ru_work ns ms, ?_, ?_⟩
    · rcases List.mem_cons.mp hm with z | z
      · rw [z]; exact Nat.le_trans hl (by decide)
      · rw [List.mem_singleton.mp z]; exact Nat.le_trans hl2 (by decide)
    · exact (OpenSpec.post_iff Ru.said hw _ []).mpr rfl
    · intro KK H args ha _ hS
      obtain ⟨p, p2, rfl⟩ : ∃ p p2, args = [(p, ns), (p2, ms)] := by
        match args, ha with
        | [(p, m), (p2, m2)], ha =>
          simp only [List.map_cons, List.map_nil, List.cons.injEq, and_true] at ha
          obtain ⟨rfl, rfl⟩ := ha
          exact ⟨p, p2, rfl⟩
      have back : ∀ l : List Int, (∀ z ∈ l, 0 ≤ z) → Ru.bv (Kp176Neutral.nats l) = l.map L2.V.int := fun l hl0 => by
        have e := RM.nats_back hl0
        unfold Ru.bv
        conv => rhs; rw [← e]
        rw [List.map_map]; rfl
      refine ⟨p, p2, Kp176Neutral.nats ns, Kp176Neutral.nats ms, rfl, ?_, ?_, by rw [RM.nats_len]; exact hl, by rw [RM.nats_len]; exact hl2, fun q H' hq => ⟨q, rfl, ?_⟩⟩
      · rw [back ns h0]; exact hS (p, ns) List.mem_cons_self
      · rw [back ms h02]; exact hS (p2, ms) (List.mem_cons_of_mem _ List.mem_cons_self)
      · rw [← Ru.wkO_due]
        exact L2.SqL.of hq
#print axioms PySem.Challenge.cw_sheettexts_s02_ru_work_holds
