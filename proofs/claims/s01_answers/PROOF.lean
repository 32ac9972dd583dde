import PyProof.Rows.All
import Wide.All
import OpenK.AllK
import Wide.FinOn
import PyProof.EqAt
import PyProof.EqKinds
import PyProof.TupleCall
import KE.BitLaws
import KE.OsGo
import PySem.Challenge.RW_wholelab_s01_answers
set_option Elab.async false
set_option linter.all false
set_option maxRecDepth 100000
set_option maxHeartbeats 4000000

namespace L2
open PySem PySem.Spec PyProof.Rows
abbrev Key := Sum Int Str
def keyIs : Key → Value → Bool
  | .inl k, v => Value.isInt k v
  | .inr x, v => Value.isStrOf x v
def keyH (w : World) : Key → Int
  | .inl k => hashInt k
  | .inr x => hashStr w x
theorem keyIs_shape : ∀ {k : Key} {v : Value}, keyIs k v = true → (∃ i t, k = Sum.inl i ∧ v = Value.int i t) ∨ (∃ x t, k = Sum.inr x ∧ v = Value.str x t)
  | .inl i, v, h => by
    obtain ⟨t, e⟩ := Value.isInt_shape (k := i) (v := v) h
    exact .inl ⟨i, t, rfl, e⟩
  | .inr x, v, h => by
    obtain ⟨t, e⟩ := Value.isStrOf_shape (x := x) (v := v) h
    exact .inr ⟨x, t, rfl, e⟩
theorem keyIs_int (i : Int) (t : Tok) : keyIs (.inl i) (.int i t) = true := by simp [keyIs, Value.isInt]
theorem keyIs_str (x : Str) (t : Tok) : keyIs (.inr x) (.str x t) = true := by simp [keyIs, Value.isStrOf]
theorem key_ll (a b : Int) : decide ((Sum.inl a : Key) = Sum.inl b) = (a == b) := by
  by_cases e : a = b
  · subst e; simp
  · have h : ¬ (Sum.inl a : Key) = Sum.inl b := fun q => e (Sum.inl.inj q)
    rw [decide_eq_false h]
    exact (beq_eq_false_iff_ne.mpr e).symm
theorem key_rr (a b : Str) : decide ((Sum.inr a : Key) = Sum.inr b) = decide (a = b) := by
  by_cases e : a = b
  · subst e; simp
  · have h : ¬ (Sum.inr a : Key) = Sum.inr b := fun q => e (Sum.inr.inj q)
    rw [decide_eq_false h, decide_eq_false e]
theorem key_lr (a : Int) (b : Str) : decide ((Sum.inl a : Key) = Sum.inr b) = false := decide_eq_false (fun q => nomatch q)
theorem key_rl (a : Str) (b : Int) : decide ((Sum.inr a : Key) = Sum.inl b) = false := decide_eq_false (fun q => nomatch q)
def mixKind (prog : Program) (w : World) : PySem.KeyKind prog w Key where
  is := keyIs
  hash := keyH w
  inj := fun v a b ha hb => by
    rcases keyIs_shape ha with ⟨i, t, rfl, rfl⟩ | ⟨x, t, rfl, rfl⟩
    · rcases keyIs_shape hb with ⟨j, u, rfl, e⟩ | ⟨y, u, rfl, e⟩
      · injection e with e1 _; rw [e1]
      · exact nomatch e
    · rcases keyIs_shape hb with ⟨j, u, rfl, e⟩ | ⟨y, u, rfl, e⟩
      · exact nomatch e
      · injection e with e1 _; rw [e1]
  byValue := fun k v h => by
    rcases keyIs_shape h with ⟨i, t, rfl, rfl⟩ | ⟨x, t, rfl, rfl⟩ <;> rfl
  pyHash := fun hv h => by
    rcases keyIs_shape hv with ⟨i, t, rfl, rfl⟩ | ⟨x, t, rfl, rfl⟩
    · exact wpAny_pyHash_int h
    · exact wpAny_pyHash_str h
  eqBool := fun hu hv h => by
    rcases keyIs_shape hu with ⟨i, t, rfl, rfl⟩ | ⟨x, t, rfl, rfl⟩
    · rcases keyIs_shape hv with ⟨j, u, rfl, rfl⟩ | ⟨y, u, rfl, rfl⟩
      · rw [key_ll] at h; exact wpAny_eqBool_int h
      · rw [key_lr] at h; exact SeqAt.EqAt.int_str i t y u _ _ _ _ h
    · rcases keyIs_shape hv with ⟨j, u, rfl, rfl⟩ | ⟨y, u, rfl, rfl⟩
      · rw [key_rl] at h; exact SeqAt.EqAt.str_int x t j u _ _ _ _ h
      · rw [key_rr] at h; exact wpAny_eqBool_str h
  «strs» := fun k x t v h => by
    rcases keyIs_shape h with ⟨i, u, rfl, e⟩ | ⟨y, u, rfl, e⟩
    · exact nomatch e
    · injection e with e1 _
      subst e1
      cases v <;> rfl
theorem mixKind_int (prog : Program) (w : World) (i : Int) (t : Tok) : (mixKind prog w).is (.inl i) (.int i t) = true := keyIs_int i t
theorem mixKind_str (prog : Program) (w : World) (x : Str) (t : Tok) : (mixKind prog w).is (.inr x) (.str x t) = true := keyIs_str x t
end L2
namespace L2
open PySem PySem.Spec PyProof.Rows
inductive V where
  | non | bl (b : Bool) | int (i : Int) | str (x : Str) | byt (b : Array UInt8) | flt (b : UInt64) | ref (a : Addr) | ty (n : String)
  deriving DecidableEq
def RelV : V → Value → Prop
  | .non, u => u = Value.none
  | .bl b, u => u = Value.bool b
  | .int i, u => ∃ t, u = Value.int i t
  | .str x, u => ∃ t, u = Value.str x t
  | .byt b, u => ∃ t, u = Value.bytes b t
  | .flt b, u => ∃ t, u = Value.float b t
  | .ref a, u => u = Value.ref a
  | .ty n, u => u = Value.type n
abbrev Vals : List V → List Value → Prop := Paired RelV
theorem Vals.length {xs : List V} {us : List Value} (r : Vals xs us) : xs.length = us.length := Paired.length r
theorem Vals.get : ∀ {xs : List V} {us : List Value} {i : Nat} {x : V}, Vals xs us → xs[i]? = some x → ∃ u, us[i]? = some u ∧ RelV x u
  | _, _, _, _, .nil, e => by simp at e
  | _, _, 0, _, .cons r _, e => by simp at e; subst e; exact ⟨_, rfl, r⟩
  | _, _, i + 1, x, .cons _ t, e => by
    obtain ⟨u, h1, h2⟩ := Vals.get (i := i) (x := x) t (by simpa using e)
    exact ⟨u, by simpa using h1, h2⟩
theorem Vals.append : ∀ {xs ys : List V} {us ws : List Value}, Vals xs us → Vals ys ws → Vals (xs ++ ys) (us ++ ws)
  | _, _, _, _, .nil, s => s
  | _, _, _, _, .cons r t, s => .cons r (Vals.append t s)
theorem Vals.take : ∀ {xs : List V} {us : List Value} (n : Nat), Vals xs us → Vals (xs.take n) (us.take n)
  | _, _, 0, _ => .nil
  | _, _, _ + 1, .nil => .nil
  | _, _, n + 1, .cons r t => .cons r (Vals.take n t)
theorem Vals.drop : ∀ {xs : List V} {us : List Value} (n : Nat), Vals xs us → Vals (xs.drop n) (us.drop n)
  | _, _, 0, r => r
  | _, _, _ + 1, .nil => .nil
  | _, _, n + 1, .cons _ t => Vals.drop n t
def RelO : Option V → Option Value → Prop
  | some v, some u => RelV v u
  | none, none => True
  | _, _ => False
def KV {κ : Type} : List (κ × V) → List (κ × Value) → Prop := Paired fun (p : κ × V) (q : κ × Value) => p.1 = q.1 ∧ RelV p.2 q.2
def kV : Key → V
  | .inl i => .int i
  | .inr x => .str x
inductive HO where
  /-- a list -/
  | lst (xs : List V)
  /-- a tuple (never changes) -/
  | tup (xs : List V)
  /-- a dict whose keys are ints and texts; one whose keys are tuples of ints and texts (the empty one is both) -/
  | dK (kvs : List (Key × V)) | dT (kvs : List (List Key × V))
  /-- a set of ints: its members, its size -/
  | set (S : Int → Bool) (n : Nat)
  /-- an instance of the class at C, its dict at dx, its attributes -/
  | ins (C dx : Addr) (fs : List (Str × V))
  /-- the dict of the instance at x -/
  | own (x : Addr)
  /-- the dict of an exception -/
  | xd (fs : List (Str × V))
  /-- a bound method, f of x -/
  | met (f x : Addr)
  /-- a range object lo, lo + 1, .. below hi -/
  | rng (lo hi : Int)
  /-- a thing that is known to the object (the script; a dict while a loop walks it): read, never written while it is so -/
  | frz (o : Obj) (u : HO)
  /-- a code object's table -/
  | tbl (ps : Array Value)
  /-- any other thing, by what is true of its one object (a def of one's own: SetO a S n := HO.ext fun h => ..) -/
  | ext (φ : Heap → Prop)
abbrev Hp := Addr → Option HO
def upd (H : Hp) (a : Addr) (o : HO) : Hp := fun b => if b = a then some o else H b
theorem upd_same {H : Hp} {a : Addr} {o : HO} : upd H a o a = some o := by unfold upd; rw [if_pos rfl]
theorem upd_ne {H : Hp} {a b : Addr} {o : HO} (h : b ≠ a) : upd H a o b = H b := by unfold upd; rw [if_neg h]
theorem ne_of {H : Hp} {a b : Addr} {o u : HO} (h : H a = some o) (h' : H b = some u) (d : o ≠ u) : a ≠ b := by
  intro e; subst e; rw [h] at h'; exact d (Option.some.inj h')
theorem ne_of_none {H : Hp} {a b : Addr} {o : HO} (h : H a = some o) (h' : H b = none) : a ≠ b := by
  intro e; subst e; rw [h] at h'; cases h'
section
variable (P : Program) (w : World)
def ObjOk (H : Hp) (h : Heap) (a : Addr) : HO → Prop
  | .lst xs => xs.length ≤ sizeLine ∧ ∃ (its : List Value) (n : Nat), Vals xs its ∧ h.get? a = some { cls := .type "list", data := .seq its.toArray n }
  | .tup xs => xs.length ≤ sizeLine ∧ ∃ its : List Value, Vals xs its ∧ IsTup h a its.toArray
  | .dK kvs => kvs.length ≤ sizeLine ∧ (a == sysModules) = false ∧ ∃ vs, KV kvs vs ∧ h.DictOf (mixKind P w) a vs
  | .dT kvs => kvs.length ≤ sizeLine ∧ (a == sysModules) = false ∧ ∃ xs : List (List Key × Addr × Value),
      Paired (fun (p : List Key × V) (q : List Key × Addr × Value) => p.1 = q.1 ∧ H q.2.1 = some (.tup (p.1.map kV)) ∧ RelV p.2 q.2.2) kvs xs ∧
      ∃ o es ep, h.get? a = some o ∧ o.ExactDict ∧ o.data = .dict es ep ∧ es.toList = xs.map (entryOfKey (tupleKind (mixKind P w))) ∧ (xs.map (·.1)).Nodup
  | .set S n => h.SetOf (intKind P w) a S n
  | .ins C dx fs => H dx = some (.own a) ∧ fs.length ≤ 1000 ∧ dx ≠ a ∧ h.get? a = some (PySem.W.instObj C dx) ∧
      ∃ mA, h.Ns1 dx mA ∧ (∀ f, RelO (fs.lookup f) (mA f)) ∧ PySem.Within mA (fs.map (·.1))
  | .own _ => ∃ o, h.get? a = some o
  | .xd fs => ∃ mA, h.Ns1 a mA ∧ ∀ f, RelO (fs.lookup f) (mA f)
  | .rng lo hi => ∃ t u v, h.get? a = some { cls := .type "range", data := .fields #[.int lo t, .int hi u, .int 1 v] }
  | .frz o u => h.get? a = some o ∧ ObjOk H h a u
  | .tbl ps => h.get? a = some { cls := .none, data := .fields ps }
  | .met f x => h.get? a = some (PySem.W.methodObj (.ref f) (.ref x))
  | .ext φ => φ h ∧ (∃ o, h.get? a = some o) ∧ ∀ h1 h2 : Heap, φ h1 → (∀ o, h1.get? a = some o → h2.get? a = some o) → φ h2
def HOk (H : Hp) (h : Heap) : Prop := ∀ a o, H a = some o → ObjOk P w H h a o
end
section
variable {P : Program} {w : World} {H H' : Hp} {h h' : Heap} {a : Addr} {o : HO}
theorem ObjOk.lt (x : ObjOk P w H h a o) : a < h.objs.size := by
  cases o with
  | lst xs => obtain ⟨_, _, _, _, e⟩ := x; exact Heap.lt_size e
  | tup xs => obtain ⟨_, _, _, p⟩ := x; exact p.lt
  | dK kvs => obtain ⟨_, _, _, _, o, _, _, e, _⟩ := x; exact Heap.lt_size e
  | dT kvs => obtain ⟨_, _, _, _, o, _, _, e, _⟩ := x; exact Heap.lt_size e
  | set S n => obtain ⟨o, _, _, _, e, _⟩ := x; exact Heap.lt_size e
  | ins C dx fs => obtain ⟨_, _, _, e, _⟩ := x; exact Heap.lt_size e
  | own y => obtain ⟨_, e⟩ := x; exact Heap.lt_size e
  | xd fs => obtain ⟨_, ⟨_, _, _, e, _⟩, _⟩ := x; exact Heap.lt_size e
  | rng lo hi => obtain ⟨_, _, _, e⟩ := x; exact Heap.lt_size e
  | frz ob u => obtain ⟨e, _⟩ := x; exact Heap.lt_size e
  | tbl ps => exact Heap.lt_size (show h.get? a = some _ from x)
  | met f y => exact Heap.lt_size (show h.get? a = some _ from x)
  | ext φ => obtain ⟨_, ⟨_, e⟩, _⟩ := x; exact Heap.lt_size e
theorem Paired.mapP {α β : Type} {F G : α → β → Prop} : ∀ {l₁ : List α} {l₂ : List β}, Paired F l₁ l₂ → (∀ a b, F a b → G a b) → Paired G l₁ l₂
  | _, _, .nil, _ => .nil
  | _, _, .cons r t, f => .cons (f _ _ r) (Paired.mapP t f)
theorem ObjOk.stay (x : ObjOk P w H h a o) (k : ∀ b u, (b = a ∨ H b = some (.own a)) → h.get? b = some u → h'.get? b = some u)
    (ho : ∀ b, H b = some (.own a) → H' b = some (.own a)) (ht : ∀ b xs, H b = some (.tup xs) → H' b = some (.tup xs)) : ObjOk P w H' h' a o := by
  induction o with
  | lst xs => obtain ⟨z, its, n, r, e⟩ := x; exact ⟨z, its, n, r, k _ _ (.inl rfl) e⟩
  | tup xs => obtain ⟨z, its, r, ob, e, c⟩ := x; exact ⟨z, its, r, ob, k _ _ (.inl rfl) e, c⟩
  | dK kvs => obtain ⟨z, y, vs, r, ob, es, ep, e, c⟩ := x; exact ⟨z, y, vs, r, ob, es, ep, k _ _ (.inl rfl) e, c⟩
  | dT kvs =>
    obtain ⟨z, y, xs, r, ob, es, ep, e, c⟩ := x
    exact ⟨z, y, xs, Paired.mapP r fun p q z => ⟨z.1, ht _ _ z.2.1, z.2.2⟩, ob, es, ep, k _ _ (.inl rfl) e, c⟩
  | set S n => obtain ⟨ob, es, ep, t, e, c⟩ := x; exact ⟨ob, es, ep, t, k _ _ (.inl rfl) e, c⟩
  | ins C dx fs =>
    obtain ⟨d, z, ne, e, mA, ⟨od, es, ep, e2, c⟩, r⟩ := x
    exact ⟨ho _ d, z, ne, k _ _ (.inl rfl) e, mA, ⟨od, es, ep, k _ _ (.inr d) e2, c⟩, r⟩
  | own y => obtain ⟨ob, e⟩ := x; exact ⟨ob, k _ _ (.inl rfl) e⟩
  | xd fs => obtain ⟨mA, ⟨od, es, ep, e, c⟩, r⟩ := x; exact ⟨mA, ⟨od, es, ep, k _ _ (.inl rfl) e, c⟩, r⟩
  | rng lo hi => obtain ⟨t, u, v, e⟩ := x; exact ⟨t, u, v, k _ _ (.inl rfl) e⟩
  | frz ob u ih => obtain ⟨e, q⟩ := x; exact ⟨k _ _ (.inl rfl) e, ih q⟩
  | tbl ps =>
    have e : h.get? a = some { cls := .none, data := .fields ps } := x
    show h'.get? a = some { cls := .none, data := .fields ps }
    exact k a _ (.inl rfl) e
  | met f y =>
    have e : h.get? a = some (PySem.W.methodObj (.ref f) (.ref y)) := x
    show h'.get? a = some (PySem.W.methodObj (.ref f) (.ref y))
    exact k a _ (.inl rfl) e
  | ext φ => obtain ⟨p, ⟨o, e⟩, st⟩ := x; exact ⟨st _ _ p fun o q => k _ _ (.inl rfl) q, ⟨o, k _ _ (.inl rfl) e⟩, st⟩
theorem HOk.lt (x : HOk P w H h) (e : H a = some o) : a < h.objs.size := (x a o e).lt
theorem HOk.fresh (x : HOk P w H h) (e : h.objs.size ≤ a) : H a = none := by
  cases q : H a with
  | none => rfl
  | some u => exact absurd (Nat.lt_of_lt_of_le (x.lt q) e) (Nat.lt_irrefl _)
theorem HOk.kept (x : HOk P w H h) (k : ∀ b u, h.get? b = some u → h'.get? b = some u) : HOk P w H h' := fun a o e =>
  (x a o e).stay (fun b u _ q => k b u q) (fun _ q => q) fun _ _ q => q
theorem HOk.laid (x : HOk P w H h) (k : ∀ b u, h.get? b = some u → h'.get? b = some u) (hp : h.objs.size ≤ a) (new : ObjOk P w (upd H a o) h' a o) : HOk P w (upd H a o) h' := fun b u e => by
  have hn := x.fresh hp
  by_cases hb : b = a
  · subst hb; rw [upd_same] at e; cases e; exact new
  · rw [upd_ne hb] at e
    exact (x b u e).stay (fun c v _ q => k c v q) (fun c q => by rw [upd_ne (ne_of_none q hn)]; exact q) fun c xs q => by rw [upd_ne (ne_of_none q hn)]; exact q
end
def Rd (H : Hp) (a : Addr) (u : HO) : Prop := H a = some u ∨ ∃ o, H a = some (.frz o u)
theorem Rd.ok {P : Program} {w : World} {H : Hp} {h : Heap} {a : Addr} {u : HO} (r : Rd H a u) (x : HOk P w H h) : ObjOk P w H h a u := by
  rcases r with r | ⟨o, r⟩
  · exact x a u r
  · obtain ⟨_, q⟩ := x a _ r
    exact q
def Mut : Option HO → Prop
  | some (.lst _) => True
  | some (.dK _) => True
  | some (.dT _) => True
  | some (.set _ _) => True
  | some (.ins _ _ _) => True
  | some (.ext _) => True
  | _ => False
section
variable {P : Program} {w : World} {H : Hp} {h h' : Heap} {x e : Addr} {o' : HO}
theorem HOk.write (ok : HOk P w H h) (mu : Mut (H x)) (he : e = x ∨ H e = some (.own x)) (k : ∀ b u, b ≠ e → h.get? b = some u → h'.get? b = some u) (heo : ∃ u, h'.get? e = some u)
    (new : ObjOk P w (upd H x o') h' x o') : HOk P w (upd H x o') h' := fun b u q => by
  have nown : ∀ c y, H c = some (.own y) → c ≠ x := fun c y r z => by subst z; rw [r] at mu; exact mu
  have ntup : ∀ c xs, H c = some (.tup xs) → c ≠ x := fun c xs r z => by subst z; rw [r] at mu; exact mu
  by_cases hb : b = x
  · subst hb; rw [upd_same] at q; cases q; exact new
  · rw [upd_ne hb] at q
    by_cases hbe : b = e
    · have q' : H b = some (.own x) := by
        rcases he with z | z
        · exact absurd (hbe.trans z) hb
        · rw [hbe]; exact z
      rw [q] at q'; cases q'
      obtain ⟨v, hv⟩ := heo
      exact ⟨v, by rw [hbe]; exact hv⟩
    · refine (ok b u q).stay (fun c v hc r => k c v ?_ r) (fun c r => by rw [upd_ne (nown c b r)]; exact r) fun c xs r => by rw [upd_ne (ntup c xs r)]; exact r
      rcases hc with rfl | hc
      · exact hbe
      · rintro rfl
        rcases he with z | z
        · exact nown c b hc z
        · rw [hc] at z; cases z; exact hb rfl
end
structure Un (fs ex : List Addr) (H H' : Hp) (h h' : Heap) : Prop where
  keep : ∀ b o, h.get? b = some o → H b = none → b ∉ fs → b ∉ ex → h'.get? b = some o
  slot : ∀ b o, h.get? b = some o → H b = none → b ∈ fs → b ∉ ex → ∃ sl, h'.get? b = some { o with slots := sl }
  free : ∀ b o, h.get? b = some o → H b = none → b ∉ ex → H' b = none
  there : ∀ b o, h.get? b = some o → b ∉ ex → ∃ o', h'.get? b = some o'
  tups : ∀ b xs, H b = some (.tup xs) → H' b = some (.tup xs)
  frzs : ∀ b o u, H b = some (.frz o u) → H' b = some (.frz o u)
  tbls : ∀ b ps, H b = some (.tbl ps) → ∃ more, H' b = some (.tbl (ps ++ more))
section
variable {fs fs' ex ex' : List Addr} {H H1 H2 : Hp} {h h1 h2 h' : Heap} {a x e : Addr} {o : HO}
theorem Un.any (u : Un fs ex H H1 h h1) {b : Addr} {ob : Obj} (q : h.get? b = some ob) (n : H b = none) (hx : b ∉ ex) : ∃ sl, h1.get? b = some { ob with slots := sl } := by
  by_cases hb : b ∈ fs
  · exact u.slot b ob q n hb hx
  · exact ⟨ob.slots, u.keep b ob q n hb hx⟩
theorem Un.kept (k : ∀ b u, h.get? b = some u → h'.get? b = some u) : Un fs ex H H h h' :=
  ⟨fun b ob q _ _ _ => k b ob q, fun b ob q _ _ _ => ⟨ob.slots, k b ob q⟩, fun _ _ _ n _ => n, fun b ob q _ => ⟨ob, k b ob q⟩, fun _ _ q => q, fun _ _ _ q => q, fun _ ps q => ⟨#[], by rw [q]; simp⟩⟩
theorem Un.refl : Un fs ex H H h h := Un.kept fun _ _ q => q
theorem Un.laid (k : ∀ b u, h.get? b = some u → h'.get? b = some u) (hp : h.objs.size ≤ a) (hn : H a = none) : Un fs ex H (upd H a o) h h' where
  keep := fun b u q _ _ _ => k b u q
  slot := fun b u q _ _ _ => ⟨u.slots, k b u q⟩
  free := fun b u q n _ => by rw [upd_ne (Nat.ne_of_lt (Nat.lt_of_lt_of_le (Heap.lt_size q) hp))]; exact n
  there := fun b u q _ => ⟨u, k b u q⟩
  tups := fun b xs q => by rw [upd_ne (ne_of_none q hn)]; exact q
  frzs := fun b u xs q => by rw [upd_ne (ne_of_none q hn)]; exact q
  tbls := fun b ps q => ⟨#[], by rw [upd_ne (ne_of_none q hn), q]; simp⟩
theorem Un.write (mu : Mut (H x)) (he : e = x ∨ H e = some (.own x)) (k : ∀ b u, b ≠ e → h.get? b = some u → h'.get? b = some u) (heo : ∃ u, h'.get? e = some u) : Un fs ex H (upd H x o) h h' := by
  have hx : ∀ b, H b = none → b ≠ x := fun b n z => by subst z; rw [n] at mu; exact mu
  have hb : ∀ b, H b = none → b ≠ e := fun b n z => by
    subst z
    rcases he with r | r
    · exact hx b n r
    · rw [n] at r; cases r
  have hm : ∀ b u, H b = some u → ¬ Mut (some u) → b ≠ x := fun b u q nm z => by subst z; rw [q] at mu; exact nm mu
  refine ⟨fun b u q n _ _ => k b u (hb b n) q, fun b u q n _ _ => ⟨u.slots, k b u (hb b n) q⟩, fun b u q n _ => by rw [upd_ne (hx b n)]; exact n, fun b u q _ => ?_,
    fun b xs q => by rw [upd_ne (hm b _ q fun z => z)]; exact q, fun b u xs q => by rw [upd_ne (hm b _ q fun z => z)]; exact q, fun b ps q => ⟨#[], by rw [upd_ne (hm b _ q fun z => z), q]; simp⟩⟩
  by_cases hbe : b = e
  · subst hbe; exact heo
  · exact ⟨u, k b u hbe q⟩
end
def trk (h : Heap) (H : Hp) : List Addr := (List.range h.objs.size).filter fun a => (H a).isSome
def hidT (h : Heap) (H : Hp) : Heap := PySem.W.hideAll h (trk h H)
theorem hidT_size (h : Heap) (H : Hp) : (hidT h H).objs.size = h.objs.size := PySem.W.hideAll_size _ _
theorem hidT_get {h : Heap} {H : Hp} {b : Addr} {o : Obj} (e : h.get? b = some o) (n : H b = none) : (hidT h H).get? b = some o :=
  PySem.W.hideAll_get _ e fun hm => by
    have q : (H b).isSome = true := (List.mem_filter.mp hm).2
    rw [n] at q; simp at q
theorem of_hidT {h : Heap} {H : Hp} {b : Addr} {o : Obj} (e : (hidT h H).get? b = some o) : h.get? b = some o ∧ H b = none := by
  have e' : h.get? b = some o := PySem.W.of_hideAll (trk h H) e
  refine ⟨e', ?_⟩
  cases q : H b with
  | none => rfl
  | some x =>
    have hm : b ∈ trk h H := List.mem_filter.mpr ⟨List.mem_range.mpr (Heap.lt_size e'), by simp [q]⟩
    have z : (hidT h H).get? b = none := PySem.W.hideAll_none (trk h H) hm
    rw [z] at e; cases e
end L2
namespace L2
open PySem PySem.Spec PyProof.Rows
structure Mod (K : PySem.W.Frag) (mg : Str → Option Value) (base : Heap) : Prop where
  kin : K.In base
  glob : base.Ns mainGlobals mg
  blt : ∃ mb, base.Ns builtinsNs mb ∧ ∀ x : Str, x ≠ "__name__" → mb x = bootBuiltins x
  nolimit : base.NoLimit
structure Cx where
  prog : Program
  w : World
  K : PySem.W.Frag
  mg : Str → Option Value
  base : Heap
  A : Around
  N : List Str
  s_0 : Shared
  H_0 : Hp
  env : Env
  outer : List Env
  stack : List Env
  ex : List Addr
  fn : Str → Bool
  calm : Bool
  pn : List (Addr × Obj)
  xe : Value → Shared → Prop
def frs (l : List Env) : List Addr := l.filterMap (·.frame)
abbrev Cx.fs (X : Cx) : List Addr := frs X.outer
def Vis (sc : Scope) (x : Str) : Prop := sc.names.lookup x = some .local ∨ sc.names.lookup x = some .cell ∨ sc.names.lookup x = some .free
def Loc (sc : Scope) (x : Str) : Prop := sc.names.lookup x = some .local ∨ sc.names.lookup x = some .cell
def Look (env : Env) (h : Heap) (m : Str → Option Value) (x : Str) (u : Value) : Prop :=
  (env.kindOf x = some .local ∧ m x = some u) ∨ ((env.kindOf x = some .cell ∨ env.kindOf x = some .free) ∧ ∃ c, env.cells.lookup x = some c ∧ h.IsCell c (some u))
structure Cx.Ok (X : Cx) : Prop where
  mod : Mod X.K X.mg X.base
  kind : X.env.scope.kind = .function
  glob : X.env.globals = mainGlobals
  blt : X.env.builtins = builtinsNs
  above : X.s_0.heap.objs.size ≤ X.env.locals
  inj : ∀ x y c, X.env.cells.lookup x = some c → X.env.cells.lookup y = some c → x = y
  has : ∀ x, (X.env.kindOf x = some .cell ∨ X.env.kindOf x = some .free) → ∃ c, X.env.cells.lookup x = some c
  cab : ∀ x c, X.fn x = true → X.env.cells.lookup x = some c → X.s_0.heap.objs.size ≤ c
  hd : X.calm = true → X.A.handled = none
  frames : X.A.frames = some X.stack
  stk : X.stack = X.outer ∨ (X.stack = X.env :: X.outer ∧ X.env.frame = some X.env.locals)
  exf : ∀ b ∈ X.ex, b ≠ X.env.locals ∧ ∀ x c, X.env.cells.lookup x = some c → c ≠ b
  bs : ∀ b o, X.base.get? b = some o → X.s_0.heap.get? b = some o ∧ X.H_0 b = none
  bsz : X.base.objs.size ≤ X.s_0.heap.objs.size
  noex : ∀ b o, X.base.get? b = some o → b ∉ X.ex
  exfs : ∀ b ∈ X.ex, b ∉ X.fs
  funs : X.s_0.heap.FunFrames X.base X.outer
  frf : ∀ b ∈ X.fs, X.H_0 b = none
structure Inv (X : Cx) (pins : List (Addr × Obj)) (σ : List (Option V)) (H : Hp) (s : Shared) : Prop where
  ok : X.Ok
  os : s.os = X.s_0.os
  bare : AllBare s.gens
  base : Un X.fs X.ex X.H_0 H X.s_0.heap s.heap
  loc : ∃ m, s.heap.Ns X.env.locals m ∧ ∀ (i : Nat) (x : Str) (v : V), X.N[i]? = some x → σ[i]? = some (some v) → Vis X.env.scope x → ∃ u, RelV v u ∧ Look X.env s.heap m x u
  cell : ∀ x c, X.env.cells.lookup x = some c → ∃ v, s.heap.IsCell c v
  free : H X.env.locals = none
  freeC : ∀ x c, X.env.cells.lookup x = some c → H c = none
  pin : ∀ p ∈ X.pn ++ pins, s.heap.get? p.1 = some p.2 ∧ H p.1 = none ∧ p.1 ≠ X.env.locals ∧ p.1 ∉ X.fs ∧ ∀ v, p.2.data ≠ .cell v
  hok : HOk X.prog X.w H s.heap
  len : σ.length = X.N.length
section
variable {X : Cx} {pins : List (Addr × Obj)} {σ : List (Option V)} {H H' : Hp} {s : Shared} {h' : Heap}
theorem Cx.Ok.nofr (ok : X.Ok) {b : Addr} {o : Obj} (e : X.base.get? b = some o) : b ∉ X.fs := fun hb => by
  have := (ok.funs.mem hb).1
  rw [e] at this; cases this
theorem Inv.bs (I : Inv X pins σ H s) : ∀ b o, X.base.get? b = some o → s.heap.get? b = some o ∧ H b = none := fun b o e =>
  ⟨I.base.keep b o (I.ok.bs b o e).1 (I.ok.bs b o e).2 (I.ok.nofr e) (I.ok.noex b o e), I.base.free b o (I.ok.bs b o e).1 (I.ok.bs b o e).2 (I.ok.noex b o e)⟩
theorem Inv.bk (I : Inv X pins σ H s) : ∀ b o, X.base.get? b = some o → s.heap.get? b = some o := fun b o e => (I.bs b o e).1
theorem Inv.mod (I : Inv X pins σ H s) : Mod X.K X.mg X.base := I.ok.mod
theorem Inv.kIn (I : Inv X pins σ H s) : X.K.In s.heap := I.ok.mod.kin.keeps I.bk
theorem Inv.lt (I : Inv X pins σ H s) : X.env.locals < s.heap.objs.size := let ⟨_, hn, _⟩ := I.loc; hn.lt
theorem Inv.sz (I : Inv X pins σ H s) : X.s_0.heap.objs.size ≤ s.heap.objs.size := Nat.le_trans I.ok.above (Nat.le_of_lt I.lt)
theorem Inv.nofs (I : Inv X pins σ H s) {a : Addr} (h : s.heap.objs.size ≤ a) : a ∉ X.fs := fun hb => by
  obtain ⟨_, o, ho, _⟩ := I.ok.funs.mem hb
  exact absurd (Nat.lt_of_lt_of_le (Heap.lt_size ho) (Nat.le_trans I.sz h)) (Nat.lt_irrefl _)
theorem Inv.cne (I : Inv X pins σ H s) : ∀ x c, X.env.cells.lookup x = some c → c ≠ X.env.locals := fun x c e z => by
  obtain ⟨v, o, ho, hd⟩ := I.cell x c e
  obtain ⟨m, ⟨o', es, ep, ho', hd', _⟩, _⟩ := I.loc
  rw [z, ho'] at ho; cases ho; rw [hd'] at hd; cases hd
theorem Inv.funs (I : Inv X pins σ H s) : s.heap.FunFrames X.base X.outer := by
  have all : ∀ (l : List Env), (∀ b ∈ frs l, b ∈ X.fs) → X.s_0.heap.FunFrames X.base l → s.heap.FunFrames X.base l := by
    intro l
    induction l with
    | nil => intro _ _; trivial
    | cons env r ih =>
      intro hs hl
      obtain ⟨hk, ⟨L, o, hf, hn, ho, hd⟩, hr⟩ := hl
      have hL : L ∈ X.fs := hs L (by unfold frs; rw [List.filterMap_cons, hf]; exact List.mem_cons_self)
      obtain ⟨sl, e⟩ := I.base.slot L o ho (I.ok.frf L hL) hL fun z => I.ok.exfs L z hL
      exact ⟨hk, ⟨L, _, hf, hn, e, hd⟩, ih (fun b hb => hs b (by unfold frs; rw [List.filterMap_cons, hf]; exact List.mem_cons_of_mem _ hb)) hr⟩
  exact all X.outer (fun _ hb => hb) I.ok.funs
theorem Inv.stack (I : Inv X pins σ H s) : s.heap.FunFrames X.base X.stack := by
  rcases I.ok.stk with e | ⟨e, hf⟩
  · rw [e]; exact I.funs
  · rw [e]
    obtain ⟨m, hn, _⟩ := I.loc
    refine .cons (by rw [I.ok.kind]; decide) hf hn ?_ I.funs
    exact Heap.get?_none_of_le (Nat.le_trans I.ok.bsz I.ok.above)
theorem Inv.stkSub (I : Inv X pins σ H s) : ∀ b ∈ frs X.stack, b ∈ X.env.locals :: X.fs := fun b hb => by
  rcases I.ok.stk with e | ⟨e, hf⟩
  · rw [e] at hb; exact List.mem_cons_of_mem _ hb
  · rw [e] at hb
    unfold frs at hb
    rw [List.filterMap_cons, hf] at hb
    exact hb
theorem Inv.stkFree (I : Inv X pins σ H s) : ∀ b ∈ frs X.stack, H b = none := fun b hb => by
  rcases List.mem_cons.mp (I.stkSub b hb) with e | hb
  · rw [e]; exact I.free
  · obtain ⟨_, o, ho, _⟩ := I.ok.funs.mem hb
    exact I.base.free b o ho (I.ok.frf b hb) fun z => I.ok.exfs b z hb
theorem Inv.step {g' : Array GenState} {t' : Nat} {d' : Drawn} {ch : List Addr} (I : Inv X pins σ H s)
    (hch : ∀ b ∈ ch, (b ∈ X.ex ∨ X.s_0.heap.objs.size ≤ b) ∧ b ≠ X.env.locals ∧ (∀ x c, X.env.cells.lookup x = some c → c ≠ b) ∧ ∀ p ∈ X.pn ++ pins, p.1 ≠ b)
    (keep : ∀ b o, b ≠ X.env.locals → b ∉ X.fs → b ∉ ch → s.heap.get? b = some o → H b = none → h'.get? b = some o)
    (slot : ∀ b o, b ≠ X.env.locals → b ∈ X.fs → b ∉ ch → s.heap.get? b = some o → H b = none → ∃ sl, h'.get? b = some { o with slots := sl }) (free : ∀ b o, b ∉ ch → s.heap.get? b = some o → H b = none → H' b = none)
    (there : ∀ b o, b ∉ ch → s.heap.get? b = some o → ∃ o', h'.get? b = some o')
    (tups : ∀ b xs, H b = some (.tup xs) → H' b = some (.tup xs)) (frzs : ∀ b o u, H b = some (.frz o u) → H' b = some (.frz o u)) (tbls : ∀ b ps, H b = some (.tbl ps) → ∃ more, H' b = some (.tbl (ps ++ more)))
    (ns : ∀ m, s.heap.Ns X.env.locals m → h'.Ns X.env.locals m) (hok : HOk X.prog X.w H' h') (hg : AllBare g') :
    Inv X pins σ H' { s with heap := h', gens := g', drawn := d', toks := t' } := by
  have neL : ∀ b o, X.s_0.heap.get? b = some o → b ≠ X.env.locals := fun b o e => Nat.ne_of_lt (Nat.lt_of_lt_of_le (Heap.lt_size e) I.ok.above)
  have neC : ∀ b o, X.s_0.heap.get? b = some o → b ∉ X.ex → b ∉ ch := fun b o e hx hb => by
    rcases (hch b hb).1 with z | z
    · exact hx z
    · exact absurd (Nat.lt_of_lt_of_le (Heap.lt_size e) z) (Nat.lt_irrefl _)
  have cellK : ∀ x c, X.env.cells.lookup x = some c → ∀ v, s.heap.IsCell c v → h'.IsCell c v := fun x c e v ⟨o, ho, hd⟩ => by
    have nch : c ∉ ch := fun z => (hch c z).2.2.1 x c e rfl
    by_cases hc : c ∈ X.fs
    · obtain ⟨sl, q⟩ := slot c o (I.cne x c e) hc nch ho (I.freeC x c e)
      exact ⟨_, q, hd⟩
    · exact ⟨o, keep c o (I.cne x c e) hc nch ho (I.freeC x c e), hd⟩
  refine ⟨I.ok, I.os, hg, ⟨fun b o e n hb hx => ?_, fun b o e n hb hx => ?_, fun b o e n hx => ?_, fun b o e hx => ?_, fun b xs e => tups b xs (I.base.tups b xs e), fun b o xs e => frzs b o xs (I.base.frzs b o xs e), fun b ps e => ?_⟩, ?_, fun x c e => ?_, ?_, fun x c e => ?_, fun p hp => ?_, hok, I.len⟩
  · exact keep b o (neL b o e) hb (neC b o e hx) (I.base.keep b o e n hb hx) (I.base.free b o e n hx)
  · obtain ⟨sl, e1⟩ := I.base.slot b o e n hb hx
    obtain ⟨sl', e2⟩ := slot b _ (neL b o e) hb (neC b o e hx) e1 (I.base.free b o e n hx)
    exact ⟨sl', e2⟩
  · obtain ⟨o', e1⟩ := I.base.there b o e hx
    exact free b o' (neC b o e hx) e1 (I.base.free b o e n hx)
  · obtain ⟨o', e1⟩ := I.base.there b o e hx
    exact there b o' (neC b o e hx) e1
  · obtain ⟨m1, e1⟩ := I.base.tbls b ps e
    obtain ⟨m2, e2⟩ := tbls b _ e1
    exact ⟨m1 ++ m2, by rw [e2, Array.append_assoc]⟩
  · obtain ⟨m, hn, hl⟩ := I.loc
    refine ⟨m, ns m hn, fun i x v e1 e2 e3 => ?_⟩
    obtain ⟨u, r, l⟩ := hl i x v e1 e2 e3
    refine ⟨u, r, ?_⟩
    rcases l with l | ⟨k, c, e, z⟩
    · exact .inl l
    · exact .inr ⟨k, c, e, cellK x c e _ z⟩
  · obtain ⟨v, z⟩ := I.cell x c e
    exact ⟨v, cellK x c e v z⟩
  · obtain ⟨m, ⟨o, _, _, ho, _⟩, _⟩ := I.loc
    exact free _ o (fun z => (hch _ z).2.1 rfl) ho I.free
  · obtain ⟨v, o, ho, hd⟩ := I.cell x c e
    exact free c o (fun z => (hch c z).2.2.1 x c e rfl) ho (I.freeC x c e)
  · obtain ⟨e, n, ne, nf, d⟩ := I.pin p hp
    have nch : p.1 ∉ ch := fun z => (hch p.1 z).2.2.2 p hp rfl
    exact ⟨keep p.1 p.2 ne nf nch e n, free p.1 p.2 nch e n, ne, nf, d⟩
theorem Inv.un {t' : Nat} (I : Inv X pins σ H s) (u : Un X.fs [] H H' s.heap h') (hok : HOk X.prog X.w H' h') : Inv X pins σ H' { s with heap := h', toks := t' } := by
  obtain ⟨m, ⟨o, es, ep, ho, r⟩, _⟩ := id I.loc
  obtain ⟨sl, hL⟩ := u.any ho I.free (by simp)
  exact I.step (g' := s.gens) (d' := s.drawn) (ch := []) (fun _ z => nomatch z) (fun b o _ hb _ e n => u.keep b o e n hb (by simp)) (fun b o _ hb _ e n => u.slot b o e n hb (by simp)) (fun b o _ e n => u.free b o e n (by simp)) (fun b o _ e => u.there b o e (by simp)) u.tups u.frzs u.tbls (fun m' hm => by
    obtain ⟨o', es', ep', ho', r'⟩ := hm
    rw [ho] at ho'; cases ho'
    exact ⟨_, es', ep', hL, r'⟩) hok I.bare
theorem Inv.call {g' : Array GenState} {t' : Nat} {d' : Drawn} {ch : List Addr} (I : Inv X pins σ H s) (u : Un (frs X.stack) ch H H' s.heap h') (hok : HOk X.prog X.w H' h') (hg : AllBare g')
    (hch : ∀ b ∈ ch, (b ∈ X.ex ∨ X.s_0.heap.objs.size ≤ b) ∧ b ≠ X.env.locals ∧ (∀ x c, X.env.cells.lookup x = some c → c ≠ b) ∧ ∀ p ∈ X.pn ++ pins, p.1 ≠ b) :
    Inv X pins σ H' { s with heap := h', gens := g', drawn := d', toks := t' } := by
  obtain ⟨m, ⟨o, es, ep, ho, r⟩, _⟩ := id I.loc
  obtain ⟨sl, hL⟩ := u.any ho I.free fun z => (hch _ z).2.1 rfl
  exact I.step (ch := ch) hch (fun b o hL hb hc e n => u.keep b o e n (fun z => (List.mem_cons.mp (I.stkSub b z)).elim hL hb) hc) (fun b o _ _ hc e n => u.any e n hc) (fun b o hc e n => u.free b o e n hc) (fun b o hc e => u.there b o e hc) u.tups u.frzs u.tbls (fun m' hm => by
    obtain ⟨o', es', ep', ho', r'⟩ := hm
    rw [ho] at ho'; cases ho'
    exact ⟨_, es', ep', hL, r'⟩) hok hg
theorem Inv.turned {t' : Nat} {it : Addr} (I : Inv X pins σ H s) (k : ∀ b o, b ≠ it → s.heap.get? b = some o → h'.get? b = some o) (hn : H it = none) (hL : it ≠ X.env.locals)
    (h1 : it ∈ X.ex ∨ X.s_0.heap.objs.size ≤ it) (h2 : ∀ x c, X.env.cells.lookup x = some c → c ≠ it) (h3 : ∀ p ∈ X.pn ++ pins, p.1 ≠ it) : Inv X pins σ H { s with heap := h', toks := t' } := by
  have nit : ∀ b u, H b = some u → b ≠ it := fun b u e z => by rw [z, hn] at e; cases e
  refine I.step (g' := s.gens) (d' := s.drawn) (ch := [it]) (fun b hb => ?_) (fun b o _ _ hc e _ => k b o (fun z => hc (by simp [z])) e) (fun b o _ _ hc e _ => ⟨o.slots, k b o (fun z => hc (by simp [z])) e⟩) (fun _ _ _ _ n => n)
    (fun b o hc e => ⟨o, k b o (fun z => hc (by simp [z])) e⟩) (fun _ _ e => e) (fun _ _ _ e => e) (fun b ps e => ⟨#[], by rw [e]; simp⟩) (fun m hm => ?_) (fun b u e => ?_) I.bare
  · have e : b = it := by simpa using hb
    subst e
    exact ⟨h1, hL, h2, h3⟩
  · obtain ⟨o, es, ep, ho, r⟩ := hm
    exact ⟨o, es, ep, k _ o (Ne.symm hL) ho, r⟩
  · refine (I.hok b u e).stay (fun c v hc q => k c v ?_ q) (fun _ q => q) fun _ _ q => q
    rcases hc with z | z
    · rw [z]; exact nit b u e
    · exact nit c _ z
theorem Inv.tok (I : Inv X pins σ H s) (t : Nat) : Inv X pins σ H { s with toks := t } := I.un (h' := s.heap) (t' := t) Un.refl I.hok
theorem Inv.kept {t' : Nat} (I : Inv X pins σ H s) (k : ∀ b u, s.heap.get? b = some u → h'.get? b = some u) : Inv X pins σ H { s with heap := h', toks := t' } := I.un (Un.kept k) (I.hok.kept k)
theorem Inv.laid {a : Addr} {o : HO} {t' : Nat} (I : Inv X pins σ H s) (k : ∀ b u, s.heap.get? b = some u → h'.get? b = some u) (hp : s.heap.objs.size ≤ a) (new : ObjOk X.prog X.w (upd H a o) h' a o) :
    Inv X pins σ (upd H a o) { s with heap := h', toks := t' } := I.un (Un.laid k hp (I.hok.fresh hp)) (I.hok.laid k hp new)
theorem Inv.write {x e : Addr} {o : HO} {t' : Nat} (I : Inv X pins σ H s) (mu : Mut (H x)) (he : e = x ∨ H e = some (.own x)) (k : ∀ b u, b ≠ e → s.heap.get? b = some u → h'.get? b = some u) (heo : ∃ u, h'.get? e = some u)
    (new : ObjOk X.prog X.w (upd H x o) h' x o) : Inv X pins σ (upd H x o) { s with heap := h', toks := t' } := I.un (Un.write mu he k heo) (I.hok.write mu he k heo new)
theorem Inv.weak {σ' : List (Option V)} (I : Inv X pins σ H s) (hl : σ'.length = σ.length) (w : ∀ (i : Nat) v, σ'[i]? = some (some v) → σ[i]? = some (some v)) : Inv X pins σ' H s :=
  ⟨I.ok, I.os, I.bare, I.base, let ⟨m, hn, hl'⟩ := I.loc; ⟨m, hn, fun i x v e1 e2 e3 => hl' i x v e1 (w i v e2) e3⟩, I.cell, I.free, I.freeC, I.pin, I.hok, hl.trans I.len⟩
theorem Inv.pins_of {pins' : List (Addr × Obj)} (I : Inv X pins σ H s) (h : ∀ p ∈ pins', s.heap.get? p.1 = some p.2 ∧ H p.1 = none ∧ p.1 ≠ X.env.locals ∧ p.1 ∉ X.fs ∧ ∀ v, p.2.data ≠ .cell v) : Inv X pins' σ H s :=
  ⟨I.ok, I.os, I.bare, I.base, I.loc, I.cell, I.free, I.freeC, fun p hp => (List.mem_append.mp hp).elim (fun z => I.pin p (List.mem_append_left _ z)) (h p), I.hok, I.len⟩
theorem nodup_ix {N : List Str} (hN : N.Nodup) {i j : Nat} {x : Str} (a : N[i]? = some x) (b : N[j]? = some x) : i = j := by
  obtain ⟨h1, e1⟩ := List.getElem?_eq_some_iff.mp a
  obtain ⟨h2, e2⟩ := List.getElem?_eq_some_iff.mp b
  exact (List.getElem_inj hN).mp (e1.trans e2.symm)
theorem store_ok2 {M : Model} {A : Around} {E : Value → Shared → Prop} {i : Nat} {x : Str} {v : V} {u : Value} {Q : Unit → Shared → Prop} (I : Inv X pins σ H s) (hN : X.N.Nodup) (hi : X.N[i]? = some x) (hx : Loc X.env.scope x) (r : RelV v u)
    (h : ∀ s', Inv X pins (σ.set i (some v)) H s' → (∃ a, Heap.SameBut a s.heap s'.heap ∧ (a = X.env.locals ∨ X.env.cells.lookup x = some a)) → Q () s') (hf : X.fn x = true ∨ X.env.scope.names.lookup x = some .local := by first | exact .inl rfl | exact .inr rfl | assumption) : wpAny M A (storeName X.env x u) Q E s := by
  obtain ⟨m, hn, hl⟩ := id I.loc
  have hcls : (X.env.scope.kind == .class || (X.env.scope.kind == .module && X.env.locals != X.env.globals)) = false := by rw [I.ok.kind]; rfl
  have hiσ : i < σ.length := by rw [I.len]; exact (List.getElem?_eq_some_iff.mp hi).1
  have cne := I.cne
  have tracked : ∀ {a : Addr} {h' : Heap}, (∃ o, s.heap.get? a = some o ∧ H a = none) → Heap.SameBut a s.heap h' → HOk X.prog X.w H h' := fun {a h'} ha hs b ob e => by
    obtain ⟨_, _, hfree⟩ := ha
    refine (I.hok b ob e).stay (fun c w' hc q => (hs.2 c ?_).trans q) (fun _ q => q) fun _ _ q => q
    rintro rfl
    rcases hc with rfl | hc
    · rw [hfree] at e; cases e
    · rw [hfree] at hc; cases hc
  rcases hx with hk | hk
  · refine wpAny_storeName_local hk hn (fun h' hn' hs => ?_) hcls
    obtain ⟨oL, _, _, hoL, _⟩ := id hn
    refine h _ ⟨I.ok, I.os, I.bare, ⟨fun b o e n hb hx => ?_, fun b o e n hb hx => ?_, I.base.free, fun b o e hx => ?_, I.base.tups, I.base.frzs, I.base.tbls⟩, ⟨_, hn', fun j y v' e1 e2 e3 => ?_⟩, fun y c e => ?_, I.free, I.freeC, fun p hp => ?_, tracked ⟨oL, hoL, I.free⟩ hs, by simpa using I.len⟩ ⟨_, hs, .inl rfl⟩
    · exact (hs.2 b (Nat.ne_of_lt (Nat.lt_of_lt_of_le (Heap.lt_size e) I.ok.above))).trans (I.base.keep b o e n hb hx)
    · obtain ⟨sl, e1⟩ := I.base.slot b o e n hb hx
      exact ⟨sl, (hs.2 b (Nat.ne_of_lt (Nat.lt_of_lt_of_le (Heap.lt_size e) I.ok.above))).trans e1⟩
    · obtain ⟨o', e1⟩ := I.base.there b o e hx
      exact ⟨o', (hs.2 b (Nat.ne_of_lt (Nat.lt_of_lt_of_le (Heap.lt_size e) I.ok.above))).trans e1⟩
    · by_cases hj : j = i
      · subst hj
        rw [hi] at e1; cases e1
        rw [List.getElem?_set_self hiσ] at e2
        cases e2
        exact ⟨u, r, .inl ⟨hk, by simp⟩⟩
      · rw [List.getElem?_set_ne (Ne.symm hj)] at e2
        obtain ⟨u', r', q⟩ := hl j y v' e1 e2 e3
        refine ⟨u', r', ?_⟩
        rcases q with ⟨k, e⟩ | ⟨k, c, e, z⟩
        · refine .inl ⟨k, ?_⟩
          have : y ≠ x := fun e => hj (nodup_ix hN e1 (e ▸ hi))
          simp [this, e]
        · exact .inr ⟨k, c, e, z.sameBut hs (cne y c e)⟩
    · obtain ⟨w', z⟩ := I.cell y c e
      exact ⟨w', z.sameBut hs (cne y c e)⟩
    · obtain ⟨e, n, ne, nf, d⟩ := I.pin p hp
      exact ⟨(hs.2 p.1 ne).trans e, n, ne, nf, d⟩
  · have hfn : X.fn x = true := by
      rcases hf with z | z
      · exact z
      · rw [z] at hk; cases hk
    obtain ⟨c, hc⟩ := I.ok.has x (.inl hk)
    obtain ⟨w', z⟩ := I.cell x c hc
    refine wpAny_storeName_cell I.ok.kind hk hc z (fun h' hc' hs => ?_)
    obtain ⟨oc, hoc, hocd⟩ := id z
    refine h { s with heap := h' } ⟨I.ok, I.os, I.bare, ⟨fun b o e n hb hx => ?_, fun b o e n hb hx => ?_, I.base.free, fun b o e hx => ?_, I.base.tups, I.base.frzs, I.base.tbls⟩, ⟨m, hn.sameBut hs (Ne.symm (cne x c hc)), fun j y v' e1 e2 e3 => ?_⟩, fun y c' e => ?_, I.free, I.freeC, fun p hp => ?_, tracked ⟨oc, hoc, I.freeC x c hc⟩ hs, by simpa using I.len⟩ ⟨c, hs, .inr hc⟩
    · exact (hs.2 b (Nat.ne_of_lt (Nat.lt_of_lt_of_le (Heap.lt_size e) (I.ok.cab x c hfn hc)))).trans (I.base.keep b o e n hb hx)
    · obtain ⟨sl, e1⟩ := I.base.slot b o e n hb hx
      exact ⟨sl, (hs.2 b (Nat.ne_of_lt (Nat.lt_of_lt_of_le (Heap.lt_size e) (I.ok.cab x c hfn hc)))).trans e1⟩
    · obtain ⟨o', e1⟩ := I.base.there b o e hx
      exact ⟨o', (hs.2 b (Nat.ne_of_lt (Nat.lt_of_lt_of_le (Heap.lt_size e) (I.ok.cab x c hfn hc)))).trans e1⟩
    · by_cases hj : j = i
      · subst hj
        rw [hi] at e1; cases e1
        rw [List.getElem?_set_self hiσ] at e2
        cases e2
        exact ⟨u, r, .inr ⟨.inl hk, c, hc, hc'⟩⟩
      · rw [List.getElem?_set_ne (Ne.symm hj)] at e2
        obtain ⟨u', r', q⟩ := hl j y v' e1 e2 e3
        refine ⟨u', r', ?_⟩
        rcases q with q | ⟨k, c', e, z'⟩
        · exact .inl q
        · refine .inr ⟨k, c', e, z'.sameBut hs ?_⟩
          rintro rfl
          exact hj (nodup_ix hN e1 (I.ok.inj _ _ _ e hc ▸ hi))
    · by_cases hcc : c' = c
      · subst hcc; exact ⟨_, hc'⟩
      · obtain ⟨w2, z2⟩ := I.cell y c' e
        exact ⟨w2, z2.sameBut hs hcc⟩
    · obtain ⟨e, n, ne, nf, d⟩ := I.pin p hp
      refine ⟨(hs.2 p.1 ?_).trans e, n, ne, nf, d⟩
      intro q
      rw [q, hoc] at e
      have q' : oc = p.2 := Option.some.inj e
      exact d w' (by rw [← q']; exact hocd)
theorem store_ok {M : Model} {A : Around} {E : Value → Shared → Prop} {i : Nat} {x : Str} {v : V} {u : Value} {Q : Unit → Shared → Prop} (I : Inv X pins σ H s) (hN : X.N.Nodup) (hi : X.N[i]? = some x) (hx : Loc X.env.scope x) (r : RelV v u)
    (h : ∀ s', Inv X pins (σ.set i (some v)) H s' → Q () s') (hf : X.fn x = true ∨ X.env.scope.names.lookup x = some .local := by first | exact .inl rfl | exact .inr rfl | assumption) : wpAny M A (storeName X.env x u) Q E s :=
  store_ok2 I hN hi hx r (fun s' I' _ => h s' I') hf
theorem Inv.call' {s' : Shared} {ch : List Addr} (I : Inv X pins σ H s) (ho : s'.os = s.os) (u : Un (frs X.stack) ch H H' s.heap s'.heap) (hok : HOk X.prog X.w H' s'.heap) (hg : AllBare s'.gens)
    (hch : ∀ b ∈ ch, (b ∈ X.ex ∨ X.s_0.heap.objs.size ≤ b) ∧ b ≠ X.env.locals ∧ (∀ x c, X.env.cells.lookup x = some c → c ≠ b) ∧ ∀ p ∈ X.pn ++ pins, p.1 ≠ b) : Inv X pins σ H' s' := by
  obtain ⟨h', g', d', t', o'⟩ := s'
  have e : o' = s.os := ho
  subst e
  exact I.call (g' := g') (t' := t') (d' := d') u hok hg hch
end
abbrev XK := Value → Option Addr → Hp → Prop
abbrev St := List (Option V)
abbrev VK := V → Hp → Prop
abbrev TE := St → Hp → VK → Prop
abbrev TT := St → Hp → (Bool → Hp → Prop) → Prop
abbrev TA := St → Hp → (List V → Hp → Prop) → Prop
structure Ends where
  nx : St → Hp → Prop
  rt : VK
  bk : St → Hp → Prop := fun _ _ => False
  ct : St → Hp → Prop := fun _ _ => False
abbrev TS := Ends → St → Hp → Prop
def EP (X : Cx) (pins : List (Addr × Obj)) (σ : St) (Q : VK) (u : Value) (s' : Shared) : Prop := ∃ v H', Inv X pins σ H' s' ∧ RelV v u ∧ Q v H'
def TP (X : Cx) (pins : List (Addr × Obj)) (σ : St) (Q : Bool → Hp → Prop) (b : Bool) (s' : Shared) : Prop := ∃ H', Inv X pins σ H' s' ∧ Q b H'
def AP (X : Cx) (pins : List (Addr × Obj)) (σ : St) (Q : List V → Hp → Prop) (us : List Value) (s' : Shared) : Prop := ∃ vs H', Inv X pins σ H' s' ∧ Vals vs us ∧ Q vs H'
def SP (X : Cx) (pins : List (Addr × Obj)) (D : Ends) (f : Flow) (s' : Shared) : Prop :=
  match f with
  | .next => ∃ σ' H', Inv X pins σ' H' s' ∧ D.nx σ' H'
  | .brk => ∃ σ' H', Inv X pins σ' H' s' ∧ D.bk σ' H'
  | .cont => ∃ σ' H', Inv X pins σ' H' s' ∧ D.ct σ' H'
  | .ret u => ∃ v σ' H', Inv X pins σ' H' s' ∧ RelV v u ∧ D.rt v H'
def PE (X : Cx) (e : Expr) (t : TE) : Prop :=
  ∀ (pins : List (Addr × Obj)) (s : Shared) (σ : St) (H : Hp) (Q : VK), Inv X pins σ H s → t σ H Q → wpAny (model X.prog X.w) X.A (eval e X.env) (EP X pins σ Q) X.xe s
def PT (X : Cx) (e : Expr) (t : TT) : Prop :=
  ∀ (pins : List (Addr × Obj)) (s : Shared) (σ : St) (H : Hp) (Q : Bool → Hp → Prop), Inv X pins σ H s → t σ H Q → wpAny (model X.prog X.w) X.A (isTrue e X.env (eval e X.env)) (TP X pins σ Q) X.xe s
def PW (X : Cx) (e : Expr) (t : TT) : Prop :=
  ∀ (whole : Sem Value) (pins : List (Addr × Obj)) (s : Shared) (σ : St) (H : Hp) (Q : Bool → Hp → Prop), Inv X pins σ H s → t σ H Q → wpAny (model X.prog X.w) X.A (isTrue e X.env whole) (TP X pins σ Q) X.xe s
theorem PW.pt {X : Cx} {e : Expr} {t : TT} (h : PW X e t) : PT X e t := h _
def PA (X : Cx) (es : List Expr) (t : TA) : Prop :=
  ∀ (pos : Pos) (pins : List (Addr × Obj)) (s : Shared) (σ : St) (H : Hp) (Q : List V → Hp → Prop), Inv X pins σ H s → t σ H Q → wpAny (model X.prog X.w) X.A (spliced (backTo pos (starEach es X.env))) (AP X pins σ Q) X.xe s
def PS (X : Cx) (st : Stmt) (t : TS) : Prop :=
  ∀ (pins : List (Addr × Obj)) (s : Shared) (σ : St) (H : Hp) (D : Ends), Inv X pins σ H s → t D σ H → wpAny (model X.prog X.w) X.A (exec st X.env) (SP X pins D) X.xe s
def PSs (X : Cx) (st : List Stmt) (t : TS) : Prop :=
  ∀ (pins : List (Addr × Obj)) (s : Shared) (σ : St) (H : Hp) (D : Ends), Inv X pins σ H s → t D σ H → wpAny (model X.prog X.w) X.A (execs st X.env) (SP X pins D) X.xe s
theorem thn {α : Type} {t : Sem α} {Q Q' : α → Shared → Prop} {M : Model} {A : Around} {E : Value → Shared → Prop} {s : Shared} (h : wpAny M A t Q E s) (hQ : ∀ a s, Q a s → Q' a s) : wpAny M A t Q' E s := wpAny_mono h hQ fun _ _ x => x
end L2
namespace L2
open PySem PySem.Spec PyProof.Rows
section
variable {X : Cx}
def tVar (i : Nat) : TE := fun σ H Q => ∃ v, σ[i]? = some (some v) ∧ Q v H
def tC (v : V) : TE := fun _ H Q => Q v H
theorem pe_var {i : Nat} {x : Str} {pos : Pos} (hN : X.N[i]? = some x) (hv : Vis X.env.scope x) (hd : (x == ("__debug__" : Str)) = false := by decide) (hcd : (x == ("__classdict__" : Str)) = false := by decide) : PE X (.Name x pos) (tVar i) := by
  intro pins s σ H Q I h
  obtain ⟨v, e, h⟩ := h
  obtain ⟨m, hn, hl⟩ := I.loc
  obtain ⟨u, r, l⟩ := hl i x v hN e hv
  have fin : EP X pins σ Q u s := ⟨v, H, I, r, h⟩
  rcases l with ⟨hk, hm⟩ | ⟨hk, c, hc, hcell⟩
  · exact wpAny_Name (wpAny_loadName_local I.ok.kind hk hn hm fin) hd
  · rcases hk with hk | hk
    · exact wpAny_Name (wpAny_loadName_cell I.ok.kind hk hc hcell fin) hd
    · exact wpAny_Name (wpAny_loadName_free I.ok.kind hk hc hcell fin hcd) hd
theorem pe_int {i j pos} : PE X (.Constant (.int i) j pos) (tC (.int i)) := fun _ _ _ H _ I h => wpAny_Constant_int ⟨.int i, H, I.tok _, ⟨_, rfl⟩, h⟩
theorem pe_bl {b j pos} : PE X (.Constant (.bool b) j pos) (tC (.bl b)) := fun _ _ _ H _ I h => Constant_bool ⟨.bl b, H, I, rfl, h⟩
theorem pe_non {j pos} : PE X (.Constant .none j pos) (tC .non) := fun _ _ _ H _ I h => Constant_none ⟨.non, H, I, rfl, h⟩
def Gl (X : Cx) (x : Str) : Prop := X.env.kindOf x = some .globalImplicit
theorem ld_glob {E : Value → Shared → Prop} {pins : List (Addr × Obj)} {s : Shared} {σ : St} {H : Hp} {x : Str} {u : Value} {pos : Pos} {Q : Value → Shared → Prop} (I : Inv X pins σ H s) (hg : Gl X x) (hm : X.mg x = some u) (h : Q u s)
    (hd : (x == ("__debug__" : Str)) = false := by decide) : wpAny (model X.prog X.w) X.A (eval (.Name x pos) X.env) Q E s :=
  Calls.Name_function_global I.ok.kind hg (Calls.loadGlobal_global (by rw [I.ok.glob]; exact I.mod.glob.keeps I.bk) hm h) hd
theorem ld_blt {E : Value → Shared → Prop} {pins : List (Addr × Obj)} {s : Shared} {σ : St} {H : Hp} {x : Str} {u : Value} {pos : Pos} {Q : Value → Shared → Prop} (I : Inv X pins σ H s) (hg : Gl X x) (hm : X.mg x = none) (hv : bootBuiltins x = some u) (h : Q u s)
    (hn : x ≠ "__name__" := by decide) (hd : (x == ("__debug__" : Str)) = false := by decide) : wpAny (model X.prog X.w) X.A (eval (.Name x pos) X.env) Q E s := by
  obtain ⟨mb, h1, h2⟩ := I.mod.blt
  exact Calls.Name_function_global I.ok.kind hg (Calls.loadGlobal_builtin (by rw [I.ok.glob]; exact I.mod.glob.keeps I.bk) hm (by rw [I.ok.blt]; exact h1.keeps I.bk) ((h2 x hn).trans hv) h) hd
theorem pe_glob {x : Str} {v : V} {u : Value} {pos : Pos} (hg : Gl X x) (hm : X.mg x = some u) (r : RelV v u) (hd : (x == ("__debug__" : Str)) = false := by decide) : PE X (.Name x pos) (tC v) :=
  fun _ _ _ H _ I h => ld_glob I hg hm ⟨v, H, I, r, h⟩ hd
variable {a b : Expr} {ta tb : TE} {pos : Pos}
def PC (X : Cx) (op : CmpOp) (a b : Expr) (t : TE) : Prop :=
  ∀ (pins : List (Addr × Obj)) (s : Shared) (σ : St) (H : Hp) (Q : VK), Inv X pins σ H s → t σ H Q →
    wpAny (model X.prog X.w) X.A (eval a X.env) (fun v s₁ => wpAny (model X.prog X.w) X.A (eval b X.env) (fun u s₂ => wpAny (model X.prog X.w) X.A (compareOp op v u) (EP X pins σ Q) X.xe s₂) X.xe s₁) X.xe s
def tB (t : TE) : TT := fun σ H Q => t σ H fun x H1 => ∃ c, x = .bl c ∧ Q c H1
theorem pt_cmp {op : CmpOp} {t : TE} (h : PC X op a b t) (h1 : behindInMarks op b = false := by first | exact nobehind _ (by decide) (by decide) | rfl) : PT X (.Compare a [op] [b] pos) (tB t) := by
  intro pins s σ H Q I hw
  refine wpAny_isTrue_Compare1 (thn (h pins s σ H _ I hw) fun v s1 h1 => thn h1 fun u s2 h2 => thn h2 fun c s3 ⟨x, H1, I1, r1, q1⟩ => ?_) h1
  obtain ⟨d, rfl, q⟩ := q1
  cases r1
  exact wpAny_truthy_bool ⟨H1, I1, q⟩
theorem pt_val {e : Expr} {t : TE} (h : PE X e t) (he : ∀ whole, isTrue e X.env whole = (do let v ← whole; standAt e.pos; holding [v] (truthy v)) := by intro _; rfl) : PT X e (tB t) := by
  intro pins s σ H Q I hw
  refine isTrue_plain (thn (h pins s σ H _ I hw) fun v s1 ⟨x, H1, I1, r1, q1⟩ => ?_) (he _)
  obtain ⟨d, rfl, q⟩ := q1
  cases r1
  exact wpAny_truthy_bool ⟨H1, I1, q⟩
variable {tA tB' : TT} {rest : List Expr}
def tAnd (t u : TT) : TT := fun σ H Q => t σ H fun c H1 => if c = true then u σ H1 Q else Q false H1
def tOr (t u : TT) : TT := fun σ H Q => t σ H fun c H1 => if c = true then Q true H1 else u σ H1 Q
def tNot (t : TT) : TT := fun σ H Q => t σ H fun c H1 => Q (!c) H1
theorem pw_and1 (ha : PT X a tA) : PW X (.BoolOp .And [a] pos) tA := by
  intro wh pins s σ H Q I h
  refine isTrue_and (thn (ha pins s σ H Q I h) fun c s1 e => ?_)
  cases c with
  | true => exact isTrue_and_nil e
  | false => exact e
theorem pw_or1 (ha : PT X a tA) : PW X (.BoolOp .Or [a] pos) tA := by
  intro wh pins s σ H Q I h
  refine isTrue_or (thn (ha pins s σ H Q I h) fun c s1 e => ?_)
  cases c with
  | false => exact isTrue_or_nil e
  | true => exact e
theorem pw_and (ha : PT X a tA) (hb : PW X (.BoolOp .And (b :: rest) pos) tB') : PW X (.BoolOp .And (a :: b :: rest) pos) (tAnd tA tB') := by
  intro wh pins s σ H Q I h
  refine isTrue_and (thn (ha pins s σ H _ I h) fun c s1 ⟨H1, I1, q1⟩ => ?_)
  cases c with
  | true => exact hb wh pins s1 σ H1 Q I1 q1
  | false => exact ⟨H1, I1, q1⟩
theorem pw_or (ha : PT X a tA) (hb : PW X (.BoolOp .Or (b :: rest) pos) tB') : PW X (.BoolOp .Or (a :: b :: rest) pos) (tOr tA tB') := by
  intro wh pins s σ H Q I h
  refine isTrue_or (thn (ha pins s σ H _ I h) fun c s1 ⟨H1, I1, q1⟩ => ?_)
  cases c with
  | true => exact ⟨H1, I1, q1⟩
  | false => exact hb wh pins s1 σ H1 Q I1 q1
theorem pt_not (ha : PT X a tA) : PT X (.UnaryOp .Not a pos) (tNot tA) := by
  intro pins s σ H Q I h
  exact isTrue_not (ha pins s σ H (fun c H1 => Q (!c) H1) I h)
def tAndV (ta tb : TE) : TE := fun σ H Q => ta σ H fun x H1 => ∃ c, x = .bl c ∧ if c = true then tb σ H1 Q else Q (.bl false) H1
def tOrV (ta tb : TE) : TE := fun σ H Q => ta σ H fun x H1 => ∃ c, x = .bl c ∧ if c = true then Q (.bl true) H1 else tb σ H1 Q
theorem pe_one {op} {t : TE} (h : PE X a t) : PE X (.BoolOp op [a] pos) t := fun pins s σ H Q I hw => BoolOp_one (h pins s σ H Q I hw)
theorem pe_and (ha : PE X a ta) (hb : PE X (.BoolOp .And (b :: rest) pos) tb) : PE X (.BoolOp .And (a :: b :: rest) pos) (tAndV ta tb) := by
  intro pins s σ H Q I h
  refine BoolOp_and (thn (ha pins s σ H _ I h) fun v s1 ⟨x, H1, I1, r1, q1⟩ => ?_)
  obtain ⟨c, rfl, q1⟩ := q1
  cases r1
  refine wpAny_truthy_bool ?_
  cases c with
  | true => exact hb pins s1 σ H1 Q I1 q1
  | false => exact ⟨.bl false, H1, I1, rfl, q1⟩
theorem pe_or (ha : PE X a ta) (hb : PE X (.BoolOp .Or (b :: rest) pos) tb) : PE X (.BoolOp .Or (a :: b :: rest) pos) (tOrV ta tb) := by
  intro pins s σ H Q I h
  refine BoolOp_or (thn (ha pins s σ H _ I h) fun v s1 ⟨x, H1, I1, r1, q1⟩ => ?_)
  obtain ⟨c, rfl, q1⟩ := q1
  cases r1
  refine wpAny_truthy_bool ?_
  cases c with
  | false => exact hb pins s1 σ H1 Q I1 q1
  | true => exact ⟨.bl true, H1, I1, rfl, q1⟩
end
end L2
namespace L2
open PySem PySem.Spec PyProof.Rows
def SqL (K : PySem.W.Frag) (H : Hp) (a : Addr) (xs : List V) : Prop :=
  Rd H a (.lst xs) ∨
    ∃ (o : Obj) (its : Array Value) (n : Nat), K.lookup a = some o ∧ o.cls = .type "list" ∧ o.dict = none ∧ o.data = .seq its n ∧ its.size ≤ sizeLine ∧ Vals xs its.toList
def SqT (K : PySem.W.Frag) (H : Hp) (a : Addr) (xs : List V) : Prop :=
  Rd H a (.tup xs) ∨
    ∃ (o : Obj) (its : Array Value) (n : Nat), K.lookup a = some o ∧ o.cls = .type "tuple" ∧ o.data = .seq its n ∧ its.size ≤ sizeLine ∧ Vals xs its.toList
def absV : Value → Option V
  | .none => some .non
  | .bool b => some (.bl b)
  | .int i _ => some (.int i)
  | .str x _ => some (.str x)
  | .bytes b _ => some (.byt b)
  | .float b _ => some (.flt b)
  | .ref a => some (.ref a)
  | .type n => some (.ty n)
  | _ => none
theorem RelV.abs {x : V} {u : Value} (r : RelV x u) : absV u = some x := by
  cases x with
  | non => cases r; rfl
  | bl _ => cases r; rfl
  | int _ => obtain ⟨t, rfl⟩ := r; rfl
  | str _ => obtain ⟨t, rfl⟩ := r; rfl
  | byt _ => obtain ⟨t, rfl⟩ := r; rfl
  | flt _ => obtain ⟨t, rfl⟩ := r; rfl
  | ref _ => cases r; rfl
  | ty _ => cases r; rfl
theorem RelV.inj {x y : V} {u : Value} (r : RelV x u) (q : RelV y u) : x = y := Option.some.inj (r.abs.symm.trans q.abs)
theorem Vals.inj : ∀ {xs ys : List V} {us : List Value}, Vals xs us → Vals ys us → xs = ys
  | _, _, _, .nil, .nil => rfl
  | _, _, _, .cons r t, .cons r' t' => by rw [r.inj r', Vals.inj t t']
section
variable {X : Cx} {pins : List (Addr × Obj)} {σ : St} {H : Hp} {s : Shared} {a : Addr} {xs ys : List V}
theorem SqL.of {K : PySem.W.Frag} (h : H a = some (.lst xs)) : SqL K H a xs := .inl (.inl h)
theorem SqT.of {K : PySem.W.Frag} (h : H a = some (.tup xs)) : SqT K H a xs := .inl (.inl h)
theorem Inv.list (I : Inv X pins σ H s) (h : SqL X.K H a xs) : ∃ its : List Value, Vals xs its ∧ PlainL s.heap a its.toArray ∧ xs.length ≤ sizeLine := by
  rcases h with h | ⟨o, its, n, hk, hc, hd, hs, hz, r⟩
  · obtain ⟨z, its, n, r, e⟩ := h.ok I.hok
    exact ⟨its, r, ⟨_, n, e, rfl, rfl, rfl⟩, z⟩
  · refine ⟨its.toList, r, ⟨o, n, I.kIn a o hk, hc, hd, by simpa using hs⟩, ?_⟩
    have e := r.length
    simp only [Array.length_toList] at e
    omega
theorem Inv.tuple (I : Inv X pins σ H s) (h : SqT X.K H a xs) : ∃ its : List Value, Vals xs its ∧ IsTup s.heap a its.toArray ∧ xs.length ≤ sizeLine := by
  rcases h with h | ⟨o, its, n, hk, hc, hs, hz, r⟩
  · obtain ⟨z, its, r, p⟩ := h.ok I.hok
    exact ⟨its, r, p, z⟩
  · refine ⟨its.toList, r, ⟨o, I.kIn a o hk, hc, n, by simpa using hs⟩, ?_⟩
    have e := r.length
    simp only [Array.length_toList] at e
    omega
theorem Inv.list_inj (I : Inv X pins σ H s) (h : SqL X.K H a xs) (h' : SqL X.K H a ys) : xs = ys := by
  obtain ⟨its, r, ⟨o, n, e, _, _, d⟩, _⟩ := I.list h
  obtain ⟨its', r', ⟨o', n', e', _, _, d'⟩, _⟩ := I.list h'
  rw [e] at e'; cases e'
  rw [d] at d'
  injection d' with d1 _
  have : its = its' := by simpa using congrArg Array.toList d1
  subst this
  exact r.inj r'
end
abbrev Cx.wish (X : Cx) (E : Value → Shared → Prop) : Cx := { X with xe := E }
abbrev Cx.nox (X : Cx) : Cx := X.wish fun _ _ => False
theorem Cx.Ok.wish {X : Cx} (ok : X.Ok) (E : Value → Shared → Prop) : (X.wish E).Ok :=
  ⟨ok.mod, ok.kind, ok.glob, ok.blt, ok.above, ok.inj, ok.has, ok.cab, ok.hd, ok.frames, ok.stk, ok.exf, ok.bs, ok.bsz, ok.noex, ok.exfs, ok.funs, ok.frf⟩
theorem Cx.Ok.unwish {X : Cx} {E : Value → Shared → Prop} (ok : (X.wish E).Ok) : X.Ok :=
  ⟨ok.mod, ok.kind, ok.glob, ok.blt, ok.above, ok.inj, ok.has, ok.cab, ok.hd, ok.frames, ok.stk, ok.exf, ok.bs, ok.bsz, ok.noex, ok.exfs, ok.funs, ok.frf⟩
section
variable {X : Cx} {pins : List (Addr × Obj)} {σ : St} {H : Hp} {s : Shared} {E : Value → Shared → Prop}
theorem Inv.wish (I : Inv X pins σ H s) (E : Value → Shared → Prop) : Inv (X.wish E) pins σ H s := ⟨I.ok.wish E, I.os, I.bare, I.base, I.loc, I.cell, I.free, I.freeC, I.pin, I.hok, I.len⟩
theorem Inv.unwish (I : Inv (X.wish E) pins σ H s) : Inv X pins σ H s := ⟨I.ok.unwish, I.os, I.bare, I.base, I.loc, I.cell, I.free, I.freeC, I.pin, I.hok, I.len⟩
theorem SP.unwish {D : Ends} {f : Flow} {s' : Shared} (h : SP (X.wish E) pins D f s') : SP X pins D f s' := by
  cases f with
  | next => obtain ⟨σ', H', I, q⟩ := h; exact ⟨σ', H', I.unwish, q⟩
  | brk => obtain ⟨σ', H', I, q⟩ := h; exact ⟨σ', H', I.unwish, q⟩
  | cont => obtain ⟨σ', H', I, q⟩ := h; exact ⟨σ', H', I.unwish, q⟩
  | ret u => obtain ⟨v, σ', H', I, r, q⟩ := h; exact ⟨v, σ', H', I.unwish, r, q⟩
theorem PSs.nox {st : List Stmt} {t : TS} (h : PSs X.nox st t) : PSs X st t := fun pins s σ H D I hw =>
  wpAny_mono (h pins s σ H D (I.wish _) hw) (fun _ _ q => q.unwish) fun _ _ z => False.elim z
end
section
variable {X : Cx} {st : Stmt} {rest : List Stmt} {t u : TS} {e : Expr} {te : TE} {pos : Pos}
def tNext : TS := fun D σ H => D.nx σ H
def tSeq (t u : TS) : TS := fun D σ H => t { D with nx := u D } σ H
theorem pss_nil : PSs X [] tNext := fun _ _ σ H _ I h => wpAny_execs_nil ⟨σ, H, I, h⟩
theorem pss_cons (h1 : PS X st t) (h2 : PSs X rest u) : PSs X (st :: rest) (tSeq t u) := by
  intro pins s σ H D I h
  refine wpAny_execs_cons (thn (h1 pins s σ H { D with nx := u D } I h) fun f s1 q => ?_)
  cases f with
  | next =>
    obtain ⟨σ', H', I', q⟩ := q
    exact h2 pins s1 σ' H' D I' q
  | ret v => exact q
  | brk => exact q
  | cont => exact q
theorem pss_one (h1 : PS X st t) : PSs X [st] t := by
  intro pins s σ H D I h
  refine wpAny_execs_cons (thn (h1 pins s σ H D I h) fun f s1 q => ?_)
  cases f with
  | next => exact wpAny_execs_nil q
  | ret v => exact q
  | brk => exact q
  | cont => exact q
theorem Inv.quiet {pins : List (Addr × Obj)} {σ : St} {H : Hp} {s : Shared} (I : Inv X pins σ H s) : interactive X.env = false := by simp [interactive, I.ok.kind]
def tDrop (te : TE) : TS := fun D σ H => te σ H fun _ H1 => D.nx σ H1
theorem ps_expr (he : PE X e te) (hs : swapsWith e none pos.line X.env = pure false := by rfl) : PS X (.Expr e pos) (tDrop te) := by
  intro pins s σ H D I h
  exact wpAny_Expr_any (thn (he pins s σ H _ I h) fun v s1 ⟨x, H1, I1, r1, q1⟩ => ⟨σ, H1, I1, q1⟩) I.quiet hs
def tRet (te : TE) : TS := fun D σ H => te σ H D.rt
theorem ps_ret (he : PE X e te) : PS X (.Return (some e) pos) (tRet te) := by
  intro pins s σ H D I h
  exact wpAny_Return_some (thn (he pins s σ H _ I h) fun v s1 ⟨x, H1, I1, r1, q1⟩ => ⟨x, σ, H1, I1, r1, q1⟩)
def tIfS (c : TT) (t u : TS) : TS := fun D σ H => c σ H fun b H1 => if b = true then t D σ H1 else u D σ H1
theorem ps_if {c : Expr} {a b : List Stmt} {tc : TT} (hc : PT X c tc) (ha : PSs X a t) (hb : PSs X b u) : PS X (.If c a b pos) (tIfS tc t u) := by
  intro pins s σ H D I h
  refine wpAny_If (thn (hc pins s σ H _ I h) fun d s1 ⟨H1, I1, q1⟩ => ?_)
  cases d with
  | true => exact ha pins s1 σ H1 D I1 q1
  | false => exact hb pins s1 σ H1 D I1 q1
end
abbrev TG := V → St → Hp → (St → Hp → Prop) → Prop
abbrev TGs := List V → St → Hp → (St → Hp → Prop) → Prop
def PG (X : Cx) (target : Expr) (t : TG) : Prop :=
  ∀ (pins : List (Addr × Obj)) (s : Shared) (σ : St) (H : Hp) (v : V) (u : Value) (Q : St → Hp → Prop), Inv X pins σ H s → RelV v u → t v σ H Q →
    wpAny (model X.prog X.w) X.A (assign target X.env u) (fun _ s' => ∃ σ' H', Inv X pins σ' H' s' ∧ Q σ' H') X.xe s
def PGs (X : Cx) (ts : List Expr) (t : TGs) : Prop :=
  ∀ (pins : List (Addr × Obj)) (s : Shared) (σ : St) (H : Hp) (vs : List V) (us : List Value) (Q : St → Hp → Prop), Inv X pins σ H s → Vals vs us → t vs σ H Q →
    wpAny (model X.prog X.w) X.A (assignInOrder ((assignEach ts X.env).map (·.2)) us) (fun _ s' => ∃ σ' H', Inv X pins σ' H' s' ∧ Q σ' H') X.xe s
section
variable {X : Cx} {pos : Pos}
def gName (i : Nat) : TG := fun v σ H Q => Q (σ.set i (some v)) H
theorem pg_name {i : Nat} {x : Str} (hN : X.N.Nodup) (hi : X.N[i]? = some x) (hx : Loc X.env.scope x) (hf : X.fn x = true ∨ X.env.scope.names.lookup x = some .local := by first | exact .inl rfl | exact .inr rfl | assumption) : PG X (.Name x pos) (gName i) := by
  intro pins s σ H v u Q I r h
  exact wpAny_assign_Name (store_ok I hN hi hx r (fun s' I' => ⟨_, H, I', h⟩) hf)
def gNil : TGs := fun vs σ H Q => vs = [] ∧ Q σ H
def gCons (t : TG) (u : TGs) : TGs := fun vs σ H Q => ∃ v r, vs = v :: r ∧ t v σ H fun σ' H' => u r σ' H' Q
theorem pgs_nil : PGs X [] gNil := by
  intro pins s σ H vs us Q I r h
  obtain ⟨e, h⟩ := h
  subst e
  cases r
  exact assignInOrder_nil ⟨σ, H, I, h⟩
theorem pgs_cons {e : Expr} {es : List Expr} {t : TG} {u : TGs} (h1 : PG X e t) (h2 : PGs X es u)
    (hs : (assignEach (e :: es) X.env).map (·.2) = assign e X.env :: (assignEach es X.env).map (·.2) := by rfl) : PGs X (e :: es) (gCons t u) := by
  intro pins s σ H vs us Q I r h
  obtain ⟨v, vr, e1, h⟩ := h
  subst e1
  cases r with
  | cons r rr =>
    rw [hs]
    refine assignInOrder_cons (thn (h1 pins s σ H _ _ _ I r h) fun _ s1 ⟨σ1, H1, I1, q1⟩ => ?_)
    exact h2 pins s1 σ1 H1 _ _ Q I1 rr q1
def gTup (K : PySem.W.Frag) (n : Nat) (t : TGs) : TG := fun v σ H Q => ∃ a xs, v = .ref a ∧ SqT K H a xs ∧ xs.length = n ∧ t xs σ H Q
theorem pg_tup {es : List Expr} {k : Nat} {t : TGs} {n : Nat} (hc : X.calm = true) (h : PGs X es t)
    (hn : (assignEach es X.env).length = n := by rfl) (hst : (assignEach es X.env).findIdx? (·.1) = none := by rfl) : PG X (.Tuple es k pos) (gTup X.K n t) := by
  intro pins s σ H v u Q I r hw
  obtain ⟨a, xs, e1, hq, hl, hw⟩ := hw
  subst e1
  cases r
  obtain ⟨its, rv, ht, hz⟩ := I.tuple hq
  refine assign_Tuple_tuple (I.ok.hd hc) ht (by simp [hn, ← hl, rv.length]) hst fun h' hx => ?_
  have I1 : Inv X pins σ H { s with heap := h' } := I.kept (t' := s.toks) fun b o e => hx b o (Nat.ne_of_lt (Heap.lt_size e)) e
  exact h pins _ σ H xs _ Q I1 (by simpa using rv) hw
def tAsg (te : TE) (g : TG) : TS := fun D σ H => te σ H fun x H1 => g x σ H1 D.nx
theorem ps_set {i : Nat} {x : Str} {e : Expr} {te : TE} {pos' : Pos} (hN : X.N.Nodup) (hi : X.N[i]? = some x) (hx : Loc X.env.scope x) (he : PE X e te) (hs : swapsWith e (some (.Name x pos')) pos.line X.env = pure false := by rfl) (hf : X.fn x = true ∨ X.env.scope.names.lookup x = some .local := by first | exact .inl rfl | exact .inr rfl | assumption) :
    PS X (.Assign [.Name x pos'] e pos) (tAsg te (gName i)) := by
  intro pins s σ H D I h
  refine wpAny_Assign_Name (thn (he pins s σ H _ I h) fun v s1 ⟨y, H1, I1, r1, q1⟩ => ?_) hs
  exact store_ok I1 hN hi hx r1 (fun s2 I2 => ⟨_, H1, I2, q1⟩) hf
end
section
variable {X : Cx} {pos : Pos}
def tWhile (c : TT) (tb : TS) : TS := fun D σ H => ∃ W : Nat → St → Hp → Prop, (∃ m, W m σ H) ∧ ∀ m σ H, W m σ H →
  c σ H fun b H1 => if b = true then ∃ N : St → Hp → Prop, (∀ σ' H', N σ' H' → ∃ m', m' < m ∧ W m' σ' H') ∧ tb { D with nx := N, ct := N, bk := D.nx } σ H1 else D.nx σ H1
theorem ps_while {c : Expr} {body : List Stmt} {tc : TT} {tb : TS} (hp : PassesOwn (model X.prog X.w) X.A X.env X.xe) (hc : PT X c tc) (hb : PSs X body tb) : PS X (.While c body [] pos) (tWhile tc tb) := by
  intro pins s σ H D I h
  obtain ⟨W, ⟨m0, w0⟩, turn⟩ := h
  refine wpAny_While (codeAny_whileLoop (fun n s' => ∃ σ' H', Inv X pins σ' H' s' ∧ W n σ' H') ?_ m0 ⟨σ, H, I, w0⟩)
  rintro n s1 ⟨σ1, H1, I1, w1⟩
  refine wpAny_passesOwn hp (thn (hc pins s1 σ1 H1 _ I1 (turn n σ1 H1 w1)) fun b s2 ⟨H2, I2, q2⟩ => ?_)
  cases b with
  | true =>
    obtain ⟨N, hN, q2⟩ := q2
    rw [if_pos rfl]
    refine wpAny_passesOwn hp (thn (hb pins s2 σ1 H2 _ I2 q2) fun f s3 q3 => ?_)
    cases f with
    | next =>
      obtain ⟨σ3, H3, I3, n3⟩ := q3
      obtain ⟨m', hm, w3⟩ := hN σ3 H3 n3
      exact ⟨m', hm, σ3, H3, I3, w3⟩
    | cont =>
      obtain ⟨σ3, H3, I3, n3⟩ := q3
      obtain ⟨m', hm, w3⟩ := hN σ3 H3 n3
      exact ⟨m', hm, σ3, H3, I3, w3⟩
    | brk => exact q3
    | ret v => exact q3
  | false =>
    rw [if_neg Bool.false_ne_true]
    exact wpAny_execs_nil ⟨σ1, H2, I2, q2⟩
end
structure It where
  go : Nat → Hp → Prop
  yld : Nat → Hp → V → Hp → Prop
  stop : Nat → Hp → Prop
def FpOk (X : Cx) (pins : List (Addr × Obj)) (H : Hp) (b : Addr) : Prop :=
  H b = none ∧ b ≠ X.env.locals ∧ b ∉ X.fs ∧ (b ∈ X.ex ∨ X.s_0.heap.objs.size ≤ b) ∧ (∀ x c, X.env.cells.lookup x = some c → c ≠ b) ∧ ∀ p ∈ X.pn ++ pins, p.1 ≠ b
theorem Inv.fpOk {X : Cx} {pins : List (Addr × Obj)} {σ : St} {H H' : Hp} {s : Shared} {b : Addr} (I : Inv X pins σ H s) (hb : s.heap.objs.size ≤ b) (hn : H' b = none) : FpOk X pins H' b := by
  refine ⟨hn, Nat.ne_of_gt (Nat.lt_of_lt_of_le I.lt hb), I.nofs hb, .inr (Nat.le_trans I.sz hb), fun x c e z => ?_, fun p hp z => ?_⟩
  · obtain ⟨v, q⟩ := I.cell x c e
    exact absurd (Nat.lt_of_lt_of_le q.lt (by rw [z]; exact hb)) (Nat.lt_irrefl _)
  · exact absurd (Nat.lt_of_lt_of_le (Heap.lt_size (I.pin p hp).1) (by rw [z]; exact hb)) (Nat.lt_irrefl _)
structure Turn (P : Program) (w : World) (K : PySem.W.Frag) (tg : Expr) (J : It) (fp : List Addr) (it : Addr) (tn : Nat → Heap → Prop) : Prop where
  mem : it ∈ fp
  obj : ∀ i h, tn i h → ∀ b ∈ fp, ∃ o, h.get? b = some o ∧ ∀ v, o.data ≠ .cell v
  keep : ∀ i h h', tn i h → (∀ b ∈ fp, ∀ o, h.get? b = some o → h'.get? b = some o) → tn i h'
  item : ∀ (X : Cx), X.prog = P → X.w = w → X.K = K → X.calm = true → ∀ (i : Nat) (pins : List (Addr × Obj)) (s : Shared) (σ : St) (H : Hp) (E : Value → Shared → Prop), Inv X pins σ H s → (∀ b ∈ fp, FpOk X pins H b) → tn i s.heap → J.go i H →
    wpAny (model P w) X.A (pyNext (.ref it)) (fun r s1 => ∃ u, r = some u ∧
      wpAny (model P w) X.A (letOwnedTupleGo tg (.ref it) u) (fun _ s2 => ∃ x H', Inv X pins σ H' s2 ∧ RelV x u ∧ J.yld i H x H' ∧ tn (i + 1) s2.heap ∧ ∀ b ∈ fp, H' b = none) E s1) E s
  done : ∀ (X : Cx), X.prog = P → X.w = w → X.K = K → X.calm = true → ∀ (i : Nat) (pins : List (Addr × Obj)) (s : Shared) (σ : St) (H : Hp) (E : Value → Shared → Prop), Inv X pins σ H s → (∀ b ∈ fp, FpOk X pins H b) → tn i s.heap → J.stop i H →
    wpAny (model P w) X.A (pyNext (.ref it)) (fun r s1 => r = none ∧ Inv X pins σ H s1) E s
  self : ∀ (A : Around) (i : Nat) (s : Shared) (Q : Value → Shared → Prop) (E : Value → Shared → Prop), tn i s.heap → Q (.ref it) s → wpAny (model P w) A (pyIter (.ref it)) Q E s
abbrev TI := St → Hp → (It → Hp → Prop) → Prop
def PIE (X : Cx) (pins : List (Addr × Obj)) (σ : St) (tg : Expr) (R : It → Hp → Prop) (itv : Value) (s2 : Shared) : Prop :=
  ∃ (it : Addr) (fp : List Addr) (tn : Nat → Heap → Prop) (J : It) (H' : Hp), itv = .ref it ∧ Inv X pins σ H' s2 ∧ Turn X.prog X.w X.K tg J fp it tn ∧ tn 0 s2.heap ∧ (∀ b ∈ fp, FpOk X pins H' b) ∧ R J H'
def PI (X : Cx) (tg iter : Expr) (wi : TI) : Prop :=
  ∀ (pins : List (Addr × Obj)) (s : Shared) (σ : St) (H : Hp) (R : It → Hp → Prop), Inv X pins σ H s → wi σ H R →
    wpAny (model X.prog X.w) X.A (eval iter X.env) (fun v s1 => wpAny (model X.prog X.w) X.A (pyIter v) (PIE X pins σ tg R) X.xe s1) X.xe s
theorem go_of {M : Model} {A : Around} {E : Value → Shared → Prop} {s : Shared} {tg : Expr} {it : Addr} {u : Value} {o : Obj} {n : String} {vs : Array Value} {Q : Unit → Shared → Prop} (ho : s.heap.get? it = some o) (hc : o.cls = .type n) (hd : o.data = .fields vs)
    (hn : ["enumerate", "zip", "dict_itemiterator", "dict_reverseitemiterator", "odict_iterator", "itertools.zip_longest", "itertools.pairwise"].contains n = false) (hQ : Q () s) : wpAny M A (letOwnedTupleGo tg (.ref it) u) Q E s := by
  unfold letOwnedTupleGo
  cases tg <;> first
    | exact wpAny_pure hQ
    | (cases u <;> first
        | exact wpAny_pure hQ
        | (refine wpAny_bind (wpAny_load ho ?_)
           rw [hc, hd]
           show wpAny M A (if (["enumerate", "zip", "dict_itemiterator", "dict_reverseitemiterator", "odict_iterator", "itertools.zip_longest", "itertools.pairwise"].contains n && vs[0]? == some (rawInt _)) = true then _ else _) Q E s
           rw [if_neg (by intro h; rw [hn, Bool.false_and] at h; cases h)]
           exact wpAny_pure hQ))
def Itl (K : PySem.W.Frag) (a : Addr) : It :=
  ⟨fun i H => ∃ xs x, SqL K H a xs ∧ xs[i]? = some x, fun i H x H' => H' = H ∧ ∀ xs, SqL K H a xs → xs[i]? = some x, fun i H => ∃ xs, SqL K H a xs ∧ xs.length ≤ i⟩
theorem turn_list {P : Program} {w : World} {K : PySem.W.Frag} {tg : Expr} (a it : Addr) : Turn P w K tg (Itl K a) [it] it (fun i h => h.IsListIter it a i) where
  mem := by simp
  obj := fun i h st b hb => by
    have e : b = it := by simpa using hb
    subst e
    obtain ⟨o, e, c, d⟩ := st
    exact ⟨o, e, fun v z => by rw [d] at z; cases z⟩
  keep := fun i h h' st k => st.at fun o e => k it (by simp) o e
  item := by
    intro X hP hw hK hc i pins s σ H E I hf st hg
    subst hP hw hK
    obtain ⟨xs, x, hq, hx⟩ := hg
    obtain ⟨its, rv, p, hz⟩ := I.list hq
    obtain ⟨u, hu, ru⟩ := rv.get hx
    obtain ⟨f0, f1, f2, f3, f4, f5⟩ := hf it (by simp)
    refine wpAny_pyNext_list_item st p.isList (x := u) (by simpa using hu) fun h' st' sb => ?_
    have I1 : Inv X pins σ H { s with heap := h' } := I.turned (t' := s.toks) (fun b o hb e => (sb.2 b hb).trans e) f0 f1 f3 f4 f5
    obtain ⟨o, e, c, d⟩ := id st'
    exact ⟨u, rfl, go_of (s := { s with heap := h' }) e c d (by decide) ⟨x, H, I1, ru, ⟨rfl, fun ys hy => by rw [I.list_inj hy hq]; exact hx⟩, st', fun b hb => (hf b hb).1⟩⟩
  done := by
    intro X hP hw hK hc i pins s σ H E I hf st hg
    subst hP hw hK
    obtain ⟨xs, hq, hx⟩ := hg
    obtain ⟨its, rv, p, hz⟩ := I.list hq
    obtain ⟨f0, f1, f2, f3, f4, f5⟩ := hf it (by simp)
    have hl := rv.length
    exact wpAny_pyNext_list_end (I.ok.hd hc) st p.isList (by simp; omega) fun h' eb => ⟨rfl, I.turned (t' := s.toks) (fun b o hb e => eb b o hb e) f0 f1 f3 f4 f5⟩
  self := fun _ _ _ _ _ st h => wpAny_pyIter_listiter st h
end L2
namespace L2
open PySem PySem.Spec PyProof.Rows
section
variable {X : Cx} {tg : Expr}
def iList (K : PySem.W.Frag) (tl : TE) : TI := fun σ H R => tl σ H fun x H1 => ∃ a, x = .ref a ∧ (∃ xs, SqL K H1 a xs) ∧ R (Itl K a) H1
theorem pi_list {l : Expr} {tl : TE} (hl : PE X l tl) : PI X tg l (iList X.K tl) := by
  intro pins s σ H R I h
  refine thn (hl pins s σ H _ I h) fun v s1 ⟨x, H1, I1, r1, q1⟩ => ?_
  obtain ⟨a, e, ⟨xs, hq⟩, q⟩ := q1
  subst e
  cases r1
  obtain ⟨its, rv, p, hz⟩ := I1.list hq
  refine wpAny_pyIter_list p.isList ?_
  refine ⟨s1.heap.objs.size, [s1.heap.objs.size], _, _, H1, rfl, I1.kept (t' := s1.toks) fun b o e => Heap.get?_push_of_some _ e, turn_list a _, ⟨_, Heap.get?_push_size _ rfl, rfl, rfl⟩, fun b hb => ?_, q⟩
  have e : b = s1.heap.objs.size := by simpa using hb
  subst e
  exact I1.fpOk (Nat.le_refl _) (I1.hok.fresh (Nat.le_refl _))
def tFor (wi : TI) (g : TG) (tb : TS) : TS := fun D σ H => wi σ H fun J H1 => ∃ W : Nat → Nat → St → Hp → Prop, (∃ m, W 0 m σ H1) ∧ ∀ i m σ H, W i m σ H →
  (J.stop i H ∧ D.nx σ H) ∨ (J.go i H ∧ ∃ N : St → Hp → Prop, (∀ σ' H', N σ' H' → ∃ m', m' < m ∧ W (i + 1) m' σ' H') ∧ ∀ x H', J.yld i H x H' → g x σ H' fun σ2 H2 => tb { D with nx := N, ct := N, bk := D.nx } σ2 H2)
def pinsAt (fp : List Addr) (h : Heap) : List (Addr × Obj) := fp.filterMap fun b => (h.get? b).map fun o => (b, o)
theorem mem_pinsAt {fp : List Addr} {h : Heap} {b : Addr} {o : Obj} (hb : b ∈ fp) (e : h.get? b = some o) : (b, o) ∈ pinsAt fp h := List.mem_filterMap.mpr ⟨b, hb, by rw [e]; rfl⟩
theorem of_pinsAt {fp : List Addr} {h : Heap} {p : Addr × Obj} (hp : p ∈ pinsAt fp h) : p.1 ∈ fp ∧ h.get? p.1 = some p.2 := by
  obtain ⟨b, hb, e⟩ := List.mem_filterMap.mp hp
  cases q : h.get? b with
  | none => rw [q] at e; cases e
  | some o =>
    rw [q] at e
    have e' : (b, o) = p := Option.some.inj e
    subst e'
    exact ⟨hb, q⟩
theorem Inv.pinned {pins : List (Addr × Obj)} {σ : St} {H : Hp} {s : Shared} {fp : List Addr} (I : Inv X pins σ H s) (hf : ∀ b ∈ fp, FpOk X pins H b) (ho : ∀ b ∈ fp, ∃ o, s.heap.get? b = some o ∧ ∀ v, o.data ≠ .cell v) : Inv X (pins ++ pinsAt fp s.heap) σ H s :=
  I.pins_of fun p hp => (List.mem_append.mp hp).elim (fun z => I.pin p (List.mem_append_right _ z)) fun z => by
    obtain ⟨hb, e⟩ := of_pinsAt z
    obtain ⟨f0, f1, f2, _⟩ := hf p.1 hb
    obtain ⟨o, e', d⟩ := ho p.1 hb
    rw [e] at e'; cases e'
    exact ⟨e, f0, f1, f2, d⟩
theorem Inv.unpinned {pins pl : List (Addr × Obj)} {σ : St} {H : Hp} {s : Shared} (I : Inv X (pins ++ pl) σ H s) : Inv X pins σ H s := I.pins_of fun p hp => I.pin p (List.mem_append_right _ (List.mem_append_left _ hp))
theorem ps_for {iter : Expr} {body : List Stmt} {wi : TI} {g : TG} {tb : TS} {pos : Pos} (hp : PassesOwn (model X.prog X.w) X.A X.env X.xe) (hc : X.calm = true) (hi : PI X tg iter wi) (hg : PG X tg g) (hb : PSs X body tb)
    (hs : ∀ x, foldedSetIterable iter X.env x = pure x := by intro _; rfl) : PS X (.For tg iter body [] pos) (tFor wi g tb) := by
  intro pins s σ H D I h
  refine wpAny_For (thn (hi pins s σ H _ I h) fun v s1 h1 => thn h1 fun itv s2 h2 => ?_) hs
  obtain ⟨it, fp, tn, J, H2, e, I2, T, st2, f2, W, ⟨m0, w0⟩, turn⟩ := h2
  subst e
  -- what stays true of the iterator's objects through the loop
  have stat : ∀ {H' : Hp}, (∀ b ∈ fp, H' b = none) → ∀ b ∈ fp, FpOk X pins H' b := fun hn b hb => ⟨hn b hb, (f2 b hb).2⟩
  refine codeAny_forLoop_any (fun n s' => ∃ i σ' H', Inv X pins σ' H' s' ∧ tn i s'.heap ∧ (∀ b ∈ fp, H' b = none) ∧ W i n σ' H') ?_ m0 ⟨0, σ, H2, I2, st2, fun b hb => (f2 b hb).1, w0⟩
  rintro n s3 ⟨i, σ3, H3, I3, st3, fr3, w3⟩
  rcases turn i n σ3 H3 w3 with ⟨stop, qn⟩ | ⟨go, N, hN, step⟩
  · refine wpAny_passesOwn hp (thn (T.done X rfl rfl rfl hc i pins s3 σ3 H3 X.xe I3 (stat fr3) st3 stop) fun r s4 ⟨hr, I4⟩ => ?_)
    subst hr
    exact wpAny_execs_nil ⟨σ3, H3, I4, qn⟩
  · refine wpAny_passesOwn hp (thn (T.item X rfl rfl rfl hc i pins s3 σ3 H3 X.xe I3 (stat fr3) st3 go) fun r s4 ⟨u, hr, h4⟩ => ?_)
    subst hr
    refine wpAny_passesOwn hp (thn h4 fun _ s5 ⟨x, H5, I5, r5, y5, st5, fr5⟩ => ?_)
    have I5' := I5.pinned (stat fr5) (T.obj _ _ st5)
    refine wpAny_passesOwn hp (thn (hg _ s5 σ3 H5 x u _ I5' r5 (step x H5 y5)) fun _ s6 ⟨σ6, H6, I6, q6⟩ => ?_)
    refine wpAny_passesOwn hp (thn (hb _ s6 σ6 H6 _ I6 q6) fun f s7 q7 => ?_)
    have again : ∀ {σ7 : St} {H7 : Hp}, Inv X (pins ++ pinsAt fp s5.heap) σ7 H7 s7 → N σ7 H7 → ∃ m, m < n ∧ ∃ i σ' H', Inv X pins σ' H' s7 ∧ tn i s7.heap ∧ (∀ b ∈ fp, H' b = none) ∧ W i m σ' H' := fun {σ7 H7} I7 n7 => by
      obtain ⟨m', hm, w7⟩ := hN σ7 H7 n7
      refine ⟨m', hm, i + 1, σ7, H7, I7.unpinned, T.keep _ _ _ st5 fun b hb o e => (I7.pin (b, o) (List.mem_append_right _ (List.mem_append_right _ (mem_pinsAt hb e)))).1, fun b hb => ?_, w7⟩
      obtain ⟨o, e, d⟩ := T.obj _ _ st5 b hb
      exact (I7.pin (b, o) (List.mem_append_right _ (List.mem_append_right _ (mem_pinsAt hb e)))).2.1
    cases f with
    | next => obtain ⟨σ7, H7, I7, n7⟩ := q7; exact again I7 n7
    | cont => obtain ⟨σ7, H7, I7, n7⟩ := q7; exact again I7 n7
    | brk => obtain ⟨σ7, H7, I7, q7⟩ := q7; exact ⟨σ7, H7, I7.unpinned, q7⟩
    | ret v => obtain ⟨x7, σ7, H7, I7, r7, q7⟩ := q7; exact ⟨x7, σ7, H7, I7.unpinned, r7, q7⟩
end
theorem for_list {K : PySem.W.Frag} {a : Addr} {xs : List V} {g : TG} {tb : TS} {D : Ends} {σ : St} {H : Hp} (Pv : Nat → St → Hp → Prop) (h0 : Pv 0 σ H) (hl : ∀ i σ H, i ≤ xs.length → Pv i σ H → SqL K H a xs)
    (hs : ∀ i x σ H, xs[i]? = some x → Pv i σ H → g x σ H fun σ2 H2 => tb { D with nx := Pv (i + 1), ct := Pv (i + 1), bk := D.nx } σ2 H2) (hd : ∀ σ H, Pv xs.length σ H → D.nx σ H) :
    ∃ W : Nat → Nat → St → Hp → Prop, (∃ m, W 0 m σ H) ∧ ∀ i m σ H, W i m σ H →
      ((Itl K a).stop i H ∧ D.nx σ H) ∨ ((Itl K a).go i H ∧ ∃ N : St → Hp → Prop, (∀ σ' H', N σ' H' → ∃ m', m' < m ∧ W (i + 1) m' σ' H') ∧ ∀ x H', (Itl K a).yld i H x H' → g x σ H' fun σ2 H2 => tb { D with nx := N, ct := N, bk := D.nx } σ2 H2) := by
  refine ⟨fun i m σ H => m = xs.length - i ∧ i ≤ xs.length ∧ Pv i σ H, ⟨xs.length, by simp, Nat.zero_le _, h0⟩, ?_⟩
  rintro i m σ H ⟨rfl, hi, p⟩
  have q := hl i σ H hi p
  by_cases hlt : i < xs.length
  · refine .inr ⟨⟨xs, xs[i], q, by simp [hlt]⟩, Pv (i + 1), fun σ' H' p' => ⟨xs.length - (i + 1), by omega, rfl, hlt, p'⟩, fun x H' y => ?_⟩
    obtain ⟨e, y⟩ := y
    subst e
    exact hs i x σ _ (y xs q) p
  · have e : i = xs.length := by omega
    subst e
    exact .inl ⟨⟨xs, q, Nat.le_refl _⟩, hd σ H p⟩
theorem while_by {c : TT} {tb : TS} {D : Ends} {σ : St} {H : Hp} (Pv : St → Hp → Prop) (μ : St → Hp → Nat) (h0 : Pv σ H)
    (hs : ∀ σ H, Pv σ H → c σ H fun b H1 => if b = true then tb { D with nx := fun σ' H' => Pv σ' H' ∧ μ σ' H' < μ σ H, ct := fun σ' H' => Pv σ' H' ∧ μ σ' H' < μ σ H, bk := D.nx } σ H1 else D.nx σ H1)
    (mono : ∀ σ H Q Q', (∀ b H1, Q b H1 → Q' b H1) → c σ H Q → c σ H Q') : tWhile c tb D σ H := by
  refine ⟨fun m σ H => m = μ σ H ∧ Pv σ H, ⟨_, rfl, h0⟩, ?_⟩
  rintro m σ H ⟨rfl, p⟩
  refine mono σ H _ _ (fun b H1 q => ?_) (hs σ H p)
  cases b with
  | true => exact ⟨_, fun σ' H' ⟨p', l⟩ => ⟨_, l, rfl, p'⟩, q⟩
  | false => exact q
end L2
namespace L2
open PySem PySem.Spec PyProof.Rows
abbrev R2 := V → V → Hp → VK → Prop
def OpR (X : Cx) (f : Value → Value → Sem Value) (r : R2) : Prop :=
  ∀ (pins : List (Addr × Obj)) (s : Shared) (σ : St) (H : Hp) (x y : V) (v u : Value) (Q : VK), Inv X pins σ H s → RelV x v → RelV y u → r x y H Q →
    wpAny (model X.prog X.w) X.A (f v u) (EP X pins σ Q) X.xe s
def UnR (X : Cx) (f : Value → Sem Value) (r : V → Hp → VK → Prop) : Prop :=
  ∀ (pins : List (Addr × Obj)) (s : Shared) (σ : St) (H : Hp) (x : V) (v : Value) (Q : VK), Inv X pins σ H s → RelV x v → r x H Q →
    wpAny (model X.prog X.w) X.A (f v) (EP X pins σ Q) X.xe s
def CallR (X : Cx) (f : Value) (r : List V → Hp → VK → Prop) : Prop :=
  ∀ (pins : List (Addr × Obj)) (s : Shared) (σ : St) (H : Hp) (xs : List V) (us : List Value) (Q : VK), Inv X pins σ H s → Vals xs us → r xs H Q →
    wpAny (model X.prog X.w) X.A (call f us) (EP X pins σ Q) X.xe s
def tOp (r : R2) (ta tb : TE) : TE := fun σ H Q => ta σ H fun x H1 => tb σ H1 fun y H2 => r x y H2 Q
def tUn (r : V → Hp → VK → Prop) (ta : TE) : TE := fun σ H Q => ta σ H fun x H1 => r x H1 Q
def rI (C : Int → Int → Prop) (g : Int → Int → V) : R2 := fun x y H Q => ∃ i j, x = .int i ∧ y = .int j ∧ C i j ∧ Q (g i j) H
def rI0 (g : Int → Int → V) : R2 := fun x y H Q => ∃ i j, x = .int i ∧ y = .int j ∧ Q (g i j) H
def rU (g : Int → V) : V → Hp → VK → Prop := fun x H Q => ∃ i, x = .int i ∧ Q (g i) H
section
variable {X : Cx} {a b c : Expr} {ta tb tc : TE} {pos : Pos}
theorem binT (ha : PE X a ta) (hb : PE X b tb) {pins : List (Addr × Obj)} {s : Shared} {σ : St} {H : Hp} {R : V → V → Hp → Prop} (I : Inv X pins σ H s)
    (h : ta σ H fun x H1 => tb σ H1 fun y H2 => R x y H2) {Q : Value → Shared → Prop} {f : Value → Value → Sem Value}
    (hf : ∀ v u s2 x y H2, Inv X pins σ H2 s2 → RelV x v → RelV y u → R x y H2 → wpAny (model X.prog X.w) X.A (f v u) Q X.xe s2) :
    wpAny (model X.prog X.w) X.A (eval a X.env) (fun v s₁ => wpAny (model X.prog X.w) X.A (eval b X.env) (fun u s₂ => wpAny (model X.prog X.w) X.A (f v u) Q X.xe s₂) X.xe s₁) X.xe s := by
  refine thn (ha pins s σ H _ I h) fun v s1 ⟨x, H1, I1, r1, q1⟩ => ?_
  refine thn (hb pins s1 σ H1 _ I1 q1) fun u s2 ⟨y, H2, I2, r2, q2⟩ => ?_
  exact hf v u s2 x y H2 I2 r1 r2 q2
theorem pe_op {op : Operator} {r : R2} (ho : OpR X (binaryOp op) r) (ha : PE X a ta) (hb : PE X b tb) : PE X (.BinOp a op b pos) (tOp r ta tb) := by
  intro pins s σ H Q I h
  exact wpAny_BinOp (binT ha hb I h fun v u s2 x y H2 I2 rx ry q => ho pins s2 σ H2 x y v u Q I2 rx ry q)
theorem pe_un {op : UnaryOp} {r : V → Hp → VK → Prop} (ho : UnR X (unaryOp op) r) (ha : PE X a ta) : PE X (.UnaryOp op a pos) (tUn r ta) := by
  intro pins s σ H Q I h
  exact UnaryOp_ (thn (ha pins s σ H _ I h) fun v s1 ⟨x, H1, I1, r1, q1⟩ => ho pins s1 σ H1 x v Q I1 r1 q1)
theorem opI {f : Value → Value → Sem Value} {C : Int → Int → Prop} {g : Int → Int → Int}
    (rule : ∀ (i j : Int) (t u : Tok) (s : Shared) (Q : Value → Shared → Prop) (E : Value → Shared → Prop), C i j → Q (.int (g i j) s.toks) { s with toks := s.toks + 1 } → wpAny (model X.prog X.w) X.A (f (.int i t) (.int j u)) Q E s) :
    OpR X f (rI C fun i j => .int (g i j)) := by
  intro pins s σ H x y v u Q I rx ry h
  obtain ⟨i, j, rfl, rfl, hc, q⟩ := h
  obtain ⟨t, rfl⟩ := rx
  obtain ⟨t', rfl⟩ := ry
  exact rule i j t t' s _ _ hc ⟨.int (g i j), H, I.tok _, ⟨_, rfl⟩, q⟩
theorem opI0 {f : Value → Value → Sem Value} {g : Int → Int → Int}
    (rule : ∀ (i j : Int) (t u : Tok) (s : Shared) (Q : Value → Shared → Prop) (E : Value → Shared → Prop), Q (.int (g i j) s.toks) { s with toks := s.toks + 1 } → wpAny (model X.prog X.w) X.A (f (.int i t) (.int j u)) Q E s) :
    OpR X f (rI0 fun i j => .int (g i j)) := by
  intro pins s σ H x y v u Q I rx ry h
  obtain ⟨i, j, rfl, rfl, q⟩ := h
  obtain ⟨t, rfl⟩ := rx
  obtain ⟨t', rfl⟩ := ry
  exact rule i j t t' s _ _ ⟨.int (g i j), H, I.tok _, ⟨_, rfl⟩, q⟩
theorem opB0 {f : Value → Value → Sem Value} {g : Int → Int → Bool}
    (rule : ∀ (i j : Int) (t u : Tok) (s : Shared) (Q : Value → Shared → Prop) (E : Value → Shared → Prop), Q (.bool (g i j)) s → wpAny (model X.prog X.w) X.A (f (.int i t) (.int j u)) Q E s) :
    OpR X f (rI0 fun i j => .bl (g i j)) := by
  intro pins s σ H x y v u Q I rx ry h
  obtain ⟨i, j, rfl, rfl, q⟩ := h
  obtain ⟨t, rfl⟩ := rx
  obtain ⟨t', rfl⟩ := ry
  exact rule i j t t' s _ _ ⟨.bl (g i j), H, I, rfl, q⟩
def CMul (i j : Int) : Prop := (-(2 ^ 64) < i ∧ i < 2 ^ 64) ∨ (-(2 ^ 64) < j ∧ j < 2 ^ 64)
theorem CMul.ok {i j : Int} (h : CMul i j) : IntMulOk i j := by
  rcases h with ⟨h1, h2⟩ | ⟨h1, h2⟩
  · exact .of_left (intBits_le_64 h1 h2)
  · exact .of_right (intBits_le_64 h1 h2)
theorem op_add : OpR X (binaryOp .Add) (rI0 fun i j => .int (i + j)) := opI0 fun _ _ _ _ _ _ _ q => add_int q
theorem op_sub : OpR X (binaryOp .Sub) (rI0 fun i j => .int (i - j)) := opI0 fun _ _ _ _ _ _ _ q => sub_int q
theorem op_mul : OpR X (binaryOp .Mult) (rI CMul fun i j => .int (i * j)) := opI fun _ _ _ _ _ _ _ hc q => mul_int q hc.ok
theorem op_mod : OpR X (binaryOp .Mod) (rI (fun _ j => 0 < j) fun i j => .int (i % j)) := opI fun i j _ _ _ _ _ hc q => by
  have h1 : (0 : Int) < j := hc
  exact mod_int' (by omega) (by rw [Int.fmod_eq_emod_of_nonneg i (by omega)]; exact q)
theorem op_or : OpR X (binaryOp .BitOr) (rI0 fun i j => .int (Builtin.bitOr i j)) := opI0 fun _ _ _ _ _ _ _ q => or_int q
theorem unI {f : Value → Sem Value} {g : Int → Int}
    (rule : ∀ (i : Int) (t : Tok) (s : Shared) (Q : Value → Shared → Prop) (E : Value → Shared → Prop), Q (.int (g i) s.toks) { s with toks := s.toks + 1 } → wpAny (model X.prog X.w) X.A (f (.int i t)) Q E s) :
    UnR X f (rU fun i => .int (g i)) := by
  intro pins s σ H x v Q I rx h
  obtain ⟨i, rfl, q⟩ := h
  obtain ⟨t, rfl⟩ := rx
  exact rule i t s _ _ ⟨.int (g i), H, I.tok _, ⟨_, rfl⟩, q⟩
theorem un_neg : UnR X (unaryOp .USub) (rU fun i => .int (-i)) := unI fun _ _ _ _ _ q => neg_int q
end
def scal : V → V → Bool
  | .non, .non => true | .non, .int _ => true | .int _, .non => true | .non, .bl _ => true | .bl _, .non => true | .non, .str _ => true | .str _, .non => true
  | .int _, .int _ => true | .bl _, .bl _ => true | .str _, .str _ => true | .byt _, .byt _ => true
  | .int _, .str _ => true | .str _, .int _ => true | .bl _, .str _ => true | .str _, .bl _ => true
  | _, _ => false
def rEq : R2 := fun x y H Q => scal x y = true ∧ Q (.bl (decide (x = y))) H
def rNe : R2 := fun x y H Q => scal x y = true ∧ Q (.bl (!decide (x = y))) H
theorem dec_int {i j : Int} : decide (V.int i = V.int j) = (i == j) := by
  rw [Bool.eq_iff_iff]
  simp
theorem dec_bl {i j : Bool} : decide (V.bl i = V.bl j) = (i == j) := by
  rw [Bool.eq_iff_iff]
  simp
theorem dec_str {i j : Str} : decide (V.str i = V.str j) = (i == j) := by
  rw [Bool.eq_iff_iff]
  simp
theorem dec_byt {i j : Array UInt8} : decide (V.byt i = V.byt j) = (i.toList == j.toList) := by
  rw [Bool.eq_iff_iff]
  cases i
  cases j
  simp
section
variable {X : Cx} {a b c : Expr} {ta tb tc : TE} {pos : Pos}
theorem fin_bl {pins : List (Addr × Obj)} {σ : St} {H : Hp} {s : Shared} {Q : VK} {k k' : Bool} (I : Inv X pins σ H s) (q : Q (.bl k) H) (e : k = k') : EP X pins σ Q (.bool k') s := by
  subst e
  exact ⟨.bl k, H, I, rfl, q⟩
theorem op_eq : OpR X (compareOp .Eq) rEq := by
  intro pins s σ H x y v u Q I rx ry h
  obtain ⟨hs, q⟩ := h
  cases x with
  | non =>
    cases rx
    cases y with
    | non => cases ry; exact PySem.EqNone.eq_none_none (fin_bl I q (by simp))
    | bl j => cases ry; exact PySem.EqNone.eq_none_bool (fin_bl I q (by simp))
    | int j => obtain ⟨t', rfl⟩ := ry; exact PySem.EqNone.eq_none_int (fin_bl I q (by simp))
    | str j => obtain ⟨t', rfl⟩ := ry; exact PySem.EqNone.eq_none_str (fin_bl I q (by simp))
    | _ => exact absurd (show false = true from hs) Bool.false_ne_true
  | bl i =>
    cases rx
    cases y with
    | non => cases ry; exact PySem.EqNone.eq_bool_none (fin_bl I q (by simp))
    | bl j => cases ry; exact eq_bool (fin_bl I q dec_bl)
    | str j => obtain ⟨t', rfl⟩ := ry; exact PySem.EqMixed.eq_bool_str (fin_bl I q (by simp))
    | _ => exact absurd (show false = true from hs) Bool.false_ne_true
  | int i =>
    obtain ⟨t, rfl⟩ := rx
    cases y with
    | non => cases ry; exact PySem.EqNone.eq_int_none (fin_bl I q (by simp))
    | int j => obtain ⟨t', rfl⟩ := ry; exact eq_int (fin_bl I q dec_int)
    | str j => obtain ⟨t', rfl⟩ := ry; exact PySem.EqMixed.eq_int_str (fin_bl I q (by simp))
    | _ => exact absurd (show false = true from hs) Bool.false_ne_true
  | str i =>
    obtain ⟨t, rfl⟩ := rx
    cases y with
    | non => cases ry; exact PySem.EqNone.eq_str_none (fin_bl I q (by simp))
    | bl j => cases ry; exact PySem.EqMixed.eq_str_bool (fin_bl I q (by simp))
    | int j => obtain ⟨t', rfl⟩ := ry; exact PySem.EqMixed.eq_str_int (fin_bl I q (by simp))
    | str j => obtain ⟨t', rfl⟩ := ry; exact eq_str (fin_bl I q dec_str)
    | _ => exact absurd (show false = true from hs) Bool.false_ne_true
  | byt i =>
    obtain ⟨t, rfl⟩ := rx
    cases y with
    | byt j => obtain ⟨t', rfl⟩ := ry; exact PySem.W.eq_bytes (fin_bl I q dec_byt)
    | _ => exact absurd (show false = true from hs) Bool.false_ne_true
  | _ => cases y <;> exact absurd (show false = true from hs) Bool.false_ne_true
theorem op_ne : OpR X (compareOp .NotEq) rNe := by
  intro pins s σ H x y v u Q I rx ry h
  obtain ⟨hs, q⟩ := h
  cases x with
  | non =>
    cases rx
    cases y with
    | non => cases ry; exact PySem.EqNone.ne_none_none (fin_bl I q (by simp))
    | bl j => cases ry; exact PySem.EqNone.ne_none_bool (fin_bl I q (by simp))
    | int j => obtain ⟨t', rfl⟩ := ry; exact PySem.EqNone.ne_none_int (fin_bl I q (by simp))
    | str j => obtain ⟨t', rfl⟩ := ry; exact PySem.EqNone.ne_none_str (fin_bl I q (by simp))
    | _ => exact absurd (show false = true from hs) Bool.false_ne_true
  | bl i =>
    cases rx
    cases y with
    | non => cases ry; exact PySem.EqNone.ne_bool_none (fin_bl I q (by simp))
    | bl j => cases ry; exact ne_bool (fin_bl I q (congrArg not dec_bl))
    | str j => obtain ⟨t', rfl⟩ := ry; exact PySem.EqMixed.ne_bool_str (fin_bl I q (by simp))
    | _ => exact absurd (show false = true from hs) Bool.false_ne_true
  | int i =>
    obtain ⟨t, rfl⟩ := rx
    cases y with
    | non => cases ry; exact PySem.EqNone.ne_int_none (fin_bl I q (by simp))
    | int j => obtain ⟨t', rfl⟩ := ry; exact ne_int (fin_bl I q (congrArg not dec_int))
    | str j => obtain ⟨t', rfl⟩ := ry; exact PySem.EqMixed.ne_int_str (fin_bl I q (by simp))
    | _ => exact absurd (show false = true from hs) Bool.false_ne_true
  | str i =>
    obtain ⟨t, rfl⟩ := rx
    cases y with
    | non => cases ry; exact PySem.EqNone.ne_str_none (fin_bl I q (by simp))
    | bl j => cases ry; exact PySem.EqMixed.ne_str_bool (fin_bl I q (by simp))
    | int j => obtain ⟨t', rfl⟩ := ry; exact PySem.EqMixed.ne_str_int (fin_bl I q (by simp))
    | str j => obtain ⟨t', rfl⟩ := ry; exact ne_str (fin_bl I q (congrArg not dec_str))
    | _ => exact absurd (show false = true from hs) Bool.false_ne_true
  | byt i =>
    obtain ⟨t, rfl⟩ := rx
    cases y with
    | byt j => obtain ⟨t', rfl⟩ := ry; exact PySem.W.ne_bytes (fin_bl I q (congrArg not dec_byt))
    | _ => exact absurd (show false = true from hs) Bool.false_ne_true
  | _ => cases y <;> exact absurd (show false = true from hs) Bool.false_ne_true
theorem op_lt : OpR X (compareOp .Lt) (rI0 fun i j => .bl (decide (i < j))) := opB0 fun _ _ _ _ _ _ _ q => lt_int q
theorem op_gt : OpR X (compareOp .Gt) (rI0 fun i j => .bl (decide (j < i))) := opB0 fun _ _ _ _ _ _ _ q => gt_int q
theorem op_ge : OpR X (compareOp .GtE) (rI0 fun i j => .bl (decide (j ≤ i))) := opB0 fun _ _ _ _ _ _ _ q => ge_int q
theorem nomark (b : Expr) {op : CmpOp} (h : op ≠ .In := by decide) (h2 : op ≠ .NotIn := by decide) : behindInMarks op b = false := by
  have e1 : (op == CmpOp.In) = false := by cases op <;> first | rfl | exact absurd rfl h
  have e2 : (op == CmpOp.NotIn) = false := by cases op <;> first | rfl | exact absurd rfl h2
  cases b <;> simp [behindInMarks, e1, e2]
theorem pe_cmpR {op : CmpOp} {r : R2} (ho : OpR X (compareOp op) r) (ha : PE X a ta) (hb : PE X b tb) (hm : behindInMarks op b = false) : PE X (.Compare a [op] [b] pos) (tOp r ta tb) := by
  intro pins s σ H Q I h
  exact wpAny_Compare1 (binT ha hb I h fun v u s2 x y H2 I2 rx ry q => ho pins s2 σ H2 x y v u Q I2 rx ry q) hm
def tTest (t : TE) : TT := fun σ H Q => t σ H fun x H' => ∃ k, x = .bl k ∧ Q k H'
theorem pt_cmpR {op : CmpOp} {r : R2} (ho : OpR X (compareOp op) r) (ha : PE X a ta) (hb : PE X b tb) (hm : behindInMarks op b = false) : PT X (.Compare a [op] [b] pos) (tTest (tOp r ta tb)) := by
  intro pins s σ H Q I h
  refine wpAny_isTrue_Compare1 (thn (ha pins s σ H _ I h) fun v s1 ⟨x, H1, I1, r1, q1⟩ => thn (hb pins s1 σ H1 _ I1 q1) fun u s2 ⟨y, H2, I2, r2, q2⟩ =>
    thn (ho pins s2 σ H2 x y v u _ I2 r1 r2 q2) fun c s3 ⟨z, H3, I3, r3, k, e, q3⟩ => ?_) hm
  subst e
  cases r3
  exact wpAny_truthy_bool ⟨H3, I3, q3⟩
theorem line63 : (sizeLine : Nat) < 2 ^ 63 := by rw [sizeLine_eq]; decide
theorem vals1 {x : V} {us : List Value} (r : Vals [x] us) : ∃ u, us = [u] ∧ RelV x u := by
  cases r with
  | cons r1 r2 => cases r2; exact ⟨_, rfl, r1⟩
theorem vals2 {x y : V} {us : List Value} (r : Vals [x, y] us) : ∃ u w', us = [u, w'] ∧ RelV x u ∧ RelV y w' := by
  cases r with
  | cons r1 r2 =>
    cases r2 with
    | cons r3 r4 => cases r4; exact ⟨_, _, rfl, r1, r3⟩
theorem call_min2 (hc : X.calm = true) : CallR X (.builtin "min") (fun xs H Q => ∃ i j, xs = [.int i, .int j] ∧ Q (.int (if j < i then j else i)) H) := by
  intro pins s σ H xs us Q I r h
  obtain ⟨i, j, rfl, q⟩ := h
  obtain ⟨u, w', rfl, ⟨t, rfl⟩, ⟨t', rfl⟩⟩ := vals2 r
  refine min_two_ints (I.ok.hd hc) fun h' tk k => ⟨_, H, I.kept k, ?_, q⟩
  by_cases hj : j < i
  · rw [if_pos hj, if_pos hj]; exact ⟨_, rfl⟩
  · rw [if_neg hj, if_neg hj]; exact ⟨_, rfl⟩
end
end L2
namespace L2
open PySem PySem.Spec PyProof.Rows
structure ObjM (h : Heap) (x dx C : Addr) (mA : Str → Option Value) : Prop where
  obj : h.get? x = some (PySem.W.instObj C dx)
  ns : h.Ns1 dx mA
  ne : dx ≠ x
theorem lookIn_ns {h : Heap} {dx : Addr} {mA : Str → Option Value} (n : h.Ns1 dx mA) : ∃ od, h.get? dx = some od ∧ ∀ name, PySem.W.lookIn name od = some (mA name) := by
  obtain ⟨o, es, ep, ho, hd, hk, _, hm⟩ := n
  refine ⟨o, ho, fun name => ?_⟩
  have e := hm name
  unfold nsFind findBy at e
  rw [← Array.find?_toList] at e
  unfold PySem.W.lookIn
  rw [hd]
  dsimp only
  split
  · rename_i y q
    rw [q] at e
    exact congrArg some e
  · rename_i q
    rw [q] at e
    have a : es.toList.any (·.refKey) = false := by
      rw [List.any_eq_false]
      intro y hy
      obtain ⟨z, t, hkey⟩ := hk y (Array.mem_toList_iff.mp hy)
      simp [DictEntry.refKey, hkey]
    have a' : ¬ es.toList.any (·.refKey) = true := by rw [a]; exact Bool.false_ne_true
    rw [if_neg a']
    exact congrArg some e
theorem ObjM.look {h : Heap} {x dx C : Addr} {mA : Str → Option Value} (I : ObjM h x dx C mA) : ∃ od, PySem.W.InstAt h x (PySem.W.instObj C dx) C (some od) ∧ ∀ name, PySem.W.lookIn name od = some (mA name) :=
  let ⟨od, ho, hl⟩ := lookIn_ns I.ns
  ⟨od, ⟨I.obj, rfl, rfl, ho⟩, hl⟩
section
variable {prog : Program} {w : World} {A : Around} {E : Value → Shared → Prop} {s : Shared} {K : PySem.W.Frag} {x dx C f : Addr} {mA : Str → Option Value} {name : Str} {v : Value}
theorem get_map {expr : Bool} {Q : Value → Shared → Prop} (X : K.In s.heap) (I : ObjM s.heap x dx C mA) (hg : PySem.W.plainGet K C name = true) (hh : PySem.W.hasDictIn K C = true)
    (ha : PySem.W.findIn K (.ref C) name = some none) (hv : mA name = some v) (hv' : PySem.W.handedIn v = true) (h : Q v { s with toks := s.toks + 1 }) :
    wpAny (model prog w) A (getAttr (.ref x) name expr) Q E s := by
  obtain ⟨od, J, hl⟩ := I.look
  exact PySem.W.get_value X J (PySem.W.plainGet_of hg).1 (PySem.W.findObj_own hh ha rfl (by rw [hl, hv])) hv' h
theorem get_meth {pl : Sem Bool} {Q : Value × List Value → Shared → Prop} (X : K.In s.heap) (I : ObjM s.heap x dx C mA) (hg : PySem.W.plainGet K C name = true)
    (hf : PySem.W.findIn K (.ref C) name = some (some (.ref f))) (ht : PySem.W.isFn K (.ref f) = true) (hv : mA name = none) (h : Q (.ref f, [.ref x]) s) :
    wpAny (model prog w) A (getMethod (.ref x) name pl) Q E s := by
  obtain ⟨od, J, hl⟩ := I.look
  exact PySem.W.method_fn X J (PySem.W.plainGet_of hg).1 (PySem.W.plainGet_of hg).2 hf (beq_iff_eq.mp ht) (by show (PySem.W.lookIn name od).map (·.isSome) = some false; rw [hl, hv]; rfl) h
theorem set_map {ns : List Str} {Q : Unit → Shared → Prop} (X : K.In s.heap) (I : ObjM s.heap x dx C mA)
    (hs : PySem.W.findIn K (.ref C) "__setattr__" = some (some (.builtin "object.__setattr__"))) (hp : PySem.W.plainOver K C = true) (ht : PySem.W.takerIn K C name = some none) (hh : PySem.W.hasDictIn K C = true)
    (hw : PySem.Within mA ns) (hsz : ns.length ≤ sizeLine)
    (h : ∀ h', ObjM h' x dx C (fun y => if y = name then some v else mA y) → Heap.SameBut dx s.heap h' → Q () { s with heap := h', toks := s.toks + 2 }) :
    wpAny (model prog w) A (setAttr (.ref x) name v) Q E s := by
  obtain ⟨od, J, hl⟩ := I.look
  refine PySem.W.set_plain X J hs (PySem.W.osa_open (s := { s with toks := s.toks + 1 }) (r := none) X J hp ht fun b => ?_)
  obtain ⟨cd, hc, hd'⟩ := PySem.W.any_some hh
  have hx : s.heap.get? x = some ⟨.ref C, some dx, .plain, #[]⟩ := I.obj
  refine wpAny_bind (wpAny_pure (wpAny_bind (wpAny_bind (wpAny_loadPart hx (wpAny_bind (PySem.W.Looks.here (s := { s with toks := s.toks + 1 }) (PySem.W.looks_clsIn X hc) ?_))))))
  rw [hd']
  refine wpAny_pure (a := some dx) (wpAny_bind (wpAny_pure (wpAny_bind ?_)))
  refine wpAny_nsSet1 (s := { s with toks := s.toks + 1 }) I.ns fun h' hn2 hs2 => ?_
  obtain ⟨oD, esD, epD, hoD, hdD, hcD⟩ := hn2.count (PySem.Within.cons name v hw)
  refine wpAny_bind (wpAny_lookBehind hoD (by rw [hdD]; exact pastItsLine_dict (Nat.le_trans hcD (by rw [List.length_cons]; omega))) ?_)
  exact wpAny_pure (h _ ⟨(hs2.2 _ (Ne.symm I.ne)).trans I.obj, hn2, I.ne⟩ hs2)
theorem make_map {R : Result → Shared → Prop} {vs : List Value} {kw : List (Str × Value)} (X : K.In s.heap) (hm : PySem.W.makesIn K C = true)
    (hi : PySem.W.findIn K (.ref C) "__init__" = some (some (.ref f))) (hf : PySem.W.typeIn K (.ref f) = some (.type "function"))
    (h : codeAny (model prog w) (A.under (.builtin "type.__call__" ⟨.ref C :: vs, kw⟩)) (.call (.ref f) ⟨.ref (s.heap.objs.size + 1) :: vs, kw⟩) (PySem.W.InitBack (s.heap.objs.size + 1) R)
      { s with heap := (s.heap.push PySem.W.emptyDict).push (PySem.W.instObj C s.heap.objs.size) }) :
    codeAny (model prog w) A (.call (.ref C) ⟨vs, kw⟩) R s := by
  obtain ⟨hh, g, d, t, os⟩ := s
  exact PySem.W.make_core (PySem.W.makes_of X hm) (PySem.W.looks_findIn X hi) (fun self => PySem.W.bind_fn X self hf) (.inl rfl) h
end
def putF (f : Str) (v : V) : List (Str × V) → List (Str × V)
  | [] => [(f, v)]
  | (g, x) :: r => if g = f then (g, v) :: r else (g, x) :: putF f v r
theorem lookup_putF (f g : Str) (v : V) : ∀ fs : List (Str × V), (putF f v fs).lookup g = if g = f then some v else fs.lookup g
  | [] => by
    show List.lookup g [(f, v)] = _
    by_cases h : g = f
    · have hb : (g == f) = true := beq_iff_eq.mpr h
      simp only [List.lookup, hb, if_pos h]
    · have hb : (g == f) = false := beq_eq_false_iff_ne.mpr h
      simp only [List.lookup, hb, if_neg h]
  | (k, x) :: r => by
    have ih := lookup_putF f g v r
    rw [show putF f v ((k, x) :: r) = (if k = f then (k, v) :: r else (k, x) :: putF f v r) from rfl]
    by_cases hk : k = f
    · rw [if_pos hk]
      by_cases h : g = k
      · have hb : (g == k) = true := beq_iff_eq.mpr h
        simp only [List.lookup, hb, if_pos (h.trans hk)]
      · have hb : (g == k) = false := beq_eq_false_iff_ne.mpr h
        simp only [List.lookup, hb, if_neg (fun e : g = f => h (e.trans hk.symm))]
    · rw [if_neg hk]
      by_cases h : g = k
      · have hb : (g == k) = true := beq_iff_eq.mpr h
        simp only [List.lookup, hb, if_neg (fun e : g = f => hk (h.symm.trans e))]
      · have hb : (g == k) = false := beq_eq_false_iff_ne.mpr h
        simp only [List.lookup, hb]
        exact ih
theorem keys_putF (f : Str) (v : V) : ∀ fs : List (Str × V), f ∈ (putF f v fs).map (·.1) ∧ ∀ g, g ∈ fs.map (·.1) → g ∈ (putF f v fs).map (·.1)
  | [] => ⟨by simp [putF], fun g h => by simp at h⟩
  | (k, x) :: r => by
    obtain ⟨i1, i2⟩ := keys_putF f v r
    rw [show putF f v ((k, x) :: r) = (if k = f then (k, v) :: r else (k, x) :: putF f v r) from rfl]
    by_cases hk : k = f
    · rw [if_pos hk]
      subst hk
      exact ⟨by simp, fun g h => by simpa using h⟩
    · rw [if_neg hk]
      refine ⟨?_, fun g h => ?_⟩
      · rw [List.map_cons]
        exact List.mem_cons_of_mem _ i1
      · rw [List.map_cons] at h ⊢
        rcases List.mem_cons.mp h with e | e
        · exact List.mem_cons.mpr (.inl e)
        · exact List.mem_cons_of_mem _ (i2 g e)
theorem length_putF (f : Str) (v : V) : ∀ fs : List (Str × V), (putF f v fs).length ≤ fs.length + 1
  | [] => by simp [putF]
  | (k, x) :: r => by
    have ih := length_putF f v r
    rw [show putF f v ((k, x) :: r) = (if k = f then (k, v) :: r else (k, x) :: putF f v r) from rfl]
    by_cases hk : k = f
    · rw [if_pos hk, List.length_cons, List.length_cons]; omega
    · rw [if_neg hk, List.length_cons, List.length_cons]; omega
theorem RelO.some_of {v : V} {o : Option Value} (r : RelO (some v) o) : ∃ u, o = some u ∧ RelV v u := by
  cases o with
  | none => exact (show False from r).elim
  | some u => exact ⟨u, rfl, r⟩
theorem RelO.none_of {o : Option Value} (r : RelO none o) : o = none := by
  cases o with
  | none => rfl
  | some u => exact (show False from r).elim
theorem handed_of {v : V} {u : Value} (r : RelV v u) : PySem.W.handedIn u = true := by
  cases v with
  | non => cases (show u = Value.none from r); rfl
  | bl b => cases (show u = Value.bool b from r); rfl
  | int i => obtain ⟨t, e⟩ := (show ∃ t, u = Value.int i t from r); cases e; rfl
  | str x => obtain ⟨t, e⟩ := (show ∃ t, u = Value.str x t from r); cases e; rfl
  | byt b => obtain ⟨t, e⟩ := (show ∃ t, u = Value.bytes b t from r); cases e; rfl
  | flt b => obtain ⟨t, e⟩ := (show ∃ t, u = Value.float b t from r); cases e; rfl
  | ref a => cases (show u = Value.ref a from r); rfl
  | ty n => cases (show u = Value.type n from r); rfl
section
variable {P : Program} {w : World} {H H' : Hp} {h h' : Heap} {a C dx : Addr} {fs fs' : List (Str × V)}
theorem ins_get (hok : HOk P w H h) (e : H a = some (.ins C dx fs)) : ∃ mA, ObjM h a dx C mA ∧ (∀ f, RelO (fs.lookup f) (mA f)) ∧ PySem.Within mA (fs.map (·.1)) ∧ fs.length ≤ 1000 ∧ H dx = some (.own a) := by
  obtain ⟨d, z, ne, ob, mA, n, r, q⟩ := (show ObjOk P w H h a (.ins C dx fs) from hok a _ e)
  exact ⟨mA, ⟨ob, n, ne⟩, r, q, z, d⟩
end
structure Cls (K : PySem.W.Frag) (C : Addr) : Prop where
  pg : PySem.W.plainGet K C Str.empty = true
  hd : PySem.W.hasDictIn K C = true
  po : PySem.W.plainOver K C = true
  sa : PySem.W.findIn K (.ref C) "__setattr__" = some (some (.builtin "object.__setattr__"))
theorem Cls.get {K : PySem.W.Frag} {C : Addr} (c : Cls K C) (f : Str) : PySem.W.plainGet K C f = true := c.pg
def NoAttr (K : PySem.W.Frag) (C : Addr) (f : Str) : Prop := PySem.W.findIn K (.ref C) f = some none
theorem NoAttr.taker {K : PySem.W.Frag} {C : Addr} {f : Str} (n : NoAttr K C f) : PySem.W.takerIn K C f = some none := by
  unfold PySem.W.takerIn
  rw [show PySem.W.findIn K (.ref C) f = some none from n]
  rfl
structure Meth (K : PySem.W.Frag) (C : Addr) (m : Str) (f : Addr) : Prop where
  at_ : PySem.W.findIn K (.ref C) m = some (some (.ref f))
  fn : PySem.W.isFn K (.ref f) = true
  kp : PySem.W.keepIn K (.ref f) = true
section
variable {X : Cx} {pins : List (Addr × Obj)} {σ : St} {H : Hp} {s : Shared} {a C dx : Addr} {fs : List (Str × V)} {f : Str} {v : V} {A : Around} {E : Value → Shared → Prop}
theorem getattr_ok {b : Bool} {Q : Value → Shared → Prop} (I : Inv X pins σ H s) (e : H a = some (.ins C dx fs)) (c : Cls X.K C) (n : NoAttr X.K C f) (l : fs.lookup f = some v)
    (h : ∀ u s', Inv X pins σ H s' → RelV v u → Q u s') : wpAny (model X.prog X.w) A (getAttr (.ref a) f b) Q E s := by
  obtain ⟨mA, O, r, _, _, _⟩ := ins_get I.hok e
  obtain ⟨u, hu, ru⟩ := RelO.some_of (v := v) (o := mA f) (by rw [← l]; exact r f)
  exact get_map I.kIn O (c.get f) c.hd n hu (handed_of ru) (h u _ (I.tok _) ru)
theorem getmeth_ok {m : Str} {g : Addr} {pl : Sem Bool} {Q : Value × List Value → Shared → Prop} (I : Inv X pins σ H s) (e : H a = some (.ins C dx fs)) (c : Cls X.K C) (k : Meth X.K C m g) (l : fs.lookup m = none)
    (h : Q (.ref g, [.ref a]) s) : wpAny (model X.prog X.w) A (getMethod (.ref a) m pl) Q E s := by
  obtain ⟨mA, O, r, _, _, _⟩ := ins_get I.hok e
  have hn : mA m = none := RelO.none_of (by rw [← l]; exact r m)
  exact get_meth I.kIn O (c.get m) k.at_ k.fn hn h
theorem setattr_ok {y : V} {u : Value} {Q : Unit → Shared → Prop} (I : Inv X pins σ H s) (e : H a = some (.ins C dx fs)) (c : Cls X.K C) (n : NoAttr X.K C f) (hl : fs.length < 1000) (ry : RelV y u)
    (h : ∀ s', Inv X pins σ (upd H a (.ins C dx (putF f y fs))) s' → Q () s') : wpAny (model X.prog X.w) A (setAttr (.ref a) f u) Q E s := by
  obtain ⟨mA, O, r, wi, _, ho⟩ := ins_get I.hok e
  have hz : (fs.map (·.1)).length ≤ sizeLine := by rw [List.length_map, sizeLine_eq]; omega
  refine set_map I.kIn O c.sa c.po n.taker c.hd wi hz fun h' O' sb => h _ ?_
  have hd : ∃ o, h'.get? dx = some o := let ⟨o, _, _, e', _⟩ := O'.ns; ⟨o, e'⟩
  refine I.write (x := a) (e := dx) (by rw [e]; exact True.intro) (.inr ho) (fun b q hb z => (sb.2 b hb).trans z) hd ?_
  refine ⟨by rw [upd_ne O.ne]; exact ho, ?_, O.ne, O'.obj, _, O'.ns, fun g => ?_, fun g hg => ?_⟩
  · have := length_putF f y fs; omega
  · show RelO ((putF f y fs).lookup g) (if g = f then some u else mA g)
    rw [lookup_putF]
    by_cases q : g = f
    · rw [if_pos q, if_pos q]; exact ry
    · rw [if_neg q, if_neg q]; exact r g
  · by_cases q : g = f
    · rw [q]; exact (keys_putF f y fs).1
    · refine (keys_putF f y fs).2 g (wi g fun z => hg ?_)
      show (if g = f then some u else mA g) = none
      rw [if_neg q]; exact z
theorem Inv.made (I : Inv X pins σ H s) : Inv X pins σ (upd (upd H s.heap.objs.size (.own (s.heap.objs.size + 1))) (s.heap.objs.size + 1) (.ins C s.heap.objs.size []))
    { s with heap := (s.heap.push PySem.W.emptyDict).push (PySem.W.instObj C s.heap.objs.size) } := by
  have e1 : (s.heap.push PySem.W.emptyDict).get? s.heap.objs.size = some PySem.W.emptyDict := Heap.get?_push_size s.heap rfl
  have e2 : ((s.heap.push PySem.W.emptyDict).push (PySem.W.instObj C s.heap.objs.size)).get? (s.heap.objs.size + 1) = some (PySem.W.instObj C s.heap.objs.size) := by
    have := Heap.get?_push_size (s.heap.push PySem.W.emptyDict) (o := PySem.W.instObj C s.heap.objs.size) rfl
    rwa [Heap.size_push] at this
  have e3 : (s.heap.push PySem.W.emptyDict).Ns s.heap.objs.size (fun _ => none) := ⟨PySem.W.emptyDict, #[], _, e1, rfl, (fun e he => absurd he (by simp)), fun _ => rfl⟩
  have I1 := I.laid (a := s.heap.objs.size) (o := .own (s.heap.objs.size + 1)) (h' := s.heap.push PySem.W.emptyDict) (t' := s.toks) (fun b u q => Heap.get?_push_of_some _ q) (Nat.le_refl _) ⟨_, e1⟩
  refine I1.laid (a := s.heap.objs.size + 1) (o := .ins C s.heap.objs.size []) (t' := s.toks) (fun b u q => Heap.get?_push_of_some _ q) (Nat.le_of_eq (Heap.size_push _ _)) ?_
  have ne : s.heap.objs.size ≠ s.heap.objs.size + 1 := Nat.ne_of_lt (Nat.lt_succ_self _)
  refine ⟨by rw [upd_ne ne, upd_same], Nat.zero_le _, ne, e2, fun _ => none, (Heap.Ns1.of_empty e3).at fun o q => Heap.get?_push_of_some _ q, fun _ => True.intro, fun y hy => absurd rfl hy⟩
theorem attr_of {prog : Program} {w : World} {env : Env} {e : Expr} {f : Str} {pos : Pos} {s : Shared} {Q : Value → Shared → Prop} (hb : attributeBase e f env (eval e env) = eval e env)
    (h : wpAny (model prog w) A (eval e env) (fun o s₁ => wpAny (model prog w) A (getAttr o f true) Q E s₁) E s) : wpAny (model prog w) A (eval (.Attribute e f pos) env) Q E s :=
  Attribute_any_ h (by rw [arm_eval_Attribute, hb])
end
def tFld (K : PySem.W.Frag) (ta : TE) (f : Str) : TE := fun σ H Q => ta σ H fun x H1 => ∃ a C dx fs v, x = .ref a ∧ H1 a = some (.ins C dx fs) ∧ Cls K C ∧ NoAttr K C f ∧ fs.lookup f = some v ∧ Q v H1
def sFld (K : PySem.W.Frag) (ta tv : TE) (f : Str) : TS := fun D σ H => tv σ H fun y H1 => ta σ H1 fun x H2 => ∃ a C dx fs, x = .ref a ∧ H2 a = some (.ins C dx fs) ∧ Cls K C ∧ NoAttr K C f ∧ fs.length < 1000 ∧
  D.nx σ (upd H2 a (.ins C dx (putF f y fs)))
section
variable {X : Cx} {o e value : Expr} {f : Str} {pos pos' tpos : Pos} {ta tv : TE}
theorem pe_fld (he : PE X e ta) (hb : attributeBase e f X.env (eval e X.env) = eval e X.env) : PE X (.Attribute e f pos) (tFld X.K ta f) := by
  intro pins s σ H Q I h
  refine attr_of hb (thn (he pins s σ H _ I h) fun u s1 ⟨x, H1, I1, rx, a, C, dx, fs, v, ex, ea, c, n, l, q⟩ => ?_)
  subst ex
  obtain rfl : u = Value.ref a := rx
  exact getattr_ok I1 ea c n l fun u' s2 I2 ru => ⟨v, H1, I2, ru, q⟩
theorem ps_fld (ha : PE X o ta) (hv : PE X value tv) (hs : swapsWith value (some (.Attribute o f pos')) pos.line X.env = pure false) : PS X (.Assign [.Attribute o f pos'] value pos) (sFld X.K ta tv f) := by
  intro pins s σ H D I h
  refine plainObj_wpAny_Assign_Attribute (thn (hv pins s σ H _ I h) fun u s1 ⟨y, H1, I1, ry, q⟩ => thn (ha pins s1 σ H1 _ I1 q) fun ov s2 ⟨x, H2, I2, rx, a, C, dx, fs, ex, ea, c, n, l, q2⟩ => ?_) hs
  subst ex
  obtain rfl : ov = Value.ref a := rx
  exact setattr_ok I2 ea c n l ry fun s3 I3 => ⟨σ, _, I3, q2⟩
end
section
variable {X : Cx} {pins : List (Addr × Obj)} {σ : St} {H : Hp} {s : Shared} {A : Around} {E : Value → Shared → Prop} {Q : Value → Shared → Prop} {c : Value} {b : Bool}
end
end L2
namespace L2
open PySem PySem.Spec PyProof.Rows
structure Room (k : Nat) (A : Around) : Prop where
  hd : A.handled = none
  dp : A.depth + 3 * k + 5 < recursionLimit
  un : A.units + 16 * k + 200 < cLine
theorem Room.mono {j k : Nat} {A : Around} (r : Room k A) (h : j ≤ k) : Room j A := ⟨r.hd, by have := r.dp; omega, by have := r.un; omega⟩
theorem Room.deeper {k : Nat} {A : Around} (r : Room (k + 1) A) (env : Env) : Room k (A.deeper env) :=
  ⟨r.hd, by have := r.dp; show A.depth + 1 + 3 * k + 5 < _; omega, by have := r.un; show A.units + 3 + 16 * k + 200 < _; omega⟩
theorem make_depth {A : Around} {C : Addr} {us : List Value} {kw : List (Str × Value)} : (A.under (.builtin "type.__call__" ⟨.ref C :: us, kw⟩)).depth = A.depth + 1 := by
  first | rfl | simp [Around.under, Code.weight, Code.isCreation, Code.isGuard, Code.isCaller, Code.frames, Code.isFrame, guardIds]
theorem make_units {A : Around} {C : Addr} {us : List Value} {kw : List (Str × Value)} : (A.under (.builtin "type.__call__" ⟨.ref C :: us, kw⟩)).units = A.units + 1 := by
  first | rfl | simp [Around.under, Code.cUnits, Code.frames, Code.isFrame]
theorem Room.make {k : Nat} {A : Around} (r : Room (k + 1) A) (C : Addr) (us : List Value) (kw : List (Str × Value)) : Room k (A.under (.builtin "type.__call__" ⟨.ref C :: us, kw⟩)) :=
  ⟨r.hd, by have := r.dp; rw [make_depth]; omega, by have := r.un; rw [make_units]; omega⟩
theorem Room.depth {k : Nat} {A : Around} (r : Room k A) : A.depth < recursionLimit := by have := r.dp; omega
theorem Room.units {k : Nat} {A : Around} (r : Room k A) : A.units + 64 < cLine := by have := r.un; omega
def tNil : TA := fun _ H Q => Q [] H
def tCons (ta : TE) (tr : TA) : TA := fun σ H Q => ta σ H fun x H1 => tr σ H1 fun xs H2 => Q (x :: xs) H2
section
variable {X : Cx} {e : Expr} {es : List Expr} {te : TE} {t : TA} {pos : Pos}
theorem pa_nil : PA X [] tNil := fun _ _ _ _ H Q I h => Calls.spliced_nil ⟨[], H, I, .nil, h⟩
theorem pa_cons (ha : PE X e te) (hr : PA X es t) (hs : starEach (e :: es) X.env = (false, eval e X.env) :: starEach es X.env := by rfl) : PA X (e :: es) (tCons te t) := by
  intro pos pins s σ H Q I h
  rw [hs]
  show wpAny _ _ (spliced ((false, eval e X.env) :: backTo pos (starEach es X.env))) _ _ s
  refine Calls.spliced_cons (thn (ha pins s σ H _ I h) fun u s1 ⟨x, H1, I1, r1, q1⟩ => ?_)
  exact thn (hr pos pins s1 σ H1 _ I1 q1) fun us s2 ⟨xs, H2, I2, r2, q2⟩ => ⟨x :: xs, H2, I2, .cons r1 r2, q2⟩
def tLst (t : TA) : TE := fun σ H Q => t σ H fun xs H1 => xs.length ≤ sizeLine ∧ ∀ p, H1 p = none → Q (.ref p) (upd H1 p (.lst xs))
theorem pe_lst (h : PA X es t) : PE X (.List es pos) (tLst t) := by
  intro pins s σ H Q I hq
  refine wpAny_List_spliced (thn (h pos pins s σ H _ I hq) fun us s1 ⟨xs, H1, I1, r, z, q⟩ => ⟨by rw [← r.length]; exact z, ?_⟩)
  have hf : H1 s1.heap.objs.size = none := I1.hok.fresh (Nat.le_refl _)
  refine ⟨.ref s1.heap.objs.size, upd H1 s1.heap.objs.size (.lst xs), I1.laid (t' := s1.toks) (fun b u e => Heap.get?_push_of_some _ e) (Nat.le_refl _) ?_, rfl, q _ hf⟩
  exact ⟨z, us, 0, r, Heap.get?_push_size _ rfl⟩
end
abbrev Sp := List V → Hp → VK → XK → Prop
abbrev CXT := List Env → Hp → Shared → XK → Value → Shared → Prop
structure Env0 (P : Program) (w : World) (K : PySem.W.Frag) (mg : Str → Option Value) (base : Heap) (A : Around) (outer : List Env) (s : Shared) (H : Hp) : Prop where
  frames : A.frames = some outer
  mod : Mod K mg base
  bs : ∀ b o, base.get? b = some o → s.heap.get? b = some o ∧ H b = none
  bsz : base.objs.size ≤ s.heap.objs.size
  funs : s.heap.FunFrames base outer
  frf : ∀ b ∈ frs outer, H b = none
  hok : HOk P w H s.heap
  bare : AllBare s.gens
def CE (outer : List Env) (P : Program) (w : World) (H : Hp) (s : Shared) (Q : VK) (u : Value) (s' : Shared) : Prop :=
  ∃ v H', s'.os = s.os ∧ AllBare s'.gens ∧ Un (frs outer) [] H H' s.heap s'.heap ∧ HOk P w H' s'.heap ∧ RelV v u ∧ Q v H'
def CR (CX : CXT) (outer : List Env) (P : Program) (w : World) (H : Hp) (s : Shared) (Q : VK) (E : XK) (r : Result) (s' : Shared) : Prop :=
  match r with
  | .ok (.ret u) => CE outer P w H s Q u s'
  | .ok _ => False
  | .error e => CX outer H s E e s'
structure FnOk (P : Program) (w : World) (K : PySem.W.Frag) (mg : Str → Option Value) (base : Heap) (CX : CXT) (k : Nat) (f : Addr) (fd : FuncData) (ps : List Str) (sp : Sp) : Prop where
  len : ∀ vs H Q E, sp vs H Q E → vs.length = ps.length
  run : ∀ (A : Around) (outer : List Env) (s : Shared) (H : Hp) (args : Args) (us : List Value) (vs : List V) (Q : VK) (E : XK), Room k A → Env0 P w K mg base A outer s H → BindsTo s fd args (ps.zip us) → Vals vs us → sp vs H Q E →
    codeAny (model P w) A (.call (.ref f) args) (CR CX outer P w H s Q E) s
theorem Env0.make {P : Program} {w : World} {K : PySem.W.Frag} {mg : Str → Option Value} {base : Heap} {A : Around} {outer : List Env} {s : Shared} {H : Hp} (e : Env0 P w K mg base A outer s H) (C : Addr) (us : List Value) (kw : List (Str × Value)) :
    Env0 P w K mg base (A.under (.builtin "type.__call__" ⟨.ref C :: us, kw⟩)) outer s H := ⟨by first | exact e.frames | (simpa [Around.under, Code.envs, Code.isFrame, pushEnvs] using e.frames), e.mod, e.bs, e.bsz, e.funs, e.frf, e.hok, e.bare⟩
section
variable {X : Cx} {pins : List (Addr × Obj)} {σ : St} {H : Hp} {s s' : Shared}
theorem Inv.env0 (I : Inv X pins σ H s) : Env0 X.prog X.w X.K X.mg X.base X.A X.stack s H :=
  ⟨I.ok.frames, I.ok.mod, I.bs, Nat.le_trans I.ok.bsz I.sz, I.stack, I.stkFree, I.hok, I.bare⟩
theorem Inv.after {Q : VK} {u : Value} (I : Inv X pins σ H s) (h : CE X.stack X.prog X.w H s Q u s') : EP X pins σ Q u s' := by
  obtain ⟨v, H', os, bare, un, hok, r, q⟩ := h
  obtain ⟨hh, g, d, t, os'⟩ := s'
  obtain rfl : os' = s.os := os
  exact ⟨v, H', I.call (h' := hh) (g' := g) (d' := d) (t' := t) (ch := []) un hok bare (fun b z => absurd z (by simp)), r, q⟩
end
def tCall (sp : Sp) (dvs : List V) (E : XK) (t : TA) : TE := fun σ H Q => t σ H fun vs H1 => sp (vs ++ dvs) H1 Q E
def tMeth (C : Addr) (m : Str) (sp : Sp) (dvs : List V) (E : XK) (ta : TE) (t : TA) : TE := fun σ H Q => ta σ H fun x H1 => ∃ a dx fs, x = .ref a ∧ H1 a = some (.ins C dx fs) ∧ fs.lookup m = none ∧
  t σ H1 fun vs H2 => sp (x :: (vs ++ dvs)) H2 Q E
def tMake (C : Addr) (sp : Sp) (dvs : List V) (E : XK) (t : TA) : TE := fun σ H Q => t σ H fun vs H1 => ∀ x dx, H1 x = none → H1 dx = none → dx ≠ x →
  sp (.ref x :: (vs ++ dvs)) (upd (upd H1 dx (.own x)) x (.ins C dx [])) (fun v H2 => v = .non ∧ Q (.ref x) H2) E
def Binds (K : PySem.W.Frag) (fd : FuncData) (ps : List Str) (ds : List Value) : Prop :=
  ∀ (s : Shared) (us : List Value), K.In s.heap → (us ++ ds).length = ps.length → BindsTo s fd ⟨us, []⟩ (ps.zip (us ++ ds))
theorem Binds.all {K : PySem.W.Frag} {fd : FuncData} {ps : List Str} (h : ∀ us : List Value, us.length = ps.length → bindArgs fd ⟨us, []⟩ = pure (ps.zip us)) : Binds K fd ps [] := fun s us _ hl => by
  rw [List.append_nil] at hl ⊢
  exact .of_eq (h us hl)
def Passes (CX : CXT) (X : Cx) (E : XK) : Prop := ∀ (pins : List (Addr × Obj)) (σ : St) (H : Hp) (s : Shared) (e : Value) (s' : Shared), Inv X pins σ H s → CX X.stack H s E e s' → X.xe e s'
section
variable {X : Cx} {CX : CXT} {k : Nat} {f C : Addr} {fd : FuncData} {ps : List Str} {sp : Sp} {dvs : List V} {ds : List Value} {E : XK} {x m : Str} {p pos apos : Pos} {e o : Expr} {es : List Expr} {ta : TE} {t : TA}
theorem run_fn {pins : List (Addr × Obj)} {σ : St} {H : Hp} {s : Shared} {Q : VK} {us : List Value} {vs : List V} (F : FnOk X.prog X.w X.K X.mg X.base CX k f fd ps sp) (hr : Room k X.A) (hb : Binds X.K fd ps ds) (hd : Vals dvs ds) (hx : Passes CX X E)
    (I : Inv X pins σ H s) (r : Vals vs us) (h : sp (vs ++ dvs) H Q E) : wpAny (model X.prog X.w) X.A (call (.ref f) us) (EP X pins σ Q) X.xe s := by
  have r2 : Vals (vs ++ dvs) (us ++ ds) := r.append hd
  have hl : (us ++ ds).length = ps.length := by rw [← r2.length]; exact F.len _ _ _ _ h
  refine wpAny_call (codeAny_mono (F.run X.A X.stack s H ⟨us, []⟩ (us ++ ds) (vs ++ dvs) Q E hr I.env0 (hb s us I.kIn hl) r2 h) fun r s' hq => ?_)
  cases r with
  | error e => exact hx pins σ H s e s' I hq
  | ok fl =>
    cases fl with
    | ret u => exact I.after hq
    | next => exact False.elim hq
    | brk => exact False.elim hq
    | cont => exact False.elim hq
theorem pe_call (F : FnOk X.prog X.w X.K X.mg X.base CX k f fd ps sp) (hr : Room k X.A) (hg : Gl X x) (hm : X.mg x = some (.ref f)) (hk : PySem.W.keepIn X.K (.ref f) = true) (hb : Binds X.K fd ps ds) (hd : Vals dvs ds) (hx : Passes CX X E)
    (ha : PA X (e :: es) t) (hdb : (x == ("__debug__" : Str)) = false := by decide) (he : starEach (e :: es) X.env = (false, eval e X.env) :: starEach es X.env := by rfl) (hpl : (backTo pos (starEach es X.env)).any (·.1) = false := by rfl) :
    PE X (.Call (.Name x p) (e :: es) [] pos) (tCall sp dvs E t) := by
  intro pins s σ H Q I h
  refine wpAny_Call_Name_kw (ld_glob I hg hm ?_ hdb)
  refine PySem.W.callWith_K (h₀ := X.base) I.ok.mod.kin hk (thn (ha pos pins s σ H _ I h) fun us s1 ⟨vs, H1, I1, r, q⟩ => ⟨I1.kIn, ?_⟩) he hpl
  exact run_fn F hr hb hd hx I1 r q
theorem pe_meth {pl : Sem Bool} (he : PE X o ta) (c : Cls X.K C) (hm : Meth X.K C m f) (F : FnOk X.prog X.w X.K X.mg X.base CX k f fd ps sp) (hr : Room k X.A) (hb : Binds X.K fd ps ds) (hd : Vals dvs ds) (hx : Passes CX X E) (ha : PA X (e :: es) t)
    (hst : starEach (e :: es) X.env = (false, eval e X.env) :: starEach es X.env := by rfl) (hpl : (backTo pos (starEach es X.env)).any (·.1) = false := by rfl)
    (ht : eval (.Call (.Attribute o m apos) (e :: es) [] pos) X.env = (do
      let ov ← eval o X.env
      standAt apos.atName
      let (f, first) ← holding [ov] (getMethod ov m pl)
      callWith pos f first (backTo pos (starEach (e :: es) X.env)) (backToKw pos (keywordEach [] X.env))) := by rfl) :
    PE X (.Call (.Attribute o m apos) (e :: es) [] pos) (tMeth C m sp dvs E ta t) := by
  intro pins s σ H Q I h
  refine PySem.W.methodCall_KW (pl := pl) (thn (he pins s σ H _ I h) fun u s1 ⟨x, H1, I1, rx, a, dx, fs, ex, ea, l, q⟩ => ?_) ht
  subst ex
  obtain rfl : u = Value.ref a := rx
  refine getmeth_ok I1 ea c hm l ?_
  refine PySem.W.callWith_K (first := [.ref a]) (h₀ := X.base) I.ok.mod.kin hm.kp (thn (ha pos pins s1 σ H1 _ I1 q) fun us s2 ⟨vs, H2, I2, r, q2⟩ => ⟨I2.kIn, ?_⟩) hst hpl
  exact run_fn (us := .ref a :: us) (vs := .ref a :: vs) F hr hb hd hx I2 (.cons rfl r) q2
theorem pe_meth0 {pl : Sem Bool} (he : PE X o ta) (c : Cls X.K C) (hm : Meth X.K C m f) (F : FnOk X.prog X.w X.K X.mg X.base CX k f fd ps sp) (hr : Room k X.A) (hb : Binds X.K fd ps ds) (hd : Vals dvs ds) (hx : Passes CX X E)
    (ht : eval (.Call (.Attribute o m apos) [] [] pos) X.env = (do
      let ov ← eval o X.env
      standAt apos.atName
      let (f, first) ← holding [ov] (getMethod ov m pl)
      callWith pos f first (backTo pos (starEach [] X.env)) (backToKw pos (keywordEach [] X.env))) := by rfl) :
    PE X (.Call (.Attribute o m apos) [] [] pos) (tMeth C m sp dvs E ta tNil) := by
  intro pins s σ H Q I h
  refine PySem.W.methodCall_KW (pl := pl) (thn (he pins s σ H _ I h) fun u s1 ⟨x, H1, I1, rx, a, dx, fs, ex, ea, l, q⟩ => ?_) ht
  subst ex
  obtain rfl : u = Value.ref a := rx
  refine getmeth_ok I1 ea c hm l ?_
  exact PySem.W.callWith_K0 (first := [.ref a]) I1.kIn hm.kp (run_fn (us := [.ref a]) (vs := [.ref a]) F hr hb hd hx I1 (.cons rfl .nil) q)
structure Mk (K : PySem.W.Frag) (C f : Addr) : Prop where
  makes : PySem.W.makesIn K C = true
  init : PySem.W.findIn K (.ref C) "__init__" = some (some (.ref f))
  fn : PySem.W.isFn K (.ref f) = true
  kp : PySem.W.keepIn K (.ref C) = true
theorem run_make {pins : List (Addr × Obj)} {σ : St} {H : Hp} {s : Shared} {Q : VK} {us : List Value} {vs : List V} (M : Mk X.K C f) (F : FnOk X.prog X.w X.K X.mg X.base CX k f fd ps sp) (hr : Room (k + 1) X.A) (hb : Binds X.K fd ps ds) (hd : Vals dvs ds)
    (hx : Passes CX X E) (I : Inv X pins σ H s) (r : Vals vs us)
    (h : ∀ x dx, H x = none → H dx = none → dx ≠ x → sp (.ref x :: (vs ++ dvs)) (upd (upd H dx (.own x)) x (.ins C dx [])) (fun v H2 => v = .non ∧ Q (.ref x) H2) E) :
    wpAny (model X.prog X.w) X.A (call (.ref C) us) (EP X pins σ Q) X.xe s := by
  have hq := h (s.heap.objs.size + 1) s.heap.objs.size (I.hok.fresh (Nat.le_succ _)) (I.hok.fresh (Nat.le_refl _)) (Nat.ne_of_lt (Nat.lt_succ_self _))
  have I2 := Inv.made (C := C) I
  have r2 : Vals (V.ref (s.heap.objs.size + 1) :: (vs ++ dvs)) (Value.ref (s.heap.objs.size + 1) :: (us ++ ds)) := .cons rfl (r.append hd)
  have hl : (Value.ref (s.heap.objs.size + 1) :: us ++ ds).length = ps.length := by
    have e := r2.length
    rw [F.len _ _ _ _ hq] at e
    exact e.symm
  refine wpAny_call (make_map (f := f) I.kIn M.makes M.init (beq_iff_eq.mp M.fn) (codeAny_mono (F.run _ X.stack _ _ ⟨Value.ref (s.heap.objs.size + 1) :: us, []⟩ (Value.ref (s.heap.objs.size + 1) :: (us ++ ds)) _ _ E (hr.make C us [])
    (I2.env0.make C us []) (hb _ (Value.ref (s.heap.objs.size + 1) :: us) I2.kIn hl) r2 hq) fun r s' hq' => ?_))
  cases r with
  | error e => exact hx pins σ _ _ e s' I2 hq'
  | ok fl =>
    cases fl with
    | ret u =>
      obtain ⟨v, H', I3, rv, ev, q3⟩ := I2.after hq'
      subst ev
      exact ⟨rv, ⟨V.ref (s.heap.objs.size + 1), H', I3, rfl, q3⟩⟩
    | next => exact False.elim hq'
    | brk => exact False.elim hq'
    | cont => exact False.elim hq'
theorem pe_make (M : Mk X.K C f) (F : FnOk X.prog X.w X.K X.mg X.base CX k f fd ps sp) (hr : Room (k + 1) X.A) (hg : Gl X x) (hm : X.mg x = some (.ref C)) (hb : Binds X.K fd ps ds) (hd : Vals dvs ds) (hx : Passes CX X E)
    (ha : PA X (e :: es) t) (hdb : (x == ("__debug__" : Str)) = false := by decide) (he : starEach (e :: es) X.env = (false, eval e X.env) :: starEach es X.env := by rfl) (hpl : (backTo pos (starEach es X.env)).any (·.1) = false := by rfl) :
    PE X (.Call (.Name x p) (e :: es) [] pos) (tMake C sp dvs E t) := by
  intro pins s σ H Q I h
  refine wpAny_Call_Name_kw (ld_glob I hg hm ?_ hdb)
  refine PySem.W.callWith_K (h₀ := X.base) I.ok.mod.kin M.kp (thn (ha pos pins s σ H _ I h) fun us s1 ⟨vs, H1, I1, r, q⟩ => ⟨I1.kIn, ?_⟩) he hpl
  exact run_make M F hr hb hd hx I1 r q
theorem pe_make0 (M : Mk X.K C f) (F : FnOk X.prog X.w X.K X.mg X.base CX k f fd ps sp) (hr : Room (k + 1) X.A) (hg : Gl X x) (hm : X.mg x = some (.ref C)) (hb : Binds X.K fd ps ds) (hd : Vals dvs ds) (hx : Passes CX X E)
    (hdb : (x == ("__debug__" : Str)) = false := by decide) : PE X (.Call (.Name x p) [] [] pos) (tMake C sp dvs E tNil) := by
  intro pins s σ H Q I h
  refine wpAny_Call_Name_kw (ld_glob I hg hm ?_ hdb)
  exact PySem.W.callWith_K0 I.kIn M.kp (run_make (us := []) M F hr hb hd hx I .nil h)
end
section
variable {X : Cx} {CX : CXT} {k : Nat} {f C : Addr} {fd : FuncData} {ps ks : List Str} {sp : Sp} {E : XK} {x m : Str} {p pos apos kpos : Pos} {e o : Expr} {es : List Expr} {kws : List Keyword} {te ta : TE} {t tk : TA} {nm : Option Str}
variable {g : List Value → List Value → List Value} {gV : List V → List V → List V}
end
structure FnScope (N P : List Str) (sc : Scope) : Prop where
  kind : sc.kind = .function
  co : sc.isCoroutine = false
  gen : sc.isGenerator = false
  nd : N.Nodup
  pre : N.take P.length = P
  par : ∀ x ∈ P, sc.names.lookup x = some .local ∨ sc.names.lookup x = some .cell
  nofree : ∀ y ∈ sc.names, y.2 ≠ .free
theorem bindL_out {kindOf : Str → Option NameKind} {x : Str} : ∀ {binds : List (Str × Value)} {m : Str → Option Value}, (∀ v, (x, v) ∉ binds) → bindL kindOf binds m x = m x
  | [], _, _ => rfl
  | (n, v) :: r, m, h => by
    unfold bindL
    rw [bindL_out fun w hw => h w (List.mem_cons_of_mem _ hw)]
    split
    · have : x ≠ n := by rintro rfl; exact h v List.mem_cons_self
      simp [this]
    · rfl
theorem bindC_out {kindOf : Str → Option NameKind} {x : Str} : ∀ {binds : List (Str × Value)} {m : Str → Option Value}, (∀ v, (x, v) ∉ binds) → bindC kindOf binds m x = m x
  | [], _, _ => rfl
  | (n, v) :: r, m, h => by
    unfold bindC
    rw [bindC_out fun w hw => h w (List.mem_cons_of_mem _ hw)]
    split
    · rfl
    · have : x ≠ n := by rintro rfl; exact h v List.mem_cons_self
      simp [this]
theorem bindL_get {kindOf : Str → Option NameKind} {x : Str} {v : Value} : ∀ {P : List Str} {vs : List Value} {i : Nat} {m : Str → Option Value}, P.Nodup → P[i]? = some x → vs[i]? = some v → kindOf x = some .local →
    bindL kindOf (P.zip vs) m x = some v
  | [], _, _, _, _, h, _, _ => by simp at h
  | _ :: _, [], _, _, _, _, h, _ => by simp at h
  | p :: P, w :: vs, 0, m, nd, h1, h2, hk => by
    simp at h1 h2; subst h1; subst h2
    show bindL kindOf ((p, w) :: P.zip vs) m p = _
    unfold bindL
    rw [bindL_out fun v hv => (List.nodup_cons.mp nd).1 (List.of_mem_zip hv).1, if_pos hk]
    simp
  | p :: P, w :: vs, i + 1, m, nd, h1, h2, hk => by
    show bindL kindOf ((p, w) :: P.zip vs) m x = _
    unfold bindL
    exact bindL_get (i := i) (List.nodup_cons.mp nd).2 (by simpa using h1) (by simpa using h2) hk
theorem bindC_get {kindOf : Str → Option NameKind} {x : Str} {v : Value} : ∀ {P : List Str} {vs : List Value} {i : Nat} {m : Str → Option Value}, P.Nodup → P[i]? = some x → vs[i]? = some v → kindOf x ≠ some .local →
    bindC kindOf (P.zip vs) m x = some v
  | [], _, _, _, _, h, _, _ => by simp at h
  | _ :: _, [], _, _, _, _, h, _ => by simp at h
  | p :: P, w :: vs, 0, m, nd, h1, h2, hk => by
    simp at h1 h2; subst h1; subst h2
    show bindC kindOf ((p, w) :: P.zip vs) m p = _
    unfold bindC
    rw [bindC_out fun v hv => (List.nodup_cons.mp nd).1 (List.of_mem_zip hv).1, if_neg hk]
    simp
  | p :: P, w :: vs, i + 1, m, nd, h1, h2, hk => by
    show bindC kindOf ((p, w) :: P.zip vs) m x = _
    unfold bindC
    exact bindC_get (i := i) (List.nodup_cons.mp nd).2 (by simpa using h1) (by simpa using h2) hk
def start (N : List Str) (vs : List V) : St := vs.map some ++ List.replicate (N.length - vs.length) none
def cxOf (CX : CXT) (P : Program) (w : World) (K : PySem.W.Frag) (mg : Str → Option Value) (base : Heap) (N : List Str) (qual : Str) (scope : Scope) (f : Addr) (cd : Value) (A : Around) (outer : List Env) (s : Shared) (H : Hp) (E : XK) : Cx where
  prog := P
  w := w
  K := K
  mg := mg
  base := base
  A := A.deeper (envOfC qual scope s.heap.objs.size f cd)
  N := N
  s_0 := s
  H_0 := H
  env := envOfC qual scope s.heap.objs.size f cd
  outer := outer
  stack := envOfC qual scope s.heap.objs.size f cd :: outer
  ex := []
  calm := true
  fn := fun _ => true
  pn := []
  xe := fun e s' => wpAny (model P w) (A.deeper (envOfC qual scope s.heap.objs.size f cd)) (leaving (envOfC qual scope s.heap.objs.size f cd) e) (fun _ s'' => CX outer H s E e s'') (fun e' s'' => CX outer H s E e' s'') s'
theorem cell_has {sc : Scope} {n : Nat} {x : Str} (h : sc.names.lookup x = some .cell) : ∃ c, (cellsFrom n sc.names []).lookup x = some c := by
  have q := PySem.W.cellsFrom_some sc.names n [] (.inl h)
  exact Option.isSome_iff_exists.mp q
theorem inv_start {CX : CXT} {P : Program} {w : World} {K : PySem.W.Frag} {mg : Str → Option Value} {base : Heap} {N ps : List Str} {qual : Str} {scope : Scope} {f : Addr} {cd : Value} {A : Around} {outer : List Env} {s s1 : Shared} {H : Hp} {E : XK} {us : List Value} {vs : List V}
    (S : FnScope N ps scope) (hd : A.handled = none) (e0 : Env0 P w K mg base A outer s H) (hl : vs.length = ps.length) (r : Vals vs us)
    (x : InCallC s s.heap.objs.size (bindL (envOfC qual scope s.heap.objs.size f cd).kindOf (ps.zip us) fun _ => none) (cellsFrom (s.heap.objs.size + 1) scope.names []) (bindC (envOfC qual scope s.heap.objs.size f cd).kindOf (ps.zip us) fun _ => none) s1) :
    Inv (cxOf CX P w K mg base N qual scope f cd A outer s H E) [] (start N vs) H s1 := by
  have hpl : ps.length ≤ N.length := by have := congrArg List.length S.pre; rw [List.length_take] at this; omega
  obtain ⟨h1, tk, rfl, hk⟩ := x.done
  have noA : ∀ b : Addr, b ∉ (cxOf CX P w K mg base N qual scope f cd A outer s H E).ex := fun b z => absurd (show b ∈ ([] : List Addr) from z) (by simp)
  refine ⟨⟨e0.mod, S.kind, rfl, rfl, Nat.le_refl _, fun y z c h1 h2 => ?_, fun y hy => ?_, fun y c _ h => ?_, fun _ => hd, Around.frames_deeper e0.frames, .inr ⟨rfl, rfl⟩, fun b z => absurd z (noA b), e0.bs, e0.bsz, fun b _ _ => noA b, fun b z => absurd z (noA b), e0.funs, e0.frf⟩,
    rfl, e0.bare, Un.kept hk, ⟨_, x.toInCall.ns, fun i y v h1 h2 h3 => ?_⟩, fun y c h => ⟨_, x.cell y c h⟩, e0.hok.fresh (Nat.le_refl _), fun y c h => ?_, fun p hp => absurd (show p ∈ ([] : List (Addr × Obj)) from hp) (by simp), e0.hok.kept hk, ?_⟩
  · exact name_of_addr x.apart (PySem.mem_of_lookup h1) (PySem.mem_of_lookup h2)
  · have hy : scope.names.lookup y = some .cell ∨ scope.names.lookup y = some .free := hy
    rcases hy with hy | hy
    · exact cell_has hy
    · exact absurd rfl (S.nofree _ (PySem.mem_of_lookup hy))
  · exact Nat.le_of_lt (x.above y c (PySem.mem_of_lookup h))
  · have hi : i < vs.length := by
      unfold start at h2
      by_cases hi : i < vs.length
      · exact hi
      · rw [List.getElem?_append_right (by simpa using hi)] at h2
        rw [List.getElem?_replicate] at h2
        split at h2 <;> cases h2
    have ha : vs[i]? = some v := by
      unfold start at h2
      rw [List.getElem?_append_left (by simpa using hi), List.getElem?_map] at h2
      cases e : vs[i]? with
      | none => rw [e] at h2; cases h2
      | some a => rw [e] at h2; cases h2; rfl
    obtain ⟨u, hu, rv⟩ := r.get ha
    have hp : ps[i]? = some y := by
      rw [← S.pre, List.getElem?_take_of_lt (by omega)]; exact h1
    have ndP : ps.Nodup := by rw [← S.pre]; exact S.nd.sublist (List.take_sublist _ _)
    refine ⟨u, rv, ?_⟩
    rcases S.par y (List.mem_of_getElem? hp) with k | k
    · exact .inl ⟨k, bindL_get ndP hp hu k⟩
    · obtain ⟨c, e⟩ := cell_has (n := s.heap.objs.size + 1) k
      refine .inr ⟨.inl k, c, e, ?_⟩
      have q := x.cell y c e
      rw [bindC_get ndP hp hu (by show scope.names.lookup y ≠ _; rw [k]; decide)] at q
      exact q
  · exact e0.hok.fresh (Nat.le_of_lt (x.above y c (PySem.mem_of_lookup h)))
  · unfold start
    show _ = N.length
    rw [List.length_append, List.length_map, List.length_replicate]
    omega
theorem fn_of {CX : CXT} {P : Program} {w : World} {K : PySem.W.Frag} {mg : Str → Option Value} {base : Heap} {k : Nat} {f : Addr} {name qual : Str} {params : Arguments} {body : List Stmt} {scope : Scope} {dV kV doc pm cdv ct oc : Value} {an od : Option Addr}
    {osl : Array (Option Value)} {N ps : List Str} {sp : Sp} (lk : K.lookup f = some ⟨oc, od, .func (PySem.W.fnOf name qual params body scope dV kV doc pm an cdv ct), osl⟩) (hcd : PySem.W.codeIn K cdv qual = true) (S : FnScope N ps scope)
    (len : ∀ vs H Q E, sp vs H Q E → vs.length = ps.length)
    (hbody : ∀ (A : Around) (outer : List Env) (s : Shared) (H : Hp) (vs : List V) (Q : VK) (E : XK), Room k (A.deeper (envOfC qual scope s.heap.objs.size f cdv)) → sp vs H Q E →
      ∃ t, PSs (cxOf CX P w K mg base N qual scope f cdv A outer s H E) body t ∧ t { nx := fun _ H' => Q .non H', rt := Q } (start N vs) H) :
    FnOk P w K mg base CX (k + 1) f (PySem.W.fnOf name qual params body scope dV kV doc pm an cdv ct) ps sp := by
  refine ⟨len, fun A outer s H args us vs Q E hr e0 hb r hsp => ?_⟩
  have hl := len _ _ _ _ hsp
  have KX : K.In s.heap := e0.mod.kin.keeps fun b o e => (e0.bs b o e).1
  have lim : s.heap.NoLimit := e0.mod.nolimit.keeps fun b o e => (e0.bs b o e).1
  have hkind : ∀ y ∈ ps.zip us, scope.names.lookup y.1 = some .local ∨ (scope.names.lookup y.1 = some .cell ∧ ((cellsFrom (s.heap.objs.size + 1) scope.names []).lookup y.1).isSome = true) := fun ⟨n, v⟩ hy => by
    rcases S.par n (List.of_mem_zip hy).1 with q | q
    · exact .inl q
    · exact .inr ⟨q, PySem.W.cellsFrom_some _ _ _ (.inl q)⟩
  refine codeAny_call_function hr.depth (KX _ _ lk) rfl S.co S.gen rfl (PySem.W.codeRec_of KX hcd) (hb _ _ _ _ ?_)
  refine wpAny_newFunctionEnv_cells S.kind hkind fun env he s1 x => ?_
  subst he
  refine ⟨lim.keeps x.toInCall.keep, codeAny_func ?_⟩
  obtain ⟨t, ht, hq⟩ := hbody A outer s H vs Q E (hr.deeper _) hsp
  have I : Inv (cxOf CX P w K mg base N qual scope f cdv A outer s H E) [] (start N vs) H s1 := inv_start S hr.hd e0 hl r x
  refine wpAny_mono (ht [] s1 (start N vs) H _ I hq) (fun fl s' hs => ?_) fun e s' hs => hs
  have fin : ∀ {σ' : St} {H' : Hp} {v : V} {u : Value}, Inv (cxOf CX P w K mg base N qual scope f cdv A outer s H E) [] σ' H' s' → RelV v u → Q v H' → CE outer P w H s Q u s' :=
    fun {σ' H' v u} J rv q => ⟨v, H', J.os, J.bare, J.base, J.hok, rv, q⟩
  cases fl with
  | ret u =>
    obtain ⟨v, σ', H', J, rv, q⟩ := hs
    exact fin J rv q
  | next =>
    obtain ⟨σ', H', J, q⟩ := hs
    exact fin (v := V.non) (u := Value.none) J rfl q
  | brk =>
    obtain ⟨_, _, _, q⟩ := hs
    exact False.elim q
  | cont =>
    obtain ⟨_, _, _, q⟩ := hs
    exact False.elim q
end L2
namespace L2
open PySem PySem.Spec PyProof.Rows
section
variable {X : Cx} {x : Str} {p pos : Pos} {e : Expr} {es : List Expr} {t : TA} {id T : String} {r : List V → Hp → VK → Prop}
def tCB (r : List V → Hp → VK → Prop) (t : TA) : TE := fun σ H Q => t σ H fun vs H1 => r vs H1 Q
theorem pe_callB (hc : CallR X (.builtin id) r) (hg : Gl X x) (hm : X.mg x = none) (hv : bootBuiltins x = some (.builtin id)) (ha : PA X (e :: es) t) (hn : x ≠ "__name__" := by decide) (hdb : (x == ("__debug__" : Str)) = false := by decide)
    (he : starEach (e :: es) X.env = (false, eval e X.env) :: starEach es X.env := by rfl) (hpl : (backTo pos (starEach es X.env)).any (·.1) = false := by rfl) : PE X (.Call (.Name x p) (e :: es) [] pos) (tCB r t) := by
  intro pins s σ H Q I h
  refine wpAny_Call_Name_kw (ld_blt I hg hm hv ?_ hn hdb)
  exact PyProof.Rows.callWith_builtin1 (thn (ha pos pins s σ H _ I h) fun us s1 ⟨vs, H1, I1, r1, q1⟩ => hc pins s1 σ H1 vs us Q I1 r1 q1) he hpl
theorem pe_callTy (hc : CallR X (.type T) r) (hg : Gl X x) (hm : X.mg x = none) (hv : bootBuiltins x = some (.type T)) (ha : PA X (e :: es) t) (hn : x ≠ "__name__" := by decide) (hdb : (x == ("__debug__" : Str)) = false := by decide)
    (he : starEach (e :: es) X.env = (false, eval e X.env) :: starEach es X.env := by rfl) (hpl : (backTo pos (starEach es X.env)).any (·.1) = false := by rfl) : PE X (.Call (.Name x p) (e :: es) [] pos) (tCB r t) := by
  intro pins s σ H Q I h
  refine wpAny_Call_Name_kw (ld_blt I hg hm hv ?_ hn hdb)
  exact PyProof.Rows.callWith_type1 (thn (ha pos pins s σ H _ I h) fun us s1 ⟨vs, H1, I1, r1, q1⟩ => hc pins s1 σ H1 vs us Q I1 r1 q1) he hpl
end
end L2
namespace HT
open PySem PyProof.Rows
section
open PySem.SeqAt
open PySem.AutoSeq1 (wpAny_loadPart')
open PySem.MeetsSeq PySem.MeetsSeq2 PySem.MeetsSeq3
end
section
variable {prog : Program} {w : World} {A : Around} {E : Value → Shared → Prop} {s : Shared}
def sIx (n d : Nat) : Option Int → Nat
  | none => d
  | some v => if v < 0 then (v + (n : Int)).toNat else min v.toNat n
theorem sIx_none (n d : Nat) : sIx n d none = d := rfl
theorem sIx_nat (n d k : Nat) : sIx n d (some (k : Int)) = min k n := by
  show (if (k : Int) < 0 then ((k : Int) + (n : Int)).toNat else min (k : Int).toNat n) = min k n
  rw [if_neg (by omega), Int.toNat_natCast]
end
end HT
namespace L2
open PySem PySem.Spec PyProof.Rows
abbrev TO := St → Hp → (Option Int → Hp → Prop) → Prop
def PO (X : Cx) (e : Option Expr) (t : TO) : Prop :=
  ∀ (pins : List (Addr × Obj)) (s : Shared) (σ : St) (H : Hp) (Q : Option Int → Hp → Prop), Inv X pins σ H s → t σ H Q →
    wpAny (model X.prog X.w) X.A (evalPart e X.env) (fun u s' => ∃ o H', Inv X pins σ H' s' ∧ IsPart u o ∧ Q o H') X.xe s
def tNoPart : TO := fun _ H Q => Q none H
def tPart (t : TE) : TO := fun σ H Q => t σ H fun x H1 => ∃ i, x = .int i ∧ Q (some i) H1
section
variable {X : Cx} {e : Expr} {te : TE} {lo hi : Option Expr} {tl th : TO} {pos p2 : Pos}
theorem po_none : PO X none tNoPart := by
  intro pins s σ H Q I h
  rw [evalPart_none]
  exact wpAny_pure ⟨none, H, I, .none, h⟩
theorem po_some (h : PE X e te) : PO X (some e) (tPart te) := by
  intro pins s σ H Q I hw
  rw [evalPart_some]
  refine thn (h pins s σ H _ I hw) fun u s1 ⟨x, H1, I1, r1, q1⟩ => ?_
  obtain ⟨i, rfl, q⟩ := q1
  obtain ⟨t, rfl⟩ := r1
  exact ⟨some i, H1, I1, .int i t, q⟩
def SlR (X : Cx) (r : V → Option Int → Option Int → Hp → VK → Prop) : Prop :=
  ∀ (pins : List (Addr × Obj)) (s : Shared) (σ : St) (H : Hp) (x : V) (v vl vu : Value) (lo hi : Option Int) (sl : Addr) (Q : VK), Inv X pins σ H s → RelV x v → s.heap.IsSliceOf sl vl vu .none → IsPart vl lo → IsPart vu hi → r x lo hi H Q →
    ∃ T id, typeLookup (.type T) "__getitem__" = pure (some (.builtin id)) ∧ s.TypeIs v T ∧ wpAny (model X.prog X.w) X.A (getItem v (.ref sl)) (EP X pins σ Q) X.xe s
def tSl (r : V → Option Int → Option Int → Hp → VK → Prop) (te : TE) (tl th : TO) : TE := fun σ H Q => te σ H fun x H1 => tl σ H1 fun l H2 => th σ H2 fun u H3 => r x l u H3 Q
theorem pe_slice {r : V → Option Int → Option Int → Hp → VK → Prop} (hr : SlR X r) (he : PE X e te) (hl : PO X lo tl) (hu : PO X hi th) : PE X (.Subscript e (.Slice lo hi none p2) pos) (tSl r te tl th) := by
  intro pins s σ H Q I h
  refine Subscript_ (thn (he pins s σ H _ I h) fun v s1 ⟨x, H1, I1, r1, q1⟩ => ?_)
  refine wpAny_Slice (thn (hl pins s1 σ H1 _ I1 q1) fun vl s2 ⟨l, H2, I2, pl, q2⟩ => thn (hu pins s2 σ H2 _ I2 q2) fun vu s3 ⟨u, H3, I3, pu, q3⟩ => ?_)
  rw [evalPart_none]
  refine wpAny_pure ?_
  have I4 : Inv X pins σ H3 { s3 with heap := s3.heap.push { cls := .type "slice", data := .fields #[vl, vu, .none] } } := I3.kept (t' := s3.toks) fun b ob q => Heap.get?_push_of_some _ q
  obtain ⟨T, id, hT, ht, hg⟩ := hr pins { s3 with heap := s3.heap.push { cls := .type "slice", data := .fields #[vl, vu, .none] } } σ H3 x v vl vu l u s3.heap.objs.size Q I4 r1 (Heap.IsSliceOf.new ..) pl pu q3
  show wpAny (model X.prog X.w) X.A (subscriptTail e (.Slice lo hi none p2) v (.ref s3.heap.objs.size)) (EP X pins σ Q) X.xe { s3 with heap := s3.heap.push { cls := .type "slice", data := .fields #[vl, vu, .none] } }
  exact tail_any (ops := [.ref s3.heap.objs.size, v]) ht hT hg (by with_unfolding_all rfl)
def cutV (xs : List V) (lo hi : Option Int) : List V := (xs.drop (HT.sIx xs.length 0 lo)).take (HT.sIx xs.length xs.length hi - HT.sIx xs.length 0 lo)
theorem cutV_length (xs : List V) (lo hi : Option Int) : (cutV xs lo hi).length ≤ xs.length := by
  unfold cutV
  rw [List.length_take, List.length_drop]
  omega
end
end L2
namespace L2
open PySem PySem.Spec PyProof.Rows
def ixN (n : Nat) (i : Int) : Option Nat := if 0 ≤ i then (if i < n then some i.toNat else none) else if -(n : Int) ≤ i then some (i + n).toNat else none
def atI {α : Type} (xs : List α) (i : Int) : Option α := (ixN xs.length i).bind fun j => xs[j]?
theorem ixN_seq {n : Nat} {i : Int} {j : Nat} (h : ixN n i = some j) : seqIndex? i n = some j ∧ j < n ∧ -(n : Int) ≤ i ∧ i < n := by
  unfold ixN at h
  by_cases h0 : 0 ≤ i
  · rw [if_pos h0] at h
    by_cases h1 : i < n
    · rw [if_pos h1] at h
      have e : i.toNat = j := Option.some.inj h
      exact ⟨by rw [seqIndex_of h0 h1, e], by omega, by omega, h1⟩
    · rw [if_neg h1] at h; cases h
  · rw [if_neg h0] at h
    by_cases h1 : -(n : Int) ≤ i
    · rw [if_pos h1] at h
      have e : (i + n).toNat = j := Option.some.inj h
      exact ⟨by rw [seqIndex_neg (by omega) h1, e], by omega, h1, by omega⟩
    · rw [if_neg h1] at h; cases h
theorem atI_get {α : Type} {xs : List α} {i : Int} {v : α} (h : atI xs i = some v) : ∃ j, seqIndex? i xs.length = some j ∧ xs[j]? = some v ∧ j < xs.length ∧ -(xs.length : Int) ≤ i ∧ i < xs.length := by
  unfold atI at h
  cases e : ixN xs.length i with
  | none => rw [e] at h; cases h
  | some j =>
    rw [e] at h
    obtain ⟨h1, h2, h3, h4⟩ := ixN_seq e
    exact ⟨j, h1, h, h2, h3, h4⟩
theorem atI_nat {α : Type} {xs : List α} {j : Nat} {v : α} (h : xs[j]? = some v) : atI xs (j : Int) = some v := by
  have hj : j < xs.length := (List.getElem?_eq_some_iff.mp h).1
  have e : ixN xs.length (j : Int) = some j := by
    unfold ixN
    rw [if_pos (by omega), if_pos (by omega)]; simp
  unfold atI; rw [e]; exact h
def PlainIx (b : Expr) : Prop := ∀ o i, subscripted b false o i = operate [o, i] (getItem o i)
def IxR (X : Cx) (r : R2) : Prop :=
  ∀ (value slice : Expr) (pins : List (Addr × Obj)) (s : Shared) (σ : St) (H : Hp) (x y : V) (v u : Value) (Q : VK), Inv X pins σ H s → RelV x v → RelV y u → r x y H Q →
    subscripted slice false v u = operate [v, u] (getItem v u) → wpAny (model X.prog X.w) X.A (subscriptTail value slice v u) (EP X pins σ Q) X.xe s
def MtR (X : Cx) (id : String) (r : V → List V → Hp → VK → Prop) : Prop :=
  ∀ (pins : List (Addr × Obj)) (s : Shared) (σ : St) (H : Hp) (x : V) (xs : List V) (v : Value) (us : List Value) (Q : VK), Inv X pins σ H s → RelV x v → Vals xs us → r x xs H Q →
    wpAny (model X.prog X.w) X.A (call (.builtin id) (v :: us)) (EP X pins σ Q) X.xe s
section
variable {X : Cx} {a b : Expr} {ta tb : TE} {pos : Pos}
theorem pe_ix {r : R2} (hr : IxR X r) (ha : PE X a ta) (hb : PE X b tb) (hs : PlainIx b) : PE X (.Subscript a b pos) (tOp r ta tb) := by
  intro pins s σ H Q I h
  exact Subscript_ (binT ha hb I h fun v u s2 x y H2 I2 rx ry q => hr a b pins s2 σ H2 x y v u Q I2 rx ry q (hs _ _))
def rIxL (K : PySem.W.Frag) : R2 := fun x y H Q => ∃ p xs i v, x = .ref p ∧ y = .int i ∧ SqL K H p xs ∧ atI xs i = some v ∧ Q v H
theorem ix_list : IxR X (rIxL X.K) := by
  intro value slice pins s σ H x y v u Q I rx ry h hs
  obtain ⟨p, xs, i, z, rfl, rfl, hq, he, q⟩ := h
  cases rx
  obtain ⟨t, rfl⟩ := ry
  obtain ⟨its, r, pl, hz⟩ := I.list hq
  obtain ⟨j, h1, h2, h3, h4, h5⟩ := atI_get he
  obtain ⟨w, ew, rw'⟩ := r.get h2
  have hl := r.length
  have hn := line63
  have fin : EP X pins σ Q w s := ⟨z, H, I, rw', q⟩
  by_cases h0 : 0 ≤ i
  · have hj : i.toNat = j := by
      rw [seqIndex_of h0 h5] at h1
      exact Option.some.inj h1
    exact item_listR pl.isList h0 (by omega) (by rw [hj]; simpa using ew) fin hs
  · have hj : (i + (its.toArray.size : Int)).toNat = j := by
      rw [seqIndex_neg (by omega) h4] at h1
      rw [List.size_toArray, ← hl]
      exact Option.some.inj h1
    exact subscriptTail_builtinR (x := w) pl.isList.typeIs slot_list_getitem.lookup
      (wpAny_getItem_list_neg (Q := fun r s' => r = w ∧ EP X pins σ Q r s') pl.isList (by omega) (by rw [List.size_toArray] <;> omega) (by omega) (by rw [hj]; simpa using ew) ⟨rfl, fin⟩) hs
theorem slice_bounds (lo hi : Option Int) (n : Nat) : (sliceBounds lo hi none n).1 = ((HT.sIx n 0 lo : Nat) : Int) ∧ (sliceBounds lo hi none n).2.1 = ((HT.sIx n n hi : Nat) : Int) ∧ (sliceBounds lo hi none n).2.2 = 1 := by
  refine ⟨?_, ?_, rfl⟩
  · cases lo with
    | none => simp [sliceBounds, HT.sIx]
    | some i =>
      simp only [sliceBounds, HT.sIx, Option.getD_none, show (1 : Int) > 0 by decide, if_true]
      by_cases h : i < 0
      · simp only [h, if_true] <;> omega
      · simp only [h, if_false] <;> omega
  · cases hi with
    | none => simp [sliceBounds, HT.sIx]
    | some i =>
      simp only [sliceBounds, HT.sIx, Option.getD_none, show (1 : Int) > 0 by decide, if_true]
      by_cases h : i < 0
      · simp only [h, if_true] <;> omega
      · simp only [h, if_false] <;> omega
theorem slicePick_cut (its : List Value) (lo hi : Option Int) : slicePick its.toArray lo hi none = ((its.drop (HT.sIx its.length 0 lo)).take (HT.sIx its.length its.length hi - HT.sIx its.length 0 lo)).toArray := by
  obtain ⟨h1, h2, h3⟩ := slice_bounds lo hi its.toArray.size
  unfold slicePick
  rw [h1, h2, h3]
  simp only [sliceRange_one, pick_run, List.size_toArray] <;> rfl
def rSlL (K : PySem.W.Frag) : V → Option Int → Option Int → Hp → VK → Prop := fun x lo hi H Q => ∃ a xs, x = .ref a ∧ SqL K H a xs ∧ ∀ p, H p = none → Q (.ref p) (upd H p (.lst (cutV xs lo hi)))
theorem sl_list : SlR X (rSlL X.K) := by
  intro pins s σ H x v vl vu lo hi sl Q I rx hs pl pu h
  obtain ⟨a, xs, rfl, hx, q⟩ := h
  cases rx
  obtain ⟨its, r, ht, hz⟩ := I.list hx
  have hlen := r.length
  refine ⟨"list", _, slot_list_getitem.lookup, ht.isList.typeIs, ?_⟩
  refine wpAny_getItem_list_slice ht.isList hs pl pu .none (by simp) ?_ (by rw [List.size_toArray] <;> omega)
  rw [slicePick_cut, ← hlen]
  refine ⟨.ref s.heap.objs.size, _, I.laid (t' := s.toks) (o := .lst (cutV xs lo hi)) (fun b ob q => Heap.get?_push_of_some _ q) (Nat.le_refl _) ?_, rfl, q _ (I.hok.fresh (Nat.le_refl _))⟩
  exact ⟨Nat.le_trans (cutV_length xs lo hi) hz, _, 0, (r.drop (HT.sIx xs.length 0 lo)).take (HT.sIx xs.length xs.length hi - HT.sIx xs.length 0 lo), Heap.get?_push_size _ rfl⟩
theorem call_len_seq : CallR X (.builtin "len") (fun xs H Q => ∃ p ys, xs = [.ref p] ∧ (SqL X.K H p ys ∨ SqT X.K H p ys) ∧ Q (.int ys.length) H) := by
  intro pins s σ H xs us Q I r h
  obtain ⟨p, ys, rfl, hq, q⟩ := h
  obtain ⟨u, rfl, rx⟩ := vals1 r
  cases rx
  have hn := line63
  rcases hq with hq | hq
  · obtain ⟨its, r', pl, hz⟩ := I.list hq
    have hlen := r'.length
    exact Calls.call_len_list pl.isList (by simp only [List.size_toArray] <;> omega) ⟨.int ys.length, H, I.tok _, ⟨s.toks + 1, by rw [List.size_toArray, hlen]⟩, q⟩
  · obtain ⟨its, r', pl, hz⟩ := I.tuple hq
    have hlen := r'.length
    exact len_tuple pl (by simp only [List.size_toArray] <;> omega) ⟨.int ys.length, H, I.tok _, ⟨s.toks + 1, by rw [List.size_toArray, hlen]⟩, q⟩
theorem call_list_of : CallR X (.type "list") (fun xs H Q => ∃ p ys, xs = [.ref p] ∧ (SqL X.K H p ys ∨ SqT X.K H p ys) ∧ ∀ l, H l = none → Q (.ref l) (upd H l (.lst ys))) := by
  intro pins s σ H xs us Q I r h
  obtain ⟨p, ys, rfl, hq, q⟩ := h
  obtain ⟨u, rfl, rx⟩ := vals1 r
  cases rx
  have fin : ∀ (its : List Value), Vals ys its → ys.length ≤ sizeLine → ∀ (h' : Heap) (c' : Nat), (∀ b o', s.heap.get? b = some o' → h'.get? b = some o') →
      h'.get? s.heap.objs.size = some { cls := .type "list", dict := none, data := .seq its.toArray c', slots := #[] } → EP X pins σ Q (.ref s.heap.objs.size) { s with heap := h' } := fun its r' hz h' c' kp e =>
    ⟨.ref s.heap.objs.size, _, I.laid (t' := s.toks) kp (Nat.le_refl _) (show ObjOk X.prog X.w _ h' _ (.lst ys) from ⟨hz, its, c', r', e⟩), rfl, q _ (I.hok.fresh (Nat.le_refl _))⟩
  rcases hq with hq | hq
  · obtain ⟨its, r', pl, hz⟩ := I.list hq
    have hlen := r'.length
    obtain ⟨o, ho, hc, n, hd⟩ := pl.isList
    exact call_list_seq p (.inl rfl) ho hc hd (fun h' c' kp e => fin its r' hz h' c' kp e) (by simp only [List.size_toArray] <;> omega)
  · obtain ⟨its, r', pl, hz⟩ := I.tuple hq
    have hlen := r'.length
    obtain ⟨o, ho, hc, n, hd⟩ := pl
    exact call_list_seq p (.inr rfl) ho hc hd (fun h' c' kp e => fin its r' hz h' c' kp e) (by simp only [List.size_toArray] <;> omega)
def tyV (K : PySem.W.Frag) (T : String) (x : V) (H : Hp) : Prop := match x with
  | .str _ => T = "str"
  | .int _ => T = "int"
  | .ref p => (T = "list" ∧ ∃ xs, SqL K H p xs) ∨ (T = "tuple" ∧ ∃ o, K.lookup p = some o ∧ o.cls = .type "tuple" ∧ o.dict = none) ∨
      (T = "dict" ∧ ((∃ kvs, H p = some (.dK kvs)) ∨ ∃ kvs, H p = some (.dT kvs))) ∨ (T = "set" ∧ ∃ S n, H p = some (.set S n))
  | _ => False
theorem tyV_is {pins : List (Addr × Obj)} {σ : St} {H : Hp} {s : Shared} {T : String} {x : V} {v : Value} (I : Inv X pins σ H s) (r : RelV x v) (ty : tyV X.K T x H) :
    s.TypeIs v T ∧ ∀ a, v = .ref a → ∃ ob, s.heap.get? a = some ob ∧ ob.dict = none := by
  cases x with
  | str z =>
    obtain ⟨t, rfl⟩ := r
    cases (show T = "str" from ty)
    exact ⟨typeIs_str s z t, fun _ e => nomatch e⟩
  | int i =>
    obtain ⟨t, rfl⟩ := r
    cases (show T = "int" from ty)
    exact ⟨typeIs_int s i t, fun _ e => nomatch e⟩
  | ref p =>
    cases r
    rcases ty with ⟨rfl, xs, hq⟩ | ⟨rfl, o, hk, hc, hd⟩ | ⟨rfl, hk⟩ | ⟨rfl, S, n, hk⟩
    · obtain ⟨its, _, pl, _⟩ := I.list hq
      refine ⟨pl.isList.typeIs, fun a e => ?_⟩
      cases e
      obtain ⟨o, n, e, c, hd, _⟩ := pl
      exact ⟨o, e, hd⟩
    · refine ⟨⟨o, I.kIn p o hk, hc⟩, fun a e => ?_⟩
      cases e
      exact ⟨o, I.kIn _ o hk, hd⟩
    · have z : ∃ o, s.heap.get? p = some o ∧ o.ExactDict := by
        rcases hk with ⟨kvs, hk⟩ | ⟨kvs, hk⟩
        · obtain ⟨_, _, _, _, o, _, _, e, ex, _⟩ := I.hok p _ hk
          exact ⟨o, e, ex⟩
        · obtain ⟨_, _, _, _, o, _, _, e, ex, _⟩ := I.hok p _ hk
          exact ⟨o, e, ex⟩
      obtain ⟨o, e, ex⟩ := z
      refine ⟨⟨o, e, ex.1⟩, fun a e2 => ?_⟩
      cases e2
      exact ⟨o, e, ex.2.1⟩
    · obtain ⟨o, _, _, _, e, ex, _⟩ := I.hok p _ hk
      refine ⟨⟨o, e, ex.1⟩, fun a e2 => ?_⟩
      cases e2
      exact ⟨o, e, ex.2.1⟩
  | _ => exact False.elim ty
def tBM (K : PySem.W.Frag) (T : String) (r : V → List V → Hp → VK → Prop) (to : TE) (t : TA) : TE := fun σ H Q => to σ H fun x H1 => tyV K T x H1 ∧ t σ H1 fun xs H2 => r x xs H2 Q
variable {o e : Expr} {es : List Expr} {to : TE} {t : TA} {name : Str} {apos cpos : Pos} {T id : String} {r : V → List V → Hp → VK → Prop}
theorem pe_bm (pa : PlainAttrs T) (slot : Slot T name id) (hty : typeOf (.builtin id) = pure (.type "method_descriptor")) (hm : MtR X id r) (ho : PE X o to) (ha : PA X (e :: es) t)
    (hbase : attributeBase o name X.env (eval o X.env) = eval o X.env := by rfl)
    (hfew : ((backTo cpos (starEach (e :: es) X.env)).all (fun x => !x.1) && (backToKw cpos (keywordEach [] X.env)).all (fun x => x.1.isSome)
      && decide ((e :: es).length + ([] : List Keyword).length + (if ([] : List Keyword).isEmpty then 0 else 1) < 30)) = true := by rfl)
    (hline : (apos.endLine == cpos.line) = true := by rfl) (hs : starEach (e :: es) X.env = (false, eval e X.env) :: starEach es X.env := by rfl) (hplain : (backTo cpos (starEach es X.env)).any (·.1) = false := by rfl) :
    PE X (.Call (.Attribute o name apos) (e :: es) [] cpos) (tBM X.K T r to t) := by
  intro pins s σ H Q I h
  refine wpAny_Call_method_late hbase hfew hline rfl (thn (ho pins s σ H _ I h) fun v s1 ⟨x, H1, I1, r1, ty, q1⟩ => ?_)
  obtain ⟨h1, h2⟩ := tyV_is I1 r1 ty
  refine ⟨T, id, pa, slot, hty, h1, h2, ?_⟩
  have hA := ha cpos pins s1 σ H1 _ I1 q1
  rw [hs] at hA ⊢
  refine Calls.callWith_builtin (by show (false || (backTo cpos (starEach es X.env)).any (·.1)) = false; rw [hplain] <;> rfl) (Calls.evalArgs_plain ?_)
  exact thn hA fun us s2 ⟨vs, H2, I2, r2, q2⟩ => hm pins s2 σ H2 x vs v us Q I2 r1 r2 q2
end
end L2
namespace L2
open PySem PySem.Spec PyProof.Rows
def MtM (X : Cx) (id : String) (r : V → List V → Hp → VK → Prop) : Prop :=
  ∀ (pins : List (Addr × Obj)) (s : Shared) (σ : St) (H : Hp) (x : V) (xs : List V) (v : Value) (us : List Value) (Q : VK), Inv X pins σ H s → RelV x v → Vals xs us → r x xs H Q →
    wpAny (model X.prog X.w) X.A (call (.builtin id) (v :: us)) (EP X pins σ Q) X.xe s
theorem Vals.one : ∀ {x : V} {us : List Value}, Vals [x] us → ∃ u, us = [u] ∧ RelV x u
  | _, _, .cons r .nil => ⟨_, rfl, r⟩
section
variable {X : Cx} {pins : List (Addr × Obj)} {σ : St} {H : Hp} {s : Shared} {l b : Addr} {xs ys zs : List V}
theorem Inv.lset {its its' : List Value} {n : Nat} {f : Array Value → Array Value} {t' : Nat} (I : Inv X pins σ H s) (hH : H l = some (.lst xs))
    (e : s.heap.get? l = some { cls := .type "list", data := .seq its.toArray n }) (hf : f its.toArray = its'.toArray) (hv : Vals ys its') (hz : ys.length ≤ sizeLine) :
    Inv X pins σ (upd H l (.lst ys)) { s with heap := s.heap.update l (Obj.mapSeq f), toks := t' } := by
  have q := PySem.IsL.update e f
  rw [hf] at q
  refine I.write (x := l) (e := l) (by rw [hH]; exact trivial) (.inl rfl) (fun b' u hb hu => (Heap.get?_update_other s.heap (Obj.mapSeq f) (Ne.symm hb)).trans hu) ⟨_, q⟩ ?_
  exact ⟨hz, its', _, hv, q⟩
theorem Inv.lnew {its : List Value} {t' : Nat} (I : Inv X pins σ H s) (hv : Vals ys its) (hz : ys.length ≤ sizeLine) :
    Inv X pins σ (upd H s.heap.objs.size (.lst ys)) { s with heap := s.heap.push { cls := .type "list", data := .seq its.toArray }, toks := t' } :=
  I.laid (fun _ _ q => Heap.get?_push_of_some _ q) (Nat.le_refl _) ⟨hz, its, 0, hv, Heap.get?_push_size _ rfl⟩
theorem Inv.fresh (I : Inv X pins σ H s) : H s.heap.objs.size = none := I.hok.fresh (Nat.le_refl _)
theorem Inv.lstM (I : Inv X pins σ H s) (hH : H l = some (.lst xs)) : xs.length ≤ sizeLine ∧ ∃ (its : List Value) (n : Nat), Vals xs its ∧ xs.length = its.length ∧ s.heap.get? l = some { cls := .type "list", data := .seq its.toArray n } := by
  obtain ⟨z, its, n, r, e⟩ := I.hok l _ hH
  exact ⟨z, its, n, r, r.length, e⟩
theorem notLongL {n : Nat} (h : n ≤ sizeLine) : Builtin.List.listTooLong n = false := by
  unfold Builtin.List.listTooLong
  exact decide_eq_false (by omega)
end
section
variable {X : Cx}
def rAppend : V → List V → Hp → VK → Prop := fun x vs H Q => ∃ l xs y, x = .ref l ∧ vs = [y] ∧ H l = some (.lst xs) ∧ xs.length < sizeLine ∧ Q .non (upd H l (.lst (xs ++ [y])))
theorem mt_append : MtM X "list.append" rAppend := by
  intro pins s σ H x vs v us Q I rx rv h
  obtain ⟨l, xs, y, rfl, rfl, hH, hz, q⟩ := h
  cases rx
  obtain ⟨u, rfl, ru⟩ := rv.one
  obtain ⟨z, its, n, r, hl, e⟩ := I.lstM hH
  refine call_meets F.slot_list_append ⟨_, e, rfl⟩ F.entry_list_append (F.args_list_append_2 _ _) (PySem.list_append l its.toArray n u (by rw [List.size_toArray]; omega)) ⟨e, ?_⟩
  refine ⟨.non, _, I.lset (its' := its ++ [u]) hH e (by simp) (r.append (.cons ru .nil)) ?_, rfl, q⟩
  rw [List.length_append, List.length_singleton]
  omega
def rExtend : V → List V → Hp → VK → Prop := fun x vs H Q => ∃ l b xs zs, x = .ref l ∧ vs = [.ref b] ∧ H l = some (.lst xs) ∧ H b = some (.lst zs) ∧ xs.length + zs.length ≤ sizeLine ∧ Q .non (upd H l (.lst (xs ++ zs)))
theorem mt_extend : MtM X "list.extend" rExtend := by
  intro pins s σ H x vs v us Q I rx rv h
  obtain ⟨l, b, xs, zs, rfl, rfl, hH, hB, hz, q⟩ := h
  cases rx
  obtain ⟨u, rfl, ru⟩ := rv.one
  cases ru
  obtain ⟨z, its, n, r, hl, e⟩ := I.lstM hH
  obtain ⟨z2, its2, n2, r2, hl2, e2⟩ := I.lstM hB
  have hsz : its.toArray.size + its2.toArray.size ≤ sizeLine := by rw [List.size_toArray, List.size_toArray]; omega
  have hlong : ¬ (!its.toArray.isEmpty && Builtin.List.listTooLong (its.toArray.size + its2.toArray.size)) = true := by
    rw [notLongL hsz, Bool.and_false]
    exact Bool.false_ne_true
  refine call_meets F.slot_list_extend ⟨_, e, rfl⟩ F.entry_list_extend (F.args_list_extend_2 _ _)
    (AutoSeq1.list_extend_list_list_0 l its.toArray n b its2.toArray n2 hlong (by rw [List.size_toArray]; omega) (by omega)) ⟨e, e2, ?_⟩
  refine ⟨.non, _, I.lset (its' := its ++ its2) hH e (by simp) (r.append r2) ?_, rfl, q⟩
  rw [List.length_append]
  omega
def rCat : R2 := fun x y H Q => ∃ l b xs zs, x = .ref l ∧ y = .ref b ∧ H l = some (.lst xs) ∧ H b = some (.lst zs) ∧ xs.length + zs.length ≤ sizeLine ∧ ∀ p, H p = none → Q (.ref p) (upd H p (.lst (xs ++ zs)))
theorem op_cat : OpR X (binaryOp .Add) rCat := by
  intro pins s σ H x y v u Q I rx ry h
  obtain ⟨l, b, xs, zs, rfl, rfl, hH, hB, hz, q⟩ := h
  cases rx
  cases ry
  obtain ⟨z, its, n, r, hl, e⟩ := I.lstM hH
  obtain ⟨z2, its2, n2, r2, hl2, e2⟩ := I.lstM hB
  refine PySem.P.add_list e e2 ?_ (by rw [List.size_toArray, List.size_toArray]; omega)
  have ea : its.toArray ++ its2.toArray = (its ++ its2).toArray := by simp
  rw [ea]
  exact ⟨.ref _, _, I.lnew (t' := s.toks) (r.append r2) (by rw [List.length_append]; omega), rfl, q _ I.fresh⟩
end
section
variable {prog : Program} {w : World} {A : Around} {E : Value → Shared → Prop} {s : Shared}
end
section
variable {X : Cx}
end
end L2
namespace L2
open PySem PySem.Spec PyProof.Rows
theorem Vals.ints : ∀ {ns : List Int} {us : List Value}, Vals (ns.map V.int) us → IntsAre us ns
  | [], us, h => by
    rw [List.map_nil] at h
    cases h
    exact IntsAre.nil
  | n :: ns, us, h => by
    rw [List.map_cons] at h
    cases h with
    | cons r t =>
      obtain ⟨k, rfl⟩ := r
      exact IntsAre.cons n k (Vals.ints t)
theorem Vals.ref1 {a : Addr} {us : List Value} (r : Vals [V.ref a] us) : us = [Value.ref a] := by
  cases r with
  | cons r t =>
    cases t
    cases r
    rfl
section
variable {prog : Program} {w : World} {A : Around} {E : Value → Shared → Prop} {s : Shared} {l : Addr} {its : List Value} {ns : List Int} {Q : Value → Shared → Prop}
theorem sum_raw (hh : A.handled = none) (hl : s.heap.IsList l its.toArray) (hi : IntsAre its ns)
    (h : ∀ h' tk t', (∀ b o, s.heap.get? b = some o → h'.get? b = some o) → Q (.int ns.sum t') { s with heap := h', toks := tk }) : wpAny (model prog w) A (call (.builtin "sum") [.ref l]) Q E s := by
  obtain ⟨xs, e⟩ := hi.allInts.items
  have hn : numsOf (intItems xs).toList = ns := by rw [← e]; exact hi.numsOf
  rw [nums_intItems] at hn
  rw [e] at hl
  refine PySem.sum_intListG hh hl fun h' tk t' hk => ?_
  have := h h' tk t' hk
  rw [preSum_eq, List.take_of_length_le (by simp), hn]; exact this
theorem max_raw (hh : A.handled = none) (hl : s.heap.IsList l its.toArray) (hi : IntsAre its ns) (hne : 0 < ns.length)
    (h : ∀ h' tk M t', (∀ b o, s.heap.get? b = some o → h'.get? b = some o) → M ∈ ns → (∀ a, a ∈ ns → a ≤ M) → Q (.int M t') { s with heap := h', toks := tk }) : wpAny (model prog w) A (call (.builtin "max") [.ref l]) Q E s := by
  obtain ⟨xs, e⟩ := hi.allInts.items
  have hn : numsOf (intItems xs).toList = ns := by rw [← e]; exact hi.numsOf
  rw [nums_intItems] at hn
  subst hn
  rw [e] at hl
  have hsz : 0 < xs.size := by simpa using hne
  refine PySem.max_intList hh hl hsz fun v h' tk hv hk => ?_
  obtain ⟨t, rfl⟩ := intItems_at hv
  obtain ⟨h1, h2⟩ := argBest_gt (numAt xs) (xs.size - 1)
  refine h h' tk _ t hk ?_ fun a ha => ?_
  · rw [numAt_eq]; exact PySem.getD_mem (by rw [List.length_map, Array.length_toList]; omega)
  · obtain ⟨j, hj, rfl⟩ := mem_getD ha
    rw [List.length_map, Array.length_toList] at hj
    rw [← numAt_eq]; exact h2 j (by omega)
theorem min_raw (hh : A.handled = none) (hl : s.heap.IsList l its.toArray) (hi : IntsAre its ns) (hne : 0 < ns.length)
    (h : ∀ h' tk M t', (∀ b o, s.heap.get? b = some o → h'.get? b = some o) → M ∈ ns → (∀ a, a ∈ ns → M ≤ a) → Q (.int M t') { s with heap := h', toks := tk }) : wpAny (model prog w) A (call (.builtin "min") [.ref l]) Q E s := by
  obtain ⟨xs, e⟩ := hi.allInts.items
  have hn : numsOf (intItems xs).toList = ns := by rw [← e]; exact hi.numsOf
  rw [nums_intItems] at hn
  subst hn
  rw [e] at hl
  have hsz : 0 < xs.size := by simpa using hne
  refine PySem.min_intList hh hl hsz fun v h' tk hv hk => ?_
  obtain ⟨t, rfl⟩ := intItems_at hv
  obtain ⟨h1, h2⟩ := argBest_lt (numAt xs) (xs.size - 1)
  refine h h' tk _ t hk ?_ fun a ha => ?_
  · rw [numAt_eq]; exact PySem.getD_mem (by rw [List.length_map, Array.length_toList]; omega)
  · obtain ⟨j, hj, rfl⟩ := mem_getD ha
    rw [List.length_map, Array.length_toList] at hj
    rw [← numAt_eq]; exact h2 j (by omega)
end
section
variable {X : Cx}
def rSum (K : PySem.W.Frag) : List V → Hp → VK → Prop := fun vs H Q => ∃ (a : Addr) (ns : List Int), vs = [V.ref a] ∧ SqL K H a (ns.map V.int) ∧ Q (.int ns.sum) H
def rMax (K : PySem.W.Frag) : List V → Hp → VK → Prop := fun vs H Q => ∃ (a : Addr) (ns : List Int), vs = [V.ref a] ∧ SqL K H a (ns.map V.int) ∧ 0 < ns.length ∧ ∀ m, m ∈ ns → (∀ y, y ∈ ns → y ≤ m) → Q (.int m) H
def rMin (K : PySem.W.Frag) : List V → Hp → VK → Prop := fun vs H Q => ∃ (a : Addr) (ns : List Int), vs = [V.ref a] ∧ SqL K H a (ns.map V.int) ∧ 0 < ns.length ∧ ∀ m, m ∈ ns → (∀ y, y ∈ ns → m ≤ y) → Q (.int m) H
theorem cr_sum (hc : X.calm = true) : CallR X (.builtin "sum") (rSum X.K) := by
  intro pins s σ H vs us Q I r h
  obtain ⟨a, ns, rfl, hs, q⟩ := h
  obtain ⟨its, rv, hl, _⟩ := I.list hs
  rw [Vals.ref1 r]
  exact sum_raw (I.ok.hd hc) hl.isList rv.ints fun h' tk t' hk => ⟨.int _, H, I.kept hk, ⟨_, rfl⟩, q⟩
theorem cr_max (hc : X.calm = true) : CallR X (.builtin "max") (rMax X.K) := by
  intro pins s σ H vs us Q I r h
  obtain ⟨a, ns, rfl, hs, hne, q⟩ := h
  obtain ⟨its, rv, hl, _⟩ := I.list hs
  rw [Vals.ref1 r]
  exact max_raw (I.ok.hd hc) hl.isList rv.ints hne fun h' tk m t' hk h1 h2 => ⟨.int _, H, I.kept hk, ⟨_, rfl⟩, q m h1 h2⟩
theorem cr_min (hc : X.calm = true) : CallR X (.builtin "min") (rMin X.K) := by
  intro pins s σ H vs us Q I r h
  obtain ⟨a, ns, rfl, hs, hne, q⟩ := h
  obtain ⟨its, rv, hl, _⟩ := I.list hs
  rw [Vals.ref1 r]
  exact min_raw (I.ok.hd hc) hl.isList rv.ints hne fun h' tk m t' hk h1 h2 => ⟨.int _, H, I.kept hk, ⟨_, rfl⟩, q m h1 h2⟩
end
section
variable {X : Cx}
end
section
variable {X : Cx}
end
section
variable {X : Cx}
end
mutual
inductive Dp (K : PySem.W.Frag) (H : Hp) : V → PyData → Prop
  | non : Dp K H .non .none
  | bl (b : Bool) : Dp K H (.bl b) (.bool b)
  | int (i : Int) : Dp K H (.int i) (.int i)
  | str (x : Str) : Dp K H (.str x) (.str x)
  | lst {a : Addr} {xs : List V} {ds : List PyData} : SqL K H a xs → DpAll K H xs ds → Dp K H (.ref a) (.list ds)
  | tup {a : Addr} {xs : List V} {ds : List PyData} : SqT K H a xs → DpAll K H xs ds → Dp K H (.ref a) (.tuple ds)
inductive DpAll (K : PySem.W.Frag) (H : Hp) : List V → List PyData → Prop
  | nil : DpAll K H [] []
  | cons {v : V} {vs : List V} {d : PyData} {ds : List PyData} : Dp K H v d → DpAll K H vs ds → DpAll K H (v :: vs) (d :: ds)
end
section
variable {X : Cx} {pins : List (Addr × Obj)} {σ : St} {H : Hp} {s : Shared}
mutual
theorem Dp.reads (I : Inv X pins σ H s) : ∀ (d : PyData) (v : V) (u : Value), Dp X.K H v d → RelV v u → ∃ as, Reads s.heap u d as
  | .none, _, _, h, r => by
    cases h
    cases r
    exact ⟨_, Reads.none⟩
  | .bool b, _, _, h, r => by
    cases h
    cases r
    exact ⟨_, Reads.bool b⟩
  | .int i, _, _, h, r => by
    cases h
    obtain ⟨t, rfl⟩ := r
    exact ⟨_, Reads.int i t⟩
  | .str x, _, _, h, r => by
    cases h
    obtain ⟨t, rfl⟩ := r
    exact ⟨_, Reads.str x t⟩
  | .list ds, _, _, h, r => by
    cases h with
    | lst hs ha =>
      cases r
      obtain ⟨its, rv, ⟨o, n, ho, hc, _, hd⟩, _⟩ := I.list hs
      obtain ⟨as, hr⟩ := Dp.readsAll I ds _ its ha rv
      exact ⟨_, Reads.list ho hc hd hr⟩
  | .tuple ds, _, _, h, r => by
    cases h with
    | tup hs ha =>
      cases r
      obtain ⟨its, rv, ⟨o, ho, hc, n, hd⟩, _⟩ := I.tuple hs
      obtain ⟨as, hr⟩ := Dp.readsAll I ds _ its ha rv
      exact ⟨_, Reads.tuple ho hc hd hr⟩
  | .dict _, _, _, h, _ => by cases h
theorem Dp.readsAll (I : Inv X pins σ H s) : ∀ (ds : List PyData) (vs : List V) (us : List Value), DpAll X.K H vs ds → Vals vs us → ∃ as, ReadsAll s.heap us ds as
  | [], _, _, h, r => by
    cases h
    cases r
    exact ⟨_, ReadsAll.nil⟩
  | d :: ds, _, _, h, r => by
    cases h with
    | cons h1 h2 =>
      cases r with
      | cons r1 r2 =>
        obtain ⟨as, q1⟩ := Dp.reads I d _ _ h1 r1
        obtain ⟨bs, q2⟩ := Dp.readsAll I ds _ _ h2 r2
        exact ⟨_, ReadsAll.cons q1 q2⟩
end
end
section
variable {X : Cx}
end
end L2
namespace L2
open PySem PySem.Spec PyProof.Rows
abbrev CellAt (h : Heap) (c : Addr) (v : Option Value) : Prop := h.IsCell c v
def relS (scope sc : Scope) : Scope :=
  { scope with names := scope.names.map fun (n, k) => if (k == .free && sc.kind == .function && sc.names.lookup n == some .cell) then (n, .cell) else (n, k) }
def cloFrom (cells : List (Str × Addr)) : List (Str × NameKind) → List (Str × Addr) → List (Str × Addr)
  | [], acc => acc
  | (n, k) :: r, acc => if k == .free then cloFrom cells r ((n, (cells.lookup n).getD 0) :: acc) else cloFrom cells r acc
theorem closure_loop (env : Env) (f : Str × NameKind → List (Str × Addr) → Sem (ForInStep (List (Str × Addr))))
    (hf : ∀ n k c, f (n, k) c = if k == .free then (do let a ← cellOf env n; pure (.yield ((n, a) :: c))) else pure (.yield c)) :
    ∀ (names : List (Str × NameKind)) (acc : List (Str × Addr)), (∀ y ∈ names, y.2 = .free → ∃ c, env.cells.lookup y.1 = some c) → forIn names acc f = pure (cloFrom env.cells names acc)
  | [], acc, _ => by rw [List.forIn_nil]; rfl
  | (n, k) :: r, acc, h => by
    rw [List.forIn_cons, hf]
    have ih := fun acc => closure_loop env f hf r acc fun y hy => h y (List.mem_cons_of_mem _ hy)
    unfold cloFrom
    by_cases hk : (k == NameKind.free) = true
    · rw [if_pos hk, if_pos hk]
      obtain ⟨c, hc⟩ := h (n, k) List.mem_cons_self (by simpa using hk)
      have e : cellOf env n = pure c := by unfold cellOf; rw [hc]
      rw [e]
      have e2 : (env.cells.lookup n).getD 0 = c := by rw [hc]; rfl
      rw [e2]
      exact ih _
    · rw [if_neg hk, if_neg hk]
      exact ih _
theorem closure_ok {scope : Scope} {env : Env} (h : ∀ y ∈ scope.names, y.2 = .free → ∃ c, env.cells.lookup y.1 = some c) : closureFor scope env = pure (cloFrom env.cells scope.names []) := by
  simp only [closureFor]
  rw [closure_loop env _ (fun n k c => rfl) scope.names [] h]
  rfl
theorem mem_lookup {α : Type} : ∀ {l : List (Str × α)} {n : Str} {c : α}, (n, c) ∈ l → ∃ c', l.lookup n = some c'
  | (k, v) :: r, n, c, h => by
    rw [List.lookup_cons]
    cases hb : n == k with
    | true => exact ⟨_, rfl⟩
    | false =>
      rcases List.mem_cons.mp h with e | h
      · cases e; simp at hb
      · exact mem_lookup h
theorem cloFrom_mem {cells : List (Str × Addr)} : ∀ {names : List (Str × NameKind)} {acc : List (Str × Addr)} {n : Str} {c : Addr}, (n, c) ∈ cloFrom cells names acc → (n, c) ∈ acc ∨ ((n, .free) ∈ names ∧ c = (cells.lookup n).getD 0)
  | [], _, _, _, h => .inl h
  | (m, k) :: r, acc, n, c, h => by
    unfold cloFrom at h
    split at h
    · rename_i hk
      have hk : k = .free := by simpa using hk
      rcases cloFrom_mem h with h | ⟨h1, h2⟩
      · rcases List.mem_cons.mp h with e | h
        · cases e; exact .inr ⟨hk ▸ List.mem_cons_self, rfl⟩
        · exact .inl h
      · exact .inr ⟨List.mem_cons_of_mem _ h1, h2⟩
    · rcases cloFrom_mem h with h | ⟨h1, h2⟩
      · exact .inl h
      · exact .inr ⟨List.mem_cons_of_mem _ h1, h2⟩
theorem cloFrom_acc {cells : List (Str × Addr)} : ∀ {names : List (Str × NameKind)} {acc : List (Str × Addr)} {p : Str × Addr}, p ∈ acc → p ∈ cloFrom cells names acc
  | [], _, _, h => h
  | (m, k) :: r, acc, p, h => by
    unfold cloFrom
    split
    · exact cloFrom_acc (List.mem_cons_of_mem _ h)
    · exact cloFrom_acc h
theorem cloFrom_has {cells : List (Str × Addr)} : ∀ {names : List (Str × NameKind)} {acc : List (Str × Addr)} {n : Str}, (n, .free) ∈ names → (n, (cells.lookup n).getD 0) ∈ cloFrom cells names acc
  | (m, k) :: r, acc, n, h => by
    unfold cloFrom
    rcases List.mem_cons.mp h with e | h
    · cases e
      exact cloFrom_acc List.mem_cons_self
    · split
      · exact cloFrom_has h
      · exact cloFrom_has h
theorem cells_mem : ∀ {names : List (Str × NameKind)} {h : Heap} {acc : List (Str × Addr)} {x : Str} {c : Addr}, (x, c) ∈ cellsFrom h.objs.size names acc →
    (x, c) ∈ acc ∨ ((x, .cell) ∈ names ∧ h.objs.size ≤ c ∧ CellAt (pushCells h names) c none)
  | [], _, _, _, _, h => .inl h
  | (n, k) :: r, h, acc, x, c, hm => by
    unfold cellsFrom at hm
    unfold pushCells
    split at hm
    · rename_i hk
      rw [if_pos hk]
      have hk : k = .cell := by simpa using hk
      rw [← Heap.size_push h { cls := .type "cell", data := .cell none }] at hm
      rcases cells_mem hm with hm | ⟨h1, h2, h3⟩
      · rcases List.mem_cons.mp hm with e | hm
        · cases e
          exact .inr ⟨hk ▸ List.mem_cons_self, Nat.le_refl _, _, pushCells_keeps r _ _ _ (Heap.get?_push_size _ rfl), rfl⟩
        · exact .inl hm
      · rw [Heap.size_push] at h2
        exact .inr ⟨List.mem_cons_of_mem _ h1, Nat.le_of_succ_le h2, h3⟩
    · rename_i hk
      rw [if_neg hk]
      rcases cells_mem hm with hm | ⟨h1, h2, h3⟩
      · exact .inl hm
      · exact .inr ⟨List.mem_cons_of_mem _ h1, h2, h3⟩
theorem cells_acc : ∀ {names : List (Str × NameKind)} {n : Nat} {acc : List (Str × Addr)} {p : Str × Addr}, p ∈ acc → p ∈ cellsFrom n names acc
  | [], _, _, _, h => h
  | (m, k) :: r, n, acc, p, h => by
    unfold cellsFrom
    split
    · exact cells_acc (List.mem_cons_of_mem _ h)
    · exact cells_acc h
theorem cells_has : ∀ {names : List (Str × NameKind)} {n : Nat} {acc : List (Str × Addr)} {x : Str}, (x, .cell) ∈ names → ∃ c, (x, c) ∈ cellsFrom n names acc
  | (m, k) :: r, n, acc, x, h => by
    unfold cellsFrom
    rcases List.mem_cons.mp h with e | h
    · cases e
      exact ⟨n, cells_acc List.mem_cons_self⟩
    · split
      · exact cells_has h
      · exact cells_has h
theorem cells_inj : ∀ {names : List (Str × NameKind)} {h : Heap} {acc : List (Str × Addr)} {x y : Str} {c : Addr}, (∀ p ∈ acc, p.2 < h.objs.size) → (∀ x y c, (x, c) ∈ acc → (y, c) ∈ acc → x = y) →
    (x, c) ∈ cellsFrom h.objs.size names acc → (y, c) ∈ cellsFrom h.objs.size names acc → x = y
  | [], _, _, _, _, _, _, hi, h1, h2 => hi _ _ _ h1 h2
  | (n, k) :: r, h, acc, x, y, c, hl, hi, h1, h2 => by
    unfold cellsFrom at h1 h2
    split at h1
    · rename_i hk
      rw [if_pos hk] at h2
      rw [← Heap.size_push h { cls := .type "cell", data := .cell none }] at h1 h2
      refine cells_inj (h := h.push _) (fun p hp => ?_) (fun x y c a b => ?_) h1 h2
      · rw [Heap.size_push]
        rcases List.mem_cons.mp hp with rfl | hp
        · exact Nat.lt_succ_self _
        · exact Nat.lt_succ_of_lt (hl p hp)
      · rcases List.mem_cons.mp a with e | a <;> rcases List.mem_cons.mp b with e' | b
        · cases e; cases e'; rfl
        · cases e; exact absurd (hl _ b) (Nat.lt_irrefl _)
        · cases e'; exact absurd (hl _ a) (Nat.lt_irrefl _)
        · exact hi _ _ _ a b
    · rename_i hk
      rw [if_neg hk] at h2
      exact cells_inj hl hi h1 h2
theorem newEnv_comp {M : Model} {A : Around} {E : Value → Shared → Prop} {s : Shared} {scope : Scope} {globals : Addr} {closure : List (Str × Addr)} {qual : Str} {func : Option Addr} {code : Value} {around : Env} {builtins : Addr} {Q : Env → Shared → Prop}
    (h : Q (newEnv scope s.heap.objs.size globals (cellsFrom (s.heap.objs.size + 1) scope.names closure) qual func code (some around) builtins)
      { s with heap := pushCells (s.heap.push { cls := .type "dict", data := .dict #[] }) scope.names }) :
    wpAny M A (newFunctionEnv scope globals closure [] qual func code (some around) builtins) Q E s := by
  simp only [newFunctionEnv, Option.isSome_some, if_true]
  refine wpAny_bind (wpAny_alloc ?_)
  refine wpAny_bind (wpAny_layCells _ (fun n k c => rfl) scope.names closure _ _ ?_)
  rw [show ({ s with heap := s.heap.push { cls := .type "dict", data := .dict #[] } } : Shared).heap.objs.size = s.heap.objs.size + 1 from Heap.size_push ..]
  rw [List.forIn_nil]
  exact wpAny_bind (wpAny_pure (wpAny_pure h))
theorem lookup_relS {sc : Scope} : ∀ {names : List (Str × NameKind)} {x : Str} {k : NameKind},
    (names.map fun (n, k) => if (k == NameKind.free && sc.kind == .function && sc.names.lookup n == some .cell) then (n, NameKind.cell) else (n, k)).lookup x = some k →
    ∃ k', names.lookup x = some k' ∧ (k = k' ∨ (k' = .free ∧ k = .cell))
  | [], _, _, h => by simp at h
  | (n, k₀) :: r, x, k, h => by
    have ih := @lookup_relS sc r x k
    have h' : List.lookup x ((if (k₀ == NameKind.free && sc.kind == .function && sc.names.lookup n == some .cell) = true then (n, NameKind.cell) else (n, k₀)) :: (r.map _)) = some k := h
    cases hx : x == n with
    | true =>
      simp only [List.lookup_cons, hx]
      by_cases hc : (k₀ == NameKind.free && sc.kind == .function && sc.names.lookup n == some .cell) = true
      · rw [if_pos hc] at h'
        simp only [List.lookup_cons, hx] at h'
        cases h'
        simp only [Bool.and_eq_true, beq_iff_eq] at hc
        exact ⟨k₀, rfl, .inr ⟨hc.1.1, rfl⟩⟩
      · rw [if_neg hc] at h'
        simp only [List.lookup_cons, hx] at h'
        cases h'
        exact ⟨_, rfl, .inl rfl⟩
    | false =>
      simp only [List.lookup_cons, hx]
      by_cases hc : (k₀ == NameKind.free && sc.kind == .function && sc.names.lookup n == some .cell) = true
      · rw [if_pos hc] at h'
        simp only [List.lookup_cons, hx] at h'
        exact ih h'
      · rw [if_neg hc] at h'
        simp only [List.lookup_cons, hx] at h'
        exact ih h'
structure BlkOk (N : List Str) (sc scope : Scope) (own : List (Str × Nat)) : Prop where
  kind : scope.kind = .function
  uniq : ∀ y ∈ scope.names, scope.names.lookup y.1 = some y.2
  ix : ∀ p ∈ own, N[p.2]? = some p.1
  free : ∀ y ∈ scope.names, y.2 = .free → sc.names.lookup y.1 = some .cell ∨ sc.names.lookup y.1 = some .free
  own : ∀ y ∈ scope.names, y.2 = .local ∨ y.2 = .cell → y.1 ∈ own.map (·.1) ∨ y.1 ∉ N
def wipe (σ : St) : List Nat → St
  | [] => σ
  | v :: vs => (wipe σ vs).set v none
theorem wipe_length (σ : St) : ∀ vs : List Nat, (wipe σ vs).length = σ.length
  | [] => rfl
  | v :: vs => by unfold wipe; rw [List.length_set, wipe_length σ vs]
theorem wipe_some {σ : St} {i : Nat} {x : V} : ∀ {vs : List Nat}, (wipe σ vs)[i]? = some (some x) → σ[i]? = some (some x) ∧ i ∉ vs
  | [], h => ⟨h, by simp⟩
  | v :: vs, h => by
    unfold wipe at h
    by_cases hi : v = i
    · subst hi
      by_cases hv : v < (wipe σ vs).length
      · rw [List.getElem?_set_self hv] at h; cases h
      · rw [List.getElem?_eq_none (by simpa using hv)] at h; cases h
    · rw [List.getElem?_set_ne hi] at h
      obtain ⟨h1, h2⟩ := wipe_some h
      exact ⟨h1, by simp only [List.mem_cons, not_or]; exact ⟨fun e => hi e.symm, h2⟩⟩
abbrev Cx.blk (X : Cx) (s : Shared) (H : Hp) (scope : Scope) (cenv : Env) (fp : List Addr) : Cx := { X with s_0 := s, H_0 := H, env := cenv, outer := X.stack, ex := fp, fn := fun x => scope.names.lookup x == some .cell, pn := [], xe := fun _ _ => False }
section
variable {X : Cx} {pins : List (Addr × Obj)} {σ : St} {H : Hp} {s : Shared}
theorem block_start {scope : Scope} {own : List (Str × Nat)} {fp : List Addr} (I : Inv X pins σ H s) (ok : BlkOk X.N X.env.scope scope own) (hN : X.N.Nodup) (hfp : ∀ b ∈ fp, FpOk X pins H b ∧ b < s.heap.objs.size) :
    Inv (X.blk s H scope (compEnvC scope (cellsFrom (s.heap.objs.size + 1) scope.names (cloFrom X.env.cells scope.names [])) s.heap.objs.size X.env) fp) [] (wipe σ (own.map (·.2))) H { s with heap := pushCells (s.heap.push { cls := .type "dict", data := .dict #[] }) scope.names } := by
  have hfree : ∀ y ∈ scope.names, y.2 = .free → ∃ c, X.env.cells.lookup y.1 = some c := fun y hy e => by
    rcases ok.free y hy e with k | k
    · exact I.ok.has _ (.inl k)
    · exact I.ok.has _ (.inr k)
  generalize hcenv : compEnvC scope (cellsFrom (s.heap.objs.size + 1) scope.names (cloFrom X.env.cells scope.names [])) s.heap.objs.size X.env = cenv
  have kp : ∀ b o, s.heap.get? b = some o → (pushCells (s.heap.push { cls := .type "dict", data := .dict #[] }) scope.names).get? b = some o := fun b o e => pushCells_keeps _ _ _ _ (Heap.get?_push_of_some _ e)
  have hL : cenv.locals = s.heap.objs.size := by rw [← hcenv]; rfl
  have hcl : cenv.cells = cellsFrom (s.heap.objs.size + 1) scope.names (cloFrom X.env.cells scope.names []) := by rw [← hcenv]; rfl
  have hsc : cenv.scope = relS scope X.env.scope := by rw [← hcenv]; rfl
  rw [← Heap.size_push s.heap { cls := .type "dict", data := .dict #[] }] at hcl
  have cm : ∀ {y c}, (y, c) ∈ cloFrom X.env.cells scope.names [] → X.env.cells.lookup y = some c ∧ c < s.heap.objs.size := fun {y c} hm => by
    rcases cloFrom_mem hm with hm | ⟨h1, rfl⟩
    · cases hm
    · obtain ⟨c, hc⟩ := hfree _ h1 rfl
      rw [hc]
      obtain ⟨w, z⟩ := I.cell _ _ hc
      exact ⟨rfl, z.lt⟩
  have mem : ∀ {y c}, cenv.cells.lookup y = some c → (X.env.cells.lookup y = some c ∧ c < s.heap.objs.size) ∨ (s.heap.objs.size + 1 ≤ c ∧ CellAt (pushCells (s.heap.push { cls := .type "dict", data := .dict #[] }) scope.names) c none) := fun {y c} e => by
    rw [hcl] at e
    rcases cells_mem (PySem.mem_of_lookup e) with hm | ⟨_, h2, h3⟩
    · exact .inl (cm hm)
    · rw [Heap.size_push] at h2; exact .inr ⟨h2, h3⟩
  have look : ∀ {y}, scope.names.lookup y = some .free → ∃ c, cenv.cells.lookup y = some c ∧ X.env.cells.lookup y = some c := fun {y} hl => by
    have hy : (y, NameKind.free) ∈ scope.names := PySem.mem_of_lookup hl
    obtain ⟨c', e'⟩ := mem_lookup (cells_acc (names := scope.names) (n := (s.heap.push { cls := .type "dict", data := .dict #[] }).objs.size) (cloFrom_has (cells := X.env.cells) (acc := []) hy))
    rw [← hcl] at e'
    refine ⟨c', e', ?_⟩
    rw [hcl] at e'
    rcases cells_mem (PySem.mem_of_lookup e') with hm | ⟨h1, _, _⟩
    · exact (cm hm).1
    · have := ok.uniq _ h1
      rw [hl] at this; cases this
  have okB : (X.blk s H scope cenv fp).Ok := by
    refine ⟨I.ok.mod, by show cenv.scope.kind = _; rw [hsc]; exact ok.kind, by show cenv.globals = _; rw [← hcenv]; exact I.ok.glob, by show cenv.builtins = _; rw [← hcenv]; exact I.ok.blt, by show s.heap.objs.size ≤ cenv.locals; rw [hL]; exact Nat.le_refl _,
      fun y z c e1 e2 => ?_, fun y hy => ?_, fun y c z e => ?_, I.ok.hd, I.ok.frames, .inl rfl, fun b hb => ⟨?_, fun y c e z => ?_⟩, I.bs, Nat.le_trans I.ok.bsz I.sz, fun b o e hb => ?_, fun b hb z => ?_, I.stack, I.stkFree⟩
    · have e1 : cenv.cells.lookup y = some c := e1
      have e2 : cenv.cells.lookup z = some c := e2
      rw [hcl] at e1 e2
      refine cells_inj (fun p hp => ?_) (fun y z c a b => I.ok.inj y z c (cm a).1 (cm b).1) (PySem.mem_of_lookup e1) (PySem.mem_of_lookup e2)
      rw [Heap.size_push]
      exact Nat.lt_succ_of_lt (cm (y := p.1) (c := p.2) hp).2
    · show ∃ c, cenv.cells.lookup y = some c
      have key : ∀ k, cenv.kindOf y = some k → (k = .cell ∨ k = .free) → ∃ c, cenv.cells.lookup y = some c := fun k hk hk' => by
        unfold Env.kindOf at hk
        rw [hsc] at hk
        obtain ⟨k', e, r⟩ := lookup_relS hk
        have : k' = .cell ∨ k' = .free := by
          rcases r with rfl | ⟨rfl, _⟩
          · exact hk'
          · exact .inr rfl
        rcases this with rfl | rfl
        · obtain ⟨c, hm⟩ := cells_has (n := (s.heap.push { cls := .type "dict", data := .dict #[] }).objs.size) (acc := cloFrom X.env.cells scope.names []) (PySem.mem_of_lookup e)
          obtain ⟨c', e'⟩ := mem_lookup hm
          exact ⟨c', by rw [hcl]; exact e'⟩
        · obtain ⟨c, h1, _⟩ := look e
          exact ⟨c, h1⟩
      rcases hy with hy | hy
      · exact key _ hy (.inl rfl)
      · exact key _ hy (.inr rfl)
    · have z : (scope.names.lookup y == some NameKind.cell) = true := z
      have z : scope.names.lookup y = some .cell := by simpa using z
      have e : cenv.cells.lookup y = some c := e
      rw [hcl] at e
      rcases cells_mem (PySem.mem_of_lookup e) with hm | ⟨_, h2, _⟩
      · rcases cloFrom_mem hm with hm | ⟨h1, _⟩
        · cases hm
        · have q := ok.uniq _ h1
          rw [z] at q; cases q
      · rw [Heap.size_push] at h2
        exact Nat.le_of_succ_le h2
    · show b ≠ cenv.locals
      rw [hL]; exact Nat.ne_of_lt (hfp b hb).2
    · have e : cenv.cells.lookup y = some c := e
      rcases mem e with ⟨h1, _⟩ | ⟨h1, _⟩
      · exact (hfp b hb).1.2.2.2.2.1 y c h1 z
      · have h2 : s.heap.objs.size + 1 ≤ b := by rw [← z]; exact h1
        exact absurd (Nat.lt_of_lt_of_le (hfp b hb).2 (Nat.le_of_succ_le h2)) (Nat.lt_irrefl _)
    · rcases (hfp b hb).1.2.2.2.1 with z | z
      · exact I.ok.noex b o e z
      · exact absurd (Nat.lt_of_lt_of_le (Heap.lt_size e) (Nat.le_trans I.ok.bsz z)) (Nat.lt_irrefl _)
    · rcases List.mem_cons.mp (I.stkSub b z) with z | z
      · exact (hfp b hb).1.2.1 z
      · exact (hfp b hb).1.2.2.1 z
  refine ⟨okB, rfl, I.bare, Un.kept kp, ⟨fun _ => none, ?_, fun i y av e1 e2 e3 => ?_⟩, fun y c e => ?_, ?_, fun y c e => ?_, fun p hp => ?_, I.hok.kept kp, by rw [wipe_length]; exact I.len⟩
  · show Heap.Ns _ cenv.locals _
    rw [hL]
    exact Heap.Ns.keeps (Heap.Ns.new ..) fun b o e => pushCells_keeps _ _ _ _ e
  · obtain ⟨e2, hne⟩ := wipe_some e2
    have hfr : scope.names.lookup y = some .free ∧ (cenv.kindOf y = some .cell ∨ cenv.kindOf y = some .free) := by
      have key : ∀ k, cenv.scope.names.lookup y = some k → k = .local ∨ k = .cell ∨ k = .free → scope.names.lookup y = some .free ∧ (cenv.kindOf y = some .cell ∨ cenv.kindOf y = some .free) := fun k hk hk' => by
        have hk0 := hk
        rw [hsc] at hk
        obtain ⟨k', e, r⟩ := lookup_relS hk
        have no : ¬ (k' = .local ∨ k' = .cell) := fun hh => by
          rcases ok.own _ (PySem.mem_of_lookup e) hh with e' | e'
          · obtain ⟨p, hp, hpy⟩ := List.mem_map.mp e'
            have e3 := ok.ix p hp
            have : p.1 = y := hpy
            rw [this] at e3
            exact hne (List.mem_map.mpr ⟨p, hp, nodup_ix hN e3 e1⟩)
          · exact e' (List.mem_of_getElem? e1)
        rcases r with rfl | ⟨rfl, rfl⟩
        · rcases hk' with rfl | rfl | rfl
          · exact absurd (.inl rfl) no
          · exact absurd (.inr rfl) no
          · exact ⟨e, .inr hk0⟩
        · exact ⟨e, .inl hk0⟩
      have e3 : Vis cenv.scope y := e3
      rcases e3 with e3 | e3 | e3
      · exact key _ e3 (.inl rfl)
      · exact key _ e3 (.inr (.inl rfl))
      · exact key _ e3 (.inr (.inr rfl))
    obtain ⟨m, hn, hl⟩ := I.loc
    have hvis : Vis X.env.scope y := (ok.free _ (PySem.mem_of_lookup hfr.1) rfl).elim (fun k => .inr (.inl k)) (fun k => .inr (.inr k))
    obtain ⟨w, r, q⟩ := hl i y av e1 e2 hvis
    refine ⟨w, r, .inr ⟨hfr.2, ?_⟩⟩
    obtain ⟨c, h1, h2⟩ := look hfr.1
    rcases q with ⟨k, _⟩ | ⟨_, c', e', z⟩
    · have k : X.env.scope.names.lookup y = some .local := k
      rcases ok.free _ (PySem.mem_of_lookup hfr.1) rfl with k' | k' <;> rw [show X.env.scope.names.lookup y = _ from k'] at k <;> cases k
    · rw [h2] at e'; cases e'
      exact ⟨c, h1, z.keeps kp⟩
  · have e : cenv.cells.lookup y = some c := e
    rcases mem e with ⟨h1, _⟩ | ⟨_, z⟩
    · obtain ⟨w, z⟩ := I.cell y c h1
      exact ⟨w, z.keeps kp⟩
    · exact ⟨_, z⟩
  · show H cenv.locals = none
    rw [hL]; exact I.hok.fresh (Nat.le_refl _)
  · have e : cenv.cells.lookup y = some c := e
    rcases mem e with ⟨h1, _⟩ | ⟨h1, _⟩
    · exact I.freeC y c h1
    · exact I.hok.fresh (Nat.le_of_succ_le h1)
  · exact absurd (show p ∈ ([] : List (Addr × Obj)) ++ [] from hp) (by simp)
theorem app_ok {E : Value → Shared → Prop} {D : Addr} {xs : List V} {y : V} {v : Value} {Q : Value → Shared → Prop} (I : Inv X pins σ H s) (hD : H D = some (.lst xs)) (hz : xs.length < sizeLine) (r : RelV y v)
    (h : ∀ s', Inv X pins σ (upd H D (.lst (xs ++ [y]))) s' → Q .none s') : wpAny (model X.prog X.w) X.A (call (.builtin "list.append") [.ref D, v]) Q E s := by
  obtain ⟨hz', its, n, ri, e⟩ := I.hok D _ hD
  have hl := ri.length
  refine append_at (hsz := by rw [List.size_toArray]; omega) e fun h' sb ho' => ?_
  refine h { s with heap := h' } (I.write (t' := s.toks) (by rw [hD]; trivial) (.inl rfl) (fun b u hb q => (sb.2 b hb).trans q) ⟨_, ho'⟩ ⟨by rw [List.length_append]; exact hz, its ++ [v], n + 1, ri.append (.cons r .nil), ?_⟩)
  rw [ho']
  simp
def PTs (X : Cx) (ifs : List Expr) (t : TT) : Prop :=
  ∀ (pins : List (Addr × Obj)) (s : Shared) (σ : St) (H : Hp) (Q : Bool → Hp → Prop), Inv X pins σ H s → t σ H Q →
    wpAny (model X.prog X.w) X.A (forIn ifs true fun c r => if r = true then do let ok ← isTrue c X.env (eval c X.env); pure (ForInStep.yield ok) else pure (ForInStep.yield r)) (TP X pins σ Q) X.xe s
def tYes : TT := fun _ H Q => Q true H
theorem pts_nil : PTs X [] tYes := fun _ _ _ H _ I h => wpAny_tests_nil ⟨H, I, h⟩
theorem pts_one {c : Expr} {t : TT} (h : PT X c t) : PTs X [c] t := fun pins s σ H Q I hw => wpAny_tests_one (h pins s σ H Q I hw)
end
theorem thnF {α : Type} {t : Sem α} {Q Q' : α → Shared → Prop} {M : Model} {A : Around} {E : Value → Shared → Prop} {s : Shared} (h : wpAny M A t Q (fun _ _ => False) s) (hQ : ∀ a s, Q a s → Q' a s) : wpAny M A t Q' E s := wpAny_mono h hQ fun _ _ z => False.elim z
theorem compLoop_any {prog : Program} {w : World} {A : Around} {R : Result → Shared → Prop} {s : Shared} {elt target iter : Expr} {ifs : List Expr} {scope : Scope} {pos : Pos} {it acc : Value} {env : Env} (I : Nat → Shared → Prop)
    (turn : ∀ n s, I n s → wpAny (model prog w) A (pyNext it) (fun r s₁ => match r with
      | none => R (.ok .next) s₁
      | some v => wpAny (model prog w) A (letOwnedTupleGo target it v) (fun _ s₁' => wpAny (model prog w) A (assign target env v) (fun _ s₂ =>
          wpAny (model prog w) A (forIn ifs true fun c r => if r = true then do let ok ← isTrue c env (eval c env); pure (ForInStep.yield ok) else pure (ForInStep.yield r)) (fun ok s₃ =>
            if ok = true then wpAny (model prog w) A (eval elt env) (fun x s₄ =>
              wpAny (model prog w) A (call (.builtin "list.append") [acc, x]) (fun _ s₅ => ∃ m, m < n ∧ I m s₅) (notedBy (model prog w) A env fun e s' => R (.error e) s') s₄) (notedBy (model prog w) A env fun e s' => R (.error e) s') s₃
            else ∃ m, m < n ∧ I m s₃) (notedBy (model prog w) A env fun e s' => R (.error e) s') s₂) (notedBy (model prog w) A env fun e s' => R (.error e) s') s₁') (notedBy (model prog w) A env fun e s' => R (.error e) s') s₁) (notedBy (model prog w) A env fun e s' => R (.error e) s') s)
    (n : Nat) (h : I n s) :
    codeAny (model prog w) A (.compLoop (.ListComp elt [⟨target, iter, ifs, 0⟩] scope pos) 0 it acc env) R s := by
  refine codeAny_loop rfl I (fun n s hI => ?_) n h
  show wpAny _ A ((compTurn (.ListComp elt [⟨target, iter, ifs, 0⟩] scope pos) 0 it acc env).onRaise (fun x => do noteFrame x env; theTreesLotGoes x)) _ _ s
  refine wpAny_noted ?_
  rw [compTurn_list]
  refine wpAny_bind (wpAny_standAt (wpAny_bind (wpAny_mono (turn n s hI) (fun r s₁ h₁ => ?_) fun _ _ h' => h')))
  cases r with
  | none => exact wpAny_pure h₁
  | some v =>
    refine wpAny_bind (wpAny_mono h₁ (fun _ s₁' h₁' => ?_) fun _ _ h' => h')
    refine wpAny_bind (wpAny_mono h₁' (fun _ s₂ h₂ => wpAny_bind (wpAny_mono h₂ (fun ok s₃ h₃ => ?_) fun _ _ h' => h')) fun _ _ h' => h')
    cases ok with
    | false => exact wpAny_pure ⟨rfl, h₃⟩
    | true =>
      exact wpAny_bind (wpAny_bind (wpAny_mono h₃ (fun x s₄ h₄ => wpAny_bind (wpAny_mono h₄ (fun _ s₅ h₅ => wpAny_pure (wpAny_pure ⟨rfl, h₅⟩)) fun _ _ h' => h')) fun _ _ h' => h'))
section
variable {X : Cx}
def tLc (wi : TI) (g : TG) (tt : TT) (te : TE) (vs : List Nat) : TE := fun σ H Q => wi σ H fun J H1 => ∀ D, H1 D = none → ∃ W : Nat → Nat → Hp → Prop, (∃ m, W 0 m (upd H1 D (.lst []))) ∧ ∀ i m H, W i m H →
  (J.stop i H ∧ Q (.ref D) H) ∨ (J.go i H ∧ ∃ Nx : Hp → Prop, (∀ H', Nx H' → ∃ m', m' < m ∧ W (i + 1) m' H') ∧ ∀ x H', J.yld i H x H' → g x (wipe σ vs) H' fun σ2 H2 => wipe σ2 vs = wipe σ vs ∧ tt σ2 H2 fun b H3 =>
    if b = true then te σ2 H3 fun y H4 => ∃ acc, H4 D = some (.lst acc) ∧ acc.length < sizeLine ∧ Nx (upd H4 D (.lst (acc ++ [y]))) else Nx H3)
theorem lc_core {pins : List (Addr × Obj)} {s : Shared} {σ : St} {H : Hp} {Q : VK} {elt tg iter : Expr} {ifs : List Expr} {scope : Scope} {own : List (Str × Nat)} {pos pos' : Pos} {wi : TI} {g : TG} {tt : TT} {te : TE} {use : Option (Value → Sem Unit)} {Qf : Value → Shared → Prop}
    (hc : X.calm = true) (hN : X.N.Nodup) (I : Inv X pins σ H s) (hi : PI X tg iter wi) (ok : BlkOk X.N X.env.scope scope own)
    (hg : ∀ (s : Shared) (H : Hp) (C : Addr) (cl : List (Str × Addr)) (fp : List Addr), PG (X.blk s H scope (compEnvC scope cl C X.env) fp) tg g) (ht : ∀ (s : Shared) (H : Hp) (C : Addr) (cl : List (Str × Addr)) (fp : List Addr), PTs (X.blk s H scope (compEnvC scope cl C X.env) fp) ifs tt)
    (he : ∀ (s : Shared) (H : Hp) (C : Addr) (cl : List (Str × Addr)) (fp : List Addr), PE (X.blk s H scope (compEnvC scope cl C X.env) fp) elt te) (hs : ∀ x, foldedSetIterable iter X.env x = pure x)
    (h : tLc wi g tt te (own.map (·.2)) σ H Q)
    (hRR : ∀ D C s' m H', Inv X pins σ H' s' → Q (.ref D) H' → s'.heap.Ns C m → FpOk X pins H' C → compPost (model X.prog X.w) X.A X.xe use Qf (.ref D) C (.ok .next) s') :
    wpAny (model X.prog X.w) X.A (comprehension (.ListComp elt [⟨tg, iter, ifs, 0⟩] scope pos) scope X.env pos' (newList []) false (eval iter X.env) use) Qf X.xe s := by
  have hfree : ∀ y ∈ scope.names, y.2 = .free → ∃ c, X.env.cells.lookup y.1 = some c := fun y hy e => by
    rcases ok.free y hy e with k | k
    · exact I.ok.has _ (.inl k)
    · exact I.ok.has _ (.inr k)
  refine wpAny_comprehension_free (use := use) rfl hs (closure_ok hfree) ok.kind (fun y hy e => by rw [ok.uniq y hy, e])
    (thn (hi pins s σ H _ I h) fun xv s1 hx => thn hx fun itv s2 h2 => ?_)
  obtain ⟨it, fp, tn, J, H2, e, I2, T, st2, f2, q⟩ := h2
  subst e
  refine wpAny_newObj_type (newEnv_comp ?_) (by show 0 ≤ sizeLine; decide)
  generalize hD : s2.heap.objs.size = D
  have hDn : H2 D = none := I2.hok.fresh (Nat.le_of_eq hD)
  obtain ⟨W, ⟨m0, w0⟩, turn⟩ := q D hDn
  -- the new list
  generalize hs3 : ({ s2 with heap := s2.heap.push { cls := .type "list", data := .seq ([] : List Value).toArray } } : Shared) = s3
  have I3 : Inv X pins σ (upd H2 D (.lst [])) s3 := by
    rw [← hs3]
    refine I2.laid (t' := s2.toks) (fun b o e => Heap.get?_push_of_some _ e) (Nat.le_of_eq hD) ⟨Nat.zero_le _, [], 0, .nil, ?_⟩
    rw [← hD]
    exact Heap.get?_push_size _ rfl
  have h3 : s3.heap = s2.heap.push { cls := .type "list", data := .seq ([] : List Value).toArray } := by rw [← hs3]
  have sz : ∀ b ∈ fp, b < s2.heap.objs.size := fun b hb => by
    obtain ⟨o, e, _⟩ := T.obj _ _ st2 b hb
    exact Heap.lt_size e
  have f3 : ∀ b ∈ fp, FpOk X pins (upd H2 D (.lst [])) b ∧ b < s3.heap.objs.size := fun b hb => by
    have hlt := sz b hb
    refine ⟨⟨?_, (f2 b hb).2⟩, by rw [h3, Heap.size_push]; exact Nat.lt_succ_of_lt hlt⟩
    rw [upd_ne (by rw [← hD]; exact Nat.ne_of_lt hlt)]
    exact (f2 b hb).1
  have st3 : tn 0 s3.heap := T.keep _ _ _ st2 fun b _ o e => by rw [h3]; exact Heap.get?_push_of_some _ e
  have I4 := block_start I3 ok hN f3
  have pg := hg s3 (upd H2 D (.lst [])) s3.heap.objs.size (cellsFrom (s3.heap.objs.size + 1) scope.names (cloFrom X.env.cells scope.names [])) fp
  have pt := ht s3 (upd H2 D (.lst [])) s3.heap.objs.size (cellsFrom (s3.heap.objs.size + 1) scope.names (cloFrom X.env.cells scope.names [])) fp
  have pe := he s3 (upd H2 D (.lst [])) s3.heap.objs.size (cellsFrom (s3.heap.objs.size + 1) scope.names (cloFrom X.env.cells scope.names [])) fp
  show codeAny _ _ (.compStart (.ListComp elt [⟨tg, iter, ifs, 0⟩] scope pos) 0 (.ref it) (.ref D) (compEnvC scope (cellsFrom (s3.heap.objs.size + 1) scope.names (cloFrom X.env.cells scope.names [])) s3.heap.objs.size X.env)) (compPost (model X.prog X.w) X.A X.xe use Qf (.ref D) s3.heap.objs.size) { s3 with heap := pushCells (s3.heap.push { cls := .type "dict", data := .dict #[] }) scope.names }
  have nfp : ∀ b ∈ fp, (upd H2 D (.lst [])) b = none := fun b hb => (f3 b hb).1.1
  generalize hce : compEnvC scope (cellsFrom (s3.heap.objs.size + 1) scope.names (cloFrom X.env.cells scope.names [])) s3.heap.objs.size X.env = ce at I4 pg pt pe ⊢
  have cL : ce.locals = s3.heap.objs.size := by subst hce; rfl
  generalize hH3 : upd H2 D (.lst []) = H3 at I3 I4 pg pt pe w0 nfp f3
  generalize hs4 : ({ s3 with heap := pushCells (s3.heap.push { cls := .type "dict", data := .dict #[] }) scope.names } : Shared) = s4 at I4 ⊢
  have st4 : tn 0 s4.heap := T.keep _ _ _ st3 fun b _ o e => by rw [← hs4]; exact pushCells_keeps _ _ _ _ (Heap.get?_push_of_some _ e)
  have stat : ∀ {σ' : St} {H' : Hp} {s' : Shared}, Inv (X.blk s3 H3 scope ce fp) [] σ' H' s' → (∀ b ∈ fp, H' b = none) → ∀ b ∈ fp, FpOk (X.blk s3 H3 scope ce fp) [] H' b := fun {σ' H' s'} I' hn b hb =>
    ⟨hn b hb, (I'.ok.exf b hb).1, I'.ok.exfs b hb, .inl hb, fun x c e => (I'.ok.exf b hb).2 x c e, fun p hp => absurd (show p ∈ ([] : List (Addr × Obj)) ++ [] from hp) (by simp)⟩
  have loop : codeAny (model X.prog X.w) X.A (.compLoop (.ListComp elt [⟨tg, iter, ifs, 0⟩] scope pos) 0 (.ref it) (.ref D) ce) (compPost (model X.prog X.w) X.A X.xe use Qf (.ref D) s3.heap.objs.size) s4 := by
    refine compLoop_any (fun n s' => ∃ i H', Inv (X.blk s3 H3 scope ce fp) [] (wipe σ (own.map (·.2))) H' s' ∧ tn i s'.heap ∧ (∀ b ∈ fp, H' b = none) ∧ W i n H') ?_ m0 ⟨0, H3, I4, st4, nfp, w0⟩
    rintro n s5 ⟨i, H5, I5, st5, n5, w5⟩
    rcases turn i n H5 w5 with ⟨stop, qq⟩ | ⟨go, Nx, hNx, step⟩
    · have td := T.done (X.blk s3 H3 scope ce fp) rfl rfl rfl hc i [] s5 _ H5 (fun _ _ => False) I5 (stat I5 n5) st5 stop
      refine thnF td fun r s6 ⟨hr, I6⟩ => ?_
      subst hr
      -- back in the def's context
      have I7 : Inv X pins σ H5 s6 := I3.call' (ch := fp) I6.os I6.base I6.hok I6.bare fun b hb => ⟨(f3 b hb).1.2.2.2.1, (f3 b hb).1.2.1, (f3 b hb).1.2.2.2.2.1, (f3 b hb).1.2.2.2.2.2⟩
      have nC : H5 s3.heap.objs.size = none := by
        have z : H5 ce.locals = none := I6.free
        rw [cL] at z
        exact z
      obtain ⟨m, hn, _⟩ := I6.loc
      have hn : s6.heap.Ns ce.locals m := hn
      rw [cL] at hn
      exact hRR D s3.heap.objs.size s6 m H5 I7 qq hn (I3.fpOk (Nat.le_refl _) nC)
    · have ti := T.item (X.blk s3 H3 scope ce fp) rfl rfl rfl hc i [] s5 _ H5 (fun _ _ => False) I5 (stat I5 n5) st5 go
      refine thnF ti fun r s6 ⟨u, hr, h6⟩ => ?_
      subst hr
      refine thnF h6 fun _ s7 ⟨x, H7, I7, r7, y7, st7, n7⟩ => ?_
      have I7' := I7.pinned (stat I7 n7) (T.obj _ _ st7)
      refine thnF (pg _ s7 _ H7 x u _ I7' r7 (step x H7 y7)) fun _ s8 ⟨σ8, H8, I8, hw8, q8⟩ => ?_
      refine thnF (pt _ s8 σ8 H8 _ I8 q8) fun b s9 ⟨H9, I9, q9⟩ => ?_
      -- the turn's end
      have fin : ∀ {s' : Shared} {H' : Hp}, Inv (X.blk s3 H3 scope ce fp) ([] ++ pinsAt fp s7.heap) σ8 H' s' → Nx H' → ∃ m, m < n ∧ ∃ i H', Inv (X.blk s3 H3 scope ce fp) [] (wipe σ (own.map (·.2))) H' s' ∧ tn i s'.heap ∧ (∀ b ∈ fp, H' b = none) ∧ W i m H' := fun {s' H'} I' nx => by
        obtain ⟨m', hm, w'⟩ := hNx H' nx
        have pin' : ∀ b ∈ fp, ∀ o, s7.heap.get? b = some o → s'.heap.get? b = some o ∧ H' b = none := fun b hb o e =>
          let z := I'.pin (b, o) (List.mem_append_right _ (List.mem_append_right _ (mem_pinsAt hb e)))
          ⟨z.1, z.2.1⟩
        have hl : (wipe σ (own.map (·.2))).length = σ8.length := by rw [← hw8, wipe_length]
        refine ⟨m', hm, i + 1, H', (I'.unpinned (pins := [])).weak hl (fun j v e => ?_), T.keep _ _ _ st7 fun b hb o e => (pin' b hb o e).1, fun b hb => ?_, w'⟩
        · rw [← hw8] at e
          exact (wipe_some e).1
        · obtain ⟨o, e, _⟩ := T.obj _ _ st7 b hb
          exact (pin' b hb o e).2
      cases b with
      | false =>
        simp only [Bool.false_eq_true, if_false] at q9 ⊢
        exact fin I9 q9
      | true =>
        simp only [if_true] at q9 ⊢
        refine thnF (pe _ s9 σ8 H9 _ I9 q9) fun z s10 ⟨yv, H10, I10, r10, acc, hD10, hz10, nx⟩ => ?_
        exact app_ok (X := X.blk s3 H3 scope ce fp) I10 hD10 hz10 r10 fun s11 I11 => fin I11 nx
  exact codeAny_compStart_list loop (T.self X.A 0 _ _ _ st4 loop)
theorem ps_setLc {i : Nat} {y : Str} {py : Pos} {elt tg iter : Expr} {ifs : List Expr} {scope : Scope} {own : List (Str × Nat)} {pos spos : Pos} {wi : TI} {g : TG} {tt : TT} {te : TE} (hc : X.calm = true) (hN : X.N.Nodup) (hy : X.N[i]? = some y) (hyl : X.env.scope.names.lookup y = some .local)
    (hsw : swapsWith (.ListComp elt [⟨tg, iter, ifs, 0⟩] scope pos) (some (.Name y py)) spos.line X.env = pure true) (hi : PI X tg iter wi) (ok : BlkOk X.N X.env.scope scope own)
    (hg : ∀ (s : Shared) (H : Hp) (C : Addr) (cl : List (Str × Addr)) (fp : List Addr), PG (X.blk s H scope (compEnvC scope cl C X.env) fp) tg g) (ht : ∀ (s : Shared) (H : Hp) (C : Addr) (cl : List (Str × Addr)) (fp : List Addr), PTs (X.blk s H scope (compEnvC scope cl C X.env) fp) ifs tt)
    (he : ∀ (s : Shared) (H : Hp) (C : Addr) (cl : List (Str × Addr)) (fp : List Addr), PE (X.blk s H scope (compEnvC scope cl C X.env) fp) elt te) (hs : ∀ x, foldedSetIterable iter X.env x = pure x := by intro _; rfl) :
    PS X (.Assign [.Name y py] (.ListComp elt [⟨tg, iter, ifs, 0⟩] scope pos) spos) (tAsg (tLc wi g tt te (own.map (·.2))) (gName i)) := by
  intro pins s σ H D I h
  rw [exec_Assign_Name_used _ _ _ _ hsw]
  refine wpAny_bind (wpAny_standAt (wpAny_bind ?_))
  show wpAny _ X.A (do let _ ← comprehension (.ListComp elt [⟨tg, iter, ifs, 0⟩] scope pos) scope X.env (firstIterPos [⟨tg, iter, ifs, 0⟩] pos) (newList []) false (eval iter X.env) (some (assign (.Name y py) X.env))) _ _ s
  have h : tLc wi g tt te (own.map (·.2)) σ H (fun x H1 => gName i x σ H1 D.nx) := h
  refine wpAny_bind (thn (lc_core (Qf := fun _ s' => SP X pins D .next s') hc hN I hi ok hg ht he hs h fun L C s' m H' I' q hn f => ?_) fun _ s' hq => wpAny_pure (wpAny_pure hq))
  show wpAny _ _ (assign (.Name y py) X.env (.ref L)) _ _ _
  refine wpAny_assign_Name (store_ok2 (v := V.ref L) I' hN hy (.inl hyl) rfl (fun s2 I2 ⟨a, sb, ha⟩ => ?_) (.inr hyl))
  obtain ⟨f0, f1, f2, f3, f4, f5⟩ := f
  have haC : C ≠ a := by
    rcases ha with z | z
    · rw [z]; exact f1
    · exact fun e => f4 y a z e.symm
  refine ⟨m, hn.sameBut sb haC, fun h3 sb3 => ?_⟩
  exact ⟨_, H', I2.turned (t' := s2.toks) (fun b o hb e => (sb3.2 b hb).trans e) f0 f1 f3 f4 f5, q⟩
theorem sw_true {elt : Expr} {gs : List Comprehension} {scope : Scope} {pos py : Pos} {y : Str} {l : Nat} {env : Env} (hk : env.scope.kind = .function) (hy : env.scope.names.lookup y = some .local) (hl : (py.line == pos.line) = true)
    (ha : (scope.names.any fun (n, k) => n == y && (k == .local || k == .cell)) = false) : swapsWith (.ListComp elt gs scope pos) (some (.Name y py)) l env = pure true := by
  have ky : env.kindOf y = some .local := hy
  have hb : env.blockKind = .function := by unfold Env.blockKind; rw [hk]; rfl
  unfold swapsWith
  simp only [hb, ky, ha, Expr.pos, hl]
  rfl
end
theorem lc_list {K : PySem.W.Frag} {a : Addr} {xs : List V} {g : TG} {tt : TT} {te : TE} {vs : List Nat} {σ : St} {H1 : Hp} {D : Addr} {Qd : Hp → Prop} (Pv : Nat → Hp → Prop) (h0 : Pv 0 (upd H1 D (.lst []))) (hl : ∀ i H, i ≤ xs.length → Pv i H → SqL K H a xs)
    (hs : ∀ i x H, xs[i]? = some x → Pv i H → g x (wipe σ vs) H fun σ2 H2 => wipe σ2 vs = wipe σ vs ∧ tt σ2 H2 fun b H3 =>
      if b = true then te σ2 H3 fun y H4 => ∃ acc, H4 D = some (.lst acc) ∧ acc.length < sizeLine ∧ Pv (i + 1) (upd H4 D (.lst (acc ++ [y]))) else Pv (i + 1) H3) (hd : ∀ H, Pv xs.length H → Qd H) :
    ∃ W : Nat → Nat → Hp → Prop, (∃ m, W 0 m (upd H1 D (.lst []))) ∧ ∀ i m H, W i m H →
      ((Itl K a).stop i H ∧ Qd H) ∨ ((Itl K a).go i H ∧ ∃ Nx : Hp → Prop, (∀ H', Nx H' → ∃ m', m' < m ∧ W (i + 1) m' H') ∧ ∀ x H', (Itl K a).yld i H x H' → g x (wipe σ vs) H' fun σ2 H2 => wipe σ2 vs = wipe σ vs ∧ tt σ2 H2 fun b H3 =>
        if b = true then te σ2 H3 fun y H4 => ∃ acc, H4 D = some (.lst acc) ∧ acc.length < sizeLine ∧ Nx (upd H4 D (.lst (acc ++ [y]))) else Nx H3) := by
  refine ⟨fun i m H => m = xs.length - i ∧ i ≤ xs.length ∧ Pv i H, ⟨xs.length, by simp, Nat.zero_le _, h0⟩, ?_⟩
  rintro i m H ⟨rfl, hi, p⟩
  have q := hl i H hi p
  by_cases hlt : i < xs.length
  · refine .inr ⟨⟨xs, xs[i], q, by simp [hlt]⟩, Pv (i + 1), fun H' p' => ⟨xs.length - (i + 1), by omega, rfl, hlt, p'⟩, fun x H' y => ?_⟩
    obtain ⟨e, y⟩ := y
    subst e
    exact hs i x _ (y xs q) p
  · have e : i = xs.length := by omega
    subst e
    exact .inl ⟨⟨xs, q, Nat.le_refl _⟩, hd H p⟩
def blkC (N : List Str) (sc scope : Scope) (own : List (Str × Nat)) : Bool :=
  (match scope.kind with | .function => true | _ => false) && (scope.names.all fun y => decide (scope.names.lookup y.1 = some y.2)) && (own.all fun p => decide (N[p.2]? = some p.1)) &&
    (scope.names.all fun y => match y.2 with
      | .free => (match sc.names.lookup y.1 with | some .cell => true | some .free => true | _ => false)
      | .local => decide (y.1 ∈ own.map (·.1)) || decide (y.1 ∉ N)
      | .cell => decide (y.1 ∈ own.map (·.1)) || decide (y.1 ∉ N)
      | _ => true)
theorem blkOk_by {N : List Str} {sc scope : Scope} {own : List (Str × Nat)} (h : blkC N sc scope own = true) : BlkOk N sc scope own := by
  unfold blkC at h
  simp only [Bool.and_eq_true, List.all_eq_true, decide_eq_true_eq] at h
  obtain ⟨⟨⟨h1, h2⟩, h3⟩, h4⟩ := h
  refine ⟨?_, h2, h3, fun y hy e => ?_, fun y hy e => ?_⟩
  · split at h1
    · assumption
    · cases h1
  · have q := h4 y hy
    simp only [e] at q
    split at q <;> first | exact .inl (by assumption) | exact .inr (by assumption) | cases q
  · have q := h4 y hy
    rcases e with e | e <;> (simp only [e, Bool.or_eq_true, decide_eq_true_eq] at q; exact q)
end L2
namespace L2
open PySem PySem.Spec PyProof.Rows
section
variable {prog : Program} {w : World} {A : Around} {R : Result → Shared → Prop} {s : Shared} {elt t0 i0 t1 i1 : Expr} {ifs0 ifs1 : List Expr} {scope : Scope} {pos : Pos} {it acc : Value} {env : Env}
end
section
variable {X : Cx}
end
end L2
namespace L2
open PySem PySem.Spec PyProof.Rows
section
variable {κ : Type} [DecidableEq κ]
def valV (kvs : List (κ × V)) (k : κ) : Option V := (kvs.find? fun kv => decide (kv.1 = k)).map (·.2)
def putK (kvs : List (κ × V)) (k : κ) (v : V) : List (κ × V) :=
  if (kvs.any fun kv => decide (kv.1 = k)) = true then kvs.map (fun kv => if kv.1 = k then (kv.1, v) else kv) else kvs ++ [(k, v)]
def dropK (kvs : List (κ × V)) (k : κ) : List (κ × V) := kvs.filter fun kv => decide (kv.1 ≠ k)
theorem valV_pos {p : κ × V} {r : List (κ × V)} {k : κ} (e : p.1 = k) : valV (p :: r) k = some p.2 := by simp [valV, List.find?_cons, e]
theorem valV_neg {p : κ × V} {r : List (κ × V)} {k : κ} (e : ¬ p.1 = k) : valV (p :: r) k = valV r k := by simp [valV, List.find?_cons, e]
theorem valV_any (k : κ) : ∀ kvs : List (κ × V), (kvs.any fun kv => decide (kv.1 = k)) = (valV kvs k).isSome
  | [] => rfl
  | p :: r => by
    rw [List.any_cons]
    by_cases e : p.1 = k
    · simp only [valV_pos e, decide_eq_true e, Bool.true_or, Option.isSome_some]
    · rw [valV_neg e, decide_eq_false e, Bool.false_or]; exact valV_any k r
theorem length_putK (kvs : List (κ × V)) (k : κ) (v : V) : (putK kvs k v).length ≤ kvs.length + 1 := by
  unfold putK
  split
  · rw [List.length_map]; omega
  · rw [List.length_append, List.length_cons, List.length_nil]; omega
theorem putK_new {kvs : List (κ × V)} {k : κ} (v : V) (h : valV kvs k = none) : putK kvs k v = kvs ++ [(k, v)] := by
  unfold putK
  rw [valV_any, h]
  exact if_neg (by decide)
theorem RelO.isSome_eq {o : Option V} {u : Option Value} (r : RelO o u) : o.isSome = u.isSome := by
  cases o with
  | none => cases u with
    | none => rfl
    | some _ => exact (show False from r).elim
  | some _ => cases u with
    | none => exact (show False from r).elim
    | some _ => rfl
theorem KV.val {kvs : List (κ × V)} {vs : List (κ × Value)} (r : KV kvs vs) (k : κ) : RelO (valV kvs k) (valueAt vs k) := by
  unfold KV at r
  induction r with
  | nil => exact True.intro
  | @cons p q ps qs h t ih =>
    obtain ⟨h1, h2⟩ := h
    by_cases e : p.1 = k
    · have e' : q.1 = k := h1.symm.trans e
      have b : valueAt (q :: qs) k = some q.2 := by simp [valueAt, List.find?_cons, e']
      rw [valV_pos e, b]; exact h2
    · have e' : ¬ q.1 = k := fun z => e (h1.trans z)
      have b : valueAt (q :: qs) k = valueAt qs k := by simp [valueAt, List.find?_cons, e']
      rw [valV_neg e, b]; exact ih
theorem KV.any {kvs : List (κ × V)} {vs : List (κ × Value)} (r : KV kvs vs) (k : κ) : (kvs.any fun kv => decide (kv.1 = k)) = vs.any fun kv => decide (kv.1 = k) := by
  unfold KV at r
  induction r with
  | nil => rfl
  | cons h t ih => rw [List.any_cons, List.any_cons, ih, h.1]
theorem KV.repl {kvs : List (κ × V)} {vs : List (κ × Value)} (r : KV kvs vs) (k : κ) {y : V} {u : Value} (ry : RelV y u) :
    KV (kvs.map fun kv => if kv.1 = k then (kv.1, y) else kv) (vs.map fun kv => if kv.1 = k then (kv.1, u) else kv) := by
  unfold KV at r ⊢
  induction r with
  | nil => exact .nil
  | @cons p q ps qs h t ih =>
    rw [List.map_cons, List.map_cons]
    refine .cons ?_ ih
    obtain ⟨h1, h2⟩ := h
    by_cases e : p.1 = k
    · rw [if_pos e, if_pos (h1.symm.trans e)]; exact ⟨h1, ry⟩
    · rw [if_neg e, if_neg (fun z => e (h1.trans z))]; exact ⟨h1, h2⟩
theorem KV.put {kvs : List (κ × V)} {vs : List (κ × Value)} (r : KV kvs vs) (k : κ) {y : V} {u : Value} (ry : RelV y u) : KV (putK kvs k y) (stored vs k u) := by
  unfold putK stored
  rw [r.any k]
  by_cases e : (vs.any fun kv => decide (kv.1 = k)) = true
  · rw [if_pos e, if_pos e]; exact r.repl k ry
  · rw [if_neg e, if_neg e]; exact Paired.snoc r ⟨rfl, ry⟩
theorem KV.drop {kvs : List (κ × V)} {vs : List (κ × Value)} (r : KV kvs vs) (k : κ) : KV (dropK kvs k) (without vs k) := by
  unfold KV at r ⊢
  unfold dropK without
  induction r with
  | nil => exact .nil
  | @cons p q ps qs h t ih =>
    obtain ⟨h1, h2⟩ := h
    rw [List.filter_cons, List.filter_cons]
    by_cases e : p.1 = k
    · have a : ¬ decide (p.1 ≠ k) = true := by simp [e]
      have b : ¬ decide (q.1 ≠ k) = true := by simp [h1.symm.trans e]
      rw [if_neg a, if_neg b]; exact ih
    · have e' : ¬ q.1 = k := fun z => e (h1.trans z)
      have a : decide (p.1 ≠ k) = true := by simp [e]
      have b : decide (q.1 ≠ k) = true := by simp [e']
      rw [if_pos a, if_pos b]; exact .cons ⟨h1, h2⟩ ih
theorem KV.length {kvs : List (κ × V)} {vs : List (κ × Value)} (r : KV kvs vs) : kvs.length = vs.length := Paired.length r
theorem dropK_le (kvs : List (κ × V)) (k : κ) : (dropK kvs k).length ≤ kvs.length := List.length_filter_le _ _
end
theorem kV_is {P : Program} {w : World} {k : Key} {u : Value} (r : RelV (kV k) u) : (mixKind P w).is k u = true := by
  cases k with
  | inl i => obtain ⟨t, e⟩ := (show ∃ t, u = Value.int i t from r); subst e; exact mixKind_int P w i t
  | inr x => obtain ⟨t, e⟩ := (show ∃ t, u = Value.str x t from r); subst e; exact mixKind_str P w x t
theorem items_are {P : Program} {w : World} : ∀ {ks : List Key} {us : List Value}, Vals (ks.map kV) us → ItemsAre (mixKind P w) ks us
  | [], _, r => by rw [List.map_nil] at r; cases r; exact .nil
  | k :: ks, _, r => by
    rw [List.map_cons] at r
    cases r with
    | cons h t => exact .cons (kV_is h) (items_are t)
abbrev KT (H : Hp) : List (List Key × V) → List (List Key × Addr × Value) → Prop := Paired fun p q => p.1 = q.1 ∧ H q.2.1 = some (.tup (p.1.map kV)) ∧ RelV p.2 q.2.2
theorem KT.val {H : Hp} {kvs : List (List Key × V)} {xs : List (List Key × Addr × Value)} (r : KT H kvs xs) (k : List Key) : RelO (valV kvs k) ((atKey xs k).map (·.2)) := by
  induction r with
  | nil => exact True.intro
  | @cons p q ps qs h t ih =>
    obtain ⟨h1, _, h2⟩ := h
    by_cases e : p.1 = k
    · have e' : q.1 = k := h1.symm.trans e
      have b : atKey (q :: qs) k = some q.2 := by simp [atKey, List.find?_cons, e']
      rw [valV_pos e, b]; exact h2
    · have e' : ¬ q.1 = k := fun z => e (h1.trans z)
      have b : atKey (q :: qs) k = atKey qs k := by simp [atKey, List.find?_cons, e']
      rw [valV_neg e, b]; exact ih
theorem KT.repl {H : Hp} {kvs : List (List Key × V)} {xs : List (List Key × Addr × Value)} (r : KT H kvs xs) (k : List Key) {y : V} {u : Value} (ry : RelV y u) :
    KT H (kvs.map fun kv => if kv.1 = k then (kv.1, y) else kv) (xs.map (putAt k u)) := by
  induction r with
  | nil => exact .nil
  | @cons p q ps qs h t ih =>
    rw [List.map_cons, List.map_cons]
    refine .cons ?_ ih
    obtain ⟨h1, h2, h3⟩ := h
    unfold putAt
    by_cases e : p.1 = k
    · rw [if_pos e, if_pos (h1.symm.trans e)]; exact ⟨h1, h2, ry⟩
    · rw [if_neg e, if_neg (fun z => e (h1.trans z))]; exact ⟨h1, h2, h3⟩
theorem KT.put {H : Hp} {kvs : List (List Key × V)} {xs : List (List Key × Addr × Value)} (r : KT H kvs xs) (k : List Key) {b : Addr} {y : V} {u : Value} (hb : H b = some (.tup (k.map kV))) (ry : RelV y u) :
    KT H (putK kvs k y) (storedH xs k b u) := by
  have e : (kvs.any fun kv => decide (kv.1 = k)) = (atKey xs k).isSome := by
    rw [valV_any, (r.val k).isSome_eq, Option.isSome_map]
  unfold putK storedH
  rw [e]
  by_cases q : (atKey xs k).isSome = true
  · rw [if_pos q, if_pos q]; exact r.repl k ry
  · rw [if_neg q, if_neg q]; exact Paired.snoc r ⟨rfl, hb, ry⟩
theorem KT.keeps {H H' : Hp} {kvs : List (List Key × V)} {xs : List (List Key × Addr × Value)} (r : KT H kvs xs) (ht : ∀ b ys, H b = some (.tup ys) → H' b = some (.tup ys)) : KT H' kvs xs :=
  Paired.mapP r fun _ _ z => ⟨z.1, ht _ _ z.2.1, z.2.2⟩
section
variable {P : Program} {w : World} {H : Hp} {h : Heap} {a : Addr}
theorem rd_of {u : HO} (ok : HOk P w H h) (e : Rd H a u) : ObjOk P w H h a u := e.ok ok
theorem dk_rd {kvs : List (Key × V)} (ok : HOk P w H h) (e : Rd H a (.dK kvs)) : kvs.length ≤ sizeLine ∧ (a == sysModules) = false ∧ ∃ vs, KV kvs vs ∧ h.DictOf (mixKind P w) a vs :=
  show ObjOk P w H h a (.dK kvs) from rd_of ok e
theorem dk_of {kvs : List (Key × V)} (ok : HOk P w H h) (e : H a = some (.dK kvs)) : kvs.length ≤ sizeLine ∧ (a == sysModules) = false ∧ ∃ vs, KV kvs vs ∧ h.DictOf (mixKind P w) a vs := dk_rd ok (.inl e)
theorem key_of {ks : List Key} (ok : HOk P w H h) (e : H a = some (.tup (ks.map kV))) : (tupleKind (mixKind P w)).is h ks a := by
  obtain ⟨_, its, r, o, h1, h2, n, h3⟩ := (show ObjOk P w H h a (.tup (ks.map kV)) from ok a _ e)
  exact ⟨o, its.toArray, n, h1, h2, h3, by simpa using items_are r⟩
theorem dt_rd {kvs : List (List Key × V)} (ok : HOk P w H h) (e : Rd H a (.dT kvs)) : kvs.length ≤ sizeLine ∧ (a == sysModules) = false ∧
    ∃ xs, KT H kvs xs ∧ h.DictOfH (tupleKind (mixKind P w)) a xs := by
  obtain ⟨z, y, xs, r, o, es, ep, h1, h2, h3, h4, h5⟩ := (show ObjOk P w H h a (.dT kvs) from rd_of ok e)
  refine ⟨z, y, xs, r, o, es, ep, h1, h2, h3, h4, fun x hx => ?_, h5⟩
  have all : ∀ {l : List (List Key × V)} {m : List (List Key × Addr × Value)}, KT H l m → ∀ x ∈ m, (tupleKind (mixKind P w)).is h x.1 x.2.1 := by
    intro l m q
    induction q with
    | nil => intro x hx; exact nomatch hx
    | @cons p q ps qs hq t ih =>
      intro x hx
      rcases List.mem_cons.mp hx with e | hx
      · subst e
        exact key_of ok (by rw [← hq.1]; exact hq.2.1)
      · exact ih x hx
  exact all r x hx
theorem dt_of {kvs : List (List Key × V)} (ok : HOk P w H h) (e : H a = some (.dT kvs)) : kvs.length ≤ sizeLine ∧ (a == sysModules) = false ∧
    ∃ xs, KT H kvs xs ∧ h.DictOfH (tupleKind (mixKind P w)) a xs := dt_rd ok (.inl e)
end
def DGet (H : Hp) (a : Addr) (y : V) (r : Option V) : Prop :=
  (∃ kvs k, Rd H a (.dK kvs) ∧ y = kV k ∧ r = valV kvs k) ∨ ∃ kvs k b, Rd H a (.dT kvs) ∧ y = .ref b ∧ H b = some (.tup (k.map kV)) ∧ r = valV kvs k
def DPut (H : Hp) (a : Addr) (y v : V) (H' : Hp) : Prop :=
  (∃ kvs k, H a = some (.dK kvs) ∧ y = kV k ∧ kvs.length < sizeLine ∧ H' = upd H a (.dK (putK kvs k v))) ∨
  ∃ kvs k b, H a = some (.dT kvs) ∧ y = .ref b ∧ H b = some (.tup (k.map kV)) ∧ kvs.length < sizeLine ∧ H' = upd H a (.dT (putK kvs k v))
theorem DGet.k {H : Hp} {a : Addr} {kvs : List (Key × V)} {k : Key} (e : H a = some (.dK kvs)) : DGet H a (kV k) (valV kvs k) := .inl ⟨kvs, k, .inl e, rfl, rfl⟩
theorem DPut.k {H : Hp} {a : Addr} {kvs : List (Key × V)} {k : Key} {v : V} (e : H a = some (.dK kvs)) (hl : kvs.length < sizeLine) : DPut H a (kV k) v (upd H a (.dK (putK kvs k v))) := .inl ⟨kvs, k, e, rfl, hl, rfl⟩
section
variable {X : Cx} {pins : List (Addr × Obj)} {σ : St} {H : Hp} {s : Shared} {a : Addr} {y v : V} {u r : Value} {o : Option V} {A : Around} {E : Value → Shared → Prop}
theorem Inv.big (I : Inv X pins σ H s) : sysModules < s.heap.objs.size := by
  have h : mainGlobals < s.heap.objs.size := (I.mod.glob.keeps I.bk).lt
  exact Nat.lt_trans (by decide) h
theorem d_getItem {Q : Value → Shared → Prop} (hu : A.units + 1 < cLine) (I : Inv X pins σ H s) (g : DGet H a y (some v)) (ry : RelV y u) (h : ∀ w' s', Inv X pins σ H s' → RelV v w' → Q w' s') :
    wpAny (model X.prog X.w) A (getItem (.ref a) u) Q E s := by
  rcases g with ⟨kvs, k, e, ey, l⟩ | ⟨kvs, k, b, e, ey, eb, l⟩
  · subst ey
    obtain ⟨z, hd, vs, rel, dd⟩ := dk_rd I.hok e
    obtain ⟨w', hw, rw'⟩ := RelO.some_of (v := v) (o := valueAt vs k) (by rw [l]; exact rel.val k)
    exact wpAny_getItem_of (kV_is ry) dd.mapOf hw (h w' _ (I.tok _) rw')
  · subst ey
    cases (show u = Value.ref b from ry)
    obtain ⟨z, hd, xs, rel, dd⟩ := dt_rd I.hok e
    obtain ⟨w', hw, rw'⟩ := RelO.some_of (v := v) (o := (atKey xs k).map (·.2)) (by rw [l]; exact rel.val k)
    obtain ⟨p, hp, hp2⟩ := Option.map_eq_some_iff.mp hw
    refine wpAny_getItem_heap (tupleKind_room_in1 hu) (key_of I.hok eb) dd hp ?_
    rw [hp2]
    exact h w' _ (I.tok _) rw'
theorem d_in {Q : Value → Shared → Prop} (hu : A.units + 1 < cLine) (I : Inv X pins σ H s) (g : DGet H a y o) (ry : RelV y u) (h : ∀ s', Inv X pins σ H s' → Q (.bool o.isSome) s') :
    wpAny (model X.prog X.w) A (compareOp .In u (.ref a)) Q E s := by
  rcases g with ⟨kvs, k, e, ey, l⟩ | ⟨kvs, k, b, e, ey, eb, l⟩
  · subst ey
    obtain ⟨z, hd, vs, rel, dd⟩ := dk_rd I.hok e
    refine wpAny_in_of (kV_is ry) hd dd.mapOf ?_
    rw [← (rel.val k).isSome_eq, ← l]
    exact h _ (I.tok _)
  · subst ey
    cases (show u = Value.ref b from ry)
    obtain ⟨z, hd, xs, rel, dd⟩ := dt_rd I.hok e
    refine wpAny_in_heap (tupleKind_room_in1 hu) (key_of I.hok eb) hd dd ?_
    have q := (rel.val k).isSome_eq
    rw [Option.isSome_map] at q
    rw [← q, ← l]
    exact h _ (I.tok _)
theorem d_notIn {Q : Value → Shared → Prop} (hu : A.units + 1 < cLine) (I : Inv X pins σ H s) (g : DGet H a y o) (ry : RelV y u) (h : ∀ s', Inv X pins σ H s' → Q (.bool (!o.isSome)) s') :
    wpAny (model X.prog X.w) A (compareOp .NotIn u (.ref a)) Q E s := by
  rcases g with ⟨kvs, k, e, ey, l⟩ | ⟨kvs, k, b, e, ey, eb, l⟩
  · subst ey
    obtain ⟨z, hd, vs, rel, dd⟩ := dk_rd I.hok e
    refine wpAny_notIn_of (kV_is ry) hd dd.mapOf ?_
    rw [← (rel.val k).isSome_eq, ← l]
    exact h _ (I.tok _)
  · subst ey
    cases (show u = Value.ref b from ry)
    obtain ⟨z, hd, xs, rel, dd⟩ := dt_rd I.hok e
    refine wpAny_notIn_heap (tupleKind_room_in1 hu) (key_of I.hok eb) hd dd ?_
    have q := (rel.val k).isSome_eq
    rw [Option.isSome_map] at q
    rw [← q, ← l]
    exact h _ (I.tok _)
theorem d_write {h' : Heap} {t' : Nat} {ob : HO} (I : Inv X pins σ H s) (mu : Mut (H a)) (hs : Heap.SameBut a s.heap h') (he : ∃ q, h'.get? a = some q) (new : ObjOk X.prog X.w (upd H a ob) h' a ob) :
    Inv X pins σ (upd H a ob) { s with heap := h', toks := t' } :=
  I.write (x := a) (e := a) mu (.inl rfl) (fun b q hb z => (hs.2 b hb).trans z) he new
theorem dk_new {P : Program} {w : World} {H' : Hp} {h' : Heap} {kvs : List (Key × V)} {vs : List (Key × Value)} (z : kvs.length ≤ sizeLine) (hd : (a == sysModules) = false) (rel : KV kvs vs) (dd : h'.DictOf (mixKind P w) a vs) :
    ObjOk P w H' h' a (.dK kvs) := ⟨z, hd, vs, rel, dd⟩
theorem d_setItem {H' : Hp} {Q : Unit → Shared → Prop} (hu : A.units + 1 < cLine) (I : Inv X pins σ H s) (g : DPut H a y v H') (ry : RelV y u) (rv : RelV v r) (h : ∀ s', Inv X pins σ H' s' → Q () s') :
    wpAny (model X.prog X.w) A (setItem (.ref a) u r) Q E s := by
  rcases g with ⟨kvs, k, e, ey, l, eH⟩ | ⟨kvs, k, b, e, ey, eb, l, eH⟩
  · subst ey eH
    obtain ⟨z, hd, vs, rel, dd⟩ := dk_of I.hok e
    have hz : vs.length ≤ sizeLine := by rw [← rel.length]; exact z
    have hl : (putK kvs k v).length ≤ sizeLine := by have := length_putK kvs k v; omega
    refine wpAny_setItem_pairs (hsz := hz) (kV_is ry) dd fun h' dd' hs => h _ ?_
    have he : ∃ q, h'.get? a = some q := let ⟨q, _, _, hq, _⟩ := dd'; ⟨q, hq⟩
    exact d_write I (by rw [e]; exact True.intro) hs he (dk_new hl hd (rel.put k rv) dd')
  · subst ey eH
    cases (show u = Value.ref b from ry)
    obtain ⟨z, hd, xs, rel, dd⟩ := dt_of I.hok e
    have hz : xs.length ≤ sizeLine := by rw [← Paired.length rel]; exact z
    have hl : (putK kvs k v).length ≤ sizeLine := by have := length_putK kvs k v; omega
    refine wpAny_setItem_heap (hsz := hz) (tupleKind_room_in1 hu) (key_of I.hok eb) dd fun h' dd' hs => h _ ?_
    obtain ⟨q, es, ep, hq, h2, h3, h4, _, h5⟩ := dd'
    refine d_write I (by rw [e]; exact True.intro) hs ⟨q, hq⟩ ⟨hl, hd, _, (rel.put k eb rv).keeps fun c ys ec => ?_, q, es, ep, hq, h2, h3, h4, h5⟩
    rw [upd_ne (ne_of ec e (fun z => nomatch z))]
    exact ec
end
section
variable {X : Cx} {pins : List (Addr × Obj)} {σ : St} {H : Hp} {s : Shared} {a : Addr} {kvs : List (Key × V)} {k : Key} {u : Value} {A : Around} {E : Value → Shared → Prop}
theorem d_pop {v : V} {more : List Value} {Q : Value → Shared → Prop} (I : Inv X pins σ H s) (e : H a = some (.dK kvs)) (ry : RelV (kV k) u) (l : valV kvs k = some v) (hm : more = [] ∨ ∃ x, more = [x])
    (h : ∀ w' s', Inv X pins σ (upd H a (.dK (dropK kvs k))) s' → RelV v w' → Q w' s') : wpAny (model X.prog X.w) A (call (.builtin "dict.pop") (.ref a :: u :: more)) Q E s := by
  obtain ⟨z, hd, vs, rel, dd⟩ := dk_of I.hok e
  obtain ⟨w', hw, rw'⟩ := RelO.some_of (v := v) (o := valueAt vs k) (by rw [← l]; exact rel.val k)
  have hp : (keyPart u).isSome = true := by
    cases k with
    | inl i => obtain ⟨t, q⟩ := (show ∃ t, u = Value.int i t from ry); subst q; rfl
    | inr x => obtain ⟨t, q⟩ := (show ∃ t, u = Value.str x t from ry); subst q; rfl
  have ha : argsOk "dict.pop" ⟨.ref a :: u :: more, []⟩ := by
    rcases hm with q | ⟨x, q⟩
    · subst q; exact PySem.F.args_dict_pop_2 _ _
    · subst q; exact PySem.F.args_dict_pop_3 _ _ _
  refine call_meetsIn PySem.F.slot_dict_pop dd.typeIs PySem.F.entry_dict_pop ha (meets_dict_pop_there (mixKind X.prog X.w) a (kV_is ry) more hm hp)
    ⟨vs, w', dd, by rw [← rel.length]; exact z, hw, fun h' dd' hs => h w' _ ?_ rw'⟩
  have he : ∃ q, h'.get? a = some q := let ⟨q, _, _, hq, _⟩ := dd'; ⟨q, hq⟩
  exact d_write I (by rw [e]; exact True.intro) hs he (dk_new (Nat.le_trans (dropK_le kvs k) z) hd (rel.drop k) dd')
end
def NoSl (i : Expr) : Prop := ∀ ov iv, subscripted i false ov iv = operate [ov, iv] (getItem ov iv)
theorem subD_of {prog : Program} {w : World} {A : Around} {E : Value → Shared → Prop} {s : Shared} {env : Env} {value slice : Expr} {pos : Pos} {T id : String} {Q : Value → Shared → Prop}
    (hl : typeLookup (.type T) "__getitem__" = pure (some (.builtin id))) (hs : NoSl slice)
    (h : wpAny (model prog w) A (eval value env) (fun o s₁ => wpAny (model prog w) A (eval slice env) (fun i s₂ => s₂.TypeIs o T ∧ wpAny (model prog w) A (getItem o i) Q E s₂) E s₁) E s) :
    wpAny (model prog w) A (eval (.Subscript value slice pos) env) Q E s := by
  refine Subscript_ (wpAny_mono h (fun o s₁ h₁ => wpAny_mono h₁ (fun i s₂ h₂ => ?_) fun _ _ x => x) fun _ _ x => x)
  obtain ⟨hT, h₂⟩ := h₂
  unfold subscriptTail
  refine wpAny_bind ?_
  rw [getitemInPython_of_ne hT.not_modules]
  refine wpAny_bind (wpAny_specialOf hT hl ?_)
  have fin : wpAny (model prog w) A (subscripted slice false o i) (fun r s₃ => wpAny (model prog w) A (letTemporaryGo value o r >>= fun _ => pure r) Q E s₃) E s₂ := by
    rw [hs o i]
    exact wpAny_operating (wpAny_mono h₂ (fun r s₃ h₃ => wpAny_bind (wpAny_letTemporaryGo (wpAny_pure h₃))) fun _ _ x => x)
  first
    | exact wpAny_pure (wpAny_bind fin)
    | exact wpAny_bind (wpAny_pure (wpAny_bind fin))
    | exact wpAny_bind fin
theorem dict_typeIs {X : Cx} {pins : List (Addr × Obj)} {σ : St} {H : Hp} {s : Shared} {a : Addr} {y : V} {o : Option V} (I : Inv X pins σ H s) (g : DGet H a y o) : s.TypeIs (.ref a) "dict" := by
  rcases g with ⟨kvs, k, e, _, _⟩ | ⟨kvs, k, b, e, _, _, _⟩
  · obtain ⟨_, _, vs, _, dd⟩ := dk_rd I.hok e
    exact dd.typeIs
  · obtain ⟨_, _, xs, _, dd⟩ := dt_rd I.hok e
    exact dd.typeIs
def tDGet (td ty : TE) : TE := fun σ H Q => td σ H fun x H1 => ty σ H1 fun y H2 => ∃ a v, x = .ref a ∧ DGet H2 a y (some v) ∧ Q v H2
def tDIn (ty td : TE) : TE := fun σ H Q => ty σ H fun y H1 => td σ H1 fun x H2 => ∃ a o, x = .ref a ∧ DGet H2 a y o ∧ Q (.bl o.isSome) H2
def tDNotIn (ty td : TE) : TE := fun σ H Q => ty σ H fun y H1 => td σ H1 fun x H2 => ∃ a o, x = .ref a ∧ DGet H2 a y o ∧ Q (.bl (!o.isSome)) H2
def sDPut (td ty tv : TE) : TS := fun D σ H => tv σ H fun v H1 => td σ H1 fun x H2 => ty σ H2 fun y H3 => ∃ a H4, x = .ref a ∧ DPut H3 a y v H4 ∧ D.nx σ H4
section
variable {X : Cx} {o i e value : Expr} {pos pos' tpos : Pos} {td ty tv : TE}
theorem pe_dget (hu : X.A.units + 1 < cLine) (ho : PE X o td) (hi : PE X i ty) (hs : NoSl i) : PE X (.Subscript o i pos) (tDGet td ty) := by
  intro pins s σ H Q I h
  refine subD_of PySem.F.slot_dict_getitem.lookup hs (thn (ho pins s σ H _ I h) fun u s1 ⟨x, H1, I1, rx, q1⟩ => thn (hi pins s1 σ H1 _ I1 q1) fun iv s2 ⟨y, H2, I2, ry, a, v, ex, g, q2⟩ => ?_)
  subst ex
  obtain rfl : u = Value.ref a := rx
  exact ⟨dict_typeIs I2 g, d_getItem hu I2 g ry fun w' s3 I3 rw' => ⟨v, H2, I3, rw', q2⟩⟩
theorem pc_din (hu : X.A.units + 1 < cLine) (hi : PE X i ty) (ho : PE X o td) : PC X .In i o (tDIn ty td) := by
  intro pins s σ H Q I h
  refine thn (hi pins s σ H _ I h) fun iv s1 ⟨y, H1, I1, ry, q1⟩ => thn (ho pins s1 σ H1 _ I1 q1) fun u s2 ⟨x, H2, I2, rx, a, ov, ex, g, q2⟩ => ?_
  subst ex
  obtain rfl : u = Value.ref a := rx
  exact d_in hu I2 g ry fun s3 I3 => ⟨.bl ov.isSome, H2, I3, rfl, q2⟩
theorem pc_dnotin (hu : X.A.units + 1 < cLine) (hi : PE X i ty) (ho : PE X o td) : PC X .NotIn i o (tDNotIn ty td) := by
  intro pins s σ H Q I h
  refine thn (hi pins s σ H _ I h) fun iv s1 ⟨y, H1, I1, ry, q1⟩ => thn (ho pins s1 σ H1 _ I1 q1) fun u s2 ⟨x, H2, I2, rx, a, ov, ex, g, q2⟩ => ?_
  subst ex
  obtain rfl : u = Value.ref a := rx
  exact d_notIn hu I2 g ry fun s3 I3 => ⟨.bl (!ov.isSome), H2, I3, rfl, q2⟩
theorem ps_dput (hu : X.A.units + 1 < cLine) (ho : PE X o td) (hi : PE X i ty) (hv : PE X value tv) (hs : swapsWith value (some (.Subscript o i pos')) pos.line X.env = pure false) :
    PS X (.Assign [.Subscript o i pos'] value pos) (sDPut td ty tv) := by
  intro pins s σ H D I h
  refine wpAny_Assign_Subscript (thn (hv pins s σ H _ I h) fun r s1 ⟨v, H1, I1, rv, q1⟩ => thn (ho pins s1 σ H1 _ I1 q1) fun u s2 ⟨x, H2, I2, rx, q2⟩ => thn (hi pins s2 σ H2 _ I2 q2) fun iv s3 ⟨y, H3, I3, ry, a, H4, ex, g, q3⟩ => ?_) hs
  subst ex
  obtain rfl : u = Value.ref a := rx
  exact d_setItem hu I3 g ry rv fun s4 I4 => ⟨σ, H4, I4, q3⟩
end
theorem dk_empty {P : Program} {w : World} {H : Hp} (h : Heap) (hb : sysModules < h.objs.size) : ObjOk P w H (h.push { cls := .type "dict", data := .dict #[] }) h.objs.size (.dK []) :=
  ⟨Nat.zero_le _, beq_eq_false_iff_ne.mpr (Ne.symm (Nat.ne_of_lt hb)), [], .nil, Heap.DictOf.new h⟩
def tDNewK : TE := fun _ H Q => ∀ p, H p = none → Q (.ref p) (upd H p (.dK []))
section
variable {X : Cx} {pos : Pos}
theorem pe_dnewK : PE X (.Dict [] [] pos) tDNewK := fun pins s σ H Q I h =>
  wpAny_Dict_empty ⟨.ref s.heap.objs.size, _, I.laid (a := s.heap.objs.size) (o := .dK []) (t' := s.toks) (fun _ _ q => Heap.get?_push_of_some _ q) (Nat.le_refl _) (dk_empty s.heap I.big), rfl, h _ (I.hok.fresh (Nat.le_refl _))⟩
end
structure M1 (X : Cx) (o : Expr) (m : Str) (apos : Pos) (e : Expr) (cpos : Pos) : Prop where
  base : attributeBase o m X.env (eval o X.env) = eval o X.env
  few : ((backTo cpos (starEach [e] X.env)).all (fun x => !x.1) && (backToKw cpos (keywordEach [] X.env)).all (fun x => x.1.isSome)
    && decide (([e] : List Expr).length + ([] : List Keyword).length + (if ([] : List Keyword).isEmpty then 0 else 1) < 30)) = true
  line : (apos.endLine == cpos.line) = true
  trees : backTo cpos (starEach [e] X.env) = [(false, eval e X.env)]
def IsD (H : Hp) (a : Addr) : Prop := (∃ kvs, Rd H a (.dK kvs)) ∨ ∃ kvs, Rd H a (.dT kvs)
theorem isD_at {X : Cx} {pins : List (Addr × Obj)} {σ : St} {H : Hp} {s : Shared} {a : Addr} (I : Inv X pins σ H s) (d : IsD H a) :
    s.TypeIs (.ref a) "dict" ∧ (∀ b, Value.ref a = .ref b → ∃ ob, s.heap.get? b = some ob ∧ ob.dict = none) ∧ (a == sysModules) = false := by
  rcases d with ⟨kvs, e⟩ | ⟨kvs, e⟩
  · obtain ⟨_, hd, vs, _, dd⟩ := dk_rd I.hok e
    refine ⟨dd.typeIs, fun b q => ?_, hd⟩
    cases q
    obtain ⟨ob, _, _, h1, h2, _⟩ := dd
    exact ⟨ob, h1, h2.2.1⟩
  · obtain ⟨_, hd, xs, _, dd⟩ := dt_rd I.hok e
    refine ⟨dd.typeIs, fun b q => ?_, hd⟩
    cases q
    obtain ⟨ob, _, _, h1, h2, _⟩ := dd
    exact ⟨ob, h1, h2.2.1⟩
section
variable {X : Cx} {pins : List (Addr × Obj)} {σ : St} {H : Hp} {s : Shared} {a : Addr} {y d : V} {u r : Value} {o : Option V} {A : Around} {E : Value → Shared → Prop}
end
def tDPop1 (td ty : TE) : TE := fun σ H Q => td σ H fun x H1 => ∃ a, x = .ref a ∧ IsD H1 a ∧ ty σ H1 fun y H2 => ∃ kvs k v, H2 a = some (.dK kvs) ∧ y = kV k ∧ valV kvs k = some v ∧ Q v (upd H2 a (.dK (dropK kvs k)))
section
variable {X : Cx} {o e f : Expr} {apos cpos : Pos} {td ty tx : TE}
theorem pe_dpop1 (ho : PE X o td) (he : PE X e ty) (m : M1 X o "pop" apos e cpos) : PE X (.Call (.Attribute o "pop" apos) [e] [] cpos) (tDPop1 td ty) := by
  intro pins s σ H Q I h
  refine wpAny_Call_method m.base m.few m.line PySem.F.plainAttrs_dict PySem.F.slot_dict_pop PySem.F.type_dict_pop (thn (ho pins s σ H _ I h) fun u s1 ⟨x, H1, I1, rx, a, ex, d, q1⟩ => ?_)
  subst ex
  obtain rfl : u = Value.ref a := rx
  obtain ⟨t1, t2, _⟩ := isD_at I1 d
  refine ⟨t1, t2, ?_⟩
  rw [m.trees]
  refine Calls.callWith_builtin rfl (Calls.evalArgs_plain (Calls.spliced_cons (thn (he pins s1 σ H1 _ I1 q1) fun iv s2 ⟨y, H2, I2, ry, kvs, k, v, ea, ey, l, q2⟩ => Calls.spliced_nil ?_)))
  subst ey
  exact d_pop I2 ea ry l (.inl rfl) fun w' s3 I3 rw' => ⟨v, _, I3, rw', q2⟩
end
section
variable {X : Cx} {pins : List (Addr × Obj)} {σ : St} {H : Hp} {s : Shared} {a : Addr} {kvs : List (Key × V)} {A : Around} {E : Value → Shared → Prop}
end
section
variable {X : Cx} {pins : List (Addr × Obj)} {σ : St} {H : Hp} {s : Shared} {a : Addr} {y : V} {u : Value} {A : Around} {E : Value → Shared → Prop}
end
end L2
namespace L2
open PySem PySem.Spec PyProof.Rows
section
variable {prog : Program} {w : World} {A : Around} {E : Value → Shared → Prop}
end
section
variable {X : Cx}
end
end L2
namespace L2
open PySem PySem.Spec PyProof.Rows
section
variable {X : Cx} {pins : List (Addr × Obj)} {σ : St} {H : Hp} {s : Shared} {h' : Heap}
theorem Inv.turnedNew {t' : Nat} {ch : List Addr} {T : Addr} {ob : HO} (I : Inv X pins σ H s) (k : ∀ b o, b ∉ ch → s.heap.get? b = some o → h'.get? b = some o) (hf : ∀ b ∈ ch, FpOk X pins H b) (hT : s.heap.objs.size ≤ T)
    (new : ObjOk X.prog X.w (upd H T ob) h' T ob) : Inv X pins σ (upd H T ob) { s with heap := h', toks := t' } := by
  have hn : H T = none := I.hok.fresh hT
  have nit : ∀ b u, H b = some u → b ∉ ch := fun b u e z => by
    have q := (hf b z).1
    rw [q] at e; cases e
  refine I.step (g' := s.gens) (d' := s.drawn) (ch := ch) (fun b hb => ⟨(hf b hb).2.2.2.1, (hf b hb).2.1, (hf b hb).2.2.2.2.1, (hf b hb).2.2.2.2.2⟩) (fun b o _ _ hc e _ => k b o hc e) (fun b o _ _ hc e _ => ⟨o.slots, k b o hc e⟩)
    (fun b o _ e n => ?_) (fun b o hc e => ⟨o, k b o hc e⟩) (fun b xs e => ?_) (fun b o u e => ?_) (fun b ps e => ⟨#[], ?_⟩) (fun m hm => ?_) (fun b u e => ?_) I.bare
  · rw [upd_ne (Nat.ne_of_lt (Nat.lt_of_lt_of_le (Heap.lt_size e) hT))]; exact n
  · rw [upd_ne (ne_of_none e hn)]; exact e
  · rw [upd_ne (ne_of_none e hn)]; exact e
  · rw [upd_ne (ne_of_none e hn), e]; simp
  · obtain ⟨o, es, ep, ho, r⟩ := hm
    exact ⟨o, es, ep, k _ o (fun z => (hf _ z).2.1 rfl) ho, r⟩
  · by_cases hb : b = T
    · subst hb
      rw [upd_same] at e
      cases e
      exact new
    · rw [upd_ne hb] at e
      refine (I.hok b u e).stay (fun c v hc q => k c v ?_ q) (fun c q => by rw [upd_ne (ne_of_none q hn)]; exact q) fun c xs q => by rw [upd_ne (ne_of_none q hn)]; exact q
      rcases hc with z | z
      · rw [z]; exact nit b u e
      · exact nit c _ z
end
section
variable {X : Cx}
end
section
variable {X : Cx} {tg : Expr}
end
section
variable {X : Cx} {tg : Expr}
end
section
variable {prog : Program} {w : World} {A : Around} {E : Value → Shared → Prop} {s : Shared}
end
section
variable {X : Cx} {pins : List (Addr × Obj)} {σ : St} {H : Hp} {s : Shared} {d : Addr} {o : Obj}
end
section
variable {P : Program} {w : World} {K : PySem.W.Frag} {tg : Expr} {d : Addr} {o : Obj} {es : Array DictEntry} {ep : Nat}
end
section
variable {X : Cx} {tg e : Expr} {td : TE} {apos cpos : Pos}
end
def Ite (K : PySem.W.Frag) (a : Addr) : It :=
  ⟨fun i H => ∃ (xs : List V) (x : V), SqL K H a xs ∧ xs[i]? = some x, fun i H v H' => ∃ T x, v = .ref T ∧ H T = none ∧ H' = upd H T (.tup [.int (i : Nat), x]) ∧ ∀ xs, SqL K H a xs → xs[i]? = some x, fun i H => ∃ xs : List V, SqL K H a xs ∧ xs.length ≤ i⟩
theorem turn_enum {P : Program} {w : World} {K : PySem.W.Frag} {elts : List Expr} {kk : Nat} {tpos : Pos} (a e it : Addr) :
    Turn P w K (.Tuple elts kk tpos) (Ite K a) [e, it] e (fun i h => (∃ old, IsEnum h e it ((i : Nat) : Int) old) ∧ h.IsListIter it a i ∧ e ≠ it) where
  mem := by simp
  obj := fun i h st b hb => by
    obtain ⟨⟨old, he⟩, ⟨o, ho, hc, hd⟩, _⟩ := st
    have e' : b = e ∨ b = it := by simpa using hb
    rcases e' with z | z
    · rw [z]; exact ⟨_, he, fun v q => nomatch q⟩
    · rw [z]; exact ⟨o, ho, fun v q => by rw [hd] at q; cases q⟩
  keep := fun i h h' st k => let ⟨⟨old, he⟩, hi, hne⟩ := st; ⟨⟨old, k e (by simp) _ he⟩, hi.at fun o q => k it (by simp) o q, hne⟩
  item := by
    intro X hP hw hK hc i pins s σ H E I hf st hg
    subst hP hw hK
    obtain ⟨⟨old, he⟩, hit, hne⟩ := st
    obtain ⟨xs, x, hq, hx⟩ := hg
    obtain ⟨its, rv, p, hz⟩ := I.list hq
    obtain ⟨u, hu, ru⟩ := rv.get hx
    have hel : e < s.heap.objs.size := Heap.lt_size he
    have hil : it < s.heap.objs.size := by obtain ⟨_, q, _⟩ := hit; exact Heap.lt_size q
    refine wpAny_pyNext_enum_item he hit p.isList (x := u) (by simpa using hu) hne fun h' ho hit' hT hsz hk => ?_
    refine ⟨_, rfl, wpAny_letOwnedTupleGo_enum (s := { s with heap := h', toks := s.toks + 1 }) ho fun h'' he' sb => ?_⟩
    have hT2 : h''.get? s.heap.objs.size = some { cls := .type "tuple", data := .seq #[.int i s.toks, u] } := (sb.2 _ (Nat.ne_of_gt hel)).trans hT
    have new : ObjOk X.prog X.w (upd H s.heap.objs.size (.tup [.int (i : Nat), x])) h'' s.heap.objs.size (.tup [.int (i : Nat), x]) :=
      ⟨by show 2 ≤ sizeLine; decide, [.int i s.toks, u], .cons ⟨_, rfl⟩ (.cons ru .nil), ⟨_, hT2, rfl, _, rfl⟩⟩
    have I1 : Inv X pins σ (upd H s.heap.objs.size (.tup [.int (i : Nat), x])) { s with heap := h'', toks := s.toks + 1 } :=
      I.turnedNew (ch := [e, it]) (fun b ob hb q => (sb.2 b (fun z => hb (by simp [z]))).trans (hk b ob (fun z => hb (by simp [z])) (fun z => hb (by simp [z])) q)) hf (Nat.le_refl _) new
    refine ⟨.ref s.heap.objs.size, _, I1, rfl, ⟨_, x, rfl, I.hok.fresh (Nat.le_refl _), rfl, fun ys hy => by rw [I.list_inj hy hq]; exact hx⟩, ⟨⟨u, ?_⟩, hit'.at fun o q => (sb.2 it (Ne.symm hne)).trans q, hne⟩, fun b hb => ?_⟩
    · have e1 : ((i + 1 : Nat) : Int) = (i : Int) + 1 := by omega
      rw [e1]; exact he'
    · have hb' : b < s.heap.objs.size := by
        have e' : b = e ∨ b = it := by simpa using hb
        rcases e' with z | z
        · rw [z]; exact hel
        · rw [z]; exact hil
      rw [upd_ne (Nat.ne_of_lt hb')]
      exact (hf b hb).1
  done := by
    intro X hP hw hK hc i pins s σ H E I hf st hg
    subst hP hw hK
    obtain ⟨⟨old, he⟩, hit, hne⟩ := st
    obtain ⟨xs, hq, hx⟩ := hg
    obtain ⟨its, rv, p, hz⟩ := I.list hq
    obtain ⟨f0, f1, f2, f3, f4, f5⟩ := hf it (by simp)
    have hl := rv.length
    exact wpAny_pyNext_enum_end (I.ok.hd hc) he hit p.isList (by simp; omega) fun h' eb => ⟨rfl, I.turned (t' := s.toks) (fun b o hb q => eb b o hb q) f0 f1 f3 f4 f5⟩
  self := fun A i s Q E st h => let ⟨⟨_, he⟩, _⟩ := st; wpAny_pyIter_enum he h
def iEnum (K : PySem.W.Frag) (ta : TA) : TI := fun σ H R => ta σ H fun vs H1 => ∃ a xs, vs = [.ref a] ∧ SqL K H1 a xs ∧ R (Ite K a) H1
theorem pi_enum {X : Cx} {e : Expr} {ta : TA} {p pos tpos : Pos} {elts : List Expr} {kk : Nat} (hg : Gl X "enumerate") (hm : X.mg "enumerate" = none) (ha : PA X [e] ta) (hs : starEach [e] X.env = [(false, eval e X.env)] := by rfl) :
    PI X (.Tuple elts kk tpos) (.Call (.Name "enumerate" p) [e] [] pos) (iEnum X.K ta) := by
  intro pins s σ H R I h
  refine Call_ (ld_blt I hg hm boot_enumerate (PyProof.Rows.callWith_type1 (thn (ha pos pins s σ H _ I h) fun us s1 ⟨vs, H1, I1, r1, q1⟩ => ?_) hs rfl))
  obtain ⟨a, xs, ex, hq, q⟩ := q1
  subst ex
  cases r1 with
  | cons r rr =>
    cases rr
    cases r
    obtain ⟨its, rv, p', hz⟩ := I1.list hq
    refine call_enumerate_list p'.isList fun h' he hit hsz hk => wpAny_pyIter_enum he ?_
    have I2 : Inv X pins σ H1 { s1 with heap := h' } := I1.kept (t' := s1.toks) hk
    refine ⟨s1.heap.objs.size + 1, [s1.heap.objs.size + 1, s1.heap.objs.size], _, _, H1, rfl, I2, turn_enum a (s1.heap.objs.size + 1) s1.heap.objs.size, ⟨⟨.none, he⟩, hit, Nat.succ_ne_self _⟩, fun b hb => ?_, q⟩
    have e' : b = s1.heap.objs.size + 1 ∨ b = s1.heap.objs.size := by simpa using hb
    have hle : s1.heap.objs.size ≤ b := by
      rcases e' with z | z
      · rw [z]; exact Nat.le_add_right _ _
      · rw [z]; exact Nat.le_refl _
    exact I1.fpOk hle (I1.hok.fresh hle)
end L2
section 
namespace Bits
open PySem PyProof.Rows
end Bits
end 
section 
namespace TL
open PySem PySem.Builtin PySem.Builtin.Str PySem.StrLaws
end TL
end 
namespace L2
open PySem PySem.Spec PyProof.Rows
section
variable {X : Cx} {pins : List (Addr × Obj)} {σ : St} {H : Hp} {s : Shared} {Q : VK}
end
section
variable {X : Cx}
end
section
variable {X : Cx} {o e : Expr} {to te : TE}
end
end L2
namespace L2
open PySem PySem.Spec PyProof.Rows
section
variable {X : Cx}
end
end L2
namespace Att
open PySem PySem.W PySem.Calls PyProof.Rows
theorem ints_of_wellAll {P : Params} {h : Heap} : ∀ (ns : List Int) (vs : List Value), WellAll P h vs (ns.map WData.int) → IntsAre vs ns := by
  intro ns
  induction ns with
  | nil =>
    intro vs w
    rw [List.map_nil] at w
    cases w
    exact .nil
  | cons n ns ih =>
    intro vs w
    rw [List.map_cons] at w
    cases w with
    | cons a b =>
      cases a
      exact .cons _ _ (ih _ b)
section
variable {prog : Program} {w : World} {A : Around} {E : Value → Shared → Prop} {s : Shared} {K : Frag}
end
end Att
namespace L2
open PySem PySem.Spec PyProof.Rows
theorem vals_ints : ∀ {vs : List Value} {ns : List Int}, IntsAre vs ns → Vals (ns.map V.int) vs
  | _, _, .nil => .nil
  | _, _, .cons n t h => .cons ⟨t, rfl⟩ (vals_ints h)
def Only (H : Hp) : Prop := ∀ b, H b = none ∨ ∃ o xs, H b = some (.frz o (.lst xs))
end L2
namespace L2
open PySem PySem.Spec PyProof.Rows
abbrev KOf {K : PySem.W.Frag} {h : Heap} (_ : K.In h) : PySem.W.Frag := K
end L2
namespace L2
open PySem PySem.Spec PyProof.Rows
def inClass (s : Stmt) (j : Nat) : Stmt := match s with
  | .ClassDef _ _ _ body _ _ _ _ _ _ _ => body.getD j (.Pass ⟨0, 0, 0, 0⟩)
  | _ => .Pass ⟨0, 0, 0, 0⟩
def defArgs (s : Stmt) : Arguments := match s with
  | .FunctionDef _ a _ _ _ _ _ _ _ _ => a
  | _ => { posonlyargs := [], args := [], vararg := none, kwonlyargs := [], kw_defaults := [], kwarg := none, defaults := [] }
def defBody (s : Stmt) : List Stmt := match s with
  | .FunctionDef _ _ b _ _ _ _ _ _ _ => b
  | _ => []
def defScope (s : Stmt) : Scope := match s with
  | .FunctionDef _ _ _ _ _ _ sc _ _ _ => sc
  | _ => { kind := .function, names := [], isGenerator := false, isCoroutine := false }
abbrev CX0 : CXT := fun _ _ _ _ _ _ => False
abbrev E0 : XK := fun _ _ _ => False
theorem pass0 {X : Cx} : Passes CX0 X E0 := fun _ _ _ _ _ _ _ h => h.elim
structure Fun (K : PySem.W.Frag) (x qual : Str) (st : Stmt) (f : Addr) (fd : FuncData) : Prop where
  ex : ∃ (oc : Value) (od : Option Addr) (kV doc pm : Value) (an : Option Addr) (cdv ct : Value) (osl : Array (Option Value)),
    fd = PySem.W.fnOf x qual (defArgs st) (defBody st) (defScope st) .none kV doc pm an cdv ct ∧ K.lookup f = some ⟨oc, od, .func fd, osl⟩ ∧ PySem.W.codeIn K cdv qual = true
  kp : PySem.W.keepIn K (.ref f) = true
section
variable {P : Program} {w : World} {K : PySem.W.Frag} {mg : Str → Option Value} {base : Heap}
theorem Fun.ok {x qual : Str} {st : Stmt} {f : Addr} {fd : FuncData} {N ps : List Str} {k : Nat} {sp : Sp} (F : Fun K x qual st f fd) (S : FnScope N ps (defScope st)) (len : ∀ vs H Q E, sp vs H Q E → vs.length = ps.length)
    (hbody : ∀ (cdv : Value) (A : Around) (outer : List Env) (s : Shared) (H : Hp) (vs : List V) (Q : VK) (E : XK), Room k (A.deeper (envOfC qual (defScope st) s.heap.objs.size f cdv)) → sp vs H Q E →
      ∃ t, PSs (cxOf CX0 P w K mg base N qual (defScope st) f cdv A outer s H E).nox (defBody st) t ∧ t { nx := fun _ H' => Q .non H', rt := Q } (start N vs) H) : FnOk P w K mg base CX0 (k + 1) f fd ps sp := by
  obtain ⟨oc, od, kV, doc, pm, an, cdv, ct, osl, rfl, lk, hcd⟩ := F.ex
  refine fn_of lk hcd S len fun A outer s H vs Q E hr hsp => ?_
  obtain ⟨t, h, q⟩ := hbody cdv A outer s H vs Q E hr hsp
  exact ⟨t, h.nox, q⟩
theorem Fun.binds {x qual : Str} {st : Stmt} {f : Addr} {fd : FuncData} {ps : List Str} (F : Fun K x qual st f fd)
    (h : ∀ (kV doc pm : Value) (an : Option Addr) (cdv ct : Value) (us : List Value), us.length = ps.length → bindArgs (PySem.W.fnOf x qual (defArgs st) (defBody st) (defScope st) .none kV doc pm an cdv ct) ⟨us, []⟩ = pure (ps.zip us)) : Binds K fd ps [] := by
  obtain ⟨oc, od, kV, doc, pm, an, cdv, ct, osl, rfl, lk, hcd⟩ := F.ex
  exact .all (h kV doc pm an cdv ct)
theorem fun_mk {x qual : Str} {st : Stmt} {f : Addr} {oc : Value} {od an : Option Addr} {osl : Array (Option Value)} {kV doc pm cdv ct : Value} (l : K.lookup f = some ⟨oc, od, .func (PySem.W.fnOf x qual (defArgs st) (defBody st) (defScope st) .none kV doc pm an cdv ct), osl⟩)
    (c : PySem.W.codeIn K cdv qual = true) (k : PySem.W.keepIn K (.ref f) = true) : Fun K x qual st f (PySem.W.fnOf x qual (defArgs st) (defBody st) (defScope st) .none kV doc pm an cdv ct) := ⟨⟨oc, od, kV, doc, pm, an, cdv, ct, osl, rfl, l, c⟩, k⟩
end
theorem hu_of {A : Around} {k : Nat} (hr : Room k A) : A.units + 1 < cLine := Nat.lt_of_le_of_lt (Nat.add_le_add_left (by decide : 1 ≤ 64) _) hr.units
section
variable {X : Cx}
theorem pv (i : Nat) {x : Str} {pos : Pos} (hN : X.N[i]? = some x := by rfl) (hv : Vis X.env.scope x := by first | exact Or.inl rfl | exact Or.inr (Or.inl rfl) | exact Or.inr (Or.inr rfl)) (hd : (x == ("__debug__" : Str)) = false := by decide)
    (hcd : (x == ("__classdict__" : Str)) = false := by decide) : PE X (.Name x pos) (tVar i) := pe_var hN hv hd hcd
end
theorem iteF {A B : Prop} (h : B) : if false = true then A else B := by
  rw [if_neg Bool.false_ne_true]
  exact h
theorem iteT {A B : Prop} (h : A) : if true = true then A else B := by
  rw [if_pos rfl]
  exact h
def Same (H H' : Hp) : Prop := ∀ b o, H b = some o → H' b = some o
theorem Same.refl (H : Hp) : Same H H := fun _ _ h => h
theorem Same.trans {H H1 H2 : Hp} (a : Same H H1) (b : Same H1 H2) : Same H H2 := fun c o h => b c o (a c o h)
theorem Same.free {H H' : Hp} (e : Same H H') {l : Addr} (h : H' l = Option.none) : H l = Option.none := by
  cases q : H l with
  | none => rfl
  | some o =>
    rw [e l o q] at h
    cases h
theorem Same.seq {K : PySem.W.Frag} {H H' : Hp} {a : Addr} {xs : List V} (e : Same H H') (h : SqL K H a xs) : SqL K H' a xs := by
  rcases h with (h | ⟨o, h⟩) | h
  · exact .inl (.inl (e _ _ h))
  · exact .inl (.inr ⟨o, e _ _ h⟩)
  · exact .inr h
section
variable {κ : Type} [DecidableEq κ]
theorem nd_snoc : ∀ {l : List κ} {k : κ}, l.Nodup → ¬ k ∈ l → (l ++ [k]).Nodup
  | [], k, _, _ => by simp
  | a :: r, k, h, hk => by
    obtain ⟨h1, h2⟩ := List.nodup_cons.mp h
    show (a :: (r ++ [k])).Nodup
    refine List.nodup_cons.mpr ⟨fun m => ?_, nd_snoc h2 fun m => hk (List.mem_cons.mpr (Or.inr m))⟩
    rcases List.mem_append.mp m with q | q
    · exact h1 q
    · exact hk (List.mem_cons.mpr (Or.inl (List.mem_singleton.mp q).symm))
end
theorem at_of {xs : List V} {z : Int} {j : Nat} {v : V} (e : z = (j : Int)) (h : xs[j]? = some v) : atI xs z = some v := by
  rw [e]
  exact atI_nat h
theorem nd_ix {α : Type} {l : List α} (hN : l.Nodup) {i j : Nat} {x : α} (a : l[i]? = some x) (b : l[j]? = some x) : i = j := by
  obtain ⟨h1, e1⟩ := List.getElem?_eq_some_iff.mp a
  obtain ⟨h2, e2⟩ := List.getElem?_eq_some_iff.mp b
  exact (List.getElem_inj hN).mp (e1.trans e2.symm)
end L2

namespace L2
open PySem PySem.Spec PyProof.Rows
theorem spec_call {P : Program} {w : World} {K : PySem.W.Frag} {mg mb : Str → Option Value} {CX : CXT} {k : Nat} {fa a : Addr} {fd : FuncData} {x : Str} {sp : Sp} {s₁ : Shared} {vs : List Value} {ns out : List Int}
    (KX : K.In s₁.heap) (hns : s₁.heap.Ns mainGlobals mg) (hb : s₁.heap.Ns builtinsNs mb) (hbb : ∀ x : Str, x ≠ "__name__" → mb x = bootBuiltins x) (hlim : s₁.heap.NoLimit) (hg : s₁.gens = #[])
    (ha : s₁.heap.get? a = some { cls := .type "list", data := .seq vs.toArray }) (hi : IntsAre vs ns) (hl : ns.length ≤ sizeLine) (hr : Room k callerA)
    (F : ∀ base : Heap, K.In base → base.Ns mainGlobals mg → FnOk P w K mg base CX k fa fd [x] sp) (hbind : ∀ (s : Shared) (u : Value), BindsTo s fd ⟨[u], []⟩ [(x, u)])
    (hsp : ∀ H : Hp, Only H → SqL K H a (ns.map V.int) → sp [.ref a] H (fun v H' => ∃ l, v = .ref l ∧ H' l = some (.lst (out.map V.int))) fun _ _ _ => False)
    (hCX : ∀ H e s', CX [] H s₁ (fun _ _ _ => False) e s' → False) :
    codeAny (model P w) callerA (.call (.ref fa) ⟨[.ref a], []⟩) (fun r s' => (∃ l its n, r = .ok (.ret (.ref l)) ∧ s'.heap.get? l = some { cls := .type "list", data := .seq its.toArray n } ∧ Vals (out.map V.int) its) ∧ OldK s₁.heap s'.heap ∧ s'.os = s₁.os ∧ AllBare s'.gens) s₁ := by
  have rv := vals_ints hi
  have lenV := hi.length
  -- from an abstract heap in which nothing but the script may be tracked
  have core : ∀ H : Hp, Only H → SqL K H a (ns.map V.int) → HOk P w H s₁.heap → (∀ b, H b ≠ none → b = a) → (H a ≠ none → K.lookup a = none) →
      codeAny (model P w) callerA (.call (.ref fa) ⟨[.ref a], []⟩) (fun r s' => (∃ l its n, r = .ok (.ret (.ref l)) ∧ s'.heap.get? l = some { cls := .type "list", data := .seq its.toArray n } ∧ Vals (out.map V.int) its) ∧ OldK s₁.heap s'.heap ∧ s'.os = s₁.os ∧ AllBare s'.gens) s₁ := by
    intro H hO hS hok hA hK
    have base_of : ∀ {b : Addr} {o : Obj}, s₁.heap.get? b = some o → H b = none → (hidT s₁.heap H).get? b = some o := fun e n => hidT_get e n
    have noA : ∀ {b : Addr} {o : Obj} {es : Array DictEntry} {ep : Nat}, s₁.heap.get? b = some o → o.data = .dict es ep → H b = none := fun {b o es ep} e d => by
      cases q : H b with
      | none => rfl
      | some u =>
        have e' : b = a := hA b (by rw [q]; simp)
        subst e'
        rw [ha] at e; cases e
        have d' : Data.seq vs.toArray _ = Data.dict es ep := d
        cases d'
    have nsK : ∀ {b : Addr} {m : Str → Option Value}, s₁.heap.Ns b m → (hidT s₁.heap H).Ns b m := fun {b m} ⟨o, es, ep, e, d, r⟩ => ⟨o, es, ep, base_of e (noA e d), d, r⟩
    have hKb : K.In (hidT s₁.heap H) := fun b o e => base_of (KX b o e) (by
      cases q : H b with
      | none => rfl
      | some u =>
        have e' : b = a := hA b (by rw [q]; simp)
        subst e'
        rw [hK (by rw [q]; simp)] at e; cases e)
    have hM : Mod K mg (hidT s₁.heap H) := ⟨hKb, nsK hns, ⟨mb, nsK hb, hbb⟩, let ⟨mc, h1, h2⟩ := hlim; ⟨mc, nsK h1, h2⟩⟩
    have e0 : Env0 P w K mg (hidT s₁.heap H) callerA [] s₁ H := ⟨rfl, hM, fun b o e => of_hidT e, Nat.le_of_eq (hidT_size _ _), trivial, fun b hb => absurd (show b ∈ ([] : List Addr) from hb) (by simp), hok, .of_eq hg⟩
    refine codeAny_mono ((F _ hKb (nsK hns)).run callerA [] s₁ H ⟨[.ref a], []⟩ [.ref a] [.ref a] _ _ hr e0 (hbind s₁ (.ref a)) (.cons rfl .nil) (hsp H hO hS)) fun r s' h => ?_
    cases r with
    | error e => exact (hCX H e s' h).elim
    | ok fl =>
      cases fl with
      | next => exact False.elim h
      | brk => exact False.elim h
      | cont => exact False.elim h
      | ret u =>
        obtain ⟨v, H', os, bare, un, hok', r', q⟩ := h
        obtain ⟨l, rfl, hl'⟩ := q
        obtain rfl : u = Value.ref l := r'
        obtain ⟨_, its, n, rv', e'⟩ := hok' l _ hl'
        refine ⟨⟨l, its, n, rfl, e', rv'⟩, OldK.of_keep fun b o e => ?_, os, bare⟩
        cases q : H b with
        | none => exact un.keep b o e q (by intro z; exact absurd (show b ∈ ([] : List Addr) from z) (by simp)) (by simp)
        | some u =>
          rcases hO b with z | ⟨ob, xs, z⟩
          · rw [q] at z; cases z
          · have z2 := un.frzs b ob _ z
            obtain ⟨e1, _⟩ := hok b _ z
            obtain ⟨e2, _⟩ := hok' b _ z2
            rw [e] at e1; cases e1
            exact e2
  cases hk : K.lookup a with
  | some o =>
    -- the script is one of the module's own objects
    have e := KX a o hk
    rw [ha] at e
    cases e
    refine core (fun _ => none) (fun _ => .inl rfl) (.inr ⟨_, vs.toArray, _, hk, rfl, rfl, rfl, by rw [List.size_toArray, lenV]; exact hl, by simpa using rv⟩) (fun b u z => by have z' : (none : Option HO) = some u := z; cases z') (fun b z => absurd rfl z) fun z => absurd rfl z
  | none =>
    refine core (fun b => if b = a then some (.frz { cls := .type "list", data := .seq vs.toArray } (.lst (ns.map V.int))) else none) (fun b => ?_) (.inl (.inr ⟨{ cls := .type "list", data := .seq vs.toArray }, if_pos rfl⟩)) (fun b u z => ?_) (fun b z => ?_) fun _ => hk
    · by_cases hb : b = a
      · exact .inr ⟨_, _, if_pos hb⟩
      · exact .inl (if_neg hb)
    · by_cases hb : b = a
      · have z' := (if_pos hb).symm.trans z
        cases z'
        subst hb
        exact ⟨ha, by rw [List.length_map]; exact hl, vs, _, rv, ha⟩
      · have z' := (if_neg hb).symm.trans z
        cases z'
    · by_cases hb : b = a
      · exact hb
      · exact absurd (if_neg hb) z
end L2

/-! ### an answer that is a list of whole numbers: the goal that k_headS leaves, from the promise of the def -/
namespace L2
open PySem PySem.W PySem.Spec PyProof.Rows
theorem reads_ints {cl : Str → Option Addr} {h : Heap} : ∀ {out : List Int} {its : List Value}, Vals (out.map V.int) its → ReadsAllW [] cl h its (out.map WData.int) []
  | [], _, r => by
    cases r
    exact .nil
  | n :: out, _, r => by
    cases r with
    | cons a b =>
      obtain ⟨t, rfl⟩ := a
      exact ReadsAllW.cons (as := []) (bs := []) (.int n t) (reads_ints b)
theorem args_ints {args : List WData} (hsh : WShape.hasAll [] args [.list .int] = true) : ∃ ns : List Int, args = [.list (ns.map WData.int)] := by
  obtain ⟨d, r, rfl, h1, h2⟩ := hasAllW_cons hsh
  obtain rfl := hasAllW_nil h2
  obtain ⟨xs, rfl, h3⟩ := hasW_list h1
  obtain ⟨ns, rfl⟩ := items_int h3
  exact ⟨ns, rfl⟩
theorem ofPy_ints (ns : List Int) : ofPy (PyData.list (ns.map PyData.int)) = .list (ns.map WData.int) := by
  rw [← ofPys_ints]
  rfl
theorem walk_spec {prog : Program} {name : Str} {least most l2 m2 : Nat} {lo hi lo2 hi2 : Int} {asked : List Int → Bool} {fS : List Int → List Int}
    {q : Program} {loose : List Str} {XP : (Str → Option Value) → Heap → Prop} {YP : World → Heap → Prop} {d : DefRec} {K : Params → PySem.W.Frag} {sp : PySem.W.Frag → Sp} {x : Str} {k : Nat}
    (hm : most ≤ sizeLine) (hdf : d.params.defaults = []) (hr : Room k callerA) (hY : ∀ (w : World) (h : Heap), YP w h → (K w.params).In h)
    (F : ∀ (w : World) (mg : Str → Option Value) (fa : Addr) (h : Heap), (K w.params).In h → h.Ns mainGlobals mg → mg d.name = some (.ref fa) →
      ∃ fd : FuncData, (∀ (s : Shared) (u : Value), BindsTo s fd ⟨[u], []⟩ [(x, u)]) ∧
        ∀ base : Heap, (K w.params).In base → base.Ns mainGlobals mg → FnOk prog w (K w.params) mg base CX0 k fa fd [x] (sp (K w.params)))
    (hsp : ∀ (K : PySem.W.Frag) (H : Hp) (a : Addr) (ns : List Int), asked ns = true → ns.length ≤ most → (∀ z ∈ ns, lo ≤ z ∧ z ≤ hi) → Only H → SqL K H a (ns.map V.int) →
      sp K [.ref a] H (fun v H' => ∃ l, v = .ref l ∧ H' l = some (.lst ((fS ns).map V.int))) fun _ _ _ => False) :
    PySem.W.WalkOS q loose XP YP ⟨prog, name, [.list least most (.int lo hi)], .list l2 m2 (.int lo2 hi2), asked, fS⟩ d [] (fun f vs => PySem.call f vs) := by
  intro w s₀ s₁ mg mb G Y fa o pm cd doc dV kV ho hd hcd hD hmg hg args vals as hpre hlay hrd hwl hlo
  obtain rfl : dV = .none := Dflts.none hD hdf
  obtain rfl : kV = .none := Dflts.noKw hD
  obtain ⟨ns, rfl⟩ := args_ints (os_shapes args hpre)
  rw [← ofPy_ints] at hpre
  obtain ⟨osDec, osLeast, osMost, osItems⟩ := os_dec_ints (os_pre_isSome hpre)
  have osAsked : asked ns = true := os_pre_asked hpre osDec
  rw [ofPy_ints] at osDec
  have KX := hY w _ Y
  obtain ⟨fd, hb, hF⟩ := F w mg fa _ KX G.T.g hmg
  cases hwl with
  | cons w1 w2 =>
    cases w2
    cases w1 with
    | list hobj hall =>
      refine enter_call (codeAny_mono (spec_call (out := fS ns) KX G.T.g G.T.b G.T.builtins G.T.nolimit hg hobj (Att.ints_of_wellAll ns _ hall) (Nat.le_trans osMost hm) hr hF hb (fun H hO hS => hsp _ H _ ns osAsked osMost osItems hO hS) fun H e s' z => z) fun r s' hq => ?_)
      obtain ⟨⟨l, its, n, rfl, e', rv'⟩, h2, h3, h4⟩ := hq
      refine ⟨.inl ⟨.ref l, .list ((fS ns).map .int), [l], rfl, fun _ => rfl, .list e' rfl rfl (show ReadsAllW [] _ _ its.toArray.toList _ [] by simpa using reads_ints rv'), os_post osDec (same_self _), fun h => absurd h Bool.false_ne_true⟩, h2, h3, h4⟩
end L2

namespace WL
/-! ## the controls' rules: the program's own words, over offsets -/
/-- many of the last offsets, all beyond the bound on one side -/
def oneSided (offs : List Int) (many : Nat) (bound : Int) : Bool :=
  decide (many ≤ offs.length) && ((offs.drop (offs.length - many)).all (fun x => decide (bound < x)) || (offs.drop (offs.length - many)).all (fun x => decide (x < -bound)))
def b2i (b : Bool) (n : Int) : Int := if b then n else 0
def mask (a b c d e : Bool) : Int := b2i a 1 + b2i b 2 + b2i c 4 + b2i d 8 + b2i e 16
def rowMask (offs : List Int) (sp : Int) : Int :=
  mask (oneSided offs 1 (3 * sp)) (oneSided offs 2 (2 * sp)) false (oneSided offs 4 sp) (oneSided offs 10 0)
/-- a rule's own bit, over the batch's values one behind another -/
def anyRow (many : Nat) (bound : Int) : List Int → List Int → Bool
  | _, [] => false
  | offs, x :: r => oneSided (offs ++ [x]) many bound || anyRow many bound (offs ++ [x]) r
def farApart (b : List Int) (bound : Int) : Bool := b.any (fun x => decide (bound < x)) && b.any (fun x => decide (x < -bound))
def brokenMask (offs b : List Int) (sp : Int) : Int :=
  mask (anyRow 1 (3 * sp) offs b) (anyRow 2 (2 * sp) offs b) (farApart b (2 * sp)) (anyRow 4 sp offs b) (anyRow 10 0 offs b)

/-! ## against the specification -/
open Klb1
theorem sum_mask (l : List Nat) : ((Klb1.sum l : Nat) : Int) = mask (l.contains 1) (l.contains 2) (l.contains 4) (l.contains 8) (l.contains 16) := by
  unfold Klb1.sum mask b2i
  cases h1 : l.contains 1 <;> cases h2 : l.contains 2 <;> cases h4 : l.contains 4 <;> cases h8 : l.contains 8 <;> cases h16 : l.contains 16 <;>
    simp only [List.filter, h1, h2, h4, h8, h16] <;> rfl
theorem mask_zero (a b c d e : Bool) : mask a b c d e = 0 ↔ (a = false ∧ b = false ∧ c = false ∧ d = false ∧ e = false) := by
  revert a b c d e; decide

/-- the offsets on one side beyond a bound that is not below 0: far, and the side -/
theorem side_pos (c : Control) (x : Int) : side c x = 1 ↔ c.mean < x := by
  unfold side
  split
  · simp [*]
  · split <;> simp <;> omega
theorem side_neg (c : Control) (x : Int) : side c x = -1 ↔ x < c.mean := by
  unfold side
  split
  · simp; omega
  · split <;> simp <;> omega
theorem side_cases (c : Control) (x : Int) : side c x = 1 ∨ side c x = -1 ∨ side c x = 0 := by
  unfold side
  split
  · simp
  · split <;> simp
theorem far_iff (c : Control) (k : Nat) (x : Int) : far c k x = true ↔ ((k : Int) * c.sd < x - c.mean ∨ x - c.mean < -((k : Int) * c.sd)) := by
  unfold far
  simp only [Bool.or_eq_true, decide_eq_true_eq, Int.natCast_mul]
  constructor <;> intro h <;> omega
/-- the last n (the last first) -/
theorem inRow_iff (c : Control) (k n : Nat) (l : List Int) (hn : 1 ≤ n) :
    inRow c k n l = (decide (n ≤ l.length) && ((l.take n).all (fun x => decide ((k : Int) * c.sd < x - c.mean)) || (l.take n).all (fun x => decide (x - c.mean < -((k : Int) * c.sd))))) := by
  have hb : 0 ≤ (k : Int) * c.sd := Int.mul_nonneg (Int.natCast_nonneg _) (Int.natCast_nonneg _)
  unfold inRow
  by_cases hl : n ≤ l.length
  · simp only [hl, decide_true, Bool.true_and]
    cases l with
    | nil => simp at hl; omega
    | cons y r =>
      have hy : y ∈ (y :: r).take n := by
        cases n with
        | zero => omega
        | succ m => simp
      simp only [List.headD_cons]
      have key : ∀ x, ((k == 0 || far c k x) && side c x != 0 && side c x == side c y) = true ↔
          ((side c x = 1 ∧ side c y = 1 ∧ (k : Int) * c.sd < x - c.mean) ∨ (side c x = -1 ∧ side c y = -1 ∧ x - c.mean < -((k : Int) * c.sd))) := by
        intro x
        have hp := side_pos c x
        have hm := side_neg c x
        have hf := far_iff c k x
        simp only [Bool.and_eq_true, Bool.or_eq_true, beq_iff_eq, bne_iff_ne, hf]
        rcases side_cases c x with h | h | h
        · have := hp.mp h
          rw [h]
          constructor
          · rintro ⟨⟨h1, _⟩, h3⟩
            refine .inl ⟨rfl, h3.symm, ?_⟩
            rcases h1 with h1 | h1
            · subst h1; simp; omega
            · omega
          · rintro (⟨_, h2, h3⟩ | ⟨h1, _⟩)
            · exact ⟨⟨.inr (.inl h3), by decide⟩, h2.symm⟩
            · cases h1
        · have := hm.mp h
          rw [h]
          constructor
          · rintro ⟨⟨h1, _⟩, h3⟩
            refine .inr ⟨rfl, h3.symm, ?_⟩
            rcases h1 with h1 | h1
            · subst h1; simp; omega
            · omega
          · rintro (⟨h1, _⟩ | ⟨_, h2, h3⟩)
            · cases h1
            · exact ⟨⟨.inr (.inr h3), by decide⟩, h2.symm⟩
        · rw [h]
          constructor
          · rintro ⟨⟨_, h2⟩, _⟩
            exact absurd rfl h2
          · rintro (⟨h1, _⟩ | ⟨h1, _⟩) <;> cases h1
      rw [Bool.eq_iff_iff]
      simp only [List.all_eq_true, Bool.or_eq_true, decide_eq_true_eq, key]
      constructor
      · intro h
        rcases h y hy with ⟨h1, _⟩ | ⟨h1, _⟩
        · left; intro x hx
          rcases h x hx with ⟨_, _, h3⟩ | ⟨_, h2, _⟩
          · exact h3
          · rw [h1] at h2; cases h2
        · right; intro x hx
          rcases h x hx with ⟨_, h2, _⟩ | ⟨_, _, h3⟩
          · rw [h1] at h2; cases h2
          · exact h3
      · rintro (h | h)
        · have s1 : ∀ x ∈ (y :: r).take n, side c x = 1 := fun x hx => (side_pos c x).mpr (by have := h x hx; omega)
          exact fun x hx => .inl ⟨s1 x hx, s1 y hy, h x hx⟩
        · have s1 : ∀ x ∈ (y :: r).take n, side c x = -1 := fun x hx => (side_neg c x).mpr (by have := h x hx; omega)
          exact fun x hx => .inr ⟨s1 x hx, s1 y hy, h x hx⟩
  · simp [hl]
end WL

namespace WL
open Klb1
theorem drop_rev (l : List Int) (n : Nat) : l.drop (l.length - n) = (l.reverse.take n).reverse := by
  rw [List.take_reverse, List.reverse_reverse]
theorem oneSided_rev (offs : List Int) (n : Nat) (bound : Int) :
    oneSided offs n bound = (decide (n ≤ offs.length) && ((offs.reverse.take n).all (fun x => decide (bound < x)) || (offs.reverse.take n).all (fun x => decide (x < -bound)))) := by
  unfold oneSided
  rw [drop_rev, List.all_reverse, List.all_reverse]
/-- the kept offsets are the last m of all -/
def Kept (c : Control) (l offs : List Int) (m : Nat) : Prop := offs.reverse = (l.take m).map (· - c.mean)
theorem Kept.len {c : Control} {l offs : List Int} {m : Nat} (h : Kept c l offs m) : offs.length = min m l.length := by
  have := congrArg List.length h
  simpa using this
theorem Kept.push {c : Control} {l offs : List Int} {m : Nat} (h : Kept c l offs m) (x : Int) : Kept c (x :: l) (offs ++ [x - c.mean]) (m + 1) := by
  unfold Kept at h ⊢
  simp [h]
theorem Kept.row {c : Control} {l offs : List Int} {m : Nat} (h : Kept c l offs m) {k n : Nat} (hn : 1 ≤ n) (hm : n ≤ m) : oneSided offs n ((k : Int) * c.sd) = inRow c k n l := by
  rw [oneSided_rev, inRow_iff c k n l hn]
  have e : offs.reverse.take n = (l.take n).map (· - c.mean) := by
    rw [h, ← List.map_take, List.take_take, Nat.min_eq_left hm]
  have e2 : decide (n ≤ offs.length) = decide (n ≤ l.length) := by
    rw [h.len]
    exact decide_eq_decide.mpr (by omega)
  rw [e, e2, List.all_map, List.all_map]
  rfl
theorem far_row (c : Control) (x : Int) (l : List Int) : far c 3 x = inRow c 3 1 (x :: l) := by
  rw [inRow_iff c 3 1 (x :: l) (by omega), Bool.eq_iff_iff, far_iff]
  simp

theorem at1 (c : Control) (before : List Int) (own : Nat) (x : Int) : (atOne c before own x).contains 1 = inRow c 3 1 (x :: before) := by
  rw [← far_row]
  unfold atOne
  simp only []
  generalize inRow c 2 2 (x :: before) = b2
  generalize (far c 2 x && (before.take own).any (fun y => far c 2 y && side c y != side c x)) = b4
  generalize inRow c 1 4 (x :: before) = b8
  generalize inRow c 0 10 (x :: before) = b16
  generalize far c 3 x = b1
  revert b1 b2 b4 b8 b16; decide
theorem at2 (c : Control) (before : List Int) (own : Nat) (x : Int) : (atOne c before own x).contains 2 = inRow c 2 2 (x :: before) := by
  unfold atOne
  simp only []
  generalize inRow c 2 2 (x :: before) = b2
  generalize (far c 2 x && (before.take own).any (fun y => far c 2 y && side c y != side c x)) = b4
  generalize inRow c 1 4 (x :: before) = b8
  generalize inRow c 0 10 (x :: before) = b16
  generalize far c 3 x = b1
  revert b1 b2 b4 b8 b16; decide
theorem at4 (c : Control) (before : List Int) (own : Nat) (x : Int) : (atOne c before own x).contains 4 = (far c 2 x && (before.take own).any (fun y => far c 2 y && side c y != side c x)) := by
  unfold atOne
  simp only []
  generalize inRow c 2 2 (x :: before) = b2
  generalize (far c 2 x && (before.take own).any (fun y => far c 2 y && side c y != side c x)) = b4
  generalize inRow c 1 4 (x :: before) = b8
  generalize inRow c 0 10 (x :: before) = b16
  generalize far c 3 x = b1
  revert b1 b2 b4 b8 b16; decide
theorem at8 (c : Control) (before : List Int) (own : Nat) (x : Int) : (atOne c before own x).contains 8 = inRow c 1 4 (x :: before) := by
  unfold atOne
  simp only []
  generalize inRow c 2 2 (x :: before) = b2
  generalize (far c 2 x && (before.take own).any (fun y => far c 2 y && side c y != side c x)) = b4
  generalize inRow c 1 4 (x :: before) = b8
  generalize inRow c 0 10 (x :: before) = b16
  generalize far c 3 x = b1
  revert b1 b2 b4 b8 b16; decide
theorem at16 (c : Control) (before : List Int) (own : Nat) (x : Int) : (atOne c before own x).contains 16 = inRow c 0 10 (x :: before) := by
  unfold atOne
  simp only []
  generalize inRow c 2 2 (x :: before) = b2
  generalize (far c 2 x && (before.take own).any (fun y => far c 2 y && side c y != side c x)) = b4
  generalize inRow c 1 4 (x :: before) = b8
  generalize inRow c 0 10 (x :: before) = b16
  generalize far c 3 x = b1
  revert b1 b2 b4 b8 b16; decide
theorem contains_app (a b : List Nat) (k : Nat) : (a ++ b).contains k = (a.contains k || b.contains k) := by
  simp
theorem anyRow_eq {c : Control} {r n k : Nat} (hn : 1 ≤ n) (hn10 : n ≤ 10) (hat : ∀ before own x, (atOne c before own x).contains r = inRow c k n (x :: before)) :
    ∀ (b before offs : List Int) (own : Nat), Kept c before offs (9 + own) → (brokenFrom c before own b).contains r = anyRow n ((k : Int) * c.sd) offs (b.map (· - c.mean))
  | [], before, offs, own, _ => rfl
  | x :: b, before, offs, own, h => by
    have h1 := h.push x
    show (atOne c before own x ++ brokenFrom c (x :: before) (own + 1) b).contains r = (oneSided (offs ++ [x - c.mean]) n ((k : Int) * c.sd) || anyRow n ((k : Int) * c.sd) (offs ++ [x - c.mean]) (b.map (· - c.mean)))
    rw [contains_app, hat, h1.row hn (by omega), anyRow_eq hn hn10 hat b (x :: before) (offs ++ [x - c.mean]) (own + 1) h1]
def opp (c : Control) (x y : Int) : Prop := far c 2 x = true ∧ far c 2 y = true ∧ side c y ≠ side c x
theorem opp_symm {c : Control} {x y : Int} (h : opp c x y) : opp c y x := ⟨h.2.1, h.1, fun e => h.2.2 e.symm⟩
theorem four_iff {c : Control} : ∀ (b before : List Int) (own : Nat), (brokenFrom c before own b).contains 4 = true ↔ ((∃ x ∈ b, ∃ y ∈ before.take own, opp c x y) ∨ ∃ x ∈ b, ∃ y ∈ b, opp c x y)
  | [], before, own => by simp [brokenFrom]
  | x :: b, before, own => by
    show (atOne c before own x ++ brokenFrom c (x :: before) (own + 1) b).contains 4 = true ↔ _
    rw [contains_app, Bool.or_eq_true, at4, four_iff b (x :: before) (own + 1)]
    have e : (far c 2 x && (before.take own).any (fun y => far c 2 y && side c y != side c x)) = true ↔ ∃ y ∈ before.take own, opp c x y := by
      simp only [Bool.and_eq_true, List.any_eq_true, bne_iff_ne, opp]
      constructor
      · rintro ⟨h1, y, hy, h2, h3⟩
        exact ⟨y, hy, h1, h2, h3⟩
      · rintro ⟨y, hy, h1, h2, h3⟩
        exact ⟨h1, y, hy, h2, h3⟩
    rw [e, List.take_succ_cons]
    have nopp : ¬ opp c x x := fun h => h.2.2 rfl
    constructor
    · rintro (⟨y, hy, h⟩ | ⟨z, hz, y, hy, h⟩ | ⟨z, hz, y, hy, h⟩)
      · exact .inl ⟨x, List.mem_cons_self, y, hy, h⟩
      · rcases List.mem_cons.mp hy with rfl | hy
        · exact .inr ⟨z, List.mem_cons_of_mem _ hz, y, List.mem_cons_self, h⟩
        · exact .inl ⟨z, List.mem_cons_of_mem _ hz, y, hy, h⟩
      · exact .inr ⟨z, List.mem_cons_of_mem _ hz, y, List.mem_cons_of_mem _ hy, h⟩
    · rintro (⟨z, hz, y, hy, h⟩ | ⟨z, hz, y, hy, h⟩)
      · rcases List.mem_cons.mp hz with rfl | hz
        · exact .inl ⟨y, hy, h⟩
        · exact .inr (.inl ⟨z, hz, y, List.mem_cons_of_mem _ hy, h⟩)
      · rcases List.mem_cons.mp hz with e1 | hz'
        · rcases List.mem_cons.mp hy with e2 | hy'
          · rw [e1, e2] at h; exact absurd h nopp
          · rw [e1] at h; exact .inr (.inl ⟨y, hy', x, List.mem_cons_self, opp_symm h⟩)
        · rcases List.mem_cons.mp hy with e2 | hy'
          · rw [e2] at h; exact .inr (.inl ⟨z, hz', x, List.mem_cons_self, h⟩)
          · exact .inr (.inr ⟨z, hz', y, hy', h⟩)
theorem far_side {c : Control} {x : Int} (h : far c 2 x = true) : (side c x = 1 ∧ 2 * (c.sd : Int) < x - c.mean) ∨ (side c x = -1 ∧ x - c.mean < -(2 * (c.sd : Int))) := by
  have hb : (0 : Int) ≤ c.sd := Int.natCast_nonneg _
  rcases (far_iff c 2 x).mp h with h | h
  · exact .inl ⟨(side_pos c x).mpr (by omega), by omega⟩
  · exact .inr ⟨(side_neg c x).mpr (by omega), by omega⟩
theorem four_eq (c : Control) (b before : List Int) : (brokenFrom c before 0 b).contains 4 = farApart (b.map (· - c.mean)) (2 * (c.sd : Int)) := by
  have hb : (0 : Int) ≤ c.sd := Int.natCast_nonneg _
  rw [Bool.eq_iff_iff, four_iff]
  unfold farApart
  simp only [List.take_zero, List.not_mem_nil, false_and, exists_false, and_false, false_or, Bool.and_eq_true, List.any_map, List.any_eq_true, Function.comp, decide_eq_true_eq]
  constructor
  · rintro ⟨x, hx, y, hy, h1, h2, h3⟩
    rcases far_side h1 with ⟨s1, k1⟩ | ⟨s1, k1⟩ <;> rcases far_side h2 with ⟨s2, k2⟩ | ⟨s2, k2⟩
    · rw [s1, s2] at h3; exact absurd rfl h3
    · exact ⟨⟨x, hx, k1⟩, ⟨y, hy, k2⟩⟩
    · exact ⟨⟨y, hy, k2⟩, ⟨x, hx, k1⟩⟩
    · rw [s1, s2] at h3; exact absurd rfl h3
  · rintro ⟨⟨x, hx, k1⟩, ⟨y, hy, k2⟩⟩
    refine ⟨x, hx, y, hy, (far_iff c 2 x).mpr (.inl (by simpa using k1)), (far_iff c 2 y).mpr (.inr (by simpa using k2)), ?_⟩
    rw [(side_pos c x).mpr (by omega), (side_neg c y).mpr (by omega)]
    decide
theorem at_mem {c : Control} {before : List Int} {own : Nat} {x : Int} {k : Nat} (h : k ∈ atOne c before own x) : k = 1 ∨ k = 2 ∨ k = 4 ∨ k = 8 ∨ k = 16 := by
  unfold atOne at h
  simp only [List.mem_append] at h
  rcases h with (((h | h) | h) | h) | h <;> (split at h <;> simp at h <;> simp [h])
theorem from_mem {c : Control} : ∀ {b before : List Int} {own : Nat} {k : Nat}, k ∈ brokenFrom c before own b → k = 1 ∨ k = 2 ∨ k = 4 ∨ k = 8 ∨ k = 16
  | [], _, _, _, h => by cases h
  | x :: b, before, own, k, h => by
    rcases List.mem_append.mp (show k ∈ atOne c before own x ++ brokenFrom c (x :: before) (own + 1) b from h) with h | h
    · exact at_mem h
    · exact from_mem h
/-- what the program keeps of the values that count -/
def recentOf (c : Control) (counted : List Int) : List Int := ((counted.reverse.take 9).reverse).map (· - c.mean)
theorem recentOf_kept (c : Control) (counted : List Int) : Kept c counted.reverse (recentOf c counted) (9 + 0) := by
  unfold Kept recentOf
  rw [← List.map_reverse, List.reverse_reverse]
theorem broken_eq (c : Control) (counted x : List Int) : ((Klb1.sum (broken c counted x) : Nat) : Int) = brokenMask (recentOf c counted) (x.map (· - c.mean)) c.sd := by
  have K := recentOf_kept c counted
  unfold broken brokenMask
  rw [sum_mask, four_eq, anyRow_eq (k := 3) (n := 1) (r := 1) (by omega) (by omega) (fun b o y => at1 c b o y) x _ _ 0 K,
    anyRow_eq (k := 2) (n := 2) (r := 2) (by omega) (by omega) (fun b o y => at2 c b o y) x _ _ 0 K,
    anyRow_eq (k := 1) (n := 4) (r := 8) (by omega) (by omega) (fun b o y => at8 c b o y) x _ _ 0 K,
    anyRow_eq (k := 0) (n := 10) (r := 16) (by omega) (by omega) (fun b o y => at16 c b o y) x _ _ 0 K]
  have e1 : ((1 : Nat) : Int) * (c.sd : Int) = c.sd := by omega
  have e0 : ((0 : Nat) : Int) * (c.sd : Int) = 0 := by omega
  rw [e1, e0]
  rfl
theorem broken_nil (c : Control) (counted x : List Int) : broken c counted x = [] ↔ brokenMask (recentOf c counted) (x.map (· - c.mean)) c.sd = 0 := by
  rw [← broken_eq]
  constructor
  · intro h; rw [h]; rfl
  · intro h
    rw [sum_mask, mask_zero] at h
    obtain ⟨h1, h2, h4, h8, h16⟩ := h
    cases hb : broken c counted x with
    | nil => rfl
    | cons k r =>
      have hk : k ∈ broken c counted x := by rw [hb]; exact List.mem_cons_self
      rcases from_mem (show k ∈ brokenFrom c counted.reverse 0 x from hk) with rfl | rfl | rfl | rfl | rfl
      · simp_all
      · simp_all
      · simp_all
      · simp_all
      · simp_all
theorem recent_next (c : Control) (counted x : List Int) : recentOf c (counted ++ x) = ((recentOf c counted ++ x.map (· - c.mean)).reverse.take 9).reverse := by
  unfold recentOf
  simp only [List.map_reverse, List.reverse_append, List.reverse_reverse]
  congr 1
  rw [List.take_append, List.take_append, List.map_append, List.map_take, List.map_take, List.map_take, List.take_take]
  have e : min (9 - x.reverse.length) 9 = 9 - x.reverse.length := by omega
  simp only [List.map_reverse, List.length_reverse, List.length_map] at e ⊢
  rw [e]
end WL

namespace WL
open Klb1
def last9 (l : List Int) : List Int := l.drop (l.length - 9)
def okCtl (m s : Int) : Bool := decide (-1000000000 ≤ m) && decide (m ≤ 1000000000) && decide (1 ≤ s) && decide (s ≤ 1000000)
theorem okCtl_eq (m : Int) (s : Nat) : okControl m s = okCtl m s := by
  unfold okControl okCtl
  congr 1
  · congr 1
    exact decide_eq_decide.mpr (by omega)
  · exact decide_eq_decide.mpr (by omega)
/-- what the program's four numbers tell of the specification's state -/
def Rel1 : Option Abs → Int → Int → Int → List Int → Prop
  | none, _, _, _, rc => rc.length ≤ 9
  | some q, m, s, n, rc => m = q.control.mean ∧ s = (q.control.sd : Int) ∧ n = (q.counted.length : Int) ∧ rc = recentOf q.control q.counted
theorem recentOf_len (c : Control) (l : List Int) : (recentOf c l).length ≤ 9 := by
  unfold recentOf
  simp
  omega
theorem Rel1.len {x : Option Abs} {m s n : Int} {rc : List Int} (h : Rel1 x m s n rc) : rc.length ≤ 9 := by
  cases x with
  | none => exact h
  | some q => obtain ⟨_, _, _, rfl⟩ := h; exact recentOf_len _ _
theorem start1_bad (x : Option Abs) (m : Int) (s : Nat) (h : okCtl m s = false) : acts x (.start m s) = some (x, ⟨-22⟩) := by
  simp [acts, okCtl_eq, h]
theorem start1_ok (x : Option Abs) (m : Int) (s : Nat) (h : okCtl m s = true) : acts x (.start m s) = some (some { control := ⟨m, s⟩ }, ⟨0⟩) ∧ Rel1 (some { control := ⟨m, s⟩ }) m s 0 [] := by
  refine ⟨by simp [acts, okCtl_eq, h], rfl, rfl, rfl, rfl⟩
theorem batch1_bad (q : Abs) (x : List Int) (h : x.length < 1 ∨ 8 < x.length) : acts (some q) (.batch x x.length) = some (some q, ⟨-22⟩) := by
  simp only [acts, Option.map_some, h, if_true]
theorem batch1_ok {q : Abs} {m s n : Int} {rc : List Int} (r : Rel1 (some q) m s n rc) (x : List Int) (h1 : 1 ≤ x.length) (h8 : x.length ≤ 8) :
    ∃ q', acts (some q) (.batch x x.length) = some (some q', ⟨brokenMask rc (x.map (· - m)) s⟩) ∧
      (brokenMask rc (x.map (· - m)) s = 0 → Rel1 (some q') m s (n + x.length) (last9 (rc ++ x.map (· - m)))) ∧ (brokenMask rc (x.map (· - m)) s ≠ 0 → Rel1 (some q') m s 0 []) := by
  obtain ⟨rfl, rfl, rfl, rfl⟩ := r
  rw [← broken_eq]
  refine ⟨{ q with counted := if broken q.control q.counted x = [] then q.counted ++ x else [] }, ?_, fun hz => ?_, fun hz => ?_⟩
  · have : ¬ (x.length < 1 ∨ 8 < x.length) := by omega
    simp only [acts, Option.map_some, this, if_false]
  · have hb : broken q.control q.counted x = [] := (broken_nil _ _ _).mpr (by rw [← broken_eq]; exact hz)
    refine ⟨rfl, rfl, ?_, ?_⟩
    · simp only [hb, if_true, List.length_append]; omega
    · simp only [hb, if_true]
      rw [recent_next, last9, drop_rev]
  · have hb : ¬ broken q.control q.counted x = [] := fun e => hz (by rw [e]; rfl)
    refine ⟨rfl, rfl, ?_, ?_⟩
    · simp only [hb, if_false]; rfl
    · simp only [hb, if_false]; rfl
theorem count1_ok {q : Abs} {m s n : Int} {rc : List Int} (r : Rel1 (some q) m s n rc) : acts (some q) .count = some (some q, ⟨if 1000000 < n then 1000000 else n⟩) := by
  obtain ⟨_, _, rfl, _⟩ := r
  simp only [acts, Option.map_some]
  congr 3
  split <;> omega
end WL

namespace WL
open Klb2
/-! ## the tubes: the program's own words -/
structure PT where
  patient : Int
  origin : Int
  depth : Int
  left : Int
  spot : Int
  used : Int
def standing : List PT → Int → Nat → Option Nat
  | [], _, _ => none
  | t :: r, spot, i => if t.spot = spot then some i else standing r spot (i + 1)
def standingAt (ts : List PT) (spot : Int) : Int := match standing ts spot 0 with
  | some i => (i : Int)
  | none => -2
def spotOf (rack place : Int) : Int := if rack > 15 ∨ place > 95 then -1 else rack * 96 + place
/-! ## against the specification -/
def spotAt : Option (Nat × Nat) → Int
  | none => -1
  | some (r, p) => (r : Int) * 96 + p
def ptOf (b : Lab) (i : Nat) (t : Tube) : PT := ⟨t.patient, t.sample, t.depth, t.left, spotAt t.place, usedOf b i⟩
def tsOf (b : Lab) : List PT := b.tubes.mapIdx (ptOf b)
structure Good (b : Lab) : Prop where
  most : b.tubes.length ≤ 256
  samp : ∀ (i : Nat) (t : Tube), b.tubes[i]? = some t → ∃ u, b.tubes[t.sample]? = some u ∧ u.sample = t.sample
  plc : ∀ (i : Nat) (t : Tube) (r p : Nat), b.tubes[i]? = some t → t.place = some (r, p) → r ≤ 15 ∧ p ≤ 95
  usd : ∀ u ∈ b.used, u.1 < b.tubes.length
theorem good_nil : Good {} := ⟨by simp, by simp, by simp, by simp⟩
theorem tsOf_nil : tsOf {} = [] := rfl
theorem tsOf_len (b : Lab) : (tsOf b).length = b.tubes.length := by simp [tsOf]
theorem tsOf_get (b : Lab) (i : Nat) : (tsOf b)[i]? = (b.tubes[i]?).map (ptOf b i) := by simp [tsOf, List.getElem?_mapIdx]
theorem foldl_add (l : List Nat) (a : Nat) : l.foldl (· + ·) a = a + l.foldl (· + ·) 0 := by
  induction l generalizing a with
  | nil => simp
  | cons x r ih => rw [List.foldl_cons, List.foldl_cons, ih, ih (0 + x)]; omega
theorem usedOf_app (b : Lab) (ts : List Tube) (s v i : Nat) : usedOf { tubes := ts, used := b.used ++ [(s, v)] } i = usedOf b i + (if s = i then v else 0) := by
  unfold usedOf
  simp only [List.filter_append, List.map_append, List.foldl_append]
  by_cases h : s = i
  · simp only [h, beq_self_eq_true, List.filter_cons_of_pos, List.filter_nil, List.map_cons, List.map_nil, List.foldl_cons, List.foldl_nil, if_true]
  · have : (s == i) = false := by simpa using h
    simp [this, h]
theorem usedOf_new (b : Lab) (g : Good b) : usedOf b b.tubes.length = 0 := by
  unfold usedOf
  have : (b.used.filter fun u => u.1 == b.tubes.length) = [] := by
    rw [List.filter_eq_nil_iff]
    intro u hu
    have := g.usd u hu
    simp
    omega
  rw [this]; rfl
/-- standing: the first one whose spot it is -/
theorem standing_find : ∀ (ts : List PT) (spot : Int) (i : Nat), standing ts spot i = (ts.findIdx? (fun t => decide (t.spot = spot))).map (· + i)
  | [], _, _ => rfl
  | t :: r, spot, i => by
    unfold standing
    rw [List.findIdx?_cons, standing_find r spot (i + 1)]
    by_cases h : t.spot = spot
    · simp [h]
    · simp only [h, if_false, decide_false, Bool.false_eq_true]
      cases List.findIdx? (fun t => decide (t.spot = spot)) r with
      | none => rfl
      | some j => simp; omega
theorem standing_none {ts : List PT} {spot : Int} (h : ∀ (i : Nat) (t : PT), ts[i]? = some t → t.spot ≠ spot) : standing ts spot 0 = none := by
  rw [standing_find, List.findIdx?_eq_none_iff.mpr]
  · rfl
  · intro t ht
    obtain ⟨i, hi⟩ := List.mem_iff_getElem?.mp ht
    simpa using h i t hi
theorem standing_some {ts : List PT} {spot : Int} {j : Nat} {t : PT} (h1 : ts[j]? = some t) (h2 : t.spot = spot) (h3 : ∀ (i : Nat) (t : PT), i < j → ts[i]? = some t → t.spot ≠ spot) : standing ts spot 0 = some j := by
  rw [standing_find, List.findIdx?_eq_some_iff_getElem.mpr]
  · rfl
  · obtain ⟨hj, e⟩ := List.getElem?_eq_some_iff.mp h1
    refine ⟨hj, by rw [e]; simpa using h2, fun i hi => ?_⟩
    have := h3 i _ hi (List.getElem?_eq_getElem (by omega))
    simpa using this
theorem spotAt_inj {r p : Nat} {q : Option (Nat × Nat)} (hr : r ≤ 15) (hp : p ≤ 95) (hq : ∀ r p, q = some (r, p) → r ≤ 15 ∧ p ≤ 95) : spotAt q = (r : Int) * 96 + p ↔ q = some (r, p) := by
  cases q with
  | none => simp [spotAt]; omega
  | some x =>
    obtain ⟨a, c⟩ := x
    have := hq a c rfl
    simp only [spotAt, Option.some.injEq, Prod.mk.injEq]
    constructor
    · intro h; omega
    · rintro ⟨rfl, rfl⟩; rfl
theorem who_eq (b : Lab) (g : Good b) {r p : Nat} (hr : r ≤ 15) (hp : p ≤ 95) : who b r p = standing (tsOf b) ((r : Int) * 96 + p) 0 := by
  have key : ∀ (i : Nat), ((b.tubes[i]?.bind Tube.place) == some (r, p)) = true ↔ ∃ t, (tsOf b)[i]? = some t ∧ t.spot = (r : Int) * 96 + p := by
    intro i
    rw [tsOf_get]
    cases h : b.tubes[i]? with
    | none => simp
    | some t =>
      have := spotAt_inj (q := t.place) hr hp fun a c e => g.plc i t a c h e
      simp [ptOf, this]
  unfold who
  cases hf : (List.range b.tubes.length).find? fun i => (b.tubes[i]?.bind Tube.place) == some (r, p) with
  | none =>
    rw [standing_none]
    intro i t hi e
    have hlt : i < b.tubes.length := by
      have := (List.getElem?_eq_some_iff.mp hi).1
      rw [tsOf_len] at this; exact this
    exact absurd ((key i).mpr ⟨t, hi, e⟩) (by simpa using List.find?_eq_none.mp hf i (List.mem_range.mpr hlt))
  | some j =>
    obtain ⟨hp0, k, hk, hkj, hlt⟩ := List.find?_eq_some_iff_getElem.mp hf
    have hkj' : k = j := by simpa using hkj
    obtain ⟨t, h1, h2⟩ := (key j).mp hp0
    rw [standing_some h1 h2]
    intro i t' hi hi' e
    have := hlt i (by omega)
    rw [List.getElem_range] at this
    exact absurd ((key i).mpr ⟨t', hi', e⟩) (by simpa using this)
/-! ## the calls -/
theorem set_get {α : Type} (l : List α) (k i : Nat) (x : α) : (l.set k x)[i]? = if k = i then (l[i]?).map (fun _ => x) else l[i]? := by
  rw [List.getElem?_set]
  by_cases h : k = i
  · subst h
    by_cases hl : k < l.length
    · simp [hl]
    · simp [hl]
  · simp [h]
theorem app_get {α : Type} (l : List α) (x : α) (i : Nat) : (l ++ [x])[i]? = if i = l.length then some x else l[i]? := by
  by_cases h : i < l.length
  · rw [List.getElem?_append_left h, if_neg (by omega)]
  · rw [List.getElem?_append_right (by omega)]
    by_cases e : i = l.length
    · simp [e]
    · rw [if_neg e, List.getElem?_eq_none (by simp; omega), List.getElem?_eq_none (by omega)]
theorem Good.add {b : Lab} (g : Good b) {t : Tube} (h : b.tubes.length < 256) (hs : (t.sample = b.tubes.length) ∨ ∃ u, b.tubes[t.sample]? = some u ∧ u.sample = t.sample) (hp : t.place = none) : Good { b with tubes := b.tubes ++ [t] } := by
  refine ⟨by simp; omega, fun i u hu => ?_, fun i u r p hu e => ?_, fun u hu => ?_⟩
  · have hu : (b.tubes ++ [t])[i]? = some u := hu
    rw [app_get] at hu
    show ∃ w, (b.tubes ++ [t])[u.sample]? = some w ∧ w.sample = u.sample
    rw [app_get]
    have old : ∀ s w, b.tubes[s]? = some w → (if s = b.tubes.length then some t else b.tubes[s]?) = some w := by
      intro s w e
      have := (List.getElem?_eq_some_iff.mp e).1
      rw [if_neg (by omega)]; exact e
    split at hu
    · cases hu
      rcases hs with e | ⟨w, e1, e2⟩
      · rw [e]; exact ⟨t, by simp, e⟩
      · exact ⟨w, old _ _ e1, e2⟩
    · obtain ⟨w, e1, e2⟩ := g.samp i u hu
      exact ⟨w, old _ _ e1, e2⟩
  · have hu : (b.tubes ++ [t])[i]? = some u := hu
    rw [app_get] at hu
    split at hu
    · cases hu; rw [hp] at e; cases e
    · exact g.plc i u r p hu e
  · have := g.usd u hu
    show u.1 < (b.tubes ++ [t]).length
    simp; omega
theorem tsOf_add {b : Lab} (g : Good b) (t : Tube) : tsOf { b with tubes := b.tubes ++ [t] } = tsOf b ++ [⟨t.patient, t.sample, t.depth, t.left, spotAt t.place, 0⟩] := by
  apply List.ext_getElem?
  intro i
  rw [tsOf_get, app_get, app_get, tsOf_len, tsOf_get]
  by_cases h : i = b.tubes.length
  · subst h
    have := usedOf_new b g
    simp only [if_true, Option.map_some, ptOf]
    congr 2
    show ((usedOf b b.tubes.length : Nat) : Int) = 0
    rw [this]; rfl
  · rw [if_neg h, if_neg h]
    rfl
/-- a tube changed in its left, its place -/
theorem Good.set {b : Lab} (g : Good b) {k : Nat} {t u : Tube} (hk : b.tubes[k]? = some t) (hs : u.sample = t.sample) (hp : ∀ r p, u.place = some (r, p) → r ≤ 15 ∧ p ≤ 95) (us : List (Nat × Nat)) (hu : ∀ x ∈ us, x.1 < b.tubes.length) :
    Good { tubes := b.tubes.set k u, used := us } := by
  refine ⟨by simpa using g.most, fun i w hw => ?_, fun i w r p hw e => ?_, fun x hx => by simpa using hu x hx⟩
  · have hw : (b.tubes.set k u)[i]? = some w := hw
    have old : ∀ (s : Nat) (w : Tube), b.tubes[s]? = some w → w.sample = s → ∃ w' : Tube, (b.tubes.set k u)[s]? = some w' ∧ w'.sample = s := by
      intro s w e1 e2
      rw [set_get]
      by_cases h : k = s
      · subst h
        rw [hk] at e1; cases e1
        exact ⟨u, by simp [hk], by rw [hs, e2]⟩
      · exact ⟨w, by rw [if_neg h]; exact e1, e2⟩
    rw [set_get] at hw
    have : ∃ w0, b.tubes[i]? = some w0 ∧ w.sample = w0.sample := by
      split at hw
      · rename_i h
        subst h
        rw [hk] at hw
        cases hw
        exact ⟨t, hk, hs⟩
      · exact ⟨w, hw, rfl⟩
    obtain ⟨w0, e0, e1⟩ := this
    obtain ⟨x, f1, f2⟩ := g.samp i w0 e0
    show ∃ u_1, (b.tubes.set k u)[w.sample]? = some u_1 ∧ u_1.sample = w.sample
    rw [e1]
    exact old _ x f1 f2
  · have hw : (b.tubes.set k u)[i]? = some w := hw
    rw [set_get] at hw
    split at hw
    · rename_i h
      subst h
      rw [hk] at hw
      cases hw
      exact hp r p e
    · exact g.plc i w r p hw e
theorem tsOf_set (b : Lab) (k : Nat) (u : Tube) : tsOf { b with tubes := b.tubes.set k u } = (tsOf b).set k (ptOf b k u) := by
  apply List.ext_getElem?
  intro i
  rw [tsOf_get, set_get, set_get, tsOf_get]
  by_cases h : k = i
  · subst h
    rw [if_pos rfl, if_pos rfl]
    cases b.tubes[k]? with
    | none => rfl
    | some t => rfl
  · rw [if_neg h, if_neg h]
    rfl
/-- so much used of the sample s, a tube changed -/
theorem tsOf_use (b : Lab) (k s v : Nat) (u : Tube) {o : PT} (ho : ((tsOf b).set k (ptOf b k u))[s]? = some o) :
    tsOf { tubes := b.tubes.set k u, used := b.used ++ [(s, v)] } = ((tsOf b).set k (ptOf b k u)).set s { o with used := o.used + v } := by
  apply List.ext_getElem?
  intro i
  rw [tsOf_get, set_get _ s]
  have e : ∀ t : Tube, ptOf { tubes := b.tubes.set k u, used := b.used ++ [(s, v)] } i t = { ptOf b i t with used := (ptOf b i t).used + (if s = i then v else 0 : Nat) } := by
    intro t
    unfold ptOf
    rw [usedOf_app]
    simp
  have e2 : ((tsOf b).set k (ptOf b k u))[i]? = ((b.tubes.set k u)[i]?).map (ptOf b i) := by
    have := congrArg (fun l => l[i]?) (tsOf_set b k u)
    simp only [tsOf_get] at this
    exact this.symm
  by_cases h : s = i
  · subst h
    rw [if_pos rfl, ho]
    rw [e2] at ho
    cases hq : (b.tubes.set k u)[s]? with
    | none => rw [hq] at ho; cases ho
    | some t =>
      rw [hq] at ho
      cases ho
      simp [e]
  · rw [if_neg h, e2]
    cases hq : (b.tubes.set k u)[i]? with
    | none => rfl
    | some t => simp [e, h]
end WL

namespace WL
open Klb2
/-! ## the tubes' calls: the program's own words, and the specification's -/
def mSample (ts : List PT) (p v : Int) : List PT × Int :=
  if v = 0 then (ts, -22) else if 256 ≤ ts.length then (ts, -28) else (ts ++ [⟨p, ts.length, 0, v, -1, 0⟩], ts.length)
def refusal (ts : List PT) (k : Nat) (v : Int) : Int :=
  if v = 0 then -22 else match ts[k]? with
    | none => -2
    | some t => if t.left < v then -61 else 0
def mTake (ts : List PT) (k : Nat) (v : Int) : List PT × Int :=
  if refusal ts k v ≠ 0 then (ts, refusal ts k v) else if 256 ≤ ts.length then (ts, -28) else match ts[k]? with
    | none => (ts, 0)
    | some t => (ts.set k { t with left := t.left - v } ++ [⟨t.patient, t.origin, t.depth + 1, v, -1, 0⟩], ts.length)
def mUse (ts : List PT) (k : Nat) (v : Int) : List PT × Int :=
  if refusal ts k v ≠ 0 then (ts, refusal ts k v) else match ts[k]? with
    | none => (ts, 0)
    | some t => match (ts.set k { t with left := t.left - v })[t.origin.toNat]? with
      | none => (ts, 0)
      | some o => ((ts.set k { t with left := t.left - v }).set t.origin.toNat { o with used := o.used + v }, (t.left - v) % 2147483648)
def mPut (ts : List PT) (k : Nat) (r p : Int) : List PT × Int :=
  if spotOf r p = -1 then (ts, -22) else match ts[k]? with
    | none => (ts, -2)
    | some t => if standingAt ts (spotOf r p) ≠ -2 ∧ standingAt ts (spotOf r p) ≠ k then (ts, -17) else (ts.set k { t with spot := spotOf r p }, 0)
def mAt (ts : List PT) (r p : Int) : Int := if spotOf r p = -1 then -22 else standingAt ts (spotOf r p)
def mOf (ts : List PT) (k : Nat) : List Int := match ts[k]? with
  | none => [-2]
  | some t => [0, t.patient, t.origin, t.left, t.depth]

theorem sample_ok (b : Lab) (g : Good b) (p v : Nat) : ∃ b' r, acts (some b) (.sample p v) = some (some b', say r) ∧ mSample (tsOf b) p v = (tsOf b', r) ∧ Good b' := by
  unfold mSample
  rw [tsOf_len]
  by_cases h0 : v = 0
  · subst h0
    exact ⟨b, -22, rfl, by simp, g⟩
  · have h0' : ¬ (v : Int) = 0 := by omega
    rw [if_neg h0']
    by_cases h1 : b.tubes.length = 256
    · refine ⟨b, -28, ?_, by rw [if_pos (by omega)], g⟩
      simp [acts, h0, h1]
    · have hlt : b.tubes.length < 256 := by have := g.most; omega
      refine ⟨{ b with tubes := b.tubes ++ [⟨p, b.tubes.length, v, 0, none⟩] }, b.tubes.length, ?_, ?_, g.add hlt (.inl rfl) rfl⟩
      · simp [acts, h0, h1]
      · rw [if_neg (by omega), tsOf_add g]
        rfl
theorem refusal_ok (b : Lab) (k v : Nat) : refusal (tsOf b) k v = if v = 0 then -22 else match b.tubes[k]? with
    | none => -2
    | some t => if t.left < v then -61 else 0 := by
  unfold refusal
  rw [tsOf_get]
  by_cases h0 : v = 0
  · subst h0; simp
  · rw [if_neg (by omega), if_neg h0]
    cases b.tubes[k]? with
    | none => rfl
    | some t =>
      show (if ((t.left : Nat) : Int) < (v : Int) then (-61 : Int) else 0) = if t.left < v then -61 else 0
      by_cases h : t.left < v
      · rw [if_pos h, if_pos (by omega)]
      · rw [if_neg h, if_neg (by omega)]
theorem left_sub {t : Tube} {v : Nat} (b : Lab) (k : Nat) (h : ¬ t.left < v) : ({ ptOf b k t with left := (ptOf b k t).left - (v : Int) } : PT) = ptOf b k { t with left := t.left - v } := by
  unfold ptOf
  simp only
  congr 1
  omega
theorem take_ok (b : Lab) (g : Good b) (k v : Nat) : ∃ b' r, acts (some b) (.take k v) = some (some b', say r) ∧ mTake (tsOf b) k v = (tsOf b', r) ∧ Good b' := by
  unfold mTake
  rw [refusal_ok, tsOf_len, tsOf_get]
  by_cases h0 : v = 0
  · subst h0
    exact ⟨b, -22, rfl, by simp, g⟩
  · rw [if_neg h0]
    cases hk : b.tubes[k]? with
    | none =>
      refine ⟨b, -2, ?_, by simp, g⟩
      simp [acts, h0, hk]
    | some t =>
      simp only [Option.map_some]
      by_cases hl : t.left < v
      · refine ⟨b, -61, ?_, by simp [hl], g⟩
        simp [acts, h0, hk, hl]
      · rw [if_neg hl, if_neg (by decide)]
        by_cases h1 : b.tubes.length = 256
        · refine ⟨b, -28, ?_, by rw [if_pos (by omega)], g⟩
          simp [acts, h0, hk, hl, h1]
        · have hlt : b.tubes.length < 256 := by have := g.most; omega
          rw [if_neg (by omega)]
          have g1 : Good { b with tubes := b.tubes.set k { t with left := t.left - v } } := g.set (u := { t with left := t.left - v }) hk rfl (fun r p e => g.plc k t r p hk e) b.used g.usd
          obtain ⟨u, hu, hus⟩ := g1.samp k { t with left := t.left - v } (by
            show (b.tubes.set k { t with left := t.left - v })[k]? = _
            rw [set_get, if_pos rfl, hk]; rfl)
          have g2 := g1.add (t := ⟨t.patient, t.sample, v, t.depth + 1, none⟩) (by show (b.tubes.set k _).length < 256; rw [List.length_set]; exact hlt) (.inr ⟨u, hu, hus⟩) rfl
          refine ⟨_, b.tubes.length, ?_, ?_, g2⟩
          · simp [acts, h0, hk, hl, h1]
          · rw [tsOf_add g1, tsOf_set, left_sub b k hl]
            rfl
theorem use_ok (b : Lab) (g : Good b) (k v : Nat) : ∃ b' r, acts (some b) (.use k v) = some (some b', say r) ∧ mUse (tsOf b) k v = (tsOf b', r) ∧ Good b' := by
  unfold mUse
  rw [refusal_ok, tsOf_get]
  by_cases h0 : v = 0
  · subst h0
    exact ⟨b, -22, rfl, by simp, g⟩
  · rw [if_neg h0]
    cases hk : b.tubes[k]? with
    | none =>
      refine ⟨b, -2, ?_, by simp, g⟩
      simp [acts, h0, hk]
    | some t =>
      simp only [Option.map_some]
      by_cases hl : t.left < v
      · refine ⟨b, -61, ?_, by simp [hl], g⟩
        simp [acts, h0, hk, hl]
      · rw [if_neg hl, if_neg (by decide), left_sub b k hl]
        have e1 : (ptOf b k t).origin.toNat = t.sample := by
          show ((t.sample : Nat) : Int).toNat = t.sample
          omega
        rw [e1]
        obtain ⟨u, hu, hus⟩ := g.samp k t hk
        have hslt : t.sample < b.tubes.length := (List.getElem?_eq_some_iff.mp hu).1
        have ho : ∃ o, ((tsOf b).set k (ptOf b k { t with left := t.left - v }))[t.sample]? = some o := by
          refine ⟨_, List.getElem?_eq_getElem ?_⟩
          rw [List.length_set, tsOf_len]
          exact hslt
        obtain ⟨o, ho⟩ := ho
        rw [ho]
        have g1 : Good { tubes := b.tubes.set k { t with left := t.left - v }, used := b.used ++ [(t.sample, v)] } := g.set (u := { t with left := t.left - v }) hk rfl (fun r p e => g.plc k t r p hk e) (b.used ++ [(t.sample, v)]) (fun x hx => by
          rcases List.mem_append.mp hx with h | h
          · exact g.usd x h
          · rw [List.mem_singleton.mp h]; exact hslt)
        refine ⟨_, ((t.left - v) % 2 ^ 31 : Nat), ?_, ?_, g1⟩
        · simp [acts, h0, hk, hl]
        · rw [tsOf_use b k t.sample v _ ho]
          simp only [Prod.mk.injEq, true_and]
          show (((t.left : Nat) : Int) - (v : Int)) % 2147483648 = (((t.left - v) % 2 ^ 31 : Nat) : Int)
          omega
theorem spot_iff (r p : Nat) : spotOf (r : Int) (p : Int) = -1 ↔ (15 < r ∨ 95 < p) := by
  unfold spotOf
  by_cases h : (15 < r ∨ 95 < p)
  · rw [if_pos (by omega)]; simp [h]
  · rw [if_neg (by omega)]; simp only [h, iff_false]; omega
theorem spot_val {r p : Nat} (h : ¬ (15 < r ∨ 95 < p)) : spotOf (r : Int) (p : Int) = (r : Int) * 96 + p := by
  unfold spotOf
  rw [if_neg (by omega)]
theorem standing_who (b : Lab) (g : Good b) {r p : Nat} (h : ¬ (15 < r ∨ 95 < p)) : standingAt (tsOf b) (spotOf (r : Int) (p : Int)) = match who b r p with
    | some k => (k : Int)
    | none => -2 := by
  rw [spot_val h, who_eq b g (by omega) (by omega)]
  rfl
theorem put_ok (b : Lab) (g : Good b) (k r p : Nat) : ∃ b' v, acts (some b) (.put k r p) = some (some b', say v) ∧ mPut (tsOf b) k r p = (tsOf b', v) ∧ Good b' := by
  unfold mPut
  by_cases h : (15 < r ∨ 95 < p)
  · exact ⟨b, -22, by simp [acts, h], by rw [if_pos ((spot_iff r p).mpr h)], g⟩
  · rw [if_neg (fun e => h ((spot_iff r p).mp e)), tsOf_get, standing_who b g h]
    cases hk : b.tubes[k]? with
    | none => exact ⟨b, -2, by simp [acts, h, hk], by simp, g⟩
    | some t =>
      simp only [Option.map_some]
      have g1 : Good { b with tubes := b.tubes.set k { t with place := some (r, p) } } := g.set (u := { t with place := some (r, p) }) hk rfl (fun r' p' e => by
        have e' : (r, p) = (r', p') := Option.some.inj e
        cases e'
        omega) b.used g.usd
      have e1 : ({ ptOf b k t with spot := spotOf (r : Int) (p : Int) } : PT) = ptOf b k { t with place := some (r, p) } := by
        unfold ptOf
        simp only [spotAt]
        rw [spot_val h]
      cases hw : who b r p with
      | none =>
        refine ⟨_, 0, ?_, ?_, g1⟩
        · simp [acts, h, hk, hw]
        · rw [tsOf_set, e1]; simp
      | some j =>
        by_cases hj : j = k
        · subst hj
          refine ⟨_, 0, ?_, ?_, g1⟩
          · simp [acts, h, hk, hw]
          · rw [tsOf_set, e1]; simp
        · refine ⟨b, -17, ?_, ?_, g⟩
          · simp [acts, h, hk, hw, hj]
          · rw [if_pos ⟨by show (j : Int) ≠ -2; omega, by show (j : Int) ≠ (k : Int); omega⟩]
theorem at_ok (b : Lab) (g : Good b) (r p : Nat) : acts (some b) (.at_ r p) = some (some b, say (mAt (tsOf b) r p)) := by
  unfold mAt
  by_cases h : (15 < r ∨ 95 < p)
  · rw [if_pos ((spot_iff r p).mpr h)]
    simp [acts, h]
  · rw [if_neg (fun e => h ((spot_iff r p).mp e)), standing_who b g h]
    simp only [acts, Option.map_some, h, if_false]
    cases who b r p <;> rfl
theorem of_ok (b : Lab) (k : Nat) : ∃ v : Ans, acts (some b) (.of k) = some (some b, v) ∧ mOf (tsOf b) k = v.value :: v.out.map (fun (x : Nat) => (x : Int)) := by
  unfold mOf
  rw [tsOf_get]
  cases hk : b.tubes[k]? with
  | none => exact ⟨say (-2), by simp [acts, hk], rfl⟩
  | some t => exact ⟨⟨0, [t.patient, t.sample, t.left, t.depth]⟩, by simp [acts, hk], rfl⟩
end WL

/-! ## sum -/
namespace WL
open Klb2
def ofSample (ts : List PT) (s : Int) : List PT := ts.filter (fun t => decide (t.origin = s))
def sumLeft (ts : List PT) (s : Int) : Int := ((ofSample ts s).map (·.left)).sum
theorem tsOf_pairs (b : Lab) : (tsOf b).map (fun p => (p.origin, p.left)) = b.tubes.map (fun t => (((t.sample : Nat) : Int), ((t.left : Nat) : Int))) := by
  apply List.ext_getElem?
  intro i
  rw [List.getElem?_map, List.getElem?_map, tsOf_get]
  cases b.tubes[i]? <;> rfl
theorem ofSample_pairs (ts : List PT) (s : Int) : (ofSample ts s).map (·.left) = ((ts.map (fun p => (p.origin, p.left))).filter (fun x => decide (x.1 = s))).map (·.2) := by
  unfold ofSample
  induction ts with
  | nil => rfl
  | cons t r ih =>
    simp only [List.filter_cons, List.map_cons]
    by_cases h : t.origin = s
    · simp only [h, decide_true, if_true, List.map_cons, ih]
    · simp only [h, decide_false, Bool.false_eq_true, if_false, ih]
theorem filter_pairs (l : List Tube) (s : Nat) : ((l.map (fun t => (((t.sample : Nat) : Int), ((t.left : Nat) : Int)))).filter (fun x => decide (x.1 = (s : Int)))).map (·.2) = ((l.filter (fun t => t.sample == s)).map Tube.left).map (fun (x : Nat) => (x : Int)) := by
  induction l with
  | nil => rfl
  | cons t r ih =>
    simp only [List.map_cons, List.filter_cons]
    by_cases h : t.sample = s
    · have h2 : (((t.sample : Nat) : Int) = (s : Int)) := by omega
      simp only [h2, decide_true, if_true, h, beq_self_eq_true, List.map_cons, ih]
    · have h2 : ¬ (((t.sample : Nat) : Int) = (s : Int)) := by omega
      have h3 : (t.sample == s) = false := by simpa using h
      simp only [h2, decide_false, Bool.false_eq_true, if_false, h3, ih]
theorem foldl_sum (l : List Nat) : ((l.foldl (· + ·) 0 : Nat) : Int) = (l.map (fun (x : Nat) => (x : Int))).sum := by
  induction l with
  | nil => rfl
  | cons x r ih =>
    rw [List.foldl_cons, foldl_add, List.map_cons, List.sum_cons, ← ih]
    omega
theorem left_eq (b : Lab) (s : Nat) : ((Klb2.leftOf b s : Nat) : Int) = sumLeft (tsOf b) s := by
  unfold Klb2.leftOf sumLeft
  rw [foldl_sum, ofSample_pairs, tsOf_pairs, filter_pairs]
theorem many_eq (b : Lab) (s : Nat) : (b.tubes.filter fun t => t.sample == s).length = (ofSample (tsOf b) s).length := by
  have h := congrArg List.length (filter_pairs b.tubes s)
  rw [← tsOf_pairs, ← ofSample_pairs] at h
  simpa using h.symm
/-- what is answered of a sample: the three numbers, or that there is none -/
def mSum (ts : List PT) (s : Nat) : List Int := match ts[s]? with
  | none => [-2]
  | some t => if t.origin = (s : Int) then [((ofSample ts s).length : Int), sumLeft ts s, t.used] else [-2]
theorem sum_ok (b : Lab) (s : Nat) : ∃ v : Ans, acts (some b) (.sum s) = some (some b, v) ∧ mSum (tsOf b) s = v.value :: v.out.map (fun (x : Nat) => (x : Int)) := by
  unfold mSum
  rw [tsOf_get]
  cases hs : b.tubes[s]? with
  | none => exact ⟨say (-2), by simp [acts, hs], rfl⟩
  | some t =>
    simp only [Option.map_some]
    by_cases h : t.sample = s
    · refine ⟨⟨((b.tubes.filter fun t => t.sample == s).length : Nat), [Klb2.leftOf b s, usedOf b s]⟩, by simp [acts, hs, h], ?_⟩
      have h2 : (ptOf b s t).origin = (s : Int) := by show ((t.sample : Nat) : Int) = s; omega
      rw [if_pos h2, many_eq, ← left_eq]
      rfl
    · refine ⟨say (-2), by simp [acts, hs, h], ?_⟩
      have h2 : ¬ (ptOf b s t).origin = (s : Int) := by show ¬ ((t.sample : Nat) : Int) = s; omega
      rw [if_neg h2]
      rfl
/-- one tube more of those seen -/
theorem ofSample_snoc (ts : List PT) (t : PT) (s : Int) : ofSample (ts ++ [t]) s = ofSample ts s ++ (if t.origin = s then [t] else []) := by
  unfold ofSample
  rw [List.filter_append]
  congr 1
  by_cases h : t.origin = s
  · rw [if_pos h, List.filter_cons_of_pos (by simpa using h)]; rfl
  · rw [if_neg h, List.filter_cons_of_neg (by simpa using h)]; rfl
theorem sumLeft_snoc (ts : List PT) (t : PT) (s : Int) : sumLeft (ts ++ [t]) s = sumLeft ts s + (if t.origin = s then t.left else 0) := by
  unfold sumLeft
  rw [ofSample_snoc, List.map_append, List.sum_append]
  by_cases h : t.origin = s
  · rw [if_pos h, if_pos h]; simp
  · rw [if_neg h, if_neg h]; simp
end WL

/-! ## the orders: the program's batches against the specification -/
namespace WL
open Klb3
def inB : State → Bool
  | .inBatch => true
  | .has _ => true
  | _ => false
def isHas : State → Bool
  | .has _ => true
  | _ => false
/-- bs: of each test whose batch is open the address of its list, and the numbers of the orders in it, as they came -/
structure Rel3 (b : Book) (bs : List (Nat × Nat × List Nat)) : Prop where
  op : b.open_ = bs.map (·.1)
  nd : (bs.map (·.1)).Nodup
  t15 : ∀ x ∈ bs, x.1 ≤ 15
  most : b.orders.length ≤ 256
  mem : ∀ x ∈ bs, x.2.2.Nodup ∧ ∀ j, j ∈ x.2.2 ↔ ∃ o, b.orders[j]? = some o ∧ o.test = x.1 ∧ inB o.state = true
  inop : ∀ (j : Nat) (o : Order), b.orders[j]? = some o → inB o.state = true → ∃ x ∈ bs, x.1 = o.test
theorem rel3_nil : Rel3 {} [] := ⟨rfl, List.nodup_nil, by simp, by simp, by simp, by simp⟩
theorem pigeon : ∀ (n : Nat) (l : List Nat), l.Nodup → (∀ x ∈ l, x < n) → l.length ≤ n
  | 0, l, _, h => by
    cases l with
    | nil => exact Nat.le_refl _
    | cons x r => exact absurd (h x (by simp)) (Nat.not_lt_zero _)
  | n + 1, l, hn, h => by
    have q := pigeon n (l.erase n) (hn.erase n) fun x hx => by
      have h1 := h x (List.mem_of_mem_erase hx)
      have h2 : x ≠ n := fun e => by
        subst e
        exact (hn.not_mem_erase) hx
      omega
    have := List.length_erase (a := n) (l := l)
    split at this <;> omega
theorem Rel3.few {b : Book} {bs : List (Nat × Nat × List Nat)} (r : Rel3 b bs) : bs.length ≤ 16 := by
  have q := pigeon 16 (bs.map (·.1)) r.nd fun x hx => by
    obtain ⟨y, hy, rfl⟩ := List.mem_map.mp hx
    have := r.t15 y hy
    omega
  rwa [List.length_map] at q
theorem Rel3.short {b : Book} {bs : List (Nat × Nat × List Nat)} (r : Rel3 b bs) {x : Nat × Nat × List Nat} (hx : x ∈ bs) : x.2.2.length ≤ 256 := by
  obtain ⟨h1, h2⟩ := r.mem x hx
  refine pigeon 256 _ h1 fun j hj => ?_
  obtain ⟨o, ho, _⟩ := (h2 j).mp hj
  have := (List.getElem?_eq_some_iff.mp ho).1
  have := r.most
  omega
theorem Rel3.lt {b : Book} {bs : List (Nat × Nat × List Nat)} (r : Rel3 b bs) {x : Nat × Nat × List Nat} (hx : x ∈ bs) {j : Nat} (hj : j ∈ x.2.2) : ∃ o, b.orders[j]? = some o := by
  obtain ⟨o, ho, _⟩ := ((r.mem x hx).2 j).mp hj
  exact ⟨o, ho⟩
theorem oapp_get {α : Type} (l : List α) (x : α) (i : Nat) : (l ++ [x])[i]? = if i = l.length then some x else l[i]? := by
  by_cases h : i < l.length
  · rw [List.getElem?_append_left h, if_neg (by omega)]
  · rw [List.getElem?_append_right (by omega)]
    by_cases e : i = l.length
    · simp [e]
    · rw [if_neg e, List.getElem?_eq_none (by simp; omega), List.getElem?_eq_none (by omega)]
theorem oset_get {α : Type} (l : List α) (k i : Nat) (x : α) : (l.set k x)[i]? = if k = i then (l[i]?).map (fun _ => x) else l[i]? := by
  rw [List.getElem?_set]
  by_cases h : k = i
  · subst h
    by_cases hl : k < l.length
    · simp [hl]
    · simp [hl]
  · simp [h]
theorem Rel3.add {b : Book} {bs : List (Nat × Nat × List Nat)} (r : Rel3 b bs) (p t : Nat) (h : b.orders.length < 256) : Rel3 { b with orders := b.orders ++ [{ patient := p, test := t }] } bs := by
  have hin : ∀ (j : Nat) (o : Order), (b.orders ++ [{ patient := p, test := t }])[j]? = some o → inB o.state = true → b.orders[j]? = some o := by
    intro j o hj ho
    rw [oapp_get] at hj
    split at hj
    · cases hj; cases ho
    · exact hj
  refine ⟨r.op, r.nd, r.t15, by simp; omega, fun x hx => ⟨(r.mem x hx).1, fun j => ?_⟩, fun j o hj ho => r.inop j o (hin j o hj ho) ho⟩
  rw [(r.mem x hx).2 j]
  constructor
  · rintro ⟨o, h1, h2, h3⟩
    refine ⟨o, ?_, h2, h3⟩
    show (b.orders ++ [_])[j]? = some o
    rw [oapp_get, if_neg (by have := (List.getElem?_eq_some_iff.mp h1).1; omega)]
    exact h1
  · rintro ⟨o, h1, h2, h3⟩
    exact ⟨o, hin j o h1 h3, h2, h3⟩
theorem Rel3.opn {b : Book} {bs : List (Nat × Nat × List Nat)} (r : Rel3 b bs) (t q : Nat) (h : t ≤ 15) (hn : t ∉ bs.map (·.1)) : Rel3 { b with open_ := b.open_ ++ [t] } (bs ++ [(t, q, [])]) := by
  refine ⟨?_, ?_, fun x hx => ?_, r.most, fun x hx => ?_, fun j o hj ho => ?_⟩
  · show b.open_ ++ [t] = _
    rw [r.op, List.map_append]; rfl
  · rw [List.map_append]
    refine List.nodup_append.mpr ⟨r.nd, by simp, fun x hx y hy => ?_⟩
    have hy : y = t := by simpa using hy
    subst hy
    exact fun e => hn (by rw [← e]; exact hx)
  · rcases List.mem_append.mp hx with h' | h'
    · exact r.t15 x h'
    · rw [List.mem_singleton.mp h']; exact h
  · rcases List.mem_append.mp hx with h' | h'
    · exact r.mem x h'
    · rw [List.mem_singleton.mp h']
      refine ⟨List.nodup_nil, fun j => ⟨fun z => by simp at z, ?_⟩⟩
      rintro ⟨o, h1, h2, h3⟩
      obtain ⟨y, hy, e⟩ := r.inop j o h1 h3
      exact absurd (List.mem_map.mpr ⟨y, hy, e.trans h2⟩) hn
  · obtain ⟨x, hx, e⟩ := r.inop j o hj ho
    exact ⟨x, List.mem_append_left _ hx, e⟩
/-- an order changed, as its batch sees it the same -/
theorem Rel3.set {b : Book} {bs : List (Nat × Nat × List Nat)} (r : Rel3 b bs) {k : Nat} {o u : Order} (hk : b.orders[k]? = some o) (ht : u.test = o.test) (hs : inB u.state = inB o.state) : Rel3 { b with orders := b.orders.set k u } bs := by
  have e1 : ∀ (j : Nat) (t : Nat), (∃ w, b.orders[j]? = some w ∧ w.test = t ∧ inB w.state = true) ↔ ∃ w, (b.orders.set k u)[j]? = some w ∧ w.test = t ∧ inB w.state = true := by
    intro j t
    rw [oset_get]
    by_cases h : k = j
    · subst h
      rw [if_pos rfl, hk]
      constructor
      · rintro ⟨w, h1, h2, h3⟩
        cases h1
        exact ⟨u, rfl, ht.trans h2, hs.trans h3⟩
      · rintro ⟨w, h1, h2, h3⟩
        cases h1
        exact ⟨o, rfl, ht.symm.trans h2, hs.symm.trans h3⟩
    · rw [if_neg h]
  refine ⟨r.op, r.nd, r.t15, by show (b.orders.set k u).length ≤ 256; rw [List.length_set]; exact r.most, fun x hx => ⟨(r.mem x hx).1, fun j => ((r.mem x hx).2 j).trans (e1 j x.1)⟩, fun j w hj hw => ?_⟩
  obtain ⟨v, h1, h2, h3⟩ := (e1 j w.test).mpr ⟨w, hj, rfl, hw⟩
  obtain ⟨x, hx, e⟩ := r.inop j v h1 h3
  exact ⟨x, hx, e.trans h2⟩
/-- one order more in the batch of its test -/
def into (t k : Nat) (bs : List (Nat × Nat × List Nat)) : List (Nat × Nat × List Nat) := bs.map fun x => if x.1 = t then (x.1, x.2.1, x.2.2 ++ [k]) else x
theorem into_keys (t k : Nat) (bs : List (Nat × Nat × List Nat)) : (into t k bs).map (·.1) = bs.map (·.1) := by
  unfold into
  rw [List.map_map]
  apply List.map_congr_left
  intro x _
  show (if x.1 = t then _ else x).1 = x.1
  split <;> rfl
theorem into_adr (t k : Nat) (bs : List (Nat × Nat × List Nat)) : (into t k bs).map (·.2.1) = bs.map (·.2.1) := by
  unfold into
  rw [List.map_map]
  apply List.map_congr_left
  intro x _
  show (if x.1 = t then _ else x).2.1 = x.2.1
  split <;> rfl
theorem Rel3.run {b : Book} {bs : List (Nat × Nat × List Nat)} (r : Rel3 b bs) {k : Nat} {o : Order} (hk : b.orders[k]? = some o) (hw : o.state = .waits) (ht : o.test ∈ b.open_) : Rel3 { b with orders := b.orders.set k { o with state := .inBatch } } (into o.test k bs) := by
  refine ⟨by rw [into_keys]; exact r.op, by rw [into_keys]; exact r.nd, fun x hx => ?_, by show (b.orders.set k _).length ≤ 256; rw [List.length_set]; exact r.most, fun x hx => ?_, fun j w hj hw' => ?_⟩
  · have : x.1 ∈ (into o.test k bs).map (·.1) := List.mem_map.mpr ⟨x, hx, rfl⟩
    rw [into_keys] at this
    obtain ⟨y, hy, e⟩ := List.mem_map.mp this
    rw [← e]; exact r.t15 y hy
  · obtain ⟨y, hy, e⟩ := List.mem_map.mp hx
    obtain ⟨m1, m2⟩ := r.mem y hy
    have nk : k ∉ y.2.2 := fun z => by
      obtain ⟨w, h1, _, h3⟩ := (m2 k).mp z
      rw [hk] at h1; cases h1
      rw [hw] at h3; cases h3
    by_cases h : y.1 = o.test
    · rw [if_pos h] at e
      subst e
      refine ⟨List.nodup_append.mpr ⟨m1, by simp, fun a ha c hc => ?_⟩, fun j => ?_⟩
      · have hc : c = k := by simpa using hc
        subst hc
        exact fun e => nk (by rw [← e]; exact ha)
      · show j ∈ y.2.2 ++ [k] ↔ ∃ w, (b.orders.set k { o with state := .inBatch })[j]? = some w ∧ w.test = y.1 ∧ inB w.state = true
        rw [List.mem_append, m2 j, oset_get]
        by_cases hj : k = j
        · subst hj
          rw [if_pos rfl, hk]
          exact ⟨fun _ => ⟨_, rfl, h.symm, rfl⟩, fun _ => .inr (by simp)⟩
        · rw [if_neg hj]
          constructor
          · rintro (z | z)
            · exact z
            · exact absurd (List.mem_singleton.mp z).symm hj
          · exact .inl
    · rw [if_neg h] at e
      subst e
      refine ⟨m1, fun j => ?_⟩
      show j ∈ y.2.2 ↔ ∃ w, (b.orders.set k { o with state := .inBatch })[j]? = some w ∧ w.test = y.1 ∧ inB w.state = true
      rw [m2 j, oset_get]
      by_cases hj : k = j
      · subst hj
        rw [if_pos rfl, hk]
        constructor
        · rintro ⟨w, h1, h2, h3⟩
          cases h1
          rw [hw] at h3; cases h3
        · rintro ⟨w, h1, h2, h3⟩
          cases h1
          exact absurd h2.symm h
      · rw [if_neg hj]
  · have hj : (b.orders.set k { o with state := .inBatch })[j]? = some w := hj
    have key : ∃ y ∈ bs, y.1 = w.test := by
      rw [oset_get] at hj
      split at hj
      · rename_i e
        subst e
        rw [hk] at hj
        cases hj
        rw [r.op] at ht
        obtain ⟨y, hy, e⟩ := List.mem_map.mp ht
        exact ⟨y, hy, e⟩
      · exact r.inop j w hj hw'
    obtain ⟨y, hy, e⟩ := key
    have : w.test ∈ (into o.test k bs).map (·.1) := by
      rw [into_keys]
      exact List.mem_map.mpr ⟨y, hy, e⟩
    obtain ⟨x, hx, ex⟩ := List.mem_map.mp this
    exact ⟨x, hx, ex⟩
/-! ### a batch closed -/
def leave (w : Nat) : State → State
  | .has v => if w = 0 then .ready v else .waits
  | _ => .waits
theorem leave_not (w : Nat) (s : State) : inB (leave w s) = false := by
  unfold leave
  split
  · split <;> rfl
  · rfl
theorem closed_in {t w : Nat} {o : Order} (h1 : o.test = t) (h2 : inB o.state = true) : closed t w o = { o with state := leave w o.state } := by
  obtain ⟨p, u, s⟩ := o
  have h1 : u = t := h1
  have h2 : inB s = true := h2
  unfold closed
  rw [if_pos h1]
  cases s <;> first | rfl | cases h2
theorem closed_out {t w : Nat} {o : Order} (h : ¬ (o.test = t ∧ inB o.state = true)) : closed t w o = o := by
  obtain ⟨p, u, s⟩ := o
  have h : ¬ (u = t ∧ inB s = true) := h
  unfold closed
  by_cases h1 : u = t
  · rw [if_pos h1]
    cases s <;> first | rfl | exact absurd ⟨h1, rfl⟩ h
  · rw [if_neg h1]
theorem closed_test (t w : Nat) (o : Order) : (closed t w o).test = o.test := by
  by_cases h : o.test = t ∧ inB o.state = true
  · rw [closed_in h.1 h.2]
  · rw [closed_out h]
/-- those of the orders with these numbers have left their batch -/
def part (w : Nat) (ms : List Nat) (os : List Order) : List Order := os.mapIdx fun j o => if j ∈ ms then { o with state := leave w o.state } else o
theorem part_get (w : Nat) (ms : List Nat) (os : List Order) (j : Nat) : (part w ms os)[j]? = (os[j]?).map fun o => if j ∈ ms then { o with state := leave w o.state } else o := by
  unfold part
  rw [List.getElem?_mapIdx]
theorem part_nil (w : Nat) (os : List Order) : part w [] os = os := by
  apply List.ext_getElem?
  intro j
  rw [part_get]
  cases os[j]? <;> simp
theorem part_len (w : Nat) (ms : List Nat) (os : List Order) : (part w ms os).length = os.length := by
  unfold part
  rw [List.length_mapIdx]
theorem nd_take {ms : List Nat} (hn : ms.Nodup) {i j : Nat} (hi : ms[i]? = some j) : j ∉ ms.take i := by
  intro h
  obtain ⟨k, hk⟩ := List.mem_iff_getElem?.mp h
  rw [List.getElem?_take] at hk
  split at hk
  · rename_i hlt
    obtain ⟨h1, e1⟩ := List.getElem?_eq_some_iff.mp hk
    obtain ⟨h2, e2⟩ := List.getElem?_eq_some_iff.mp hi
    have := (List.getElem_inj hn).mp (e1.trans e2.symm)
    omega
  · cases hk
theorem take_one {α : Type} {l : List α} {i : Nat} {x : α} (h : l[i]? = some x) : l.take (i + 1) = l.take i ++ [x] := by
  rw [List.take_add_one, h]
  rfl
theorem part_at {w : Nat} {ms : List Nat} {os : List Order} (hn : ms.Nodup) {i j : Nat} (hi : ms[i]? = some j) : (part w (ms.take i) os)[j]? = os[j]? := by
  rw [part_get]
  cases os[j]? with
  | none => rfl
  | some o => simp [nd_take hn hi]
theorem part_step {w : Nat} {ms : List Nat} {os : List Order} {i j : Nat} {o : Order} (hi : ms[i]? = some j) (ho : os[j]? = some o) : part w (ms.take (i + 1)) os = (part w (ms.take i) os).set j { o with state := leave w o.state } := by
  apply List.ext_getElem?
  intro k
  rw [part_get, oset_get, part_get, take_one hi]
  by_cases h : j = k
  · subst h
    rw [if_pos rfl, ho]
    simp
  · rw [if_neg h]
    cases os[k]? with
    | none => rfl
    | some u =>
      have : k ≠ j := fun e => h e.symm
      simp [this]
theorem part_all {b : Book} {bs : List (Nat × Nat × List Nat)} (r : Rel3 b bs) {x : Nat × Nat × List Nat} (hx : x ∈ bs) (w : Nat) : part w x.2.2 b.orders = b.orders.map (closed x.1 w) := by
  apply List.ext_getElem?
  intro j
  rw [part_get, List.getElem?_map]
  cases ho : b.orders[j]? with
  | none => rfl
  | some o =>
    simp only [Option.map_some, Option.some.injEq]
    by_cases h : o.test = x.1 ∧ inB o.state = true
    · rw [closed_in h.1 h.2, if_pos (((r.mem x hx).2 j).mpr ⟨o, ho, h⟩)]
    · rw [closed_out h, if_neg]
      intro z
      obtain ⟨u, hu, h'⟩ := ((r.mem x hx).2 j).mp z
      rw [ho] at hu; cases hu
      exact h h'
theorem Rel3.cls {b : Book} {bs : List (Nat × Nat × List Nat)} (r : Rel3 b bs) (t w : Nat) : Rel3 { orders := b.orders.map (closed t w), open_ := b.open_.filter (· != t) } (bs.filter fun x => x.1 != t) := by
  have e1 : ∀ (j u : Nat), u ≠ t → ((∃ o, b.orders[j]? = some o ∧ o.test = u ∧ inB o.state = true) ↔ ∃ o, (b.orders.map (closed t w))[j]? = some o ∧ o.test = u ∧ inB o.state = true) := by
    intro j u hu
    rw [List.getElem?_map]
    constructor
    · rintro ⟨o, h1, h2, h3⟩
      exact ⟨o, by rw [h1, Option.map_some, closed_out (fun z => hu (h2.symm.trans z.1))], h2, h3⟩
    · rintro ⟨o, h1, h2, h3⟩
      cases h : b.orders[j]? with
      | none => rw [h] at h1; cases h1
      | some v =>
        rw [h, Option.map_some] at h1
        have h1 : closed t w v = o := Option.some.inj h1
        have hv : v.test = u := by rw [← closed_test t w v, h1]; exact h2
        rw [closed_out (fun z => hu (hv.symm.trans z.1))] at h1
        subst h1
        exact ⟨v, rfl, h2, h3⟩
  refine ⟨?_, ?_, fun x hx => r.t15 x (List.mem_filter.mp hx).1, by simpa using r.most, fun x hx => ?_, fun j o hj ho => ?_⟩
  · show b.open_.filter (· != t) = _
    rw [r.op, List.filter_map]; rfl
  · exact r.nd.sublist (List.Sublist.map _ List.filter_sublist)
  · obtain ⟨h1, h2⟩ := List.mem_filter.mp hx
    have h2 : x.1 ≠ t := by simpa using h2
    exact ⟨(r.mem x h1).1, fun j => ((r.mem x h1).2 j).trans (e1 j x.1 h2)⟩
  · have hj : (b.orders.map (closed t w))[j]? = some o := hj
    by_cases h : o.test = t
    · exfalso
      rw [List.getElem?_map] at hj
      cases hv : b.orders[j]? with
      | none => rw [hv] at hj; cases hj
      | some v =>
        rw [hv, Option.map_some] at hj
        have hj : closed t w v = o := Option.some.inj hj
        by_cases hb : v.test = t ∧ inB v.state = true
        · rw [closed_in hb.1 hb.2] at hj
          rw [← hj] at ho
          have := leave_not w v.state
          rw [show inB (leave w v.state) = true from ho] at this
          cases this
        · rw [closed_out hb] at hj
          subst hj
          exact hb ⟨h, ho⟩
    · obtain ⟨v, h1, h2, h3⟩ := (e1 j o.test h).mpr ⟨o, hj, rfl, ho⟩
      obtain ⟨x, hx, e⟩ := r.inop j v h1 h3
      exact ⟨x, List.mem_filter.mpr ⟨hx, by rw [e, h2]; simpa using h⟩, e.trans h2⟩
/-! ### how many are ready by that -/
def rdy (w : Nat) (o : Order) : Bool := decide (w = 0) && isHas o.state
def rdyAt (w : Nat) (os : List Order) (j : Nat) : Bool := (os[j]?).any (rdy w)
theorem countP_range {α : Type} (p : α → Bool) (l : List α) : l.countP p = (List.range l.length).countP fun j => (l[j]?).any p := by
  have e : l.map some = (List.range l.length).map fun j => l[j]? := by
    apply List.ext_getElem?
    intro i
    rw [List.getElem?_map, List.getElem?_map]
    by_cases h : i < l.length
    · rw [List.getElem?_range h, List.getElem?_eq_getElem h]
      simp
    · rw [List.getElem?_eq_none (by omega), List.getElem?_eq_none (by simp; omega)]
      rfl
  have q := congrArg (List.countP fun o : Option α => o.any p) e
  rw [List.countP_map, List.countP_map] at q
  exact q
theorem rdy_all {b : Book} {bs : List (Nat × Nat × List Nat)} (r : Rel3 b bs) {x : Nat × Nat × List Nat} (hx : x ∈ bs) (w : Nat) : x.2.2.countP (rdyAt w b.orders) = if w = 0 then b.orders.countP (withResult x.1) else 0 := by
  by_cases h0 : w = 0
  · rw [if_pos h0, countP_range (withResult x.1), List.countP_eq_length_filter, List.countP_eq_length_filter]
    refine List.Perm.length_eq ((List.perm_ext_iff_of_nodup ((r.mem x hx).1.sublist List.filter_sublist) (List.nodup_range.sublist List.filter_sublist)).mpr fun j => ?_)
    rw [List.mem_filter, List.mem_filter, List.mem_range, (r.mem x hx).2 j]
    unfold rdyAt rdy withResult
    cases ho : b.orders[j]? with
    | none =>
      constructor
      · rintro ⟨⟨o, h, _⟩, _⟩; cases h
      · rintro ⟨_, h⟩; cases h
    | some o =>
      have hlt := (List.getElem?_eq_some_iff.mp ho).1
      simp only [Option.any_some, h0, decide_true, Bool.true_and, Option.some.injEq]
      constructor
      · rintro ⟨⟨u, rfl, h1, h2⟩, h3⟩
        refine ⟨hlt, ?_⟩
        rw [h1]
        simp only [beq_self_eq_true, Bool.true_and]
        cases hs : o.state <;> rw [hs] at h3 <;> first | rfl | cases h3
      · rintro ⟨_, h⟩
        simp only [Bool.and_eq_true, beq_iff_eq] at h
        obtain ⟨h1, h2⟩ := h
        cases hs : o.state <;> rw [hs] at h2 <;> first | (exact ⟨⟨o, rfl, h1, by rw [hs]; rfl⟩, rfl⟩) | cases h2
  · rw [if_neg h0, List.countP_eq_zero]
    intro j _
    unfold rdyAt rdy
    cases b.orders[j]? <;> simp [h0]
theorem rdy_step {w : Nat} {ms : List Nat} {os : List Order} {i j : Nat} {o : Order} (hi : ms[i]? = some j) (ho : os[j]? = some o) : (ms.take (i + 1)).countP (rdyAt w os) = (ms.take i).countP (rdyAt w os) + if rdy w o = true then 1 else 0 := by
  rw [take_one hi, List.countP_append, List.countP_singleton]
  unfold rdyAt
  rw [ho]
  rfl
end WL

namespace WL
open KlbNeutral
/-! ## a list of calls, one call after another -/
def flat1 : Klb1.Call → List Int
  | .start m s => [0, m, (s : Int)]
  | .batch x _ => 1 :: (x.length : Int) :: x
  | .count => [2]
def flat2 : Klb2.Call → List Int
  | .start => [10]
  | .sample p v => [11, (p : Int), (v : Int)]
  | .take t v => [12, (t : Int), (v : Int)]
  | .use t v => [13, (t : Int), (v : Int)]
  | .put t r p => [14, (t : Int), (r : Int), (p : Int)]
  | .at_ r p => [15, (r : Int), (p : Int)]
  | .of t => [16, (t : Int)]
  | .sum t => [17, (t : Int)]
def flat3 : Klb3.Call → List Int
  | .start => [20]
  | .order p t => [21, (p : Int), (t : Int)]
  | .open_ t => [22, (t : Int)]
  | .run o p => [23, (o : Int), (p : Int)]
  | .result o v => [24, (o : Int), (v : Int)]
  | .close t b => [25, (t : Int), (b : Int)]
  | .give o => [26, (o : Int)]
  | .state o => [27, (o : Int)]
def ok1 : Klb1.Call → Prop
  | .start m s => -2147483648 ≤ m ∧ m < 2147483648 ∧ s < 4294967296
  | .batch x n => n = x.length ∧ ∀ z ∈ x, -2147483648 ≤ z ∧ z < 2147483648
  | .count => True
def ok2 : Klb2.Call → Prop
  | .start => True
  | .sample p v => p < 4294967296 ∧ v < 4294967296
  | .take t v => t < 4294967296 ∧ v < 4294967296
  | .use t v => t < 4294967296 ∧ v < 4294967296
  | .put t r p => t < 4294967296 ∧ r < 4294967296 ∧ p < 4294967296
  | .at_ r p => r < 4294967296 ∧ p < 4294967296
  | .of t => t < 4294967296
  | .sum t => t < 4294967296
def ok3 : Klb3.Call → Prop
  | .start => True
  | .order p t => p < 4294967296 ∧ t < 4294967296
  | .open_ t => t < 4294967296
  | .run o p => o < 4294967296 ∧ p < 4294967296
  | .result o v => o < 4294967296 ∧ v < 4294967296
  | .close t b => t < 4294967296 ∧ b < 4294967296
  | .give o => o < 4294967296
  | .state o => o < 4294967296
def asInts (l : List Nat) : List Int := l.map fun (x : Nat) => (x : Int)
/-- one call: its flat list, what it makes of the three parts, what it answers -/
inductive Step (s s' : S) (fc a : List Int) : Prop
  | c1 (c : Klb1.Call) (q : Option Klb1.Abs) (v : Klb1.Ans) (e : fc = flat1 c) (ok : ok1 c) (h : Klb1.acts s.1 c = some (q, v)) (hs : s' = (q, s.2.1, s.2.2)) (ha : a = [v.value])
  | c2 (c : Klb2.Call) (q : Option Klb2.Lab) (v : Klb2.Ans) (e : fc = flat2 c) (ok : ok2 c) (h : Klb2.acts s.2.1 c = some (q, v)) (hs : s' = (s.1, q, s.2.2)) (ha : a = v.value :: asInts v.out)
  | c3 (c : Klb3.Call) (q : Option Klb3.Book) (v : Klb3.Ans) (e : fc = flat3 c) (ok : ok3 c) (h : Klb3.acts s.2.2 c = some (q, v)) (hs : s' = (s.1, s.2.1, q)) (ha : a = v.value :: asInts v.out)
/-- what is still to be answered of a list -/
def Play (s : S) (r out : List Int) : Prop :=
  ∃ f cs, PyFlat.calls PyKlb.shape f r = some cs ∧ cs.all asked1 = true ∧ may s cs = true ∧ PyFlat.told (PyFlat.played KlbNeutral.step s cs) = out
theorem play_nil {s : S} {out : List Int} (h : Play s [] out) : out = [] := by
  obtain ⟨f, cs, h1, _, _, h4⟩ := h
  have : cs = [] := by
    cases f <;> exact (Option.some.inj h1).symm
  subst this
  exact h4.symm
theorem calls_cons {f : Nat} {p : Int} {r : List Int} {cs : List (List (List Int))} (h : PyFlat.calls PyKlb.shape f (p :: r) = some cs) :
    ∃ f' c t cs', PyFlat.call PyKlb.shape (p :: r) = some (c, t) ∧ PyFlat.calls PyKlb.shape f' t = some cs' ∧ cs = c :: cs' := by
  cases f with
  | zero => cases h
  | succ f =>
    have h : (match PyFlat.call PyKlb.shape (p :: r) with
      | none => none
      | some (c, t) => match PyFlat.calls PyKlb.shape f t with
        | none => none
        | some cs => some (c :: cs)) = some cs := h
    cases h1 : PyFlat.call PyKlb.shape (p :: r) with
    | none => rw [h1] at h; cases h
    | some x =>
      obtain ⟨c, t⟩ := x
      rw [h1] at h
      cases h2 : PyFlat.calls PyKlb.shape f t with
      | none => simp only [h2] at h; cases h
      | some ds =>
        simp only [h2] at h
        exact ⟨f, c, t, ds, rfl, h2, (Option.some.inj h).symm⟩
/-- a call of n whole numbers and no row -/
theorem call_n {p : Int} {n : Nat} {r t : List Int} {c : List (List Int)} (hs : PyKlb.shape p = some (n, 0)) (h : PyFlat.call PyKlb.shape (p :: r) = some (c, t)) : ∃ a, a.length = n ∧ r = a ++ t ∧ c = [p :: a] := by
  unfold PyFlat.call at h
  simp only [hs] at h
  by_cases hl : r.length < n
  · rw [if_pos hl] at h; cases h
  · rw [if_neg hl] at h
    have h : some ((p :: r.take n) :: [], r.drop n) = some (c, t) := h
    cases h
    exact ⟨r.take n, by simp; omega, (List.take_append_drop n r).symm, rfl⟩
theorem call_b {r t : List Int} {c : List (List Int)} (h : PyFlat.call PyKlb.shape (1 :: r) = some (c, t)) : ∃ x : List Int, r = (x.length : Int) :: (x ++ t) ∧ c = [[1], x] := by
  have hs : PyKlb.shape 1 = some (0, 1) := rfl
  unfold PyFlat.call at h
  simp only [hs] at h
  rw [if_neg (by omega)] at h
  cases r with
  | nil => cases h
  | cons n r =>
    have h : (match (match PyFlat.row (n :: r) with
        | none => none
        | some (x, s) => some ([x], s)) with
      | none => none
      | some (xs, t) => some ([1] :: xs, t)) = some (c, t) := h
    simp only [PyFlat.row] at h
    by_cases hn : 0 ≤ n ∧ n.toNat ≤ r.length
    · rw [if_pos hn] at h
      have h : some ([1] :: [r.take n.toNat], r.drop n.toNat) = some (c, t) := h
      cases h
      refine ⟨r.take n.toNat, ?_, rfl⟩
      rw [List.take_append_drop, List.length_take, Nat.min_eq_left hn.2, Int.toNat_of_nonneg hn.1]
    · rw [if_neg hn] at h
      cases h
theorem shape_some {p : Int} {q : Nat × Nat} (h : PyKlb.shape p = some q) : p = 0 ∨ p = 1 ∨ p = 2 ∨ p = 10 ∨ p = 11 ∨ p = 12 ∨ p = 13 ∨ p = 14 ∨ p = 15 ∨ p = 16 ∨ p = 17 ∨ p = 20 ∨ p = 21 ∨ p = 22 ∨ p = 23 ∨ p = 24 ∨ p = 25 ∨ p = 26 ∨ p = 27 := by
  unfold PyKlb.shape at h
  by_cases a0 : p = 0
  · simp [a0]
  by_cases a1 : p = 1
  · simp [a1]
  by_cases a2 : p = 2
  · simp [a2]
  by_cases a3 : p = 10
  · simp [a3]
  by_cases a4 : p = 11
  · simp [a4]
  by_cases a5 : p = 12
  · simp [a5]
  by_cases a6 : p = 13
  · simp [a6]
  by_cases a7 : p = 14
  · simp [a7]
  by_cases a8 : p = 15
  · simp [a8]
  by_cases a9 : p = 16
  · simp [a9]
  by_cases a10 : p = 17
  · simp [a10]
  by_cases a11 : p = 20
  · simp [a11]
  by_cases a12 : p = 21
  · simp [a12]
  by_cases a13 : p = 22
  · simp [a13]
  by_cases a14 : p = 23
  · simp [a14]
  by_cases a15 : p = 24
  · simp [a15]
  by_cases a16 : p = 25
  · simp [a16]
  by_cases a17 : p = 26
  · simp [a17]
  by_cases a18 : p = 27
  · simp [a18]
  simp [a0, a1, a2, a3, a4, a5, a6, a7, a8, a9, a10, a11, a12, a13, a14, a15, a16, a17, a18] at h
theorem call_shape {p : Int} {r t : List Int} {c : List (List Int)} (h : PyFlat.call PyKlb.shape (p :: r) = some (c, t)) : ∃ q, PyKlb.shape p = some q := by
  unfold PyFlat.call at h
  cases hs : PyKlb.shape p with
  | none => simp only [hs] at h; cases h
  | some q => exact ⟨q, rfl⟩
theorem len1 {a : List Int} (h : a.length = 1) : ∃ x, a = [x] := by
  match a, h with
  | [x], _ => exact ⟨x, rfl⟩
theorem len2 {a : List Int} (h : a.length = 2) : ∃ x y, a = [x, y] := by
  match a, h with
  | [x, y], _ => exact ⟨x, y, rfl⟩
theorem len3 {a : List Int} (h : a.length = 3) : ∃ x y z, a = [x, y, z] := by
  match a, h with
  | [x, y, z], _ => exact ⟨x, y, z, rfl⟩
theorem len0 {a : List Int} (h : a.length = 0) : a = [] := List.length_eq_zero_iff.mp h
theorem whole_call {p : Int} {r t : List Int} {c : List (List Int)} (h : PyFlat.call PyKlb.shape (p :: r) = some (c, t)) : PyKlb.whole c = c := by
  obtain ⟨q, hq⟩ := call_shape h
  rcases shape_some hq with rfl | rfl | rfl | rfl | rfl | rfl | rfl | rfl | rfl | rfl | rfl | rfl | rfl | rfl | rfl | rfl | rfl | rfl | rfl
  · obtain ⟨a, ha, _, rfl⟩ := call_n (n := 2) rfl h
    obtain ⟨x, y, rfl⟩ := len2 ha
    rfl
  · obtain ⟨x, _, rfl⟩ := call_b h
    rfl
  · obtain ⟨a, ha, _, rfl⟩ := call_n (n := 0) rfl h
    rw [len0 ha]
    rfl
  · obtain ⟨a, ha, _, rfl⟩ := call_n (n := 0) rfl h
    rw [len0 ha]
    rfl
  · obtain ⟨a, ha, _, rfl⟩ := call_n (n := 2) rfl h
    obtain ⟨x, y, rfl⟩ := len2 ha
    rfl
  · obtain ⟨a, ha, _, rfl⟩ := call_n (n := 2) rfl h
    obtain ⟨x, y, rfl⟩ := len2 ha
    rfl
  · obtain ⟨a, ha, _, rfl⟩ := call_n (n := 2) rfl h
    obtain ⟨x, y, rfl⟩ := len2 ha
    rfl
  · obtain ⟨a, ha, _, rfl⟩ := call_n (n := 3) rfl h
    obtain ⟨x, y, z, rfl⟩ := len3 ha
    rfl
  · obtain ⟨a, ha, _, rfl⟩ := call_n (n := 2) rfl h
    obtain ⟨x, y, rfl⟩ := len2 ha
    rfl
  · obtain ⟨a, ha, _, rfl⟩ := call_n (n := 1) rfl h
    obtain ⟨x, rfl⟩ := len1 ha
    rfl
  · obtain ⟨a, ha, _, rfl⟩ := call_n (n := 1) rfl h
    obtain ⟨x, rfl⟩ := len1 ha
    rfl
  · obtain ⟨a, ha, _, rfl⟩ := call_n (n := 0) rfl h
    rw [len0 ha]
    rfl
  · obtain ⟨a, ha, _, rfl⟩ := call_n (n := 2) rfl h
    obtain ⟨x, y, rfl⟩ := len2 ha
    rfl
  · obtain ⟨a, ha, _, rfl⟩ := call_n (n := 1) rfl h
    obtain ⟨x, rfl⟩ := len1 ha
    rfl
  · obtain ⟨a, ha, _, rfl⟩ := call_n (n := 2) rfl h
    obtain ⟨x, y, rfl⟩ := len2 ha
    rfl
  · obtain ⟨a, ha, _, rfl⟩ := call_n (n := 2) rfl h
    obtain ⟨x, y, rfl⟩ := len2 ha
    rfl
  · obtain ⟨a, ha, _, rfl⟩ := call_n (n := 2) rfl h
    obtain ⟨x, y, rfl⟩ := len2 ha
    rfl
  · obtain ⟨a, ha, _, rfl⟩ := call_n (n := 1) rfl h
    obtain ⟨x, rfl⟩ := len1 ha
    rfl
  · obtain ⟨a, ha, _, rfl⟩ := call_n (n := 1) rfl h
    obtain ⟨x, rfl⟩ := len1 ha
    rfl
theorem calls_whole : ∀ (f : Nat) (r : List Int) (cs : List (List (List Int))), PyFlat.calls PyKlb.shape f r = some cs → cs.map PyKlb.whole = cs
  | f, [], cs, h => by
    have e : cs = [] := by
      cases f <;> exact (Option.some.inj h).symm
    subst e
    rfl
  | 0, _ :: _, _, h => by cases h
  | f + 1, p :: r, cs, h => by
    have h : (match PyFlat.call PyKlb.shape (p :: r) with
      | none => none
      | some (c, t) => match PyFlat.calls PyKlb.shape f t with
        | none => none
        | some cs => some (c :: cs)) = some cs := h
    cases h1 : PyFlat.call PyKlb.shape (p :: r) with
    | none => rw [h1] at h; cases h
    | some x =>
      obtain ⟨c, t⟩ := x
      rw [h1] at h
      cases h2 : PyFlat.calls PyKlb.shape f t with
      | none => simp only [h2] at h; cases h
      | some ds =>
        simp only [h2] at h
        have e : c :: ds = cs := Option.some.inj h
        rw [← e, List.map_cons, whole_call h1, calls_whole f t ds h2]
theorem play_start (ns : List Int) (h : PyKlb.answers_asked ns = true) : Play start ns (PyKlb.answers ns) ∧ ns ≠ [] := by
  unfold PyKlb.answers_asked at h
  unfold PyKlb.answers
  cases hc : PyKlb.calls ns with
  | none => rw [hc] at h; cases h
  | some cs =>
    rw [hc] at h
    have h' : (PyFlat.atMost 4000 cs && KlbNeutral.asked cs) = true := h
    unfold PyKlb.calls at hc
    cases hd : PyFlat.calls PyKlb.shape ns.length ns with
    | none => rw [hd] at hc; cases hc
    | some ds =>
      rw [hd] at hc
      have e : ds.map PyKlb.whole = cs := Option.some.inj hc
      rw [calls_whole _ _ _ hd] at e
      subst e
      simp only [KlbNeutral.asked, Bool.and_eq_true, decide_eq_true_eq] at h'
      refine ⟨⟨ns.length, ds, hd, h'.2.1.2, h'.2.2, rfl⟩, ?_⟩
      rintro rfl
      have : ds = [] := by
        have : (some [] : Option (List (List (List Int)))) = some ds := hd
        exact (Option.some.inj this).symm
      rw [this] at h'
      simp at h'
theorem nat32 {z : Int} (h : P2.natural z 32 = true) : ∃ n : Nat, z = (n : Int) ∧ n < 4294967296 := by
  unfold P2.natural at h
  simp only [Bool.and_eq_true, decide_eq_true_eq] at h
  exact ⟨z.toNat, by omega, by omega⟩
theorem nat32' {z : Int} (h : P3.natural z 32 = true) : ∃ n : Nat, z = (n : Int) ∧ n < 4294967296 := nat32 h
theorem nat32'' {z : Int} (h : P1.natural z 32 = true) : ∃ n : Nat, z = (n : Int) ∧ n < 4294967296 := nat32 h
theorem whole32_iff {z : Int} (h : P1.whole32 z = true) : -2147483648 ≤ z ∧ z < 2147483648 := by
  unfold P1.whole32 at h
  simp only [Bool.and_eq_true, decide_eq_true_eq] at h
  omega
theorem step_p2 (s : S) (c : List (List Int)) (d : P2.Call) (k : Klb2.Call) (h1 : ¬ place c < 10) (h2 : 10 ≤ place c ∧ place c < 20) (hd : down 10 c = d) (hk : P2.callOf d = some k) (hm : (step s c).2.isEmpty = false) :
    ∃ q v, Klb2.acts s.2.1 k = some (q, v) ∧ step s c = ((s.1, q, s.2.2), v.value :: asInts v.out) := by
  have e : step s c = ((s.1, (P2.step s.2.1 d).1, s.2.2), (P2.step s.2.1 d).2) := by
    unfold step
    rw [if_neg h1, if_pos h2, hd]
  have e2 : P2.step s.2.1 d = match (Klb2.acts s.2.1 k) with
    | none => (s.2.1, [])
    | some (t, a) => (t, a.value :: P2.ints a.out) := by
    unfold P2.step
    rw [hk]
    rfl
  cases ha : Klb2.acts s.2.1 k with
  | none => rw [e, e2, ha] at hm; cases hm
  | some x =>
    obtain ⟨q, v⟩ := x
    exact ⟨q, v, rfl, by rw [e, e2, ha]; rfl⟩
theorem step_p3 (s : S) (c : List (List Int)) (d : P3.Call) (k : Klb3.Call) (h1 : ¬ place c < 10) (h2 : ¬ (10 ≤ place c ∧ place c < 20)) (h3 : 20 ≤ place c ∧ place c < 30) (hd : down 20 c = d) (hk : P3.callOf d = some k) (hm : (step s c).2.isEmpty = false) :
    ∃ q v, Klb3.acts s.2.2 k = some (q, v) ∧ step s c = ((s.1, s.2.1, q), v.value :: asInts v.out) := by
  have e : step s c = ((s.1, s.2.1, (P3.step s.2.2 d).1), (P3.step s.2.2 d).2) := by
    unfold step
    rw [if_neg h1, if_neg h2, if_pos h3, hd]
  have e2 : P3.step s.2.2 d = match (Klb3.acts s.2.2 k) with
    | none => (s.2.2, [])
    | some (t, a) => (t, a.value :: P3.ints a.out) := by
    unfold P3.step
    rw [hk]
    rfl
  cases ha : Klb3.acts s.2.2 k with
  | none => rw [e, e2, ha] at hm; cases hm
  | some x =>
    obtain ⟨q, v⟩ := x
    exact ⟨q, v, rfl, by rw [e, e2, ha]; rfl⟩
theorem step_p1 (s : S) (c : List (List Int)) (d : P1.Call) (k : Klb1.Call) (h1 : place c < 10) (hd : down 0 c = d) (hk : P1.callOf d = some k) (hm : (step s c).2.isEmpty = false) :
    ∃ q v, Klb1.acts s.1 k = some (q, v) ∧ step s c = ((q, s.2.1, s.2.2), [v.value]) := by
  have e : step s c = (((P1.step s.1 d).1, s.2.1, s.2.2), (P1.step s.1 d).2) := by
    unfold step
    rw [if_pos h1, hd]
  have e2 : P1.step s.1 d = match (Klb1.acts s.1 k) with
    | none => (s.1, [])
    | some (t, a) => (t, [a.value]) := by
    unfold P1.step
    rw [hk]
    rfl
  cases ha : Klb1.acts s.1 k with
  | none => rw [e, e2, ha] at hm; cases hm
  | some x =>
    obtain ⟨q, v⟩ := x
    exact ⟨q, v, rfl, by rw [e, e2, ha]⟩
theorem asked_p2 {c : List (List Int)} (h1 : ¬ place c < 10) (h2 : 10 ≤ place c ∧ place c < 20) (h : asked1 c = true) : P2.asked1 (down 10 c) = true := by
  unfold asked1 at h
  rwa [if_neg h1, if_pos h2] at h
theorem asked_p3 {c : List (List Int)} (h1 : ¬ place c < 10) (h2 : ¬ (10 ≤ place c ∧ place c < 20)) (h3 : 20 ≤ place c ∧ place c < 30) (h : asked1 c = true) : P3.asked1 (down 20 c) = true := by
  unfold asked1 at h
  rwa [if_neg h1, if_neg h2, if_pos h3] at h
theorem asked_p1 {c : List (List Int)} (h1 : place c < 10) (h : asked1 c = true) : P1.asked1 (down 0 c) = true := by
  unfold asked1 at h
  rwa [if_pos h1] at h
theorem and2 {a b : Bool} (h : (a && b) = true) : a = true ∧ b = true := by simpa using h
/-- THE STEP: the first call of what is left -/
theorem play_cons {s : S} {p : Int} {r out : List Int} (h : Play s (p :: r) out) :
    ∃ fc t s' a out', p :: r = fc ++ t ∧ Step s s' fc a ∧ Play s' t out' ∧ out = (a.length : Int) :: (a ++ out') := by
  obtain ⟨f, cs, h1, h2, h3, h4⟩ := h
  obtain ⟨f', c, t, cs', k1, k2, rfl⟩ := calls_cons h1
  have h2 := and2 h2
  have h3 := and2 h3
  have hm : (step s c).2.isEmpty = false := by simpa using h3.1
  have P : ∀ {s' : S} {a : List Int}, step s c = (s', a) → Play s' t (PyFlat.told (PyFlat.played step s' cs')) ∧ out = (a.length : Int) :: (a ++ PyFlat.told (PyFlat.played step s' cs')) := by
    intro s' a e
    have e1 : (step s c).1 = s' := by rw [e]
    have e2 : (step s c).2 = a := by rw [e]
    refine ⟨⟨f', cs', k2, h2.2, by rw [← e1]; exact h3.2, rfl⟩, ?_⟩
    rw [← h4, ← e1, ← e2]
    rfl
  have fin2 : ∀ {fc : List Int} (d : P2.Call) (k : Klb2.Call), p :: r = fc ++ t → fc = flat2 k → ok2 k → ¬ place c < 10 → (10 ≤ place c ∧ place c < 20) → down 10 c = d → P2.callOf d = some k →
      ∃ fc t s' a out', p :: r = fc ++ t ∧ Step s s' fc a ∧ Play s' t out' ∧ out = (a.length : Int) :: (a ++ out') := by
    intro fc d k e0 ef ok a1 a2 a3 a4
    obtain ⟨q, v, b1, b2⟩ := step_p2 s c d k a1 a2 a3 a4 hm
    obtain ⟨p1, p2⟩ := P b2
    exact ⟨fc, t, _, _, _, e0, .c2 k q v ef ok b1 rfl rfl, p1, p2⟩
  have fin3 : ∀ {fc : List Int} (d : P3.Call) (k : Klb3.Call), p :: r = fc ++ t → fc = flat3 k → ok3 k → ¬ place c < 10 → ¬ (10 ≤ place c ∧ place c < 20) → (20 ≤ place c ∧ place c < 30) → down 20 c = d → P3.callOf d = some k →
      ∃ fc t s' a out', p :: r = fc ++ t ∧ Step s s' fc a ∧ Play s' t out' ∧ out = (a.length : Int) :: (a ++ out') := by
    intro fc d k e0 ef ok a1 a2 a5 a3 a4
    obtain ⟨q, v, b1, b2⟩ := step_p3 s c d k a1 a2 a5 a3 a4 hm
    obtain ⟨p1, p2⟩ := P b2
    exact ⟨fc, t, _, _, _, e0, .c3 k q v ef ok b1 rfl rfl, p1, p2⟩
  have fin1 : ∀ {fc : List Int} (d : P1.Call) (k : Klb1.Call), p :: r = fc ++ t → fc = flat1 k → ok1 k → place c < 10 → down 0 c = d → P1.callOf d = some k →
      ∃ fc t s' a out', p :: r = fc ++ t ∧ Step s s' fc a ∧ Play s' t out' ∧ out = (a.length : Int) :: (a ++ out') := by
    intro fc d k e0 ef ok a1 a3 a4
    obtain ⟨q, v, b1, b2⟩ := step_p1 s c d k a1 a3 a4 hm
    obtain ⟨p1, p2⟩ := P b2
    exact ⟨fc, t, _, _, _, e0, .c1 k q v ef ok b1 rfl rfl, p1, p2⟩
  obtain ⟨q, hq⟩ := call_shape k1
  rcases shape_some hq with rfl | rfl | rfl | rfl | rfl | rfl | rfl | rfl | rfl | rfl | rfl | rfl | rfl | rfl | rfl | rfl | rfl | rfl | rfl
  · obtain ⟨a, ha, rfl, rfl⟩ := call_n (n := 2) rfl k1
    obtain ⟨x, y, rfl⟩ := len2 ha
    have hk := and2 (asked_p1 (c := [[0, x, y]]) (of_decide_eq_true rfl) h2.1 : P1.asked1 [[0, x, y]] = true)
    obtain ⟨n, rfl, hn⟩ := nat32'' hk.2
    have hw := whole32_iff hk.1
    exact fin1 [[0, x, (n : Int)]] (.start x n) (fc := [0, x, (n : Int)]) rfl rfl ⟨hw.1, hw.2, hn⟩ (of_decide_eq_true rfl) rfl rfl
  · obtain ⟨x, rfl, rfl⟩ := call_b k1
    have hk : P1.asked1 [[1], x] = true := asked_p1 (c := [[1], x]) (of_decide_eq_true rfl) h2.1
    have hk : x.all (fun (z : Int) => P1.whole32 z) = true := hk
    exact fin1 [[1], x] (.batch x x.length) (fc := 1 :: (x.length : Int) :: x) rfl rfl ⟨rfl, fun z hz => whole32_iff (List.all_eq_true.mp hk z hz)⟩ (of_decide_eq_true rfl) rfl rfl
  · obtain ⟨a, ha, rfl, rfl⟩ := call_n (n := 0) rfl k1
    obtain rfl := len0 ha
    exact fin1 [[2]] .count (fc := [2]) rfl rfl trivial (of_decide_eq_true rfl) rfl rfl
  · obtain ⟨a, ha, rfl, rfl⟩ := call_n (n := 0) rfl k1
    obtain rfl := len0 ha
    exact fin2 [[0]] .start (fc := [10]) rfl rfl trivial (of_decide_eq_true rfl) (of_decide_eq_true rfl) rfl rfl
  · obtain ⟨a, ha, rfl, rfl⟩ := call_n (n := 2) rfl k1
    obtain ⟨x, y, rfl⟩ := len2 ha
    have hk := and2 (asked_p2 (c := [[11, x, y]]) (of_decide_eq_true rfl) (of_decide_eq_true rfl) h2.1 : P2.asked1 [[1, x, y]] = true)
    obtain ⟨m, rfl, hm1⟩ := nat32 hk.1
    obtain ⟨n, rfl, hn⟩ := nat32 hk.2
    exact fin2 [[1, (m : Int), (n : Int)]] (.sample m n) (fc := [11, (m : Int), (n : Int)]) rfl rfl ⟨hm1, hn⟩ (of_decide_eq_true rfl) (of_decide_eq_true rfl) rfl rfl
  · obtain ⟨a, ha, rfl, rfl⟩ := call_n (n := 2) rfl k1
    obtain ⟨x, y, rfl⟩ := len2 ha
    have hk := and2 (asked_p2 (c := [[12, x, y]]) (of_decide_eq_true rfl) (of_decide_eq_true rfl) h2.1 : P2.asked1 [[2, x, y]] = true)
    obtain ⟨m, rfl, hm1⟩ := nat32 hk.1
    obtain ⟨n, rfl, hn⟩ := nat32 hk.2
    exact fin2 [[2, (m : Int), (n : Int)]] (.take m n) (fc := [12, (m : Int), (n : Int)]) rfl rfl ⟨hm1, hn⟩ (of_decide_eq_true rfl) (of_decide_eq_true rfl) rfl rfl
  · obtain ⟨a, ha, rfl, rfl⟩ := call_n (n := 2) rfl k1
    obtain ⟨x, y, rfl⟩ := len2 ha
    have hk := and2 (asked_p2 (c := [[13, x, y]]) (of_decide_eq_true rfl) (of_decide_eq_true rfl) h2.1 : P2.asked1 [[3, x, y]] = true)
    obtain ⟨m, rfl, hm1⟩ := nat32 hk.1
    obtain ⟨n, rfl, hn⟩ := nat32 hk.2
    exact fin2 [[3, (m : Int), (n : Int)]] (.use m n) (fc := [13, (m : Int), (n : Int)]) rfl rfl ⟨hm1, hn⟩ (of_decide_eq_true rfl) (of_decide_eq_true rfl) rfl rfl
  · obtain ⟨a, ha, rfl, rfl⟩ := call_n (n := 3) rfl k1
    obtain ⟨x, y, z, rfl⟩ := len3 ha
    have hk := and2 (asked_p2 (c := [[14, x, y, z]]) (of_decide_eq_true rfl) (of_decide_eq_true rfl) h2.1 : P2.asked1 [[4, x, y, z]] = true)
    have hk2 := and2 hk.2
    obtain ⟨m, rfl, hm1⟩ := nat32 hk.1
    obtain ⟨n, rfl, hn⟩ := nat32 hk2.1
    obtain ⟨o, rfl, ho⟩ := nat32 hk2.2
    exact fin2 [[4, (m : Int), (n : Int), (o : Int)]] (.put m n o) (fc := [14, (m : Int), (n : Int), (o : Int)]) rfl rfl ⟨hm1, hn, ho⟩ (of_decide_eq_true rfl) (of_decide_eq_true rfl) rfl rfl
  · obtain ⟨a, ha, rfl, rfl⟩ := call_n (n := 2) rfl k1
    obtain ⟨x, y, rfl⟩ := len2 ha
    have hk := and2 (asked_p2 (c := [[15, x, y]]) (of_decide_eq_true rfl) (of_decide_eq_true rfl) h2.1 : P2.asked1 [[5, x, y]] = true)
    obtain ⟨m, rfl, hm1⟩ := nat32 hk.1
    obtain ⟨n, rfl, hn⟩ := nat32 hk.2
    exact fin2 [[5, (m : Int), (n : Int)]] (.at_ m n) (fc := [15, (m : Int), (n : Int)]) rfl rfl ⟨hm1, hn⟩ (of_decide_eq_true rfl) (of_decide_eq_true rfl) rfl rfl
  · obtain ⟨a, ha, rfl, rfl⟩ := call_n (n := 1) rfl k1
    obtain ⟨x, rfl⟩ := len1 ha
    have hk : P2.natural x 32 = true := asked_p2 (c := [[16, x]]) (of_decide_eq_true rfl) (of_decide_eq_true rfl) h2.1
    obtain ⟨m, rfl, hm1⟩ := nat32 hk
    exact fin2 [[6, (m : Int)]] (.of m) (fc := [16, (m : Int)]) rfl rfl hm1 (of_decide_eq_true rfl) (of_decide_eq_true rfl) rfl rfl
  · obtain ⟨a, ha, rfl, rfl⟩ := call_n (n := 1) rfl k1
    obtain ⟨x, rfl⟩ := len1 ha
    have hk : P2.natural x 32 = true := asked_p2 (c := [[17, x]]) (of_decide_eq_true rfl) (of_decide_eq_true rfl) h2.1
    obtain ⟨m, rfl, hm1⟩ := nat32 hk
    exact fin2 [[7, (m : Int)]] (.sum m) (fc := [17, (m : Int)]) rfl rfl hm1 (of_decide_eq_true rfl) (of_decide_eq_true rfl) rfl rfl
  · obtain ⟨a, ha, rfl, rfl⟩ := call_n (n := 0) rfl k1
    obtain rfl := len0 ha
    exact fin3 [[0]] .start (fc := [20]) rfl rfl trivial (of_decide_eq_true rfl) (of_decide_eq_true rfl) (of_decide_eq_true rfl) rfl rfl
  · obtain ⟨a, ha, rfl, rfl⟩ := call_n (n := 2) rfl k1
    obtain ⟨x, y, rfl⟩ := len2 ha
    have hk := and2 (asked_p3 (c := [[21, x, y]]) (of_decide_eq_true rfl) (of_decide_eq_true rfl) (of_decide_eq_true rfl) h2.1 : P3.asked1 [[1, x, y]] = true)
    obtain ⟨m, rfl, hm1⟩ := nat32' hk.1
    obtain ⟨n, rfl, hn⟩ := nat32' hk.2
    exact fin3 [[1, (m : Int), (n : Int)]] (.order m n) (fc := [21, (m : Int), (n : Int)]) rfl rfl ⟨hm1, hn⟩ (of_decide_eq_true rfl) (of_decide_eq_true rfl) (of_decide_eq_true rfl) rfl rfl
  · obtain ⟨a, ha, rfl, rfl⟩ := call_n (n := 1) rfl k1
    obtain ⟨x, rfl⟩ := len1 ha
    have hk : P3.natural x 32 = true := asked_p3 (c := [[22, x]]) (of_decide_eq_true rfl) (of_decide_eq_true rfl) (of_decide_eq_true rfl) h2.1
    obtain ⟨m, rfl, hm1⟩ := nat32' hk
    exact fin3 [[2, (m : Int)]] (.open_ m) (fc := [22, (m : Int)]) rfl rfl hm1 (of_decide_eq_true rfl) (of_decide_eq_true rfl) (of_decide_eq_true rfl) rfl rfl
  · obtain ⟨a, ha, rfl, rfl⟩ := call_n (n := 2) rfl k1
    obtain ⟨x, y, rfl⟩ := len2 ha
    have hk := and2 (asked_p3 (c := [[23, x, y]]) (of_decide_eq_true rfl) (of_decide_eq_true rfl) (of_decide_eq_true rfl) h2.1 : P3.asked1 [[3, x, y]] = true)
    obtain ⟨m, rfl, hm1⟩ := nat32' hk.1
    obtain ⟨n, rfl, hn⟩ := nat32' hk.2
    exact fin3 [[3, (m : Int), (n : Int)]] (.run m n) (fc := [23, (m : Int), (n : Int)]) rfl rfl ⟨hm1, hn⟩ (of_decide_eq_true rfl) (of_decide_eq_true rfl) (of_decide_eq_true rfl) rfl rfl
  · obtain ⟨a, ha, rfl, rfl⟩ := call_n (n := 2) rfl k1
    obtain ⟨x, y, rfl⟩ := len2 ha
    have hk := and2 (asked_p3 (c := [[24, x, y]]) (of_decide_eq_true rfl) (of_decide_eq_true rfl) (of_decide_eq_true rfl) h2.1 : P3.asked1 [[4, x, y]] = true)
    obtain ⟨m, rfl, hm1⟩ := nat32' hk.1
    obtain ⟨n, rfl, hn⟩ := nat32' hk.2
    exact fin3 [[4, (m : Int), (n : Int)]] (.result m n) (fc := [24, (m : Int), (n : Int)]) rfl rfl ⟨hm1, hn⟩ (of_decide_eq_true rfl) (of_decide_eq_true rfl) (of_decide_eq_true rfl) rfl rfl
  · obtain ⟨a, ha, rfl, rfl⟩ := call_n (n := 2) rfl k1
    obtain ⟨x, y, rfl⟩ := len2 ha
    have hk := and2 (asked_p3 (c := [[25, x, y]]) (of_decide_eq_true rfl) (of_decide_eq_true rfl) (of_decide_eq_true rfl) h2.1 : P3.asked1 [[5, x, y]] = true)
    obtain ⟨m, rfl, hm1⟩ := nat32' hk.1
    obtain ⟨n, rfl, hn⟩ := nat32' hk.2
    exact fin3 [[5, (m : Int), (n : Int)]] (.close m n) (fc := [25, (m : Int), (n : Int)]) rfl rfl ⟨hm1, hn⟩ (of_decide_eq_true rfl) (of_decide_eq_true rfl) (of_decide_eq_true rfl) rfl rfl
  · obtain ⟨a, ha, rfl, rfl⟩ := call_n (n := 1) rfl k1
    obtain ⟨x, rfl⟩ := len1 ha
    have hk : P3.natural x 32 = true := asked_p3 (c := [[26, x]]) (of_decide_eq_true rfl) (of_decide_eq_true rfl) (of_decide_eq_true rfl) h2.1
    obtain ⟨m, rfl, hm1⟩ := nat32' hk
    exact fin3 [[6, (m : Int)]] (.give m) (fc := [26, (m : Int)]) rfl rfl hm1 (of_decide_eq_true rfl) (of_decide_eq_true rfl) (of_decide_eq_true rfl) rfl rfl
  · obtain ⟨a, ha, rfl, rfl⟩ := call_n (n := 1) rfl k1
    obtain ⟨x, rfl⟩ := len1 ha
    have hk : P3.natural x 32 = true := asked_p3 (c := [[27, x]]) (of_decide_eq_true rfl) (of_decide_eq_true rfl) (of_decide_eq_true rfl) h2.1
    obtain ⟨m, rfl, hm1⟩ := nat32' hk
    exact fin3 [[7, (m : Int)]] (.state m) (fc := [27, (m : Int)]) rfl rfl hm1 (of_decide_eq_true rfl) (of_decide_eq_true rfl) (of_decide_eq_true rfl) rfl rfl
end WL

/-! ## how long an answer is -/
namespace WL
theorem acts2_len {q q' : Option Klb2.Lab} {c : Klb2.Call} {v : Klb2.Ans} (h : Klb2.acts q c = some (q', v)) : v.out.length ≤ 4 := by
  cases c with
  | start => cases h; exact Nat.zero_le _
  | sample p vo =>
    cases q with
    | none => cases h
    | some b =>
      simp only [Klb2.acts, Option.map_some, Option.some.injEq] at h
      split at h
      · cases h; exact Nat.zero_le _
      · split at h <;> (cases h; exact Nat.zero_le _)
  | take t vo =>
    cases q with
    | none => cases h
    | some b =>
      simp only [Klb2.acts, Option.map_some, Option.some.injEq] at h
      split at h
      · cases h; exact Nat.zero_le _
      · split at h
        · cases h; exact Nat.zero_le _
        · split at h
          · cases h; exact Nat.zero_le _
          · split at h <;> (cases h; exact Nat.zero_le _)
  | use t vo =>
    cases q with
    | none => cases h
    | some b =>
      simp only [Klb2.acts, Option.map_some, Option.some.injEq] at h
      split at h
      · cases h; exact Nat.zero_le _
      · split at h
        · cases h; exact Nat.zero_le _
        · split at h <;> (cases h; exact Nat.zero_le _)
  | put t r p =>
    cases q with
    | none => cases h
    | some b =>
      simp only [Klb2.acts, Option.map_some, Option.some.injEq] at h
      split at h
      · cases h; exact Nat.zero_le _
      · split at h
        · cases h; exact Nat.zero_le _
        · split at h <;> (split at h <;> (cases h; exact Nat.zero_le _))
  | at_ r p =>
    cases q with
    | none => cases h
    | some b =>
      simp only [Klb2.acts, Option.map_some, Option.some.injEq, Prod.mk.injEq] at h
      obtain ⟨_, rfl⟩ := h
      split
      · exact Nat.zero_le _
      · split <;> exact Nat.zero_le _
  | of t =>
    cases q with
    | none => cases h
    | some b =>
      simp only [Klb2.acts, Option.map_some, Option.some.injEq, Prod.mk.injEq] at h
      obtain ⟨_, rfl⟩ := h
      split
      · exact Nat.zero_le _
      · exact Nat.le_refl _
  | sum t =>
    cases q with
    | none => cases h
    | some b =>
      simp only [Klb2.acts, Option.map_some, Option.some.injEq, Prod.mk.injEq] at h
      obtain ⟨_, rfl⟩ := h
      split
      · show 2 ≤ 4; decide
      · exact Nat.zero_le _
theorem acts3_len {q q' : Option Klb3.Book} {c : Klb3.Call} {v : Klb3.Ans} (h : Klb3.acts q c = some (q', v)) : v.out.length ≤ 4 := by
  cases c with
  | start => cases h; exact Nat.zero_le _
  | order p t =>
    cases q with
    | none => cases h
    | some b =>
      simp only [Klb3.acts, Option.map_some, Option.some.injEq] at h
      split at h
      · cases h; exact Nat.zero_le _
      · split at h <;> (cases h; exact Nat.zero_le _)
  | open_ t =>
    cases q with
    | none => cases h
    | some b =>
      simp only [Klb3.acts, Option.map_some, Option.some.injEq] at h
      split at h
      · cases h; exact Nat.zero_le _
      · split at h <;> (cases h; exact Nat.zero_le _)
  | run o p =>
    cases q with
    | none => cases h
    | some b =>
      simp only [Klb3.acts, Option.map_some, Option.some.injEq] at h
      split at h
      · cases h; exact Nat.zero_le _
      · split at h
        · cases h; exact Nat.zero_le _
        · split at h
          · cases h; exact Nat.zero_le _
          · split at h <;> (cases h; exact Nat.zero_le _)
  | result o vo =>
    cases q with
    | none => cases h
    | some b =>
      simp only [Klb3.acts, Option.map_some, Option.some.injEq] at h
      split at h
      · cases h; exact Nat.zero_le _
      · split at h <;> (cases h; exact Nat.zero_le _)
  | close t w =>
    cases q with
    | none => cases h
    | some b =>
      simp only [Klb3.acts, Option.map_some, Option.some.injEq] at h
      split at h
      · cases h; exact Nat.zero_le _
      · split at h <;> (cases h; exact Nat.zero_le _)
  | give o =>
    cases q with
    | none => cases h
    | some b =>
      simp only [Klb3.acts, Option.map_some, Option.some.injEq] at h
      split at h
      · cases h; exact Nat.zero_le _
      · split at h
        · cases h; exact Nat.zero_le _
        · cases h; show 1 ≤ 4; decide
        · cases h; exact Nat.zero_le _
  | state o =>
    cases q with
    | none => cases h
    | some b =>
      simp only [Klb3.acts, Option.map_some, Option.some.injEq, Prod.mk.injEq] at h
      obtain ⟨_, rfl⟩ := h
      split <;> exact Nat.zero_le _
theorem step_len {s s' : KlbNeutral.S} {fc a : List Int} (h : Step s s' fc a) : a.length ≤ 5 ∧ 1 ≤ fc.length := by
  cases h with
  | c1 c q v e ok h hs ha =>
    subst ha e
    refine ⟨by show 1 ≤ 5; decide, ?_⟩
    cases c <;> simp [flat1]
  | c2 c q v e ok h hs ha =>
    subst ha e
    have := acts2_len h
    refine ⟨by simp [asInts]; omega, ?_⟩
    cases c <;> simp [flat2]
  | c3 c q v e ok h hs ha =>
    subst ha e
    have := acts3_len h
    refine ⟨by simp [asInts]; omega, ?_⟩
    cases c <;> simp [flat3]
end WL

namespace WL
open PySem L2
/-! ## small rules over the layer -/
section
variable {X : Cx}
/-- a whole number of the file's top -/
theorem pe_gi {x : Str} {v : Int} {pos : Pos} (hg : Gl X x) (hm : ∃ t, X.mg x = some (.int v t)) (hd : (x == ("__debug__" : Str)) = false := by decide) : PE X (.Name x pos) (tC (.int v)) := by
  obtain ⟨t, e⟩ := hm
  exact pe_glob hg e ⟨t, rfl⟩ hd
/-- an attribute, the written part named (inside a comprehension's block) -/
theorem pe_fldK {K : PySem.W.Frag} {e : Expr} {f : Str} {pos : Pos} {ta : TE} (hK : X.K = K) (he : PE X e ta) (hb : attributeBase e f X.env (eval e X.env) = eval e X.env) : PE X (.Attribute e f pos) (tFld K ta f) := by
  subst hK
  exact pe_fld he hb
end
/-! ## a dict of whole numbers of the file's top, read -/
def kdOk (o : Obj) (kvs : List (Int × Int)) : Bool :=
  (match o.cls with
    | .type n => n == "dict"
    | _ => false) && o.dict.isNone && o.slots.isEmpty &&
  (match o.data with
    | .dict es _ => es.toList.all (fun e => match e.key with
        | .int k _ => e.hash == hashInt k
        | _ => false) && kvs.all (fun p => match findBy Value.isInt es p.1 with
        | some (.int x _) => x == p.2
        | _ => false)
    | _ => false)
structure KD (K : PySem.W.Frag) (mg : Str → Option Value) (name : Str) (kvs : List (Int × Int)) : Prop where
  ex : ∃ d o, mg name = some (.ref d) ∧ K.lookup d = some o ∧ kdOk o kvs = true
def tKD (kvs : List (Int × Int)) (ti : TE) : TE := fun σ H Q => ti σ H fun y H1 => ∃ k v, y = .int k ∧ (k, v) ∈ kvs ∧ Q (.int v) H1
theorem kd_map {P : Program} {w : World} {h : Heap} {d : Addr} {o : Obj} {kvs : List (Int × Int)} (hd : h.get? d = some o) (ok : kdOk o kvs = true) :
    ∃ f, h.MapOf (intKind P w) d f ∧ ∀ k v, (k, v) ∈ kvs → ∃ t, f k = some (.int v t) := by
  unfold kdOk at ok
  simp only [Bool.and_eq_true] at ok
  obtain ⟨⟨⟨h1, h2⟩, h3⟩, h4⟩ := ok
  obtain ⟨c, dd, dt, sl⟩ := o
  have e1 : c = .type "dict" := by
    cases c with
    | type n => exact congrArg Value.type (beq_iff_eq.mp h1)
    | _ => cases h1
  have e2 : dd = none := by
    cases dd with
    | none => rfl
    | some _ => cases h2
  have e3 : sl = #[] := Array.isEmpty_iff.mp h3
  cases dt with
  | dict es ep =>
    have h4 : (es.toList.all (fun e => match e.key with
        | .int k _ => e.hash == hashInt k
        | _ => false) && kvs.all (fun p => match findBy Value.isInt es p.1 with
        | some (.int x _) => x == p.2
        | _ => false)) = true := h4
    simp only [Bool.and_eq_true] at h4
    obtain ⟨h5, h6⟩ := h4
    refine ⟨findBy Value.isInt es, ⟨_, es, ep, hd, ⟨e1, e2, e3⟩, rfl, fun e he => ?_, fun _ => rfl⟩, fun k v hkv => ?_⟩
    · have q := List.all_eq_true.mp h5 e (by simpa using he)
      cases hk : e.key with
      | int k t =>
        rw [hk] at q
        exact ⟨k, by show Value.isInt k (.int k t) = true; simp [Value.isInt], beq_iff_eq.mp q⟩
      | _ => rw [hk] at q; cases q
    · have q := List.all_eq_true.mp h6 (k, v) hkv
      cases hf : findBy Value.isInt es k with
      | none => simp only [hf] at q; cases q
      | some x =>
        cases x with
        | int z t =>
          simp only [hf] at q
          exact ⟨t, by rw [beq_iff_eq.mp q]⟩
        | _ => simp only [hf] at q; cases q
  | _ => cases h4
theorem pe_kd {X : Cx} {x : Str} {kvs : List (Int × Int)} {i : Expr} {ti : TE} {p pos : Pos} (h : KD X.K X.mg x kvs) (hi : PE X i ti) (hg : Gl X x := by rfl) (hd : (x == ("__debug__" : Str)) = false := by decide) (hs : NoSl i := by intro _ _; rfl) : PE X (.Subscript (.Name x p) i pos) (tKD kvs ti) := by
  obtain ⟨d, o, hm, hl, ok⟩ := h.ex
  intro pins s σ H Q I hw
  have ho : PE X (.Name x p) (tC (.ref d)) := pe_glob hg hm rfl hd
  refine subD_of PySem.F.slot_dict_getitem.lookup hs (thn (ho pins s σ H (fun u H1 => u = .ref d ∧ tKD kvs ti σ H1 Q) I ⟨rfl, hw⟩) fun u s1 ⟨y, H1, I1, rx, ey, q1⟩ => ?_)
  subst ey
  obtain rfl : u = Value.ref d := rx
  refine thn (hi pins s1 σ H1 _ I1 q1) fun iv s2 ⟨y, H2, I2, ry, k, v, ey, hkv, q2⟩ => ?_
  subst ey
  obtain ⟨t, rfl⟩ := ry
  obtain ⟨f, hmap, hf⟩ := kd_map (P := X.prog) (w := X.w) (I2.kIn d o hl) ok
  obtain ⟨t', hft⟩ := hf k v hkv
  exact ⟨hmap.typeIs, wpAny_getItem_of (knd := intKind X.prog X.w) (k := k) (by show Value.isInt k (.int k t) = true; simp [Value.isInt]) hmap hft ⟨.int v, H2, I2.tok _, ⟨t', rfl⟩, q2⟩⟩
/-! ## attributes -/
theorem lk_hd {f : Str} {v : V} {r : List (Str × V)} : List.lookup f ((f, v) :: r) = some v := by
  have e : (f == f) = true := beq_iff_eq.mpr rfl
  simp only [List.lookup, e]
theorem lk_tl {f g : Str} {v : V} {r : List (Str × V)} (h : f ≠ g) : List.lookup f ((g, v) :: r) = List.lookup f r := by
  have e : (f == g) = false := beq_eq_false_iff_ne.mpr h
  simp only [List.lookup, e]
theorem pf_hd {f : Str} {v x : V} {r : List (Str × V)} : putF f x ((f, v) :: r) = (f, x) :: r := if_pos rfl
theorem pf_tl {f g : Str} {v x : V} {r : List (Str × V)} (h : g ≠ f) : putF f x ((g, v) :: r) = (g, v) :: putF f x r := if_neg h
/-! ## frames: what a call may touch (F), and what it has then (G) -/
structure Frm (F G : List Addr) (H H' : Hp) : Prop where
  keep : ∀ b o, H b = some o → b ∉ F → H' b = some o
  foot : ∀ b, b ∈ G → b ∈ F ∨ H b = none
  dom : ∀ b, b ∈ F → ∃ o, H' b = some o
theorem Frm.refl {F : List Addr} {H : Hp} (d : ∀ b, b ∈ F → ∃ o, H b = some o) : Frm F F H H := ⟨fun _ _ h _ => h, fun _ h => .inl h, d⟩
theorem Frm.trans {F G G2 : List Addr} {H H1 H2 : Hp} (x : Frm F G H H1) (y : Frm G G2 H1 H2) : Frm F G2 H H2 := by
  have nG : ∀ b o, H b = some o → b ∉ F → b ∉ G := fun b o e hF hG => (x.foot b hG).elim hF fun z => by rw [e] at z; cases z
  refine ⟨fun b o e hF => y.keep b o (x.keep b o e hF) (nG b o e hF), fun b hb => ?_, fun b hb => ?_⟩
  · rcases y.foot b hb with h | h
    · exact x.foot b h
    · by_cases hF : b ∈ F
      · exact .inl hF
      · cases q : H b with
        | none => exact .inr rfl
        | some o => rw [x.keep b o q hF] at h; cases h
  · obtain ⟨o, e⟩ := x.dom b hb
    by_cases hG : b ∈ G
    · exact y.dom b hG
    · exact ⟨o, y.keep b o e hG⟩
theorem Frm.same {F G : List Addr} {H H1 H2 : Hp} (x : Frm F G H H1) (y : Same H1 H2) : Frm F G H H2 :=
  ⟨fun b o e h => y b o (x.keep b o e h), x.foot, fun b hb => let ⟨o, e⟩ := x.dom b hb; ⟨o, y b o e⟩⟩
theorem Frm.of_same {F : List Addr} {H H' : Hp} (d : ∀ b, b ∈ F → ∃ o, H b = some o) (y : Same H H') : Frm F F H H' := (Frm.refl d).same y
theorem Frm.out {F G : List Addr} {H H' : Hp} (x : Frm F G H H') {b : Addr} {o : HO} (e : H b = some o) (h : b ∉ F) : b ∉ G := fun hG => (x.foot b hG).elim h fun z => by rw [e] at z; cases z
theorem Frm.free {F G : List Addr} {H H' : Hp} (x : Frm F G H H') {b : Addr} (h : H' b = none) : H b = none := by
  cases q : H b with
  | none => rfl
  | some o =>
    by_cases hF : b ∈ F
    · obtain ⟨o', e⟩ := x.dom b hF
      rw [h] at e; cases e
    · rw [x.keep b o q hF] at h; cases h
/-- more may have been touched -/
theorem Frm.weak {F F2 G : List Addr} {H H' : Hp} (x : Frm F G H H') (hs : ∀ b, b ∈ F → b ∈ F2) (d : ∀ b, b ∈ F2 → ∃ o, H b = some o) : Frm F2 G H H' := by
  refine ⟨fun b o e h => x.keep b o e fun z => h (hs b z), fun b hb => (x.foot b hb).imp (hs b) id, fun b hb => ?_⟩
  by_cases hF : b ∈ F
  · exact x.dom b hF
  · obtain ⟨o, e⟩ := d b hb
    exact ⟨o, x.keep b o e hF⟩
theorem dom1 {H : Hp} {p : Addr} {o : HO} (h : H p = some o) : ∀ b, b ∈ [p] → ∃ o, H b = some o := fun b hb => ⟨o, by rw [List.mem_singleton.mp hb]; exact h⟩
theorem same_new {H : Hp} {l : Addr} {o : HO} (h : H l = none) : Same H (upd H l o) := fun b u e => by rw [upd_ne (ne_of_none e h)]; exact e
/-! ## the readings, step by step -/
section
variable {σ : St} {H : Hp} {D : Ends}
theorem x_ite {c A B : Prop} [Decidable c] (h1 : c → A) (h2 : ¬ c → B) : if decide c = true then A else B := by
  by_cases h : c
  · rw [if_pos (decide_eq_true h)]; exact h1 h
  · rw [if_neg (by rw [decide_eq_false h]; exact Bool.false_ne_true)]; exact h2 h
theorem x_iten {c A B : Prop} [Decidable c] (h1 : ¬ c → A) (h2 : c → B) : if (!decide c) = true then A else B := by
  by_cases h : c
  · rw [decide_eq_true h, if_neg (by decide)]; exact h2 h
  · rw [decide_eq_false h, if_pos (by decide)]; exact h1 h
theorem x_iteb {b : Bool} {A B : Prop} (h1 : b = true → A) (h2 : b = false → B) : if b = true then A else B := by
  cases b with
  | true => rw [if_pos rfl]; exact h1 rfl
  | false => rw [if_neg Bool.false_ne_true]; exact h2 rfl
theorem x_yes {A B : Hp → Prop} (h : A H) : tYes σ H (fun b H3 => if b = true then A H3 else B H3) := by
  show (if true = true then A H else B H)
  rw [if_pos rfl]
  exact h
theorem x_eqI {i j : Int} {Q : VK} (k : Q (.bl (decide (i = j))) H) : rEq (.int i) (.int j) H Q := by
  refine ⟨rfl, ?_⟩
  have e : decide (V.int i = V.int j) = decide (i = j) := decide_eq_decide.mpr ⟨fun h => V.int.inj h, fun h => congrArg V.int h⟩
  rw [e]; exact k
theorem x_eqC {i j : Int} {Q : VK} (k : Q (.bl (decide (i = j))) H) : tC (.int j) σ H (fun y H2 => rEq (.int i) y H2 Q) := x_eqI k
theorem x_neI {i j : Int} {Q : VK} (k : Q (.bl (!decide (i = j))) H) : rNe (.int i) (.int j) H Q := by
  refine ⟨rfl, ?_⟩
  have e : decide (V.int i = V.int j) = decide (i = j) := decide_eq_decide.mpr ⟨fun h => V.int.inj h, fun h => congrArg V.int h⟩
  rw [e]; exact k
theorem x_neC {i j : Int} {Q : VK} (k : Q (.bl (!decide (i = j))) H) : tC (.int j) σ H (fun y H2 => rNe (.int i) y H2 Q) := x_neI k
end
end WL

namespace WL
open PySem L2
def top (i : Nat) : Stmt := PySem.Challenge.pw_wholelab_s01_answers.main.body.getD i (.Pass ⟨0, 0, 0, 0⟩)
abbrev s_one_sided : Stmt := top 14
abbrev s_broken_in_a_row : Stmt := top 15
abbrev s_far_apart : Stmt := top 16
abbrev s_broken_rules : Stmt := top 17
abbrev s_Controls_init : Stmt := inClass (top 18) 0
abbrev s_Controls_start : Stmt := inClass (top 18) 1
abbrev s_Controls_batch : Stmt := inClass (top 18) 2
abbrev s_Controls_how_many : Stmt := inClass (top 18) 3
abbrev s_Controls_keep : Stmt := inClass (top 18) 4
abbrev s_Controls_forget : Stmt := inClass (top 18) 5
abbrev s_leave_batch : Stmt := top 27
abbrev s_Order_init : Stmt := inClass (top 28) 0
abbrev s_Orders_init : Stmt := inClass (top 29) 0
abbrev s_Orders_start : Stmt := inClass (top 29) 1
abbrev s_Orders_order : Stmt := inClass (top 29) 2
abbrev s_Orders_begin_batch : Stmt := inClass (top 29) 3
abbrev s_Orders_run : Stmt := inClass (top 29) 4
abbrev s_Orders_result : Stmt := inClass (top 29) 5
abbrev s_Orders_close : Stmt := inClass (top 29) 6
abbrev s_Orders_give : Stmt := inClass (top 29) 7
abbrev s_Orders_state : Stmt := inClass (top 29) 8
abbrev s_Orders_has : Stmt := inClass (top 29) 9
abbrev s_spot_of : Stmt := top 36
abbrev s_Tube_init : Stmt := inClass (top 37) 0
abbrev s_Tubes_init : Stmt := inClass (top 38) 0
abbrev s_Tubes_start : Stmt := inClass (top 38) 1
abbrev s_Tubes_sample : Stmt := inClass (top 38) 2
abbrev s_Tubes_take : Stmt := inClass (top 38) 3
abbrev s_Tubes_use : Stmt := inClass (top 38) 4
abbrev s_Tubes_put : Stmt := inClass (top 38) 5
abbrev s_Tubes_at : Stmt := inClass (top 38) 6
abbrev s_Tubes_of : Stmt := inClass (top 38) 7
abbrev s_Tubes_sum_of : Stmt := inClass (top 38) 8
abbrev s_Tubes_has : Stmt := inClass (top 38) 9
abbrev s_Tubes_is_full : Stmt := inClass (top 38) 10
abbrev s_Tubes_add : Stmt := inClass (top 38) 11
abbrev s_Tubes_refusal_to_draw : Stmt := inClass (top 38) 12
abbrev s_Tubes_standing_at : Stmt := inClass (top 38) 13
abbrev s_call_end : Stmt := top 57
abbrev s_controls_answer : Stmt := top 58
abbrev s_tubes_answer : Stmt := top 59
abbrev s_orders_answer : Stmt := top 60
abbrev s_answers : Stmt := top 61
theorem sc_one_sided : FnScope ["offsets", "many", "bound", "last"] ["offsets", "many", "bound"] (defScope s_one_sided) := ⟨rfl, rfl, rfl, by decide +kernel, rfl, by decide +kernel, by decide +kernel⟩
theorem sc_broken_in_a_row : FnScope ["offsets", "spread", "broken"] ["offsets", "spread"] (defScope s_broken_in_a_row) := ⟨rfl, rfl, rfl, by decide +kernel, rfl, by decide +kernel, by decide +kernel⟩
theorem sc_far_apart : FnScope ["offsets", "bound"] ["offsets", "bound"] (defScope s_far_apart) := ⟨rfl, rfl, rfl, by decide +kernel, rfl, by decide +kernel, by decide +kernel⟩
theorem sc_broken_rules : FnScope ["before", "batch", "spread", "offsets", "broken", "offset"] ["before", "batch", "spread"] (defScope s_broken_rules) := ⟨rfl, rfl, rfl, by decide +kernel, rfl, by decide +kernel, by decide +kernel⟩
theorem sc_Controls_init : FnScope ["self"] ["self"] (defScope s_Controls_init) := ⟨rfl, rfl, rfl, by decide +kernel, rfl, by decide +kernel, by decide +kernel⟩
theorem sc_Controls_start : FnScope ["self", "mean", "spread"] ["self", "mean", "spread"] (defScope s_Controls_start) := ⟨rfl, rfl, rfl, by decide +kernel, rfl, by decide +kernel, by decide +kernel⟩
theorem sc_Controls_batch : FnScope ["self", "values", "offsets", "broken", "value"] ["self", "values"] (defScope s_Controls_batch) := ⟨rfl, rfl, rfl, by decide +kernel, rfl, by decide +kernel, by decide +kernel⟩
theorem sc_Controls_how_many : FnScope ["self"] ["self"] (defScope s_Controls_how_many) := ⟨rfl, rfl, rfl, by decide +kernel, rfl, by decide +kernel, by decide +kernel⟩
theorem sc_Controls_keep : FnScope ["self", "offsets"] ["self", "offsets"] (defScope s_Controls_keep) := ⟨rfl, rfl, rfl, by decide +kernel, rfl, by decide +kernel, by decide +kernel⟩
theorem sc_Controls_forget : FnScope ["self"] ["self"] (defScope s_Controls_forget) := ⟨rfl, rfl, rfl, by decide +kernel, rfl, by decide +kernel, by decide +kernel⟩
theorem sc_leave_batch : FnScope ["order", "broken"] ["order", "broken"] (defScope s_leave_batch) := ⟨rfl, rfl, rfl, by decide +kernel, rfl, by decide +kernel, by decide +kernel⟩
theorem sc_Order_init : FnScope ["self", "patient", "test"] ["self", "patient", "test"] (defScope s_Order_init) := ⟨rfl, rfl, rfl, by decide +kernel, rfl, by decide +kernel, by decide +kernel⟩
theorem sc_Orders_init : FnScope ["self"] ["self"] (defScope s_Orders_init) := ⟨rfl, rfl, rfl, by decide +kernel, rfl, by decide +kernel, by decide +kernel⟩
theorem sc_Orders_start : FnScope ["self"] ["self"] (defScope s_Orders_start) := ⟨rfl, rfl, rfl, by decide +kernel, rfl, by decide +kernel, by decide +kernel⟩
theorem sc_Orders_order : FnScope ["self", "patient", "test"] ["self", "patient", "test"] (defScope s_Orders_order) := ⟨rfl, rfl, rfl, by decide +kernel, rfl, by decide +kernel, by decide +kernel⟩
theorem sc_Orders_begin_batch : FnScope ["self", "test"] ["self", "test"] (defScope s_Orders_begin_batch) := ⟨rfl, rfl, rfl, by decide +kernel, rfl, by decide +kernel, by decide +kernel⟩
theorem sc_Orders_run : FnScope ["self", "number", "patient", "order"] ["self", "number", "patient"] (defScope s_Orders_run) := ⟨rfl, rfl, rfl, by decide +kernel, rfl, by decide +kernel, by decide +kernel⟩
theorem sc_Orders_result : FnScope ["self", "number", "value", "order"] ["self", "number", "value"] (defScope s_Orders_result) := ⟨rfl, rfl, rfl, by decide +kernel, rfl, by decide +kernel, by decide +kernel⟩
theorem sc_Orders_close : FnScope ["self", "test", "broken", "batch", "ready", "order"] ["self", "test", "broken"] (defScope s_Orders_close) := ⟨rfl, rfl, rfl, by decide +kernel, rfl, by decide +kernel, by decide +kernel⟩
theorem sc_Orders_give : FnScope ["self", "number", "order"] ["self", "number"] (defScope s_Orders_give) := ⟨rfl, rfl, rfl, by decide +kernel, rfl, by decide +kernel, by decide +kernel⟩
theorem sc_Orders_state : FnScope ["self", "number", "order"] ["self", "number"] (defScope s_Orders_state) := ⟨rfl, rfl, rfl, by decide +kernel, rfl, by decide +kernel, by decide +kernel⟩
theorem sc_Orders_has : FnScope ["self", "number"] ["self", "number"] (defScope s_Orders_has) := ⟨rfl, rfl, rfl, by decide +kernel, rfl, by decide +kernel, by decide +kernel⟩
theorem sc_spot_of : FnScope ["rack", "place"] ["rack", "place"] (defScope s_spot_of) := ⟨rfl, rfl, rfl, by decide +kernel, rfl, by decide +kernel, by decide +kernel⟩
theorem sc_Tube_init : FnScope ["self", "patient", "origin", "depth", "left"] ["self", "patient", "origin", "depth", "left"] (defScope s_Tube_init) := ⟨rfl, rfl, rfl, by decide +kernel, rfl, by decide +kernel, by decide +kernel⟩
theorem sc_Tubes_init : FnScope ["self"] ["self"] (defScope s_Tubes_init) := ⟨rfl, rfl, rfl, by decide +kernel, rfl, by decide +kernel, by decide +kernel⟩
theorem sc_Tubes_start : FnScope ["self"] ["self"] (defScope s_Tubes_start) := ⟨rfl, rfl, rfl, by decide +kernel, rfl, by decide +kernel, by decide +kernel⟩
theorem sc_Tubes_sample : FnScope ["self", "patient", "volume"] ["self", "patient", "volume"] (defScope s_Tubes_sample) := ⟨rfl, rfl, rfl, by decide +kernel, rfl, by decide +kernel, by decide +kernel⟩
theorem sc_Tubes_take : FnScope ["self", "number", "volume", "refusal", "tube"] ["self", "number", "volume"] (defScope s_Tubes_take) := ⟨rfl, rfl, rfl, by decide +kernel, rfl, by decide +kernel, by decide +kernel⟩
theorem sc_Tubes_use : FnScope ["self", "number", "volume", "refusal", "tube", "origin"] ["self", "number", "volume"] (defScope s_Tubes_use) := ⟨rfl, rfl, rfl, by decide +kernel, rfl, by decide +kernel, by decide +kernel⟩
theorem sc_Tubes_put : FnScope ["self", "number", "rack", "place", "spot", "standing", "tube"] ["self", "number", "rack", "place"] (defScope s_Tubes_put) := ⟨rfl, rfl, rfl, by decide +kernel, rfl, by decide +kernel, by decide +kernel⟩
theorem sc_Tubes_at : FnScope ["self", "rack", "place", "spot"] ["self", "rack", "place"] (defScope s_Tubes_at) := ⟨rfl, rfl, rfl, by decide +kernel, rfl, by decide +kernel, by decide +kernel⟩
theorem sc_Tubes_of : FnScope ["self", "number", "tube"] ["self", "number"] (defScope s_Tubes_of) := ⟨rfl, rfl, rfl, by decide +kernel, rfl, by decide +kernel, by decide +kernel⟩
theorem sc_Tubes_sum_of : FnScope ["self", "number", "sample_tube", "left", "tube"] ["self", "number"] (defScope s_Tubes_sum_of) := ⟨rfl, rfl, rfl, by decide +kernel, rfl, by decide +kernel, by decide +kernel⟩
theorem sc_Tubes_has : FnScope ["self", "number"] ["self", "number"] (defScope s_Tubes_has) := ⟨rfl, rfl, rfl, by decide +kernel, rfl, by decide +kernel, by decide +kernel⟩
theorem sc_Tubes_is_full : FnScope ["self"] ["self"] (defScope s_Tubes_is_full) := ⟨rfl, rfl, rfl, by decide +kernel, rfl, by decide +kernel, by decide +kernel⟩
theorem sc_Tubes_add : FnScope ["self", "tube"] ["self", "tube"] (defScope s_Tubes_add) := ⟨rfl, rfl, rfl, by decide +kernel, rfl, by decide +kernel, by decide +kernel⟩
theorem sc_Tubes_refusal_to_draw : FnScope ["self", "number", "volume", "tube"] ["self", "number", "volume"] (defScope s_Tubes_refusal_to_draw) := ⟨rfl, rfl, rfl, by decide +kernel, rfl, by decide +kernel, by decide +kernel⟩
theorem sc_Tubes_standing_at : FnScope ["self", "spot", "number", "tube"] ["self", "spot"] (defScope s_Tubes_standing_at) := ⟨rfl, rfl, rfl, by decide +kernel, rfl, by decide +kernel, by decide +kernel⟩
theorem sc_call_end : FnScope ["calls", "begin"] ["calls", "begin"] (defScope s_call_end) := ⟨rfl, rfl, rfl, by decide +kernel, rfl, by decide +kernel, by decide +kernel⟩
theorem sc_controls_answer : FnScope ["controls", "call"] ["controls", "call"] (defScope s_controls_answer) := ⟨rfl, rfl, rfl, by decide +kernel, rfl, by decide +kernel, by decide +kernel⟩
theorem sc_tubes_answer : FnScope ["tubes", "call"] ["tubes", "call"] (defScope s_tubes_answer) := ⟨rfl, rfl, rfl, by decide +kernel, rfl, by decide +kernel, by decide +kernel⟩
theorem sc_orders_answer : FnScope ["orders", "call"] ["orders", "call"] (defScope s_orders_answer) := ⟨rfl, rfl, rfl, by decide +kernel, rfl, by decide +kernel, by decide +kernel⟩
theorem sc_answers : FnScope ["calls", "controls", "tubes", "orders", "answered", "begin", "end", "call", "answer"] ["calls"] (defScope s_answers) := ⟨rfl, rfl, rfl, by decide +kernel, rfl, by decide +kernel, by decide +kernel⟩
/-- the addresses and the function objects that the top has made -/
structure Ad where
  c_Controls : Addr
  c_Order : Addr
  c_Orders : Addr
  c_Tube : Addr
  c_Tubes : Addr
  f_one_sided : Addr
  d_one_sided : FuncData
  f_broken_in_a_row : Addr
  d_broken_in_a_row : FuncData
  f_far_apart : Addr
  d_far_apart : FuncData
  f_broken_rules : Addr
  d_broken_rules : FuncData
  f_Controls_init : Addr
  d_Controls_init : FuncData
  f_Controls_start : Addr
  d_Controls_start : FuncData
  f_Controls_batch : Addr
  d_Controls_batch : FuncData
  f_Controls_how_many : Addr
  d_Controls_how_many : FuncData
  f_Controls_keep : Addr
  d_Controls_keep : FuncData
  f_Controls_forget : Addr
  d_Controls_forget : FuncData
  f_leave_batch : Addr
  d_leave_batch : FuncData
  f_Order_init : Addr
  d_Order_init : FuncData
  f_Orders_init : Addr
  d_Orders_init : FuncData
  f_Orders_start : Addr
  d_Orders_start : FuncData
  f_Orders_order : Addr
  d_Orders_order : FuncData
  f_Orders_begin_batch : Addr
  d_Orders_begin_batch : FuncData
  f_Orders_run : Addr
  d_Orders_run : FuncData
  f_Orders_result : Addr
  d_Orders_result : FuncData
  f_Orders_close : Addr
  d_Orders_close : FuncData
  f_Orders_give : Addr
  d_Orders_give : FuncData
  f_Orders_state : Addr
  d_Orders_state : FuncData
  f_Orders_has : Addr
  d_Orders_has : FuncData
  f_spot_of : Addr
  d_spot_of : FuncData
  f_Tube_init : Addr
  d_Tube_init : FuncData
  f_Tubes_init : Addr
  d_Tubes_init : FuncData
  f_Tubes_start : Addr
  d_Tubes_start : FuncData
  f_Tubes_sample : Addr
  d_Tubes_sample : FuncData
  f_Tubes_take : Addr
  d_Tubes_take : FuncData
  f_Tubes_use : Addr
  d_Tubes_use : FuncData
  f_Tubes_put : Addr
  d_Tubes_put : FuncData
  f_Tubes_at : Addr
  d_Tubes_at : FuncData
  f_Tubes_of : Addr
  d_Tubes_of : FuncData
  f_Tubes_sum_of : Addr
  d_Tubes_sum_of : FuncData
  f_Tubes_has : Addr
  d_Tubes_has : FuncData
  f_Tubes_is_full : Addr
  d_Tubes_is_full : FuncData
  f_Tubes_add : Addr
  d_Tubes_add : FuncData
  f_Tubes_refusal_to_draw : Addr
  d_Tubes_refusal_to_draw : FuncData
  f_Tubes_standing_at : Addr
  d_Tubes_standing_at : FuncData
  f_call_end : Addr
  d_call_end : FuncData
  f_controls_answer : Addr
  d_controls_answer : FuncData
  f_tubes_answer : Addr
  d_tubes_answer : FuncData
  f_orders_answer : Addr
  d_orders_answer : FuncData
  f_answers : Addr
  d_answers : FuncData
structure Txt (K : PySem.W.Frag) (mg : Str → Option Value) (a : Ad) : Prop where
  cl_Controls : Cls K a.c_Controls
  mk_Controls : Mk K a.c_Controls a.f_Controls_init
  g_Controls : mg "Controls" = some (.ref a.c_Controls)
  n_Controls_mean : NoAttr K a.c_Controls "mean"
  n_Controls_spread : NoAttr K a.c_Controls "spread"
  n_Controls_counted : NoAttr K a.c_Controls "counted"
  n_Controls_recent : NoAttr K a.c_Controls "recent"
  cl_Order : Cls K a.c_Order
  mk_Order : Mk K a.c_Order a.f_Order_init
  g_Order : mg "Order" = some (.ref a.c_Order)
  n_Order_patient : NoAttr K a.c_Order "patient"
  n_Order_test : NoAttr K a.c_Order "test"
  n_Order_stage : NoAttr K a.c_Order "stage"
  n_Order_value : NoAttr K a.c_Order "value"
  cl_Orders : Cls K a.c_Orders
  mk_Orders : Mk K a.c_Orders a.f_Orders_init
  g_Orders : mg "Orders" = some (.ref a.c_Orders)
  n_Orders_orders : NoAttr K a.c_Orders "orders"
  n_Orders_batches : NoAttr K a.c_Orders "batches"
  cl_Tube : Cls K a.c_Tube
  mk_Tube : Mk K a.c_Tube a.f_Tube_init
  g_Tube : mg "Tube" = some (.ref a.c_Tube)
  n_Tube_patient : NoAttr K a.c_Tube "patient"
  n_Tube_origin : NoAttr K a.c_Tube "origin"
  n_Tube_depth : NoAttr K a.c_Tube "depth"
  n_Tube_left : NoAttr K a.c_Tube "left"
  n_Tube_spot : NoAttr K a.c_Tube "spot"
  n_Tube_used : NoAttr K a.c_Tube "used"
  cl_Tubes : Cls K a.c_Tubes
  mk_Tubes : Mk K a.c_Tubes a.f_Tubes_init
  g_Tubes : mg "Tubes" = some (.ref a.c_Tubes)
  n_Tubes_tubes : NoAttr K a.c_Tubes "tubes"
  F_one_sided : Fun K "one_sided" "one_sided" s_one_sided a.f_one_sided a.d_one_sided
  b_one_sided : Binds K a.d_one_sided ["offsets", "many", "bound"] []
  g_one_sided : mg "one_sided" = some (.ref a.f_one_sided)
  kp_one_sided : PySem.W.keepIn K (.ref a.f_one_sided) = true
  F_broken_in_a_row : Fun K "broken_in_a_row" "broken_in_a_row" s_broken_in_a_row a.f_broken_in_a_row a.d_broken_in_a_row
  b_broken_in_a_row : Binds K a.d_broken_in_a_row ["offsets", "spread"] []
  g_broken_in_a_row : mg "broken_in_a_row" = some (.ref a.f_broken_in_a_row)
  kp_broken_in_a_row : PySem.W.keepIn K (.ref a.f_broken_in_a_row) = true
  F_far_apart : Fun K "far_apart" "far_apart" s_far_apart a.f_far_apart a.d_far_apart
  b_far_apart : Binds K a.d_far_apart ["offsets", "bound"] []
  g_far_apart : mg "far_apart" = some (.ref a.f_far_apart)
  kp_far_apart : PySem.W.keepIn K (.ref a.f_far_apart) = true
  F_broken_rules : Fun K "broken_rules" "broken_rules" s_broken_rules a.f_broken_rules a.d_broken_rules
  b_broken_rules : Binds K a.d_broken_rules ["before", "batch", "spread"] []
  g_broken_rules : mg "broken_rules" = some (.ref a.f_broken_rules)
  kp_broken_rules : PySem.W.keepIn K (.ref a.f_broken_rules) = true
  F_Controls_init : Fun K "__init__" "Controls.__init__" s_Controls_init a.f_Controls_init a.d_Controls_init
  b_Controls_init : Binds K a.d_Controls_init ["self"] []
  m_Controls_init : Meth K a.c_Controls "__init__" a.f_Controls_init
  F_Controls_start : Fun K "start" "Controls.start" s_Controls_start a.f_Controls_start a.d_Controls_start
  b_Controls_start : Binds K a.d_Controls_start ["self", "mean", "spread"] []
  m_Controls_start : Meth K a.c_Controls "start" a.f_Controls_start
  F_Controls_batch : Fun K "batch" "Controls.batch" s_Controls_batch a.f_Controls_batch a.d_Controls_batch
  b_Controls_batch : Binds K a.d_Controls_batch ["self", "values"] []
  m_Controls_batch : Meth K a.c_Controls "batch" a.f_Controls_batch
  F_Controls_how_many : Fun K "how_many" "Controls.how_many" s_Controls_how_many a.f_Controls_how_many a.d_Controls_how_many
  b_Controls_how_many : Binds K a.d_Controls_how_many ["self"] []
  m_Controls_how_many : Meth K a.c_Controls "how_many" a.f_Controls_how_many
  F_Controls_keep : Fun K "keep" "Controls.keep" s_Controls_keep a.f_Controls_keep a.d_Controls_keep
  b_Controls_keep : Binds K a.d_Controls_keep ["self", "offsets"] []
  m_Controls_keep : Meth K a.c_Controls "keep" a.f_Controls_keep
  F_Controls_forget : Fun K "forget" "Controls.forget" s_Controls_forget a.f_Controls_forget a.d_Controls_forget
  b_Controls_forget : Binds K a.d_Controls_forget ["self"] []
  m_Controls_forget : Meth K a.c_Controls "forget" a.f_Controls_forget
  F_leave_batch : Fun K "leave_batch" "leave_batch" s_leave_batch a.f_leave_batch a.d_leave_batch
  b_leave_batch : Binds K a.d_leave_batch ["order", "broken"] []
  g_leave_batch : mg "leave_batch" = some (.ref a.f_leave_batch)
  kp_leave_batch : PySem.W.keepIn K (.ref a.f_leave_batch) = true
  F_Order_init : Fun K "__init__" "Order.__init__" s_Order_init a.f_Order_init a.d_Order_init
  b_Order_init : Binds K a.d_Order_init ["self", "patient", "test"] []
  m_Order_init : Meth K a.c_Order "__init__" a.f_Order_init
  F_Orders_init : Fun K "__init__" "Orders.__init__" s_Orders_init a.f_Orders_init a.d_Orders_init
  b_Orders_init : Binds K a.d_Orders_init ["self"] []
  m_Orders_init : Meth K a.c_Orders "__init__" a.f_Orders_init
  F_Orders_start : Fun K "start" "Orders.start" s_Orders_start a.f_Orders_start a.d_Orders_start
  b_Orders_start : Binds K a.d_Orders_start ["self"] []
  m_Orders_start : Meth K a.c_Orders "start" a.f_Orders_start
  F_Orders_order : Fun K "order" "Orders.order" s_Orders_order a.f_Orders_order a.d_Orders_order
  b_Orders_order : Binds K a.d_Orders_order ["self", "patient", "test"] []
  m_Orders_order : Meth K a.c_Orders "order" a.f_Orders_order
  F_Orders_begin_batch : Fun K "begin_batch" "Orders.begin_batch" s_Orders_begin_batch a.f_Orders_begin_batch a.d_Orders_begin_batch
  b_Orders_begin_batch : Binds K a.d_Orders_begin_batch ["self", "test"] []
  m_Orders_begin_batch : Meth K a.c_Orders "begin_batch" a.f_Orders_begin_batch
  F_Orders_run : Fun K "run" "Orders.run" s_Orders_run a.f_Orders_run a.d_Orders_run
  b_Orders_run : Binds K a.d_Orders_run ["self", "number", "patient"] []
  m_Orders_run : Meth K a.c_Orders "run" a.f_Orders_run
  F_Orders_result : Fun K "result" "Orders.result" s_Orders_result a.f_Orders_result a.d_Orders_result
  b_Orders_result : Binds K a.d_Orders_result ["self", "number", "value"] []
  m_Orders_result : Meth K a.c_Orders "result" a.f_Orders_result
  F_Orders_close : Fun K "close" "Orders.close" s_Orders_close a.f_Orders_close a.d_Orders_close
  b_Orders_close : Binds K a.d_Orders_close ["self", "test", "broken"] []
  m_Orders_close : Meth K a.c_Orders "close" a.f_Orders_close
  F_Orders_give : Fun K "give" "Orders.give" s_Orders_give a.f_Orders_give a.d_Orders_give
  b_Orders_give : Binds K a.d_Orders_give ["self", "number"] []
  m_Orders_give : Meth K a.c_Orders "give" a.f_Orders_give
  F_Orders_state : Fun K "state" "Orders.state" s_Orders_state a.f_Orders_state a.d_Orders_state
  b_Orders_state : Binds K a.d_Orders_state ["self", "number"] []
  m_Orders_state : Meth K a.c_Orders "state" a.f_Orders_state
  F_Orders_has : Fun K "has" "Orders.has" s_Orders_has a.f_Orders_has a.d_Orders_has
  b_Orders_has : Binds K a.d_Orders_has ["self", "number"] []
  m_Orders_has : Meth K a.c_Orders "has" a.f_Orders_has
  F_spot_of : Fun K "spot_of" "spot_of" s_spot_of a.f_spot_of a.d_spot_of
  b_spot_of : Binds K a.d_spot_of ["rack", "place"] []
  g_spot_of : mg "spot_of" = some (.ref a.f_spot_of)
  kp_spot_of : PySem.W.keepIn K (.ref a.f_spot_of) = true
  F_Tube_init : Fun K "__init__" "Tube.__init__" s_Tube_init a.f_Tube_init a.d_Tube_init
  b_Tube_init : Binds K a.d_Tube_init ["self", "patient", "origin", "depth", "left"] []
  m_Tube_init : Meth K a.c_Tube "__init__" a.f_Tube_init
  F_Tubes_init : Fun K "__init__" "Tubes.__init__" s_Tubes_init a.f_Tubes_init a.d_Tubes_init
  b_Tubes_init : Binds K a.d_Tubes_init ["self"] []
  m_Tubes_init : Meth K a.c_Tubes "__init__" a.f_Tubes_init
  F_Tubes_start : Fun K "start" "Tubes.start" s_Tubes_start a.f_Tubes_start a.d_Tubes_start
  b_Tubes_start : Binds K a.d_Tubes_start ["self"] []
  m_Tubes_start : Meth K a.c_Tubes "start" a.f_Tubes_start
  F_Tubes_sample : Fun K "sample" "Tubes.sample" s_Tubes_sample a.f_Tubes_sample a.d_Tubes_sample
  b_Tubes_sample : Binds K a.d_Tubes_sample ["self", "patient", "volume"] []
  m_Tubes_sample : Meth K a.c_Tubes "sample" a.f_Tubes_sample
  F_Tubes_take : Fun K "take" "Tubes.take" s_Tubes_take a.f_Tubes_take a.d_Tubes_take
  b_Tubes_take : Binds K a.d_Tubes_take ["self", "number", "volume"] []
  m_Tubes_take : Meth K a.c_Tubes "take" a.f_Tubes_take
  F_Tubes_use : Fun K "use" "Tubes.use" s_Tubes_use a.f_Tubes_use a.d_Tubes_use
  b_Tubes_use : Binds K a.d_Tubes_use ["self", "number", "volume"] []
  m_Tubes_use : Meth K a.c_Tubes "use" a.f_Tubes_use
  F_Tubes_put : Fun K "put" "Tubes.put" s_Tubes_put a.f_Tubes_put a.d_Tubes_put
  b_Tubes_put : Binds K a.d_Tubes_put ["self", "number", "rack", "place"] []
  m_Tubes_put : Meth K a.c_Tubes "put" a.f_Tubes_put
  F_Tubes_at : Fun K "at" "Tubes.at" s_Tubes_at a.f_Tubes_at a.d_Tubes_at
  b_Tubes_at : Binds K a.d_Tubes_at ["self", "rack", "place"] []
  m_Tubes_at : Meth K a.c_Tubes "at" a.f_Tubes_at
  F_Tubes_of : Fun K "of" "Tubes.of" s_Tubes_of a.f_Tubes_of a.d_Tubes_of
  b_Tubes_of : Binds K a.d_Tubes_of ["self", "number"] []
  m_Tubes_of : Meth K a.c_Tubes "of" a.f_Tubes_of
  F_Tubes_sum_of : Fun K "sum_of" "Tubes.sum_of" s_Tubes_sum_of a.f_Tubes_sum_of a.d_Tubes_sum_of
  b_Tubes_sum_of : Binds K a.d_Tubes_sum_of ["self", "number"] []
  m_Tubes_sum_of : Meth K a.c_Tubes "sum_of" a.f_Tubes_sum_of
  F_Tubes_has : Fun K "has" "Tubes.has" s_Tubes_has a.f_Tubes_has a.d_Tubes_has
  b_Tubes_has : Binds K a.d_Tubes_has ["self", "number"] []
  m_Tubes_has : Meth K a.c_Tubes "has" a.f_Tubes_has
  F_Tubes_is_full : Fun K "is_full" "Tubes.is_full" s_Tubes_is_full a.f_Tubes_is_full a.d_Tubes_is_full
  b_Tubes_is_full : Binds K a.d_Tubes_is_full ["self"] []
  m_Tubes_is_full : Meth K a.c_Tubes "is_full" a.f_Tubes_is_full
  F_Tubes_add : Fun K "add" "Tubes.add" s_Tubes_add a.f_Tubes_add a.d_Tubes_add
  b_Tubes_add : Binds K a.d_Tubes_add ["self", "tube"] []
  m_Tubes_add : Meth K a.c_Tubes "add" a.f_Tubes_add
  F_Tubes_refusal_to_draw : Fun K "refusal_to_draw" "Tubes.refusal_to_draw" s_Tubes_refusal_to_draw a.f_Tubes_refusal_to_draw a.d_Tubes_refusal_to_draw
  b_Tubes_refusal_to_draw : Binds K a.d_Tubes_refusal_to_draw ["self", "number", "volume"] []
  m_Tubes_refusal_to_draw : Meth K a.c_Tubes "refusal_to_draw" a.f_Tubes_refusal_to_draw
  F_Tubes_standing_at : Fun K "standing_at" "Tubes.standing_at" s_Tubes_standing_at a.f_Tubes_standing_at a.d_Tubes_standing_at
  b_Tubes_standing_at : Binds K a.d_Tubes_standing_at ["self", "spot"] []
  m_Tubes_standing_at : Meth K a.c_Tubes "standing_at" a.f_Tubes_standing_at
  F_call_end : Fun K "call_end" "call_end" s_call_end a.f_call_end a.d_call_end
  b_call_end : Binds K a.d_call_end ["calls", "begin"] []
  g_call_end : mg "call_end" = some (.ref a.f_call_end)
  kp_call_end : PySem.W.keepIn K (.ref a.f_call_end) = true
  F_controls_answer : Fun K "controls_answer" "controls_answer" s_controls_answer a.f_controls_answer a.d_controls_answer
  b_controls_answer : Binds K a.d_controls_answer ["controls", "call"] []
  g_controls_answer : mg "controls_answer" = some (.ref a.f_controls_answer)
  kp_controls_answer : PySem.W.keepIn K (.ref a.f_controls_answer) = true
  F_tubes_answer : Fun K "tubes_answer" "tubes_answer" s_tubes_answer a.f_tubes_answer a.d_tubes_answer
  b_tubes_answer : Binds K a.d_tubes_answer ["tubes", "call"] []
  g_tubes_answer : mg "tubes_answer" = some (.ref a.f_tubes_answer)
  kp_tubes_answer : PySem.W.keepIn K (.ref a.f_tubes_answer) = true
  F_orders_answer : Fun K "orders_answer" "orders_answer" s_orders_answer a.f_orders_answer a.d_orders_answer
  b_orders_answer : Binds K a.d_orders_answer ["orders", "call"] []
  g_orders_answer : mg "orders_answer" = some (.ref a.f_orders_answer)
  kp_orders_answer : PySem.W.keepIn K (.ref a.f_orders_answer) = true
  F_answers : Fun K "answers" "answers" s_answers a.f_answers a.d_answers
  b_answers : Binds K a.d_answers ["calls"] []
  g_answers : mg "answers" = some (.ref a.f_answers)
  kp_answers : PySem.W.keepIn K (.ref a.f_answers) = true
  k_NO_SUCH : ∃ t, mg "NO_SUCH" = some (.int (-2) t)
  k_NOT_NOW : ∃ t, mg "NOT_NOW" = some (.int (-11) t)
  k_BUSY : ∃ t, mg "BUSY" = some (.int (-16) t)
  k_ALREADY : ∃ t, mg "ALREADY" = some (.int (-17) t)
  k_NOT_AS_TOLD : ∃ t, mg "NOT_AS_TOLD" = some (.int (-22) t)
  k_FULL : ∃ t, mg "FULL" = some (.int (-28) t)
  k_TOO_LITTLE : ∃ t, mg "TOO_LITTLE" = some (.int (-61) t)
  k_OTHER_PATIENT : ∃ t, mg "OTHER_PATIENT" = some (.int (-71) t)
  k_FARTHEST_MEAN : ∃ t, mg "FARTHEST_MEAN" = some (.int 1000000000 t)
  k_WIDEST_SPREAD : ∃ t, mg "WIDEST_SPREAD" = some (.int 1000000 t)
  k_MOST_VALUES : ∃ t, mg "MOST_VALUES" = some (.int 8 t)
  k_MOST_COUNTED : ∃ t, mg "MOST_COUNTED" = some (.int 1000000 t)
  k_LOOKED_BACK : ∃ t, mg "LOOKED_BACK" = some (.int 9 t)
  k_MOST_ORDERS : ∃ t, mg "MOST_ORDERS" = some (.int 256 t)
  k_LAST_TEST : ∃ t, mg "LAST_TEST" = some (.int 15 t)
  k_WAITS : ∃ t, mg "WAITS" = some (.int 0 t)
  k_IN_BATCH : ∃ t, mg "IN_BATCH" = some (.int 1 t)
  k_HAS_RESULT : ∃ t, mg "HAS_RESULT" = some (.int 2 t)
  k_READY : ∃ t, mg "READY" = some (.int 3 t)
  k_GIVEN_OUT : ∃ t, mg "GIVEN_OUT" = some (.int 4 t)
  k_MOST_TUBES : ∃ t, mg "MOST_TUBES" = some (.int 256 t)
  k_LAST_RACK : ∃ t, mg "LAST_RACK" = some (.int 15 t)
  k_LAST_PLACE : ∃ t, mg "LAST_PLACE" = some (.int 95 t)
  k_NOWHERE : ∃ t, mg "NOWHERE" = some (.int (-1) t)
  k_LEFT_MODULUS : ∃ t, mg "LEFT_MODULUS" = some (.int 2147483648 t)
  k_START_CONTROLS : ∃ t, mg "START_CONTROLS" = some (.int 0 t)
  k_BATCH : ∃ t, mg "BATCH" = some (.int 1 t)
  k_START_TUBES : ∃ t, mg "START_TUBES" = some (.int 10 t)
  k_SAMPLE : ∃ t, mg "SAMPLE" = some (.int 11 t)
  k_TAKE : ∃ t, mg "TAKE" = some (.int 12 t)
  k_USE : ∃ t, mg "USE" = some (.int 13 t)
  k_PUT : ∃ t, mg "PUT" = some (.int 14 t)
  k_AT : ∃ t, mg "AT" = some (.int 15 t)
  k_OF : ∃ t, mg "OF" = some (.int 16 t)
  k_START_ORDERS : ∃ t, mg "START_ORDERS" = some (.int 20 t)
  k_ORDER : ∃ t, mg "ORDER" = some (.int 21 t)
  k_BEGIN_BATCH : ∃ t, mg "BEGIN_BATCH" = some (.int 22 t)
  k_RUN : ∃ t, mg "RUN" = some (.int 23 t)
  k_RESULT : ∃ t, mg "RESULT" = some (.int 24 t)
  k_CLOSE : ∃ t, mg "CLOSE" = some (.int 25 t)
  k_GIVE : ∃ t, mg "GIVE" = some (.int 26 t)
  d_HANDED_OVER : KD K mg "HANDED_OVER" [(0, 2), (2, 0), (10, 0), (11, 2), (12, 2), (13, 2), (14, 3), (15, 2), (16, 1), (17, 1), (20, 0), (21, 2), (22, 1), (23, 2), (24, 2), (25, 2), (26, 1), (27, 1)]
  n_enumerate : mg "enumerate" = none
  n_len : mg "len" = none
  n_list : mg "list" = none
  n_max : mg "max" = none
  n_min : mg "min" = none
  n_sum : mg "sum" = none
end WL

namespace WL
open PySem L2
def fl_Controls (v0 v1 v2 v3 : V) : List (Str × V) := [("mean", v0), ("spread", v1), ("counted", v2), ("recent", v3)]
theorem fl_Controls_get_mean {v0 v1 v2 v3 : V} : (fl_Controls v0 v1 v2 v3).lookup ("mean" : Str) = some v0 := lk_hd
theorem fl_Controls_put_mean {v0 v1 v2 v3 y : V} : putF ("mean" : Str) y (fl_Controls v0 v1 v2 v3) = fl_Controls y v1 v2 v3 := pf_hd
theorem fl_Controls_get_spread {v0 v1 v2 v3 : V} : (fl_Controls v0 v1 v2 v3).lookup ("spread" : Str) = some v1 := (lk_tl (by decide +kernel)).trans (lk_hd)
theorem fl_Controls_put_spread {v0 v1 v2 v3 y : V} : putF ("spread" : Str) y (fl_Controls v0 v1 v2 v3) = fl_Controls v0 y v2 v3 := (pf_tl (by decide +kernel)).trans (congrArg (List.cons _) (pf_hd))
theorem fl_Controls_get_counted {v0 v1 v2 v3 : V} : (fl_Controls v0 v1 v2 v3).lookup ("counted" : Str) = some v2 := (lk_tl (by decide +kernel)).trans ((lk_tl (by decide +kernel)).trans (lk_hd))
theorem fl_Controls_put_counted {v0 v1 v2 v3 y : V} : putF ("counted" : Str) y (fl_Controls v0 v1 v2 v3) = fl_Controls v0 v1 y v3 := (pf_tl (by decide +kernel)).trans (congrArg (List.cons _) ((pf_tl (by decide +kernel)).trans (congrArg (List.cons _) (pf_hd))))
theorem fl_Controls_get_recent {v0 v1 v2 v3 : V} : (fl_Controls v0 v1 v2 v3).lookup ("recent" : Str) = some v3 := (lk_tl (by decide +kernel)).trans ((lk_tl (by decide +kernel)).trans ((lk_tl (by decide +kernel)).trans (lk_hd)))
theorem fl_Controls_put_recent {v0 v1 v2 v3 y : V} : putF ("recent" : Str) y (fl_Controls v0 v1 v2 v3) = fl_Controls v0 v1 v2 y := (pf_tl (by decide +kernel)).trans (congrArg (List.cons _) ((pf_tl (by decide +kernel)).trans (congrArg (List.cons _) ((pf_tl (by decide +kernel)).trans (congrArg (List.cons _) (pf_hd))))))
theorem fl_Controls_no_init {v0 v1 v2 v3 : V} : (fl_Controls v0 v1 v2 v3).lookup ("__init__" : Str) = none := (lk_tl (by decide +kernel)).trans ((lk_tl (by decide +kernel)).trans ((lk_tl (by decide +kernel)).trans ((lk_tl (by decide +kernel)).trans (rfl))))
theorem fl_Controls_no_start {v0 v1 v2 v3 : V} : (fl_Controls v0 v1 v2 v3).lookup ("start" : Str) = none := (lk_tl (by decide +kernel)).trans ((lk_tl (by decide +kernel)).trans ((lk_tl (by decide +kernel)).trans ((lk_tl (by decide +kernel)).trans (rfl))))
theorem fl_Controls_no_batch {v0 v1 v2 v3 : V} : (fl_Controls v0 v1 v2 v3).lookup ("batch" : Str) = none := (lk_tl (by decide +kernel)).trans ((lk_tl (by decide +kernel)).trans ((lk_tl (by decide +kernel)).trans ((lk_tl (by decide +kernel)).trans (rfl))))
theorem fl_Controls_no_how_many {v0 v1 v2 v3 : V} : (fl_Controls v0 v1 v2 v3).lookup ("how_many" : Str) = none := (lk_tl (by decide +kernel)).trans ((lk_tl (by decide +kernel)).trans ((lk_tl (by decide +kernel)).trans ((lk_tl (by decide +kernel)).trans (rfl))))
theorem fl_Controls_no_keep {v0 v1 v2 v3 : V} : (fl_Controls v0 v1 v2 v3).lookup ("keep" : Str) = none := (lk_tl (by decide +kernel)).trans ((lk_tl (by decide +kernel)).trans ((lk_tl (by decide +kernel)).trans ((lk_tl (by decide +kernel)).trans (rfl))))
theorem fl_Controls_no_forget {v0 v1 v2 v3 : V} : (fl_Controls v0 v1 v2 v3).lookup ("forget" : Str) = none := (lk_tl (by decide +kernel)).trans ((lk_tl (by decide +kernel)).trans ((lk_tl (by decide +kernel)).trans ((lk_tl (by decide +kernel)).trans (rfl))))
theorem fl_Controls_len {v0 v1 v2 v3 : V} : (fl_Controls v0 v1 v2 v3).length < 1000 := by show 4 < 1000; decide
theorem fl_Controls_new0 {v0 : V} : putF ("mean" : Str) v0 ([] : List (Str × V)) = ([("mean", v0)] : List (Str × V)) := rfl
theorem fl_Controls_new1 {v0 v1 : V} : putF ("spread" : Str) v1 ([("mean", v0)] : List (Str × V)) = ([("mean", v0), ("spread", v1)] : List (Str × V)) := (pf_tl (by decide +kernel)).trans (congrArg (List.cons _) (rfl))
theorem fl_Controls_new2 {v0 v1 v2 : V} : putF ("counted" : Str) v2 ([("mean", v0), ("spread", v1)] : List (Str × V)) = ([("mean", v0), ("spread", v1), ("counted", v2)] : List (Str × V)) := (pf_tl (by decide +kernel)).trans (congrArg (List.cons _) ((pf_tl (by decide +kernel)).trans (congrArg (List.cons _) (rfl))))
theorem fl_Controls_new3 {v0 v1 v2 v3 : V} : putF ("recent" : Str) v3 ([("mean", v0), ("spread", v1), ("counted", v2)] : List (Str × V)) = ([("mean", v0), ("spread", v1), ("counted", v2), ("recent", v3)] : List (Str × V)) := (pf_tl (by decide +kernel)).trans (congrArg (List.cons _) ((pf_tl (by decide +kernel)).trans (congrArg (List.cons _) ((pf_tl (by decide +kernel)).trans (congrArg (List.cons _) (rfl))))))
/-! ## slices -/
theorem cut_from (xs : List V) (k : Nat) (hk : k ≤ xs.length) : cutV xs (some (k : Int)) none = xs.drop k := by
  unfold cutV
  rw [HT.sIx_nat, HT.sIx_none, Nat.min_eq_left hk]
  exact List.take_of_length_le (by rw [List.length_drop]; exact Nat.le_refl _)
theorem cut_neg (xs : List V) (k : Nat) (hk : 0 < k) : cutV xs (some (-(k : Int))) none = xs.drop (xs.length - k) := by
  unfold cutV
  have e : HT.sIx xs.length 0 (some (-(k : Int))) = xs.length - k := by
    show (if -(k : Int) < 0 then (-(k : Int) + (xs.length : Int)).toNat else min (-(k : Int)).toNat xs.length) = xs.length - k
    rw [if_pos (by omega)]
    omega
  rw [e, HT.sIx_none]
  exact List.take_of_length_le (by rw [List.length_drop]; exact Nat.le_refl _)
theorem cut_mid (xs : List V) (i j : Nat) (hij : i ≤ j) (hj : j ≤ xs.length) : cutV xs (some (i : Int)) (some (j : Int)) = (xs.drop i).take (j - i) := by
  unfold cutV
  rw [HT.sIx_nat, HT.sIx_nat, Nat.min_eq_left hj, Nat.min_eq_left (by omega)]
/-! ## the promises -/
def sp_one_sided (K : PySem.W.Frag) (_ : Ad) : Sp := fun vs H Q _ => ∃ (l : Addr) (offs : List Int) (m : Nat) (b : Int), vs = [.ref l, .int m, .int b] ∧ SqL K H l (offs.map V.int) ∧ 1 ≤ m ∧
  ∀ H', Same H H' → Q (.bl (oneSided offs m b)) H'
def sp_broken_in_a_row (K : PySem.W.Frag) (_ : Ad) : Sp := fun vs H Q _ => ∃ (l : Addr) (offs : List Int) (s : Int), vs = [.ref l, .int s] ∧ SqL K H l (offs.map V.int) ∧ ∀ H', Same H H' → Q (.int (rowMask offs s)) H'
def sp_far_apart (K : PySem.W.Frag) (_ : Ad) : Sp := fun vs H Q _ => ∃ (l : Addr) (xs : List Int) (b : Int), vs = [.ref l, .int b] ∧ SqL K H l (xs.map V.int) ∧ 0 < xs.length ∧ Q (.bl (farApart xs b)) H
def sp_broken_rules (K : PySem.W.Frag) (_ : Ad) : Sp := fun vs H Q _ => ∃ (lb la : Addr) (offs b : List Int) (s : Int), vs = [.ref lb, .ref la, .int s] ∧ SqL K H lb (offs.map V.int) ∧ SqL K H la (b.map V.int) ∧
  0 < b.length ∧ offs.length + b.length ≤ 100000 ∧ ∀ H', Same H H' → Q (.int (brokenMask offs b s)) H'
section
variable {P : Program} {w : World} {K : PySem.W.Frag} {mg : Str → Option Value} {base : Heap} {a : Ad}
theorem all_gt {xs : List Int} {mn b : Int} (h1 : mn ∈ xs) (h2 : ∀ y, y ∈ xs → mn ≤ y) : decide (b < mn) = xs.all (fun x => decide (b < x)) := by
  rw [Bool.eq_iff_iff, List.all_eq_true]
  simp only [decide_eq_true_eq]
  exact ⟨fun h x hx => by have := h2 x hx; omega, fun h => h mn h1⟩
theorem all_lt {xs : List Int} {mx b : Int} (h1 : mx ∈ xs) (h2 : ∀ y, y ∈ xs → y ≤ mx) : decide (mx < b) = xs.all (fun x => decide (x < b)) := by
  rw [Bool.eq_iff_iff, List.all_eq_true]
  simp only [decide_eq_true_eq]
  exact ⟨fun h x hx => by have := h2 x hx; omega, fun h => h mx h1⟩
theorem any_gt {xs : List Int} {mx b : Int} (h1 : mx ∈ xs) (h2 : ∀ y, y ∈ xs → y ≤ mx) : decide (b < mx) = xs.any (fun x => decide (b < x)) := by
  rw [Bool.eq_iff_iff, List.any_eq_true]
  simp only [decide_eq_true_eq]
  exact ⟨fun h => ⟨mx, h1, h⟩, fun ⟨x, hx, h⟩ => by have := h2 x hx; omega⟩
theorem any_lt {xs : List Int} {mn b : Int} (h1 : mn ∈ xs) (h2 : ∀ y, y ∈ xs → mn ≤ y) : decide (mn < b) = xs.any (fun x => decide (x < b)) := by
  rw [Bool.eq_iff_iff, List.any_eq_true]
  simp only [decide_eq_true_eq]
  exact ⟨fun h => ⟨mn, h1, h⟩, fun ⟨x, hx, h⟩ => by have := h2 x hx; omega⟩
theorem ok_one_sided (T : Txt K mg a) : FnOk P w K mg base CX0 1 a.f_one_sided a.d_one_sided ["offsets", "many", "bound"] (sp_one_sided K a) := by
  refine T.F_one_sided.ok sc_one_sided (fun vs H Q E h => ?_) (fun cdv A outer s H vs Q E hr h => ?_)
  · obtain ⟨l, offs, m, b, rfl, _⟩ := h
    rfl
  · obtain ⟨l, offs, m, b, rfl, hS, hm, k⟩ := h
    refine ⟨_, (pss_cons (ps_if (pt_cmpR op_lt (pe_callB call_len_seq rfl T.n_len PySem.boot_len (pa_cons (pv 0) pa_nil)) (pv 1) (nomark _)) (pss_one (ps_ret pe_bl)) pss_nil) (pss_cons (ps_set (i := 3) sc_one_sided.nd rfl (Or.inl rfl) (pe_slice sl_list (pv 0) (po_some (pe_op op_sub (pe_callB call_len_seq rfl T.n_len PySem.boot_len (pa_cons (pv 0) pa_nil)) (pv 1))) po_none)) (pss_one (ps_ret (pe_or (pe_cmpR op_gt (pe_callB (cr_min rfl) rfl T.n_min PyProof.Rows.boot_min (pa_cons (pv 3) pa_nil)) (pv 2) (nomark _)) (pe_one (pe_cmpR op_lt (pe_callB (cr_max rfl) rfl T.n_max PyProof.Rows.boot_max (pa_cons (pv 3) pa_nil)) (pe_un un_neg (pv 2)) (nomark _)))))))), ?_⟩
    refine ⟨_, rfl, l, _, rfl, .inl hS, _, rfl, _, _, rfl, rfl, _, rfl, ?_⟩
    refine x_ite (fun h => ?_) (fun h => ?_)
    · have h : (((offs.map V.int).length : Nat) : Int) < (m : Int) := h
      rw [List.length_map] at h
      have e : oneSided offs m b = false := by
        unfold oneSided
        rw [decide_eq_false (by omega), Bool.false_and]
      have q := k H (Same.refl _)
      rw [e] at q
      exact q
    · have h : ¬ (((offs.map V.int).length : Nat) : Int) < (m : Int) := h
      rw [List.length_map] at h
      have hml : m ≤ offs.length := by omega
      refine ⟨_, rfl, _, rfl, l, _, rfl, .inl hS, _, rfl, _, _, rfl, rfl, _, rfl, l, _, rfl, hS, fun p hp => ?_⟩
      have ec : cutV (offs.map V.int) (some ((((offs.map V.int).length : Nat) : Int) - (m : Int))) none = (offs.drop (offs.length - m)).map V.int := by
        have e1 : (((offs.map V.int).length : Nat) : Int) - (m : Int) = ((offs.length - m : Nat) : Int) := by
          rw [List.length_map]; omega
        rw [e1, cut_from _ _ (by rw [List.length_map]; omega), List.map_drop]
      have hP : SqL K (upd H p (.lst (cutV (offs.map V.int) (some ((((offs.map V.int).length : Nat) : Int) - (m : Int))) none))) p ((offs.drop (offs.length - m)).map V.int) := by
        rw [ec]; exact SqL.of upd_same
      have s1 : Same H (upd H p (.lst (cutV (offs.map V.int) (some ((((offs.map V.int).length : Nat) : Int) - (m : Int))) none))) := same_new hp
      have hpos : 0 < (offs.drop (offs.length - m)).length := by rw [List.length_drop]; omega
      have eo : oneSided offs m b = ((offs.drop (offs.length - m)).all (fun x => decide (b < x)) || (offs.drop (offs.length - m)).all (fun x => decide (x < -b))) := by
        unfold oneSided
        rw [decide_eq_true hml, Bool.true_and]
      refine ⟨_, rfl, p, _, rfl, hP, hpos, fun mn h1 h2 => ?_⟩
      refine ⟨_, rfl, _, _, rfl, rfl, _, rfl, ?_⟩
      refine x_ite (fun hb => ?_) (fun hb => ?_)
      · have q := k _ s1
        rw [eo, ← all_gt h1 h2, decide_eq_true hb, Bool.true_or] at q
        exact q
      · refine ⟨_, rfl, p, _, rfl, hP, hpos, fun mx h3 h4 => ?_⟩
        refine ⟨_, rfl, _, rfl, _, _, rfl, rfl, ?_⟩
        have q := k _ s1
        rw [eo, ← all_gt h1 h2, decide_eq_false hb, Bool.false_or, ← all_lt h3 h4] at q
        exact q
theorem set_self {σ : St} {i : Nat} {v : Option V} (h : σ[i]? = some v) : σ.set i v = σ := by
  obtain ⟨hi, e⟩ := List.getElem?_eq_some_iff.mp h
  subst e
  exact List.set_getElem_self hi
/-- if TEST: x = x + n -/
theorem x_addif {b : Bool} {i : Nat} {n x : Int} {u : TS} {D : Ends} {σ : St} {H : Hp} (hx : σ[i]? = some (some (.int x))) (h : u D (σ.set i (some (.int (x + b2i b n)))) H) :
    if b = true then tAsg (tOp (rI0 fun i j => .int (i + j)) (tVar i) (tC (.int n))) (gName i) { D with nx := u D } σ H else tNext { D with nx := u D } σ H := by
  cases b with
  | true =>
    rw [if_pos rfl]
    exact ⟨_, hx, _, _, rfl, rfl, h⟩
  | false =>
    rw [if_neg Bool.false_ne_true]
    have e : x + b2i false n = x := Int.add_zero x
    rw [e, set_self hx] at h
    exact h
theorem ok_broken_in_a_row (T : Txt K mg a) : FnOk P w K mg base CX0 2 a.f_broken_in_a_row a.d_broken_in_a_row ["offsets", "spread"] (sp_broken_in_a_row K a) := by
  have G_one_sided : FnOk P w K mg base CX0 1 a.f_one_sided a.d_one_sided ["offsets", "many", "bound"] (sp_one_sided K a) := ok_one_sided T
  refine T.F_broken_in_a_row.ok sc_broken_in_a_row (fun vs H Q E h => ?_) (fun cdv A outer s H vs Q E hr h => ?_)
  · obtain ⟨l, offs, s, rfl, _⟩ := h
    rfl
  · obtain ⟨l, offs, sp, rfl, hS, k⟩ := h
    refine ⟨_, (pss_cons (ps_set (i := 2) sc_broken_in_a_row.nd rfl (Or.inl rfl) pe_int) (pss_cons (ps_if (pt_val (pe_call G_one_sided (hr.mono (by decide)) rfl T.g_one_sided T.kp_one_sided T.b_one_sided .nil pass0 (pa_cons (pv 0) (pa_cons pe_int (pa_cons (pe_op op_mul pe_int (pv 1)) pa_nil))))) (pss_one (ps_set (i := 2) sc_broken_in_a_row.nd rfl (Or.inl rfl) (pe_op op_add (pv 2) pe_int))) pss_nil) (pss_cons (ps_if (pt_val (pe_call G_one_sided (hr.mono (by decide)) rfl T.g_one_sided T.kp_one_sided T.b_one_sided .nil pass0 (pa_cons (pv 0) (pa_cons pe_int (pa_cons (pe_op op_mul pe_int (pv 1)) pa_nil))))) (pss_one (ps_set (i := 2) sc_broken_in_a_row.nd rfl (Or.inl rfl) (pe_op op_add (pv 2) pe_int))) pss_nil) (pss_cons (ps_if (pt_val (pe_call G_one_sided (hr.mono (by decide)) rfl T.g_one_sided T.kp_one_sided T.b_one_sided .nil pass0 (pa_cons (pv 0) (pa_cons pe_int (pa_cons (pv 1) pa_nil))))) (pss_one (ps_set (i := 2) sc_broken_in_a_row.nd rfl (Or.inl rfl) (pe_op op_add (pv 2) pe_int))) pss_nil) (pss_cons (ps_if (pt_val (pe_call G_one_sided (hr.mono (by decide)) rfl T.g_one_sided T.kp_one_sided T.b_one_sided .nil pass0 (pa_cons (pv 0) (pa_cons pe_int (pa_cons pe_int pa_nil))))) (pss_one (ps_set (i := 2) sc_broken_in_a_row.nd rfl (Or.inl rfl) (pe_op op_add (pv 2) pe_int))) pss_nil) (pss_one (ps_ret (pv 2)))))))), ?_⟩
    refine ⟨_, rfl, _, rfl, _, _, rfl, rfl, .inl ⟨by decide, by decide⟩, l, offs, 1, _, rfl, hS, Nat.le_refl _, fun H1 s1 => ⟨_, rfl, ?_⟩⟩
    refine x_addif rfl ?_
    refine ⟨_, rfl, _, rfl, _, _, rfl, rfl, .inl ⟨by decide, by decide⟩, l, offs, 2, _, rfl, s1.seq hS, by decide, fun H2 s2 => ⟨_, rfl, ?_⟩⟩
    refine x_addif rfl ?_
    refine ⟨_, rfl, _, rfl, l, offs, 4, _, rfl, (s1.trans s2).seq hS, by decide, fun H3 s3 => ⟨_, rfl, ?_⟩⟩
    refine x_addif rfl ?_
    refine ⟨_, rfl, l, offs, 10, _, rfl, ((s1.trans s2).trans s3).seq hS, by decide, fun H4 s4 => ⟨_, rfl, ?_⟩⟩
    refine x_addif rfl ?_
    have q := k H4 (((s1.trans s2).trans s3).trans s4)
    refine ⟨_, rfl, ?_⟩
    have e : rowMask offs sp = 0 + b2i (oneSided offs 1 (3 * sp)) 1 + b2i (oneSided offs 2 (2 * sp)) 2 + b2i (oneSided offs 4 sp) 8 + b2i (oneSided offs 10 0) 16 := by
      unfold rowMask mask
      have z : b2i false 4 = 0 := rfl
      rw [z]
      omega
    rw [e] at q
    exact q
theorem ok_far_apart (T : Txt K mg a) : FnOk P w K mg base CX0 1 a.f_far_apart a.d_far_apart ["offsets", "bound"] (sp_far_apart K a) := by
  refine T.F_far_apart.ok sc_far_apart (fun vs H Q E h => ?_) (fun cdv A outer s H vs Q E hr h => ?_)
  · obtain ⟨l, xs, b, rfl, _⟩ := h
    rfl
  · obtain ⟨l, xs, b, rfl, hS, hpos, k⟩ := h
    refine ⟨_, (pss_one (ps_ret (pe_and (pe_cmpR op_gt (pe_callB (cr_max rfl) rfl T.n_max PyProof.Rows.boot_max (pa_cons (pv 0) pa_nil)) (pv 1) (nomark _)) (pe_one (pe_cmpR op_lt (pe_callB (cr_min rfl) rfl T.n_min PyProof.Rows.boot_min (pa_cons (pv 0) pa_nil)) (pe_un un_neg (pv 1)) (nomark _)))))), ?_⟩
    refine ⟨_, rfl, l, _, rfl, hS, hpos, fun mx h1 h2 => ?_⟩
    refine ⟨_, rfl, _, _, rfl, rfl, _, rfl, ?_⟩
    have e : farApart xs b = (decide (b < mx) && xs.any (fun x => decide (x < -b))) := by
      unfold farApart
      rw [any_gt h1 h2]
    rw [e] at k
    refine x_ite (fun hb => ?_) (fun hb => ?_)
    · refine ⟨_, rfl, l, _, rfl, hS, hpos, fun mn h3 h4 => ?_⟩
      refine ⟨_, rfl, _, rfl, _, _, rfl, rfl, ?_⟩
      rw [decide_eq_true hb, Bool.true_and, ← any_lt h3 h4] at k
      exact k
    · rw [decide_eq_false hb, Bool.false_and] at k
      exact k
theorem bitOr_mask (a b c d e a' b' c' d' e' : Bool) : PySem.Builtin.bitOr (mask a b c d e) (mask a' b' c' d' e') = mask (a || a') (b || b') (c || c') (d || d') (e || e') := by
  revert a b c d e a' b' c' d' e'
  decide +kernel
theorem anyRow_snoc (n : Nat) (bd : Int) : ∀ (offs xs : List Int) (y : Int), anyRow n bd offs (xs ++ [y]) = (anyRow n bd offs xs || oneSided (offs ++ xs ++ [y]) n bd)
  | offs, [], y => by
    show (oneSided (offs ++ [y]) n bd || false) = (false || oneSided (offs ++ [] ++ [y]) n bd)
    rw [List.append_nil, Bool.or_false, Bool.false_or]
  | offs, x :: xs, y => by
    show (oneSided (offs ++ [x]) n bd || anyRow n bd (offs ++ [x]) (xs ++ [y])) = ((oneSided (offs ++ [x]) n bd || anyRow n bd (offs ++ [x]) xs) || oneSided (offs ++ (x :: xs) ++ [y]) n bd)
    rw [anyRow_snoc n bd (offs ++ [x]) xs y, Bool.or_assoc]
    simp
def rowsMask (offs b : List Int) (sp : Int) : Int := mask (anyRow 1 (3 * sp) offs b) (anyRow 2 (2 * sp) offs b) false (anyRow 4 sp offs b) (anyRow 10 0 offs b)
theorem rowsMask_snoc (offs xs : List Int) (y sp : Int) : PySem.Builtin.bitOr (rowsMask offs xs sp) (rowMask (offs ++ (xs ++ [y])) sp) = rowsMask offs (xs ++ [y]) sp := by
  unfold rowsMask rowMask
  rw [bitOr_mask, anyRow_snoc, anyRow_snoc, anyRow_snoc, anyRow_snoc]
  simp only [List.append_assoc, Bool.or_false]
theorem take_snoc {α : Type} {l : List α} {i : Nat} {x : α} (h : l[i]? = some x) : l.take (i + 1) = l.take i ++ [x] := by
  rw [List.take_add_one, h]
  rfl
theorem get_map {l : List Int} {i : Nat} {y : V} (h : (l.map V.int)[i]? = some y) : ∃ z, l[i]? = some z ∧ y = V.int z := by
  rw [List.getElem?_map] at h
  cases e : l[i]? with
  | none => rw [e] at h; cases h
  | some z => rw [e] at h; exact ⟨z, rfl, (Option.some.inj h).symm⟩
theorem ok_broken_rules (T : Txt K mg a) : FnOk P w K mg base CX0 3 a.f_broken_rules a.d_broken_rules ["before", "batch", "spread"] (sp_broken_rules K a) := by
  have G_broken_in_a_row : FnOk P w K mg base CX0 2 a.f_broken_in_a_row a.d_broken_in_a_row ["offsets", "spread"] (sp_broken_in_a_row K a) := ok_broken_in_a_row T
  have G_far_apart : FnOk P w K mg base CX0 1 a.f_far_apart a.d_far_apart ["offsets", "bound"] (sp_far_apart K a) := ok_far_apart T
  refine T.F_broken_rules.ok sc_broken_rules (fun vs H Q E h => ?_) (fun cdv A outer s H vs Q E hr h => ?_)
  · obtain ⟨lb, la, offs, b, s, rfl, _⟩ := h
    rfl
  · obtain ⟨lb, la, offs, b, sp, rfl, hB, hA, hpos, hlen, k⟩ := h
    refine ⟨_, (pss_cons (ps_set (i := 3) sc_broken_rules.nd rfl (Or.inl rfl) (pe_callTy call_list_of rfl T.n_list PyProof.Rows.boot_list (pa_cons (pv 0) pa_nil))) (pss_cons (ps_set (i := 4) sc_broken_rules.nd rfl (Or.inl rfl) pe_int) (pss_cons (ps_for PassesOwn.never rfl (pi_list (pv 1)) (pg_name (i := 5) sc_broken_rules.nd rfl (Or.inl rfl)) (pss_cons (ps_expr (pe_bm PySem.F.plainAttrs_list PySem.F.slot_list_append PySem.F.type_list_append mt_append (pv 3) (pa_cons (pv 5) pa_nil))) (pss_one (ps_set (i := 4) sc_broken_rules.nd rfl (Or.inl rfl) (pe_op op_or (pv 4) (pe_call G_broken_in_a_row (hr.mono (by decide)) rfl T.g_broken_in_a_row T.kp_broken_in_a_row T.b_broken_in_a_row .nil pass0 (pa_cons (pv 3) (pa_cons (pv 2) pa_nil)))))))) (pss_cons (ps_if (pt_val (pe_call G_far_apart (hr.mono (by decide)) rfl T.g_far_apart T.kp_far_apart T.b_far_apart .nil pass0 (pa_cons (pv 1) (pa_cons (pe_op op_mul pe_int (pv 2)) pa_nil)))) (pss_one (ps_set (i := 4) sc_broken_rules.nd rfl (Or.inl rfl) (pe_op op_or (pv 4) pe_int))) pss_nil) (pss_one (ps_ret (pv 4))))))), ?_⟩
    -- offsets = list(before); broken = 0
    refine ⟨_, rfl, lb, _, rfl, .inl hB, fun lo hlo => ?_⟩
    have s0 : Same H (upd H lo (.lst (offs.map V.int))) := same_new hlo
    -- for offset in batch
    refine ⟨_, rfl, la, rfl, ⟨_, s0.seq hA⟩, for_list (K := K) (a := la) (xs := b.map V.int) (fun i σ H2 => ∃ v : Option V, σ = [some (.ref lb), some (.ref la), some (.int sp), some (.ref lo), some (.int (rowsMask offs (b.take i) sp)), v] ∧ Same H H2 ∧ H2 lo = some (.lst ((offs ++ b.take i).map V.int)))
      ⟨none, rfl, s0, by rw [List.take_zero, List.append_nil]; exact upd_same⟩ (fun i σ H2 _ ⟨_, _, s2, _⟩ => s2.seq hA) ?_ ?_⟩
    · rintro i y σ H2 hi ⟨v, rfl, s2, ho⟩
      obtain ⟨z, hz, rfl⟩ := get_map hi
      have hil : i < b.length := (List.getElem?_eq_some_iff.mp hz).1
      have hll : ((offs ++ b.take i).map V.int).length < sizeLine := by
        rw [List.length_map, List.length_append, List.length_take]
        have : sizeLine = 16777216 := sizeLine_eq
        omega
      refine ⟨_, rfl, .inl ⟨rfl, _, SqL.of ho⟩, _, rfl, lo, _, _, rfl, rfl, ho, hll, ?_⟩
      have ea : ((offs ++ b.take i).map V.int) ++ [V.int z] = (offs ++ b.take (i + 1)).map V.int := by
        rw [take_snoc hz]
        simp
      rw [ea]
      have s3 : Same H (upd H2 lo (.lst ((offs ++ b.take (i + 1)).map V.int))) := fun c o e => by
        rw [upd_ne (ne_of_none e hlo)]
        exact s2 c o e
      refine ⟨_, rfl, _, rfl, _, rfl, lo, offs ++ b.take (i + 1), sp, rfl, SqL.of upd_same, fun H4 s4 => ⟨_, _, rfl, rfl, ?_⟩⟩
      have e := rowsMask_snoc offs (b.take i) z sp
      rw [← take_snoc hz] at e
      refine ⟨some (.int z), ?_, s3.trans s4, s4 _ _ upd_same⟩
      rw [← e]
      rfl
    · rintro σ H2 ⟨v, rfl, s2, ho⟩
      rw [List.length_map, List.take_of_length_le (Nat.le_refl _)] at *
      -- if far_apart(batch, 2 * spread)
      refine ⟨_, rfl, _, rfl, _, _, rfl, rfl, .inl ⟨by decide, by decide⟩, la, b, _, rfl, s2.seq hA, hpos, ⟨_, rfl, ?_⟩⟩
      have q := k H2 s2
      refine x_iteb (fun hb => ?_) (fun hb => ?_)
      · refine ⟨_, rfl, _, _, rfl, rfl, ?_⟩
        refine ⟨_, rfl, ?_⟩
        have e : PySem.Builtin.bitOr (rowsMask offs b sp) 4 = brokenMask offs b sp := by
          have e4 : (4 : Int) = mask false false true false false := rfl
          unfold rowsMask brokenMask
          rw [e4, bitOr_mask, hb]
          simp
        rw [← e] at q
        exact q
      · refine ⟨_, rfl, ?_⟩
        have e : brokenMask offs b sp = rowsMask offs b sp := by
          unfold rowsMask brokenMask
          rw [hb]
        rw [e] at q
        exact q
end
end WL

namespace WL
open PySem L2
/-! ## the object -/
structure CtlAt (a : Ad) (H : Hp) (p r : Addr) (m s n : Int) (rc : List Int) : Prop where
  ob : ∃ dx, H p = some (.ins a.c_Controls dx (fl_Controls (.int m) (.int s) (.int n) (.ref r)))
  ls : H r = some (.lst (rc.map V.int))
theorem CtlAt.keep {a : Ad} {H H' : Hp} {p r : Addr} {m s n : Int} {rc : List Int} (c : CtlAt a H p r m s n rc) (k : ∀ b o, H b = some o → b = p ∨ b = r → H' b = some o) : CtlAt a H' p r m s n rc := by
  obtain ⟨⟨dx, h1⟩, h2⟩ := c
  exact ⟨⟨dx, k _ _ h1 (.inl rfl)⟩, k _ _ h2 (.inr rfl)⟩
theorem CtlAt.ne {a : Ad} {H : Hp} {p r : Addr} {m s n : Int} {rc : List Int} (c : CtlAt a H p r m s n rc) : p ≠ r := by
  obtain ⟨⟨dx, h1⟩, h2⟩ := c
  exact ne_of h1 h2 (by intro z; cases z)
def sp_Controls_init (_ : PySem.W.Frag) (a : Ad) : Sp := fun vs H Q _ => ∃ (p dx : Addr), vs = [.ref p] ∧ H p = some (.ins a.c_Controls dx []) ∧ ∀ r H', CtlAt a H' p r 0 1 0 [] → Frm [p] [p, r] H H' → Q .non H'
def sp_Controls_forget (_ : PySem.W.Frag) (a : Ad) : Sp := fun vs H Q _ => ∃ (p r : Addr) (m s n : Int) (rc : List Int), vs = [.ref p] ∧ CtlAt a H p r m s n rc ∧ ∀ r' H', CtlAt a H' p r' m s 0 [] → Frm [p] [p, r'] H H' → Q .non H'
def sp_Controls_keep (_ : PySem.W.Frag) (a : Ad) : Sp := fun vs H Q _ => ∃ (p r l : Addr) (m s n : Int) (rc xs : List Int), vs = [.ref p, .ref l] ∧ CtlAt a H p r m s n rc ∧ H l = some (.lst (xs.map V.int)) ∧ rc.length + xs.length ≤ 100000 ∧
  ∀ r' H', CtlAt a H' p r' m s (n + xs.length) (last9 (rc ++ xs)) → Frm [p] [p, r'] H H' → Q .non H'
def sp_Controls_how_many (_ : PySem.W.Frag) (a : Ad) : Sp := fun vs H Q _ => ∃ (p r : Addr) (m s n : Int) (rc : List Int), vs = [.ref p] ∧ CtlAt a H p r m s n rc ∧ Q (.int (if 1000000 < n then 1000000 else n)) H
def sp_Controls_start (_ : PySem.W.Frag) (a : Ad) : Sp := fun vs H Q _ => ∃ (p r : Addr) (m s n : Int) (rc : List Int) (m' s' : Int), vs = [.ref p, .int m', .int s'] ∧ CtlAt a H p r m s n rc ∧
  (okCtl m' s' = false → Q (.int (-22)) H) ∧ (okCtl m' s' = true → ∀ r' H', CtlAt a H' p r' m' s' 0 [] → Frm [p] [p, r'] H H' → Q (.int 0) H')
def sp_Controls_batch (_ : PySem.W.Frag) (a : Ad) : Sp := fun vs H Q _ => ∃ (p r l : Addr) (m s n : Int) (rc xs : List Int), vs = [.ref p, .ref l] ∧ CtlAt a H p r m s n rc ∧ H l = some (.lst (xs.map V.int)) ∧ rc.length ≤ 9 ∧
  ((xs.length < 1 ∨ 8 < xs.length) → Q (.int (-22)) H) ∧
  (1 ≤ xs.length → xs.length ≤ 8 → ∀ r' n' rc' H', CtlAt a H' p r' m s n' rc' → Frm [p] [p, r'] H H' →
    (brokenMask rc (xs.map (· - m)) s = 0 → n' = n + xs.length ∧ rc' = last9 (rc ++ xs.map (· - m))) → (brokenMask rc (xs.map (· - m)) s ≠ 0 → n' = 0 ∧ rc' = []) → Q (.int (brokenMask rc (xs.map (· - m)) s)) H')
section
variable {P : Program} {w : World} {K : PySem.W.Frag} {mg : Str → Option Value} {base : Heap} {a : Ad}
theorem upd_of {H : Hp} {p : Addr} {C dx : Addr} {fs gs : List (Str × V)} (e : fs = gs) : upd H p (.ins C dx fs) p = some (.ins C dx gs) := by rw [e]; exact upd_same
theorem upd_upd {H : Hp} {p : Addr} {x y : HO} : upd (upd H p x) p y = upd H p y := by
  funext b
  unfold upd
  by_cases h : b = p
  · rw [if_pos h, if_pos h]
  · rw [if_neg h, if_neg h, if_neg h]
theorem upd_none {H : Hp} {p r : Addr} {o : HO} (h : upd H p o r = none) : r ≠ p ∧ H r = none := by
  by_cases e : r = p
  · subst e; rw [upd_same] at h; cases h
  · rw [upd_ne e] at h; exact ⟨e, h⟩
/-- an object changed, a new one beside it -/
theorem frm_new {H : Hp} {p r : Addr} {x y z : HO} (hr : H r = none) : Frm [p] [p, r] H (upd (upd (upd H p x) r y) p z) := by
  refine ⟨fun b o e h => ?_, fun b hb => ?_, fun b hb => ⟨z, by rw [List.mem_singleton.mp hb]; exact upd_same⟩⟩
  · have h1 : b ≠ p := fun q => h (by simp [q])
    rw [upd_ne h1, upd_ne (ne_of_none e hr), upd_ne h1]
    exact e
  · rcases List.mem_cons.mp hb with q | q
    · exact .inl (by simp [q])
    · exact .inr (by rw [List.mem_singleton.mp q]; exact hr)
theorem frm_one {H : Hp} {p : Addr} {x : HO} : Frm [p] [p] H (upd H p x) := by
  refine ⟨fun b o e h => ?_, fun b hb => .inl hb, fun b hb => ⟨x, by rw [List.mem_singleton.mp hb]; exact upd_same⟩⟩
  have h1 : b ≠ p := fun q => h (by simp [q])
  rw [upd_ne h1]
  exact e
theorem ok_Controls_init (T : Txt K mg a) : FnOk P w K mg base CX0 1 a.f_Controls_init a.d_Controls_init ["self"] (sp_Controls_init K a) := by
  refine T.F_Controls_init.ok sc_Controls_init (fun vs H Q E h => ?_) (fun cdv A outer s H vs Q E hr h => ?_)
  · obtain ⟨p, dx, rfl, _⟩ := h
    rfl
  · obtain ⟨p, dx, rfl, hp, k⟩ := h
    refine ⟨_, (pss_cons (ps_fld (pv 0) pe_int rfl) (pss_cons (ps_fld (pv 0) pe_int rfl) (pss_cons (ps_fld (pv 0) pe_int rfl) (pss_one (ps_fld (pv 0) (pe_lst pa_nil) rfl))))), ?_⟩
    refine ⟨_, rfl, p, _, dx, _, rfl, hp, T.cl_Controls, T.n_Controls_mean, (by show 0 < 1000; decide), ?_⟩
    refine ⟨_, rfl, p, _, dx, _, rfl, upd_of fl_Controls_new0, T.cl_Controls, T.n_Controls_spread, (by show 1 < 1000; decide), ?_⟩
    refine ⟨_, rfl, p, _, dx, _, rfl, upd_of fl_Controls_new1, T.cl_Controls, T.n_Controls_counted, (by show 2 < 1000; decide), ?_⟩
    refine ⟨Nat.zero_le _, fun r hr0 => ?_⟩
    rw [upd_upd, upd_upd] at hr0
    obtain ⟨hrp, hr1⟩ := upd_none hr0
    rw [upd_upd, upd_upd]
    refine ⟨_, rfl, p, _, dx, _, rfl, (upd_ne hrp.symm).trans (upd_of fl_Controls_new2), T.cl_Controls, T.n_Controls_recent, (by show 3 < 1000; decide), ?_⟩
    exact k r _ ⟨⟨dx, upd_of fl_Controls_new3⟩, by rw [upd_ne hrp, upd_same]; rfl⟩ (frm_new hr1)
theorem ok_Controls_forget (T : Txt K mg a) : FnOk P w K mg base CX0 1 a.f_Controls_forget a.d_Controls_forget ["self"] (sp_Controls_forget K a) := by
  refine T.F_Controls_forget.ok sc_Controls_forget (fun vs H Q E h => ?_) (fun cdv A outer s H vs Q E hr h => ?_)
  · obtain ⟨p, r, m, s, n, rc, rfl, _⟩ := h
    rfl
  · obtain ⟨p, r, m, s', n, rc, rfl, ⟨⟨dx, h1⟩, h2⟩, k⟩ := h
    refine ⟨_, (pss_cons (ps_fld (pv 0) pe_int rfl) (pss_one (ps_fld (pv 0) (pe_lst pa_nil) rfl))), ?_⟩
    refine ⟨_, rfl, p, _, dx, _, rfl, h1, T.cl_Controls, T.n_Controls_counted, fl_Controls_len, ?_⟩
    refine ⟨Nat.zero_le _, fun r' hr' => ?_⟩
    obtain ⟨hrp, hr1⟩ := upd_none hr'
    refine ⟨_, rfl, p, _, dx, _, rfl, (upd_ne hrp.symm).trans (upd_of fl_Controls_put_counted), T.cl_Controls, T.n_Controls_recent, fl_Controls_len, ?_⟩
    exact k r' _ ⟨⟨dx, upd_of fl_Controls_put_recent⟩, by rw [upd_ne hrp, upd_same]; rfl⟩ (frm_new hr1)
theorem ok_Controls_how_many (T : Txt K mg a) : FnOk P w K mg base CX0 1 a.f_Controls_how_many a.d_Controls_how_many ["self"] (sp_Controls_how_many K a) := by
  refine T.F_Controls_how_many.ok sc_Controls_how_many (fun vs H Q E h => ?_) (fun cdv A outer s H vs Q E hr h => ?_)
  · obtain ⟨p, r, m, s, n, rc, rfl, _⟩ := h
    rfl
  · obtain ⟨p, r, m, s', n, rc, rfl, ⟨⟨dx, h1⟩, h2⟩, k⟩ := h
    refine ⟨_, (pss_one (ps_ret (pe_callB (call_min2 rfl) rfl T.n_min PyProof.Rows.boot_min (pa_cons (pe_fld (pv 0) rfl) (pa_cons (pe_gi rfl T.k_MOST_COUNTED) pa_nil))))), ?_⟩
    exact ⟨_, rfl, p, _, dx, _, _, rfl, h1, T.cl_Controls, T.n_Controls_counted, fl_Controls_get_counted, _, _, rfl, k⟩
theorem ok_Controls_keep (T : Txt K mg a) : FnOk P w K mg base CX0 1 a.f_Controls_keep a.d_Controls_keep ["self", "offsets"] (sp_Controls_keep K a) := by
  refine T.F_Controls_keep.ok sc_Controls_keep (fun vs H Q E h => ?_) (fun cdv A outer s H vs Q E hr h => ?_)
  · obtain ⟨p, r, l, m, s, n, rc, xs, rfl, _⟩ := h
    rfl
  · obtain ⟨p, r, l, m, s', n, rc, xs, rfl, ⟨⟨dx, h1⟩, h2⟩, hl, hlen, k⟩ := h
    have npr : p ≠ r := ne_of h1 h2 (by intro z; cases z)
    have npl : p ≠ l := ne_of h1 hl (by intro z; cases z)
    refine ⟨_, (pss_cons (ps_fld (pv 0) (pe_op op_add (pe_fld (pv 0) rfl) (pe_callB call_len_seq rfl T.n_len PySem.boot_len (pa_cons (pv 1) pa_nil))) rfl) (pss_one (ps_fld (pv 0) (pe_slice sl_list (pe_op op_cat (pe_fld (pv 0) rfl) (pv 1)) (po_some (pe_un un_neg (pe_gi rfl T.k_LOOKED_BACK))) po_none) rfl))), ?_⟩
    refine ⟨_, rfl, p, _, dx, _, _, rfl, h1, T.cl_Controls, T.n_Controls_counted, fl_Controls_get_counted, _, rfl, l, _, rfl, .inl (SqL.of hl), _, _, rfl, rfl, _, rfl, p, _, dx, _, rfl, h1, T.cl_Controls, T.n_Controls_counted, fl_Controls_len, ?_⟩
    refine ⟨_, rfl, p, _, dx, _, _, rfl, upd_of fl_Controls_put_counted, T.cl_Controls, T.n_Controls_recent, fl_Controls_get_recent, _, rfl, r, l, _, _, rfl, rfl, (upd_ne npr.symm).trans h2, (upd_ne npl.symm).trans hl, ?_, fun q hq => ?_⟩
    · rw [List.length_map, List.length_map]
      have : sizeLine = 16777216 := sizeLine_eq
      omega
    obtain ⟨hqp, hq1⟩ := upd_none hq
    refine ⟨_, rfl, _, rfl, q, _, rfl, SqL.of upd_same, fun r' hr' => ?_⟩
    obtain ⟨hrq, hr1⟩ := upd_none hr'
    obtain ⟨hrp, hr2⟩ := upd_none hr1
    refine ⟨_, rfl, p, _, dx, _, rfl, (upd_ne hrp.symm).trans ((upd_ne hqp.symm).trans (upd_of fl_Controls_put_counted)), T.cl_Controls, T.n_Controls_recent, fl_Controls_len, ?_⟩
    have ec : cutV (rc.map V.int ++ xs.map V.int) (some (-9)) none = (last9 (rc ++ xs)).map V.int := by
      have e := cut_neg (rc.map V.int ++ xs.map V.int) 9 (by decide)
      refine e.trans ?_
      unfold last9
      rw [← List.map_append, List.length_map, List.map_drop]
    have el : (((xs.map V.int).length : Nat) : Int) = (xs.length : Int) := by rw [List.length_map]
    refine k r' _ ⟨⟨dx, ?_⟩, ?_⟩ ⟨fun b o e h => ?_, fun b hb => ?_, fun b hb => ?_⟩
    · rw [← el]
      exact upd_of fl_Controls_put_recent
    · rw [upd_ne hrp, upd_same]
      exact congrArg (fun z => some (HO.lst z)) ec
    · have hb : b ≠ p := fun z => h (by simp [z])
      rw [upd_ne hb, upd_ne (ne_of_none e hr2), upd_ne (ne_of_none e hq1), upd_ne hb]
      exact e
    · rcases List.mem_cons.mp hb with z | z
      · exact .inl (by simp [z])
      · exact .inr (by rw [List.mem_singleton.mp z]; exact hr2)
    · rw [List.mem_singleton.mp hb]
      exact ⟨_, upd_same⟩
theorem ok_Controls_start (T : Txt K mg a) : FnOk P w K mg base CX0 2 a.f_Controls_start a.d_Controls_start ["self", "mean", "spread"] (sp_Controls_start K a) := by
  have G_Controls_forget : FnOk P w K mg base CX0 1 a.f_Controls_forget a.d_Controls_forget ["self"] (sp_Controls_forget K a) := ok_Controls_forget T
  refine T.F_Controls_start.ok sc_Controls_start (fun vs H Q E h => ?_) (fun cdv A outer s H vs Q E hr h => ?_)
  · obtain ⟨p, r, m, s, n, rc, m', s', rfl, _⟩ := h
    rfl
  · obtain ⟨p, r, m, s0, n, rc, m', s', rfl, C, kb, kg⟩ := h
    refine ⟨_, (pss_cons (ps_if (PW.pt (pw_or (pt_cmpR op_lt (pv 1) (pe_un un_neg (pe_gi rfl T.k_FARTHEST_MEAN)) (nomark _)) (pw_or1 (pt_cmpR op_gt (pv 1) (pe_gi rfl T.k_FARTHEST_MEAN) (nomark _))))) (pss_one (ps_ret (pe_gi rfl T.k_NOT_AS_TOLD))) pss_nil) (pss_cons (ps_if (PW.pt (pw_or (pt_cmpR op_lt (pv 2) pe_int (nomark _)) (pw_or1 (pt_cmpR op_gt (pv 2) (pe_gi rfl T.k_WIDEST_SPREAD) (nomark _))))) (pss_one (ps_ret (pe_gi rfl T.k_NOT_AS_TOLD))) pss_nil) (pss_cons (ps_fld (pv 0) (pv 1) rfl) (pss_cons (ps_fld (pv 0) (pv 2) rfl) (pss_cons (ps_expr (pe_meth0 (pv 0) T.cl_Controls T.m_Controls_forget G_Controls_forget (hr.mono (by decide)) T.b_Controls_forget .nil pass0)) (pss_one (ps_ret pe_int))))))), ?_⟩
    have bad : okCtl m' s' = false → Q (.int (-22)) H := kb
    refine ⟨_, rfl, _, rfl, _, _, rfl, rfl, _, rfl, ?_⟩
    refine x_ite (fun h => iteT ?_) (fun h => ?_)
    · refine bad ?_
      unfold okCtl
      have : ¬ (-1000000000 ≤ m') := by omega
      simp [this]
    refine ⟨_, rfl, _, _, rfl, rfl, _, rfl, ?_⟩
    refine x_ite (fun h' => ?_) (fun h' => ?_)
    · refine bad ?_
      unfold okCtl
      have : ¬ (m' ≤ 1000000000) := by omega
      simp [this]
    refine ⟨_, rfl, _, _, rfl, rfl, _, rfl, ?_⟩
    refine x_ite (fun h2 => iteT ?_) (fun h2 => ?_)
    · refine bad ?_
      unfold okCtl
      have : ¬ (1 ≤ s') := by omega
      simp [this]
    refine ⟨_, rfl, _, _, rfl, rfl, _, rfl, ?_⟩
    refine x_ite (fun h3 => ?_) (fun h3 => ?_)
    · refine bad ?_
      unfold okCtl
      have : ¬ (s' ≤ 1000000) := by omega
      simp [this]
    have ok : okCtl m' s' = true := by
      unfold okCtl
      simp only [Bool.and_eq_true, decide_eq_true_eq]
      omega
    obtain ⟨⟨dx, h1⟩, hl⟩ := C
    have npr : p ≠ r := ne_of h1 hl (by intro z; cases z)
    refine ⟨_, rfl, _, rfl, p, _, dx, _, rfl, h1, T.cl_Controls, T.n_Controls_mean, fl_Controls_len, ?_⟩
    refine ⟨_, rfl, _, rfl, p, _, dx, _, rfl, upd_of fl_Controls_put_mean, T.cl_Controls, T.n_Controls_spread, fl_Controls_len, ?_⟩
    rw [upd_upd]
    refine ⟨_, rfl, p, dx, _, rfl, upd_of fl_Controls_put_spread, fl_Controls_no_forget, ?_⟩
    refine ⟨p, r, m', s', n, rc, rfl, ⟨⟨dx, upd_of fl_Controls_put_spread⟩, (upd_ne npr.symm).trans hl⟩, fun r' H' c f => ?_⟩
    exact kg ok r' H' c (frm_one.trans f)
theorem ok_Controls_batch (T : Txt K mg a) : FnOk P w K mg base CX0 4 a.f_Controls_batch a.d_Controls_batch ["self", "values"] (sp_Controls_batch K a) := by
  have G_Controls_forget : FnOk P w K mg base CX0 1 a.f_Controls_forget a.d_Controls_forget ["self"] (sp_Controls_forget K a) := ok_Controls_forget T
  have G_Controls_keep : FnOk P w K mg base CX0 1 a.f_Controls_keep a.d_Controls_keep ["self", "offsets"] (sp_Controls_keep K a) := ok_Controls_keep T
  have G_broken_rules : FnOk P w K mg base CX0 3 a.f_broken_rules a.d_broken_rules ["before", "batch", "spread"] (sp_broken_rules K a) := ok_broken_rules T
  refine T.F_Controls_batch.ok sc_Controls_batch (fun vs H Q E h => ?_) (fun cdv A outer s H vs Q E hr h => ?_)
  · obtain ⟨p, r, l, m, s, n, rc, xs, rfl, _⟩ := h
    rfl
  · obtain ⟨p, r, l, m, s', n, rc, xs, rfl, C, hl, h9, kb, kg⟩ := h
    refine ⟨_, (pss_cons (ps_if (PW.pt (pw_or (pt_cmpR op_lt (pe_callB call_len_seq rfl T.n_len PySem.boot_len (pa_cons (pv 1) pa_nil)) pe_int (nomark _)) (pw_or1 (pt_cmpR op_gt (pe_callB call_len_seq rfl T.n_len PySem.boot_len (pa_cons (pv 1) pa_nil)) (pe_gi rfl T.k_MOST_VALUES) (nomark _))))) (pss_one (ps_ret (pe_gi rfl T.k_NOT_AS_TOLD))) pss_nil) (pss_cons (ps_setLc (i := 2) rfl sc_Controls_batch.nd rfl rfl (sw_true rfl rfl rfl rfl) (pi_list (pv 1)) (show BlkOk ["self", "values", "offsets", "broken", "value"] (defScope s_Controls_batch) _ [("value", 4)] from blkOk_by (by decide +kernel)) (fun _ _ _ _ _ => by exact pg_name (i := 4) sc_Controls_batch.nd rfl (Or.inl rfl)) (fun _ _ _ _ _ => by exact pts_nil) (fun _ _ _ _ _ => by exact (pe_op op_sub (pv 4) (pe_fldK (K := K) rfl (pv 0) rfl)))) (pss_cons (ps_set (i := 3) sc_Controls_batch.nd rfl (Or.inl rfl) (pe_call G_broken_rules (hr.mono (by decide)) rfl T.g_broken_rules T.kp_broken_rules T.b_broken_rules .nil pass0 (pa_cons (pe_fld (pv 0) rfl) (pa_cons (pv 2) (pa_cons (pe_fld (pv 0) rfl) pa_nil))))) (pss_cons (ps_if (pt_cmpR op_eq (pv 3) pe_int (nomark _)) (pss_one (ps_expr (pe_meth (pv 0) T.cl_Controls T.m_Controls_keep G_Controls_keep (hr.mono (by decide)) T.b_Controls_keep .nil pass0 (pa_cons (pv 2) pa_nil)))) (pss_one (ps_expr (pe_meth0 (pv 0) T.cl_Controls T.m_Controls_forget G_Controls_forget (hr.mono (by decide)) T.b_Controls_forget .nil pass0)))) (pss_one (ps_ret (pv 3))))))), ?_⟩
    obtain ⟨⟨dx, h1⟩, h2⟩ := id C
    have el : (((xs.map V.int).length : Nat) : Int) = (xs.length : Int) := by rw [List.length_map]
    refine ⟨_, rfl, l, _, rfl, .inl (SqL.of hl), _, _, rfl, rfl, _, rfl, ?_⟩
    refine x_ite (fun h => iteT ?_) (fun h => ?_)
    · rw [el] at h
      exact kb (.inl (by omega))
    rw [el] at h
    refine ⟨_, rfl, l, _, rfl, .inl (SqL.of hl), _, _, rfl, rfl, _, rfl, ?_⟩
    refine x_ite (fun h' => ?_) (fun h' => ?_)
    · rw [el] at h'
      exact kb (.inr (by omega))
    rw [el] at h'
    have kg := kg (by omega) (by omega)
    -- offsets = [value - self.mean for value in values]
    refine ⟨_, rfl, l, rfl, ⟨_, SqL.of hl⟩, fun D hD => lc_list (K := K) (a := l) (xs := xs.map V.int) (fun i H2 => Same H H2 ∧ H2 D = some (.lst (((xs.take i).map (· - m)).map V.int))) ⟨same_new hD, upd_same⟩ (fun i H2 _ z => z.1.seq (SqL.of hl)) ?_ ?_⟩
    · rintro i y H2 hi ⟨s2, hD2⟩
      obtain ⟨z, hz, rfl⟩ := get_map hi
      refine ⟨rfl, x_yes ?_⟩
      refine ⟨_, rfl, _, rfl, p, _, dx, _, _, rfl, s2 _ _ h1, T.cl_Controls, T.n_Controls_mean, fl_Controls_get_mean, _, _, rfl, rfl, _, hD2, ?_, ?_⟩
      · rw [List.length_map, List.length_map, List.length_take]
        have : sizeLine = 16777216 := sizeLine_eq
        omega
      · refine ⟨fun b o e => by rw [upd_ne (ne_of_none e hD)]; exact s2 b o e, ?_⟩
        rw [upd_same, take_snoc hz]
        simp
    · rintro H2 ⟨s2, hD2⟩
      have e0 : xs.take (xs.map V.int).length = xs := by rw [List.length_map]; exact List.take_of_length_le (Nat.le_refl _)
      rw [e0] at hD2
      -- broken = broken_rules(self.recent, offsets, self.spread)
      refine ⟨_, rfl, p, _, dx, _, _, rfl, s2 _ _ h1, T.cl_Controls, T.n_Controls_recent, fl_Controls_get_recent, _, rfl, _, rfl, p, _, dx, _, _, rfl, s2 _ _ h1, T.cl_Controls, T.n_Controls_spread, fl_Controls_get_spread, r, D, rc, xs.map (· - m), s', rfl, SqL.of (s2 _ _ h2), SqL.of hD2, by rw [List.length_map]; omega, by rw [List.length_map]; omega, fun H3 s3 => ?_⟩
      have C3 : CtlAt a H3 p r m s' n rc := C.keep fun b o e _ => s3 _ _ (s2 _ _ e)
      have f3 : Frm [p] [p] H H3 := Frm.of_same (dom1 h1) (s2.trans s3)
      obtain ⟨⟨dx3, h13⟩, h23⟩ := id C3
      refine ⟨_, rfl, x_eqC ⟨_, rfl, ?_⟩⟩
      refine x_ite (fun hz => ?_) (fun hz => ?_)
      · refine ⟨_, rfl, p, dx3, _, rfl, h13, fl_Controls_no_keep, _, rfl, ?_⟩
        refine ⟨p, r, D, m, s', n, rc, xs.map (· - m), rfl, C3, s3 _ _ hD2, by rw [List.length_map]; omega, fun r' H' c f => ?_⟩
        refine ⟨_, rfl, ?_⟩
        exact kg r' _ _ H' c (f3.trans f) (fun _ => ⟨by rw [List.length_map], rfl⟩) (fun q => absurd hz q)
      · refine ⟨_, rfl, p, dx3, _, rfl, h13, fl_Controls_no_forget, ?_⟩
        refine ⟨p, r, m, s', n, rc, rfl, C3, fun r' H' c f => ?_⟩
        refine ⟨_, rfl, ?_⟩
        exact kg r' _ _ H' c (f3.trans f) (fun q => absurd q hz) (fun _ => ⟨rfl, rfl⟩)
end
end WL

namespace WL
open PySem L2
def fl_Tube (v0 v1 v2 v3 v4 v5 : V) : List (Str × V) := [("patient", v0), ("origin", v1), ("depth", v2), ("left", v3), ("spot", v4), ("used", v5)]
theorem fl_Tube_get_patient {v0 v1 v2 v3 v4 v5 : V} : (fl_Tube v0 v1 v2 v3 v4 v5).lookup ("patient" : Str) = some v0 := lk_hd
theorem fl_Tube_put_patient {v0 v1 v2 v3 v4 v5 y : V} : putF ("patient" : Str) y (fl_Tube v0 v1 v2 v3 v4 v5) = fl_Tube y v1 v2 v3 v4 v5 := pf_hd
theorem fl_Tube_get_origin {v0 v1 v2 v3 v4 v5 : V} : (fl_Tube v0 v1 v2 v3 v4 v5).lookup ("origin" : Str) = some v1 := (lk_tl (by decide +kernel)).trans (lk_hd)
theorem fl_Tube_put_origin {v0 v1 v2 v3 v4 v5 y : V} : putF ("origin" : Str) y (fl_Tube v0 v1 v2 v3 v4 v5) = fl_Tube v0 y v2 v3 v4 v5 := (pf_tl (by decide +kernel)).trans (congrArg (List.cons _) (pf_hd))
theorem fl_Tube_get_depth {v0 v1 v2 v3 v4 v5 : V} : (fl_Tube v0 v1 v2 v3 v4 v5).lookup ("depth" : Str) = some v2 := (lk_tl (by decide +kernel)).trans ((lk_tl (by decide +kernel)).trans (lk_hd))
theorem fl_Tube_put_depth {v0 v1 v2 v3 v4 v5 y : V} : putF ("depth" : Str) y (fl_Tube v0 v1 v2 v3 v4 v5) = fl_Tube v0 v1 y v3 v4 v5 := (pf_tl (by decide +kernel)).trans (congrArg (List.cons _) ((pf_tl (by decide +kernel)).trans (congrArg (List.cons _) (pf_hd))))
theorem fl_Tube_get_left {v0 v1 v2 v3 v4 v5 : V} : (fl_Tube v0 v1 v2 v3 v4 v5).lookup ("left" : Str) = some v3 := (lk_tl (by decide +kernel)).trans ((lk_tl (by decide +kernel)).trans ((lk_tl (by decide +kernel)).trans (lk_hd)))
theorem fl_Tube_put_left {v0 v1 v2 v3 v4 v5 y : V} : putF ("left" : Str) y (fl_Tube v0 v1 v2 v3 v4 v5) = fl_Tube v0 v1 v2 y v4 v5 := (pf_tl (by decide +kernel)).trans (congrArg (List.cons _) ((pf_tl (by decide +kernel)).trans (congrArg (List.cons _) ((pf_tl (by decide +kernel)).trans (congrArg (List.cons _) (pf_hd))))))
theorem fl_Tube_get_spot {v0 v1 v2 v3 v4 v5 : V} : (fl_Tube v0 v1 v2 v3 v4 v5).lookup ("spot" : Str) = some v4 := (lk_tl (by decide +kernel)).trans ((lk_tl (by decide +kernel)).trans ((lk_tl (by decide +kernel)).trans ((lk_tl (by decide +kernel)).trans (lk_hd))))
theorem fl_Tube_put_spot {v0 v1 v2 v3 v4 v5 y : V} : putF ("spot" : Str) y (fl_Tube v0 v1 v2 v3 v4 v5) = fl_Tube v0 v1 v2 v3 y v5 := (pf_tl (by decide +kernel)).trans (congrArg (List.cons _) ((pf_tl (by decide +kernel)).trans (congrArg (List.cons _) ((pf_tl (by decide +kernel)).trans (congrArg (List.cons _) ((pf_tl (by decide +kernel)).trans (congrArg (List.cons _) (pf_hd))))))))
theorem fl_Tube_get_used {v0 v1 v2 v3 v4 v5 : V} : (fl_Tube v0 v1 v2 v3 v4 v5).lookup ("used" : Str) = some v5 := (lk_tl (by decide +kernel)).trans ((lk_tl (by decide +kernel)).trans ((lk_tl (by decide +kernel)).trans ((lk_tl (by decide +kernel)).trans ((lk_tl (by decide +kernel)).trans (lk_hd)))))
theorem fl_Tube_put_used {v0 v1 v2 v3 v4 v5 y : V} : putF ("used" : Str) y (fl_Tube v0 v1 v2 v3 v4 v5) = fl_Tube v0 v1 v2 v3 v4 y := (pf_tl (by decide +kernel)).trans (congrArg (List.cons _) ((pf_tl (by decide +kernel)).trans (congrArg (List.cons _) ((pf_tl (by decide +kernel)).trans (congrArg (List.cons _) ((pf_tl (by decide +kernel)).trans (congrArg (List.cons _) ((pf_tl (by decide +kernel)).trans (congrArg (List.cons _) (pf_hd))))))))))
theorem fl_Tube_no_init {v0 v1 v2 v3 v4 v5 : V} : (fl_Tube v0 v1 v2 v3 v4 v5).lookup ("__init__" : Str) = none := (lk_tl (by decide +kernel)).trans ((lk_tl (by decide +kernel)).trans ((lk_tl (by decide +kernel)).trans ((lk_tl (by decide +kernel)).trans ((lk_tl (by decide +kernel)).trans ((lk_tl (by decide +kernel)).trans (rfl))))))
theorem fl_Tube_len {v0 v1 v2 v3 v4 v5 : V} : (fl_Tube v0 v1 v2 v3 v4 v5).length < 1000 := by show 6 < 1000; decide
theorem fl_Tube_new0 {v0 : V} : putF ("patient" : Str) v0 ([] : List (Str × V)) = ([("patient", v0)] : List (Str × V)) := rfl
theorem fl_Tube_new1 {v0 v1 : V} : putF ("origin" : Str) v1 ([("patient", v0)] : List (Str × V)) = ([("patient", v0), ("origin", v1)] : List (Str × V)) := (pf_tl (by decide +kernel)).trans (congrArg (List.cons _) (rfl))
theorem fl_Tube_new2 {v0 v1 v2 : V} : putF ("depth" : Str) v2 ([("patient", v0), ("origin", v1)] : List (Str × V)) = ([("patient", v0), ("origin", v1), ("depth", v2)] : List (Str × V)) := (pf_tl (by decide +kernel)).trans (congrArg (List.cons _) ((pf_tl (by decide +kernel)).trans (congrArg (List.cons _) (rfl))))
theorem fl_Tube_new3 {v0 v1 v2 v3 : V} : putF ("left" : Str) v3 ([("patient", v0), ("origin", v1), ("depth", v2)] : List (Str × V)) = ([("patient", v0), ("origin", v1), ("depth", v2), ("left", v3)] : List (Str × V)) := (pf_tl (by decide +kernel)).trans (congrArg (List.cons _) ((pf_tl (by decide +kernel)).trans (congrArg (List.cons _) ((pf_tl (by decide +kernel)).trans (congrArg (List.cons _) (rfl))))))
theorem fl_Tube_new4 {v0 v1 v2 v3 v4 : V} : putF ("spot" : Str) v4 ([("patient", v0), ("origin", v1), ("depth", v2), ("left", v3)] : List (Str × V)) = ([("patient", v0), ("origin", v1), ("depth", v2), ("left", v3), ("spot", v4)] : List (Str × V)) := (pf_tl (by decide +kernel)).trans (congrArg (List.cons _) ((pf_tl (by decide +kernel)).trans (congrArg (List.cons _) ((pf_tl (by decide +kernel)).trans (congrArg (List.cons _) ((pf_tl (by decide +kernel)).trans (congrArg (List.cons _) (rfl))))))))
theorem fl_Tube_new5 {v0 v1 v2 v3 v4 v5 : V} : putF ("used" : Str) v5 ([("patient", v0), ("origin", v1), ("depth", v2), ("left", v3), ("spot", v4)] : List (Str × V)) = ([("patient", v0), ("origin", v1), ("depth", v2), ("left", v3), ("spot", v4), ("used", v5)] : List (Str × V)) := (pf_tl (by decide +kernel)).trans (congrArg (List.cons _) ((pf_tl (by decide +kernel)).trans (congrArg (List.cons _) ((pf_tl (by decide +kernel)).trans (congrArg (List.cons _) ((pf_tl (by decide +kernel)).trans (congrArg (List.cons _) ((pf_tl (by decide +kernel)).trans (congrArg (List.cons _) (rfl))))))))))
def fl_Tubes (v0 : V) : List (Str × V) := [("tubes", v0)]
theorem fl_Tubes_get_tubes {v0 : V} : (fl_Tubes v0).lookup ("tubes" : Str) = some v0 := lk_hd
theorem fl_Tubes_put_tubes {v0 y : V} : putF ("tubes" : Str) y (fl_Tubes v0) = fl_Tubes y := pf_hd
theorem fl_Tubes_no_init {v0 : V} : (fl_Tubes v0).lookup ("__init__" : Str) = none := (lk_tl (by decide +kernel)).trans (rfl)
theorem fl_Tubes_no_start {v0 : V} : (fl_Tubes v0).lookup ("start" : Str) = none := (lk_tl (by decide +kernel)).trans (rfl)
theorem fl_Tubes_no_sample {v0 : V} : (fl_Tubes v0).lookup ("sample" : Str) = none := (lk_tl (by decide +kernel)).trans (rfl)
theorem fl_Tubes_no_take {v0 : V} : (fl_Tubes v0).lookup ("take" : Str) = none := (lk_tl (by decide +kernel)).trans (rfl)
theorem fl_Tubes_no_use {v0 : V} : (fl_Tubes v0).lookup ("use" : Str) = none := (lk_tl (by decide +kernel)).trans (rfl)
theorem fl_Tubes_no_put {v0 : V} : (fl_Tubes v0).lookup ("put" : Str) = none := (lk_tl (by decide +kernel)).trans (rfl)
theorem fl_Tubes_no_at {v0 : V} : (fl_Tubes v0).lookup ("at" : Str) = none := (lk_tl (by decide +kernel)).trans (rfl)
theorem fl_Tubes_no_of {v0 : V} : (fl_Tubes v0).lookup ("of" : Str) = none := (lk_tl (by decide +kernel)).trans (rfl)
theorem fl_Tubes_no_sum_of {v0 : V} : (fl_Tubes v0).lookup ("sum_of" : Str) = none := (lk_tl (by decide +kernel)).trans (rfl)
theorem fl_Tubes_no_has {v0 : V} : (fl_Tubes v0).lookup ("has" : Str) = none := (lk_tl (by decide +kernel)).trans (rfl)
theorem fl_Tubes_no_is_full {v0 : V} : (fl_Tubes v0).lookup ("is_full" : Str) = none := (lk_tl (by decide +kernel)).trans (rfl)
theorem fl_Tubes_no_add {v0 : V} : (fl_Tubes v0).lookup ("add" : Str) = none := (lk_tl (by decide +kernel)).trans (rfl)
theorem fl_Tubes_no_refusal_to_draw {v0 : V} : (fl_Tubes v0).lookup ("refusal_to_draw" : Str) = none := (lk_tl (by decide +kernel)).trans (rfl)
theorem fl_Tubes_no_standing_at {v0 : V} : (fl_Tubes v0).lookup ("standing_at" : Str) = none := (lk_tl (by decide +kernel)).trans (rfl)
theorem fl_Tubes_len {v0 : V} : (fl_Tubes v0).length < 1000 := by show 1 < 1000; decide
theorem fl_Tubes_new0 {v0 : V} : putF ("tubes" : Str) v0 ([] : List (Str × V)) = ([("tubes", v0)] : List (Str × V)) := rfl
/-! ## the objects -/
def flT (t : PT) : List (Str × V) := fl_Tube (.int t.patient) (.int t.origin) (.int t.depth) (.int t.left) (.int t.spot) (.int t.used)
structure TubAt (a : Ad) (H : Hp) (p l : Addr) (as : List Addr) (ts : List PT) : Prop where
  ob : ∃ dx, H p = some (.ins a.c_Tubes dx (fl_Tubes (.ref l)))
  ls : H l = some (.lst (as.map V.ref))
  nd : as.Nodup
  len : as.length = ts.length
  at_ : ∀ (j : Nat) (q : Addr), as[j]? = some q → ∃ t dx, ts[j]? = some t ∧ H q = some (.ins a.c_Tube dx (flT t))
section
variable {a : Ad} {H H' : Hp} {p l : Addr} {as : List Addr} {ts : List PT}
theorem TubAt.keep (c : TubAt a H p l as ts) (k : ∀ b o, H b = some o → b ∈ p :: l :: as → H' b = some o) : TubAt a H' p l as ts := by
  obtain ⟨⟨dx, h1⟩, h2, nd, len, at_⟩ := c
  refine ⟨⟨dx, k _ _ h1 (by simp)⟩, k _ _ h2 (by simp), nd, len, fun j q hq => ?_⟩
  obtain ⟨t, d, e1, e2⟩ := at_ j q hq
  exact ⟨t, d, e1, k _ _ e2 (by simp [List.mem_of_getElem? hq])⟩
theorem TubAt.same (c : TubAt a H p l as ts) (s : Same H H') : TubAt a H' p l as ts := c.keep fun b o e _ => s b o e
theorem TubAt.dom (c : TubAt a H p l as ts) : ∀ b, b ∈ p :: l :: as → ∃ o, H b = some o := by
  intro b hb
  rcases List.mem_cons.mp hb with z | hb
  · obtain ⟨dx, e⟩ := c.ob
    exact ⟨_, by rw [z]; exact e⟩
  rcases List.mem_cons.mp hb with z | hb
  · exact ⟨_, by rw [z]; exact c.ls⟩
  · obtain ⟨j, hj⟩ := List.mem_iff_getElem?.mp hb
    obtain ⟨t, dx, _, e⟩ := c.at_ j b hj
    exact ⟨_, e⟩
theorem tube_ne {c c' : Addr} {d d' : Addr} {v : V} {t : PT} : HO.ins c d (fl_Tubes v) ≠ HO.ins c' d' (flT t) := by
  intro z
  injection z with _ _ e
  unfold fl_Tubes flT fl_Tube at e
  injection e with _ e
  cases e
theorem TubAt.np (c : TubAt a H p l as ts) : p ∉ as := by
  intro h
  obtain ⟨j, hj⟩ := List.mem_iff_getElem?.mp h
  obtain ⟨t, d, _, e⟩ := c.at_ j p hj
  obtain ⟨dx, e'⟩ := c.ob
  rw [e'] at e
  exact tube_ne (Option.some.inj e)
theorem TubAt.nl (c : TubAt a H p l as ts) : l ∉ as := by
  intro h
  obtain ⟨j, hj⟩ := List.mem_iff_getElem?.mp h
  obtain ⟨t, d, _, e⟩ := c.at_ j l hj
  rw [c.ls] at e
  cases e
theorem TubAt.npl (c : TubAt a H p l as ts) : p ≠ l := by
  obtain ⟨dx, e⟩ := c.ob
  exact ne_of e c.ls (by intro z; cases z)
theorem TubAt.get (c : TubAt a H p l as ts) {k : Nat} {t : PT} (h : ts[k]? = some t) : ∃ q dx, as[k]? = some q ∧ H q = some (.ins a.c_Tube dx (flT t)) ∧ atI (as.map V.ref) (k : Int) = some (.ref q) := by
  have hk : k < as.length := by rw [c.len]; exact (List.getElem?_eq_some_iff.mp h).1
  obtain ⟨t', dx, e1, e2⟩ := c.at_ k as[k] (List.getElem?_eq_getElem hk)
  rw [h] at e1
  cases e1
  exact ⟨as[k], dx, List.getElem?_eq_getElem hk, e2, at_of (j := k) rfl (by rw [List.getElem?_map, List.getElem?_eq_getElem hk]; rfl)⟩
theorem TubAt.set (c : TubAt a H p l as ts) {k : Nat} {q dx : Addr} {t : PT} (hq : as[k]? = some q) (t' : PT) (hH : H q = some (.ins a.c_Tube dx (flT t))) : TubAt a (upd H q (.ins a.c_Tube dx (flT t'))) p l as (ts.set k t') := by
  have hm : q ∈ as := List.mem_of_getElem? hq
  obtain ⟨d, h1⟩ := c.ob
  refine ⟨⟨d, ?_⟩, ?_, c.nd, by rw [List.length_set]; exact c.len, fun j x hx => ?_⟩
  · rw [upd_ne (fun e => c.np (by rw [e]; exact hm))]; exact h1
  · rw [upd_ne (fun e => c.nl (by rw [e]; exact hm))]; exact c.ls
  · by_cases hj : j = k
    · subst hj
      rw [hq] at hx
      cases hx
      have hlt : j < ts.length := by rw [← c.len]; exact (List.getElem?_eq_some_iff.mp hq).1
      exact ⟨t', dx, List.getElem?_set_self hlt, upd_same⟩
    · obtain ⟨u, d', e1, e2⟩ := c.at_ j x hx
      have hne : x ≠ q := fun e => hj (nd_ix c.nd hx (by rw [e]; exact hq))
      exact ⟨u, d', by rw [List.getElem?_set_ne (fun e => hj e.symm)]; exact e1, by rw [upd_ne hne]; exact e2⟩
theorem TubAt.app (c : TubAt a H p l as ts) {x dx : Addr} {t : PT} (hx : H x = some (.ins a.c_Tube dx (flT t))) (hn : x ∉ as) : TubAt a (upd H l (.lst (as.map V.ref ++ [V.ref x]))) p l (as ++ [x]) (ts ++ [t]) := by
  obtain ⟨d, h1⟩ := c.ob
  refine ⟨⟨d, by rw [upd_ne c.npl]; exact h1⟩, by rw [upd_same, List.map_append]; rfl, nd_snoc c.nd hn, by rw [List.length_append, List.length_append, c.len]; rfl, fun j q hq => ?_⟩
  have hlx : x ≠ l := ne_of hx c.ls (by intro z; cases z)
  by_cases hj : j < as.length
  · rw [List.getElem?_append_left hj] at hq
    obtain ⟨u, d', e1, e2⟩ := c.at_ j q hq
    have hql : q ≠ l := ne_of e2 c.ls (by intro z; cases z)
    exact ⟨u, d', by rw [List.getElem?_append_left (by rw [← c.len]; exact hj)]; exact e1, by rw [upd_ne hql]; exact e2⟩
  · have hlt := (List.getElem?_eq_some_iff.mp hq).1
    rw [List.length_append, List.length_singleton] at hlt
    have hjl : j = as.length := by omega
    subst hjl
    rw [List.getElem?_append_right (Nat.le_refl _), Nat.sub_self] at hq
    have hqx : x = q := Option.some.inj hq
    subst hqx
    refine ⟨t, dx, ?_, by rw [upd_ne hlx]; exact hx⟩
    rw [c.len, List.getElem?_append_right (Nat.le_refl _), Nat.sub_self]
    rfl
end
/-! ## the promises -/
def sp_spot_of (_ : PySem.W.Frag) (_ : Ad) : Sp := fun vs H Q _ => ∃ (r p : Int), vs = [.int r, .int p] ∧ Q (.int (spotOf r p)) H
def sp_Tube_init (_ : PySem.W.Frag) (a : Ad) : Sp := fun vs H Q _ => ∃ (x dx : Addr) (pa o d l : Int), vs = [.ref x, .int pa, .int o, .int d, .int l] ∧ H x = some (.ins a.c_Tube dx []) ∧
  ∀ H', H' x = some (.ins a.c_Tube dx (flT ⟨pa, o, d, l, -1, 0⟩)) → (∀ b, b ≠ x → H' b = H b) → Q .non H'
def sp_Tubes_init (_ : PySem.W.Frag) (a : Ad) : Sp := fun vs H Q _ => ∃ (p dx : Addr), vs = [.ref p] ∧ H p = some (.ins a.c_Tubes dx []) ∧ ∀ l H', TubAt a H' p l [] [] → Frm [p] [p, l] H H' → Q .non H'
def sp_Tubes_start (_ : PySem.W.Frag) (a : Ad) : Sp := fun vs H Q _ => ∃ (p l : Addr) (as : List Addr) (ts : List PT), vs = [.ref p] ∧ TubAt a H p l as ts ∧ ∀ l' H', TubAt a H' p l' [] [] → Frm (p :: l :: as) [p, l'] H H' → Q (.int 0) H'
def sp_Tubes_has (_ : PySem.W.Frag) (a : Ad) : Sp := fun vs H Q _ => ∃ (p l : Addr) (as : List Addr) (ts : List PT) (k : Nat), vs = [.ref p, .int k] ∧ TubAt a H p l as ts ∧ Q (.bl (decide (k < ts.length))) H
def sp_Tubes_is_full (_ : PySem.W.Frag) (a : Ad) : Sp := fun vs H Q _ => ∃ (p l : Addr) (as : List Addr) (ts : List PT), vs = [.ref p] ∧ TubAt a H p l as ts ∧ Q (.bl (decide (256 ≤ ts.length))) H
def sp_Tubes_add (_ : PySem.W.Frag) (a : Ad) : Sp := fun vs H Q _ => ∃ (p l x dx : Addr) (as : List Addr) (ts : List PT) (t : PT), vs = [.ref p, .ref x] ∧ TubAt a H p l as ts ∧ H x = some (.ins a.c_Tube dx (flT t)) ∧ x ∉ as ∧ ts.length ≤ 256 ∧
  ∀ H', TubAt a H' p l (as ++ [x]) (ts ++ [t]) → (∀ b, b ≠ l → H' b = H b) → Q (.int ts.length) H'
def sp_Tubes_refusal_to_draw (_ : PySem.W.Frag) (a : Ad) : Sp := fun vs H Q _ => ∃ (p l : Addr) (as : List Addr) (ts : List PT) (k : Nat) (v : Int), vs = [.ref p, .int k, .int v] ∧ TubAt a H p l as ts ∧ Q (.int (refusal ts k v)) H
def sp_Tubes_standing_at (_ : PySem.W.Frag) (a : Ad) : Sp := fun vs H Q _ => ∃ (p l : Addr) (as : List Addr) (ts : List PT) (spot : Int), vs = [.ref p, .int spot] ∧ TubAt a H p l as ts ∧ ∀ H', Same H H' → Q (.int (standingAt ts spot)) H'
def sp_Tubes_sample (_ : PySem.W.Frag) (a : Ad) : Sp := fun vs H Q _ => ∃ (p l : Addr) (as : List Addr) (ts : List PT) (pa v : Int), vs = [.ref p, .int pa, .int v] ∧ TubAt a H p l as ts ∧
  ∀ as' H', TubAt a H' p l as' (mSample ts pa v).1 → Frm (p :: l :: as) (p :: l :: as') H H' → Q (.int (mSample ts pa v).2) H'
def sp_Tubes_take (_ : PySem.W.Frag) (a : Ad) : Sp := fun vs H Q _ => ∃ (p l : Addr) (as : List Addr) (ts : List PT) (k : Nat) (v : Int), vs = [.ref p, .int k, .int v] ∧ TubAt a H p l as ts ∧
  ∀ as' H', TubAt a H' p l as' (mTake ts k v).1 → Frm (p :: l :: as) (p :: l :: as') H H' → Q (.int (mTake ts k v).2) H'
def sp_Tubes_use (_ : PySem.W.Frag) (a : Ad) : Sp := fun vs H Q _ => ∃ (p l : Addr) (as : List Addr) (ts : List PT) (k : Nat) (v : Int), vs = [.ref p, .int k, .int v] ∧ TubAt a H p l as ts ∧ (∀ t ∈ ts, 0 ≤ t.origin ∧ t.origin < ts.length) ∧
  ∀ H', TubAt a H' p l as (mUse ts k v).1 → Frm (p :: l :: as) (p :: l :: as) H H' → Q (.int (mUse ts k v).2) H'
def sp_Tubes_put (_ : PySem.W.Frag) (a : Ad) : Sp := fun vs H Q _ => ∃ (p l : Addr) (as : List Addr) (ts : List PT) (k : Nat) (r pl : Int), vs = [.ref p, .int k, .int r, .int pl] ∧ TubAt a H p l as ts ∧
  ∀ H', TubAt a H' p l as (mPut ts k r pl).1 → Frm (p :: l :: as) (p :: l :: as) H H' → Q (.int (mPut ts k r pl).2) H'
def sp_Tubes_at (_ : PySem.W.Frag) (a : Ad) : Sp := fun vs H Q _ => ∃ (p l : Addr) (as : List Addr) (ts : List PT) (r pl : Int), vs = [.ref p, .int r, .int pl] ∧ TubAt a H p l as ts ∧ ∀ H', Same H H' → Q (.int (mAt ts r pl)) H'
def sp_Tubes_of (_ : PySem.W.Frag) (a : Ad) : Sp := fun vs H Q _ => ∃ (p l : Addr) (as : List Addr) (ts : List PT) (k : Nat), vs = [.ref p, .int k] ∧ TubAt a H p l as ts ∧ ∀ r H', H r = none → Same H H' → H' r = some (.lst ((mOf ts k).map V.int)) → Q (.ref r) H'
/-! ## enumerate over a list that the body leaves as it is -/
theorem for_enum {K : PySem.W.Frag} {a : Addr} {xs : List V} {g : TG} {tb : TS} {D : Ends} {σ : St} {H : Hp} (Pv : Nat → St → Hp → Prop) (h0 : Pv 0 σ H) (hl : ∀ i σ H, i ≤ xs.length → Pv i σ H → SqL K H a xs)
    (hs : ∀ i x σ H q, xs[i]? = some x → Pv i σ H → H q = none → g (.ref q) σ (upd H q (.tup [.int (i : Nat), x])) fun σ2 H2 => tb { D with nx := Pv (i + 1), ct := Pv (i + 1), bk := D.nx } σ2 H2) (hd : ∀ σ H, Pv xs.length σ H → D.nx σ H) :
    ∃ W : Nat → Nat → St → Hp → Prop, (∃ m, W 0 m σ H) ∧ ∀ i m σ H, W i m σ H →
      ((Ite K a).stop i H ∧ D.nx σ H) ∨ ((Ite K a).go i H ∧ ∃ N : St → Hp → Prop, (∀ σ' H', N σ' H' → ∃ m', m' < m ∧ W (i + 1) m' σ' H') ∧ ∀ x H', (Ite K a).yld i H x H' → g x σ H' fun σ2 H2 => tb { D with nx := N, ct := N, bk := D.nx } σ2 H2) := by
  refine ⟨fun i m σ H => m = xs.length - i ∧ i ≤ xs.length ∧ Pv i σ H, ⟨xs.length, by simp, Nat.zero_le _, h0⟩, ?_⟩
  intro i m σ H w
  obtain ⟨em, hi, p⟩ := w
  subst em
  have q := hl i σ H hi p
  by_cases hlt : i < xs.length
  · refine .inr ⟨⟨xs, xs[i], q, by simp [hlt]⟩, Pv (i + 1), fun σ' H' p' => ⟨xs.length - (i + 1), by omega, rfl, hlt, p'⟩, fun v H' y => ?_⟩
    obtain ⟨z, x, ev, hz, eH, hx⟩ := y
    subst ev eH
    exact hs i x σ H z (hx xs q) p hz
  · have e : i = xs.length := by omega
    subst e
    exact .inl ⟨⟨xs, q, Nat.le_refl _⟩, hd σ H p⟩
theorem get_ref {l : List Addr} {i : Nat} {y : V} (h : (l.map V.ref)[i]? = some y) : ∃ z, l[i]? = some z ∧ y = V.ref z := by
  rw [List.getElem?_map] at h
  cases e : l[i]? with
  | none => rw [e] at h; cases h
  | some z => rw [e] at h; exact ⟨z, rfl, (Option.some.inj h).symm⟩
theorem standing_drop {ts : List PT} {i : Nat} {t : PT} {spot : Int} (h : ts[i]? = some t) : standing (ts.drop i) spot i = if t.spot = spot then some i else standing (ts.drop (i + 1)) spot (i + 1) := by
  obtain ⟨hi, e⟩ := List.getElem?_eq_some_iff.mp h
  rw [List.drop_eq_getElem_cons hi, e]
  rfl
section
variable {P : Program} {w : World} {K : PySem.W.Frag} {mg : Str → Option Value} {base : Heap} {a : Ad}
theorem ok_spot_of (T : Txt K mg a) : FnOk P w K mg base CX0 1 a.f_spot_of a.d_spot_of ["rack", "place"] (sp_spot_of K a) := by
  refine T.F_spot_of.ok sc_spot_of (fun vs H Q E h => ?_) (fun cdv A outer s H vs Q E hr h => ?_)
  · obtain ⟨r, p, rfl, _⟩ := h
    rfl
  · obtain ⟨r, p, rfl, k⟩ := h
    refine ⟨_, (pss_cons (ps_if (PW.pt (pw_or (pt_cmpR op_gt (pv 0) (pe_gi rfl T.k_LAST_RACK) (nomark _)) (pw_or1 (pt_cmpR op_gt (pv 1) (pe_gi rfl T.k_LAST_PLACE) (nomark _))))) (pss_one (ps_ret (pe_gi rfl T.k_NOWHERE))) pss_nil) (pss_one (ps_ret (pe_op op_add (pe_op op_mul (pv 0) (pe_op op_add (pe_gi rfl T.k_LAST_PLACE) pe_int)) (pv 1))))), ?_⟩
    unfold spotOf at k
    refine ⟨_, rfl, _, _, rfl, rfl, _, rfl, ?_⟩
    refine x_ite (fun h => iteT ?_) (fun h => ?_)
    · rw [if_pos (.inl h)] at k
      exact k
    refine ⟨_, rfl, _, _, rfl, rfl, _, rfl, ?_⟩
    refine x_ite (fun h' => ?_) (fun h' => ?_)
    · rw [if_pos (.inr h')] at k
      exact k
    · rw [if_neg (fun z => z.elim h h')] at k
      exact ⟨_, rfl, _, _, rfl, rfl, _, _, rfl, rfl, .inr ⟨by decide, by decide⟩, _, rfl, _, _, rfl, rfl, k⟩
theorem ok_Tube_init (T : Txt K mg a) : FnOk P w K mg base CX0 1 a.f_Tube_init a.d_Tube_init ["self", "patient", "origin", "depth", "left"] (sp_Tube_init K a) := by
  refine T.F_Tube_init.ok sc_Tube_init (fun vs H Q E h => ?_) (fun cdv A outer s H vs Q E hr h => ?_)
  · obtain ⟨x, dx, pa, o, d, l, rfl, _⟩ := h
    rfl
  · obtain ⟨x, dx, pa, o, d, l, rfl, hx, k⟩ := h
    refine ⟨_, (pss_cons (ps_fld (pv 0) (pv 1) rfl) (pss_cons (ps_fld (pv 0) (pv 2) rfl) (pss_cons (ps_fld (pv 0) (pv 3) rfl) (pss_cons (ps_fld (pv 0) (pv 4) rfl) (pss_cons (ps_fld (pv 0) (pe_gi rfl T.k_NOWHERE) rfl) (pss_one (ps_fld (pv 0) pe_int rfl))))))), ?_⟩
    refine ⟨_, rfl, _, rfl, x, _, dx, _, rfl, hx, T.cl_Tube, T.n_Tube_patient, (by show 0 < 1000; decide), ?_⟩
    refine ⟨_, rfl, _, rfl, x, _, dx, _, rfl, upd_of fl_Tube_new0, T.cl_Tube, T.n_Tube_origin, (by show 1 < 1000; decide), ?_⟩
    refine ⟨_, rfl, _, rfl, x, _, dx, _, rfl, upd_of fl_Tube_new1, T.cl_Tube, T.n_Tube_depth, (by show 2 < 1000; decide), ?_⟩
    refine ⟨_, rfl, _, rfl, x, _, dx, _, rfl, upd_of fl_Tube_new2, T.cl_Tube, T.n_Tube_left, (by show 3 < 1000; decide), ?_⟩
    refine ⟨_, rfl, x, _, dx, _, rfl, upd_of fl_Tube_new3, T.cl_Tube, T.n_Tube_spot, (by show 4 < 1000; decide), ?_⟩
    refine ⟨_, rfl, x, _, dx, _, rfl, upd_of fl_Tube_new4, T.cl_Tube, T.n_Tube_used, (by show 5 < 1000; decide), ?_⟩
    refine k _ (upd_of fl_Tube_new5) fun b hb => ?_
    rw [upd_ne hb, upd_ne hb, upd_ne hb, upd_ne hb, upd_ne hb, upd_ne hb]
theorem ok_Tubes_init (T : Txt K mg a) : FnOk P w K mg base CX0 1 a.f_Tubes_init a.d_Tubes_init ["self"] (sp_Tubes_init K a) := by
  refine T.F_Tubes_init.ok sc_Tubes_init (fun vs H Q E h => ?_) (fun cdv A outer s H vs Q E hr h => ?_)
  · obtain ⟨p, dx, rfl, _⟩ := h
    rfl
  · obtain ⟨p, dx, rfl, hp, k⟩ := h
    refine ⟨_, (pss_one (ps_fld (pv 0) (pe_lst pa_nil) rfl)), ?_⟩
    refine ⟨Nat.zero_le _, fun l hl => ?_⟩
    have npl : p ≠ l := ne_of_none hp hl
    refine ⟨_, rfl, p, _, dx, _, rfl, (upd_ne npl).trans hp, T.cl_Tubes, T.n_Tubes_tubes, (by show 0 < 1000; decide), ?_⟩
    refine k l _ ⟨⟨dx, upd_of fl_Tubes_new0⟩, by rw [upd_ne npl.symm, upd_same]; rfl, List.nodup_nil, rfl, fun j q h => by simp at h⟩ ⟨fun b o e h => ?_, fun b hb => ?_, fun b hb => ?_⟩
    · have hb : b ≠ p := fun z => h (by simp [z])
      rw [upd_ne hb, upd_ne (ne_of_none e hl)]
      exact e
    · rcases List.mem_cons.mp hb with z | z
      · exact .inl (by simp [z])
      · exact .inr (by rw [List.mem_singleton.mp z]; exact hl)
    · exact ⟨_, by rw [List.mem_singleton.mp hb]; exact upd_same⟩
theorem ok_Tubes_start (T : Txt K mg a) : FnOk P w K mg base CX0 1 a.f_Tubes_start a.d_Tubes_start ["self"] (sp_Tubes_start K a) := by
  refine T.F_Tubes_start.ok sc_Tubes_start (fun vs H Q E h => ?_) (fun cdv A outer s H vs Q E hr h => ?_)
  · obtain ⟨p, l, as, ts, rfl, _⟩ := h
    rfl
  · obtain ⟨p, l, as, ts, rfl, C, k⟩ := h
    obtain ⟨⟨dx, hp⟩, hl0, _⟩ := id C
    refine ⟨_, (pss_cons (ps_fld (pv 0) (pe_lst pa_nil) rfl) (pss_one (ps_ret pe_int))), ?_⟩
    refine ⟨Nat.zero_le _, fun l' hl => ?_⟩
    have npl : p ≠ l' := ne_of_none hp hl
    refine ⟨_, rfl, p, _, dx, _, rfl, (upd_ne npl).trans hp, T.cl_Tubes, T.n_Tubes_tubes, fl_Tubes_len, ?_⟩
    refine k l' _ ⟨⟨dx, upd_of fl_Tubes_put_tubes⟩, by rw [upd_ne npl.symm, upd_same]; rfl, List.nodup_nil, rfl, fun j q h => by simp at h⟩ ⟨fun b o e h => ?_, fun b hb => ?_, fun b hb => ?_⟩
    · have hb : b ≠ p := fun z => h (by simp [z])
      rw [upd_ne hb, upd_ne (ne_of_none e hl)]
      exact e
    · rcases List.mem_cons.mp hb with z | z
      · exact .inl (by simp [z])
      · exact .inr (by rw [List.mem_singleton.mp z]; exact hl)
    · by_cases hbp : b = p
      · exact ⟨_, by rw [hbp]; exact upd_same⟩
      · obtain ⟨o, e⟩ := C.dom b hb
        exact ⟨o, by rw [upd_ne hbp, upd_ne (ne_of_none e hl)]; exact e⟩
theorem ok_Tubes_has (T : Txt K mg a) : FnOk P w K mg base CX0 1 a.f_Tubes_has a.d_Tubes_has ["self", "number"] (sp_Tubes_has K a) := by
  refine T.F_Tubes_has.ok sc_Tubes_has (fun vs H Q E h => ?_) (fun cdv A outer s H vs Q E hr h => ?_)
  · obtain ⟨p, l, as, ts, n, rfl, _⟩ := h
    rfl
  · obtain ⟨p, l, as, ts, n, rfl, C, k⟩ := h
    obtain ⟨⟨dx, h1⟩, hl, _, hlen, _⟩ := id C
    refine ⟨_, (pss_one (ps_ret (pe_cmpR op_lt (pv 1) (pe_callB call_len_seq rfl T.n_len PySem.boot_len (pa_cons (pe_fld (pv 0) rfl) pa_nil)) (nomark _)))), ?_⟩
    refine ⟨_, rfl, _, rfl, p, _, dx, _, _, rfl, h1, T.cl_Tubes, T.n_Tubes_tubes, fl_Tubes_get_tubes, l, _, rfl, .inl (SqL.of hl), _, _, rfl, rfl, ?_⟩
    have e : decide ((n : Int) < (((as.map V.ref).length : Nat) : Int)) = decide (n < ts.length) := by
      rw [List.length_map, hlen]
      exact decide_eq_decide.mpr (by omega)
    show Q (.bl (decide ((n : Int) < (((as.map V.ref).length : Nat) : Int)))) H
    rw [e]
    exact k
theorem ok_Tubes_is_full (T : Txt K mg a) : FnOk P w K mg base CX0 1 a.f_Tubes_is_full a.d_Tubes_is_full ["self"] (sp_Tubes_is_full K a) := by
  refine T.F_Tubes_is_full.ok sc_Tubes_is_full (fun vs H Q E h => ?_) (fun cdv A outer s H vs Q E hr h => ?_)
  · obtain ⟨p, l, as, ts, rfl, _⟩ := h
    rfl
  · obtain ⟨p, l, as, ts, rfl, C, k⟩ := h
    obtain ⟨⟨dx, h1⟩, hl, _, hlen, _⟩ := id C
    refine ⟨_, (pss_one (ps_ret (pe_cmpR op_ge (pe_callB call_len_seq rfl T.n_len PySem.boot_len (pa_cons (pe_fld (pv 0) rfl) pa_nil)) (pe_gi rfl T.k_MOST_TUBES) (nomark _)))), ?_⟩
    refine ⟨_, rfl, p, _, dx, _, _, rfl, h1, T.cl_Tubes, T.n_Tubes_tubes, fl_Tubes_get_tubes, l, _, rfl, .inl (SqL.of hl), _, _, rfl, rfl, ?_⟩
    have e : decide ((256 : Int) ≤ (((as.map V.ref).length : Nat) : Int)) = decide (256 ≤ ts.length) := by
      rw [List.length_map, hlen]
      exact decide_eq_decide.mpr (by omega)
    show Q (.bl (decide ((256 : Int) ≤ (((as.map V.ref).length : Nat) : Int)))) H
    rw [e]
    exact k
theorem ok_Tubes_add (T : Txt K mg a) : FnOk P w K mg base CX0 1 a.f_Tubes_add a.d_Tubes_add ["self", "tube"] (sp_Tubes_add K a) := by
  refine T.F_Tubes_add.ok sc_Tubes_add (fun vs H Q E h => ?_) (fun cdv A outer s H vs Q E hr h => ?_)
  · obtain ⟨p, l, x, dx, as, ts, t, rfl, _⟩ := h
    rfl
  · obtain ⟨p, l, x, dx, as, ts, t, rfl, C, hx, hn, hlt, k⟩ := h
    obtain ⟨⟨dp, h1⟩, hl, _, hlen, _⟩ := id C
    refine ⟨_, (pss_cons (ps_expr (pe_bm PySem.F.plainAttrs_list PySem.F.slot_list_append PySem.F.type_list_append mt_append (pe_fld (pv 0) rfl) (pa_cons (pv 1) pa_nil))) (pss_one (ps_ret (pe_op op_sub (pe_callB call_len_seq rfl T.n_len PySem.boot_len (pa_cons (pe_fld (pv 0) rfl) pa_nil)) pe_int)))), ?_⟩
    have hz : (as.map V.ref).length < sizeLine := by
      rw [List.length_map, hlen]
      have : sizeLine = 16777216 := sizeLine_eq
      omega
    refine ⟨_, rfl, p, _, dp, _, _, rfl, h1, T.cl_Tubes, T.n_Tubes_tubes, fl_Tubes_get_tubes, .inl ⟨rfl, _, SqL.of hl⟩, _, rfl, l, _, _, rfl, rfl, hl, hz, ?_⟩
    have C' := C.app hx hn
    obtain ⟨⟨dp', h1'⟩, hl', _, hlen', _⟩ := id C'
    refine ⟨_, rfl, p, _, dp', _, _, rfl, h1', T.cl_Tubes, T.n_Tubes_tubes, fl_Tubes_get_tubes, l, _, rfl, .inl (SqL.of hl'), _, _, rfl, rfl, ?_⟩
    have e : ((((as ++ [x]).map V.ref).length : Nat) : Int) - 1 = (ts.length : Int) := by
      rw [List.length_map, List.length_append, hlen]
      show ((ts.length + 1 : Nat) : Int) - 1 = _
      omega
    have q := k _ C' fun b hb => upd_ne hb
    show Q (.int (((((as ++ [x]).map V.ref).length : Nat) : Int) - 1)) _
    rw [e]
    exact q
theorem ok_Tubes_refusal_to_draw (T : Txt K mg a) : FnOk P w K mg base CX0 2 a.f_Tubes_refusal_to_draw a.d_Tubes_refusal_to_draw ["self", "number", "volume"] (sp_Tubes_refusal_to_draw K a) := by
  have G_Tubes_has : FnOk P w K mg base CX0 1 a.f_Tubes_has a.d_Tubes_has ["self", "number"] (sp_Tubes_has K a) := ok_Tubes_has T
  refine T.F_Tubes_refusal_to_draw.ok sc_Tubes_refusal_to_draw (fun vs H Q E h => ?_) (fun cdv A outer s H vs Q E hr h => ?_)
  · obtain ⟨p, l, as, ts, n, v, rfl, _⟩ := h
    rfl
  · obtain ⟨p, l, as, ts, n, v, rfl, C, k⟩ := h
    obtain ⟨⟨dx, h1⟩, hl, _, hlen, _⟩ := id C
    refine ⟨_, (pss_cons (ps_if (pt_cmpR op_eq (pv 2) pe_int (nomark _)) (pss_one (ps_ret (pe_gi rfl T.k_NOT_AS_TOLD))) pss_nil) (pss_cons (ps_if (pt_not (pt_val (pe_meth (pv 0) T.cl_Tubes T.m_Tubes_has G_Tubes_has (hr.mono (by decide)) T.b_Tubes_has .nil pass0 (pa_cons (pv 1) pa_nil)))) (pss_one (ps_ret (pe_gi rfl T.k_NO_SUCH))) pss_nil) (pss_cons (ps_set (i := 3) sc_Tubes_refusal_to_draw.nd rfl (Or.inl rfl) (pe_ix ix_list (pe_fld (pv 0) rfl) (pv 1) (fun _ _ => rfl))) (pss_cons (ps_if (pt_cmpR op_lt (pe_fld (pv 3) rfl) (pv 2) (nomark _)) (pss_one (ps_ret (pe_gi rfl T.k_TOO_LITTLE))) pss_nil) (pss_one (ps_ret pe_int)))))), ?_⟩
    unfold refusal at k
    refine ⟨_, rfl, x_eqC ⟨_, rfl, ?_⟩⟩
    refine x_ite (fun h => ?_) (fun h => ?_)
    · rw [if_pos h] at k
      exact k
    rw [if_neg h] at k
    refine ⟨_, rfl, p, dx, _, rfl, h1, fl_Tubes_no_has, _, rfl, ?_⟩
    refine ⟨p, l, as, ts, n, rfl, C, ⟨_, rfl, ?_⟩⟩
    refine x_iten (fun h2 => ?_) (fun h2 => ?_)
    · rw [List.getElem?_eq_none (by omega)] at k
      exact k
    have hg : ts[n]? = some ts[n] := List.getElem?_eq_getElem h2
    rw [hg] at k
    obtain ⟨q, dq, hq, hH, hat⟩ := C.get hg
    refine ⟨_, rfl, p, _, dx, _, _, rfl, h1, T.cl_Tubes, T.n_Tubes_tubes, fl_Tubes_get_tubes, _, rfl, l, _, _, _, rfl, rfl, SqL.of hl, hat, ?_⟩
    refine ⟨_, rfl, q, _, dq, _, _, rfl, hH, T.cl_Tube, T.n_Tube_left, fl_Tube_get_left, _, rfl, _, _, rfl, rfl, _, rfl, ?_⟩
    have k : Q (.int (if ts[n].left < v then -61 else 0)) H := k
    refine x_ite (fun h3 => ?_) (fun h3 => ?_)
    · rw [if_pos h3] at k
      exact k
    · rw [if_neg h3] at k
      exact k
theorem ok_Tubes_standing_at (T : Txt K mg a) : FnOk P w K mg base CX0 1 a.f_Tubes_standing_at a.d_Tubes_standing_at ["self", "spot"] (sp_Tubes_standing_at K a) := by
  refine T.F_Tubes_standing_at.ok sc_Tubes_standing_at (fun vs H Q E h => ?_) (fun cdv A outer s H vs Q E hr h => ?_)
  · obtain ⟨p, l, as, ts, spot, rfl, _⟩ := h
    rfl
  · obtain ⟨p, l, as, ts, spot, rfl, C, k⟩ := h
    obtain ⟨⟨dx, h1⟩, hl, _, hlen, _⟩ := id C
    refine ⟨_, (pss_cons (ps_for PassesOwn.never rfl (pi_enum rfl T.n_enumerate (pa_cons (pe_fld (pv 0) rfl) pa_nil)) (pg_tup rfl (pgs_cons (pg_name (i := 2) sc_Tubes_standing_at.nd rfl (Or.inl rfl)) (pgs_cons (pg_name (i := 3) sc_Tubes_standing_at.nd rfl (Or.inl rfl)) pgs_nil))) (pss_one (ps_if (pt_cmpR op_eq (pe_fld (pv 3) rfl) (pv 1) (nomark _)) (pss_one (ps_ret (pv 2))) pss_nil))) (pss_one (ps_ret (pe_gi rfl T.k_NO_SUCH)))), ?_⟩
    refine ⟨_, rfl, p, _, dx, _, _, rfl, h1, T.cl_Tubes, T.n_Tubes_tubes, fl_Tubes_get_tubes, l, as.map V.ref, rfl, SqL.of hl, for_enum (K := K) (a := l) (xs := as.map V.ref)
      (fun i σ H2 => ∃ v2 v3 : Option V, σ = [some (.ref p), some (.int spot), v2, v3] ∧ Same H H2 ∧ standing ts spot 0 = standing (ts.drop i) spot i)
      ⟨none, none, rfl, Same.refl _, rfl⟩ (fun i σ H2 _ ⟨_, _, _, s2, _⟩ => s2.seq (SqL.of hl)) ?_ ?_⟩
    · rintro i y σ H2 z hi ⟨v2, v3, rfl, s2, hs⟩ hz
      obtain ⟨q, hq, rfl⟩ := get_ref hi
      obtain ⟨t, dq, ht, hH⟩ := C.at_ i q hq
      have s3 : Same H (upd H2 z (.tup [.int (i : Nat), .ref q])) := s2.trans (same_new hz)
      rw [standing_drop ht] at hs
      refine ⟨z, _, rfl, SqT.of upd_same, rfl, _, _, rfl, _, _, rfl, rfl, ?_⟩
      refine ⟨_, rfl, q, _, dq, _, _, rfl, s3 _ _ hH, T.cl_Tube, T.n_Tube_spot, fl_Tube_get_spot, _, rfl, x_eqI ⟨_, rfl, ?_⟩⟩
      refine x_ite (fun h => ?_) (fun h => ?_)
      · rw [if_pos h] at hs
        have e : standingAt ts spot = (i : Int) := by unfold standingAt; rw [hs]
        have q' := k _ s3
        rw [e] at q'
        exact ⟨_, rfl, q'⟩
      · rw [if_neg h] at hs
        exact ⟨_, _, rfl, s3, hs⟩
    · rintro σ H2 ⟨v2, v3, rfl, s2, hs⟩
      rw [List.length_map, hlen, List.drop_length] at hs
      have e : standingAt ts spot = -2 := by unfold standingAt; rw [hs]; rfl
      have q' := k _ s2
      rw [e] at q'
      exact q'
end
end WL

namespace WL
open PySem L2
section
variable {a : Ad} {H H1 H2 H3 : Hp} {p l : Addr} {as : List Addr} {ts : List PT}
theorem frm_add {x : Addr} (c : TubAt a H p l as ts) (s : Same H H2) (k : ∀ b, b ≠ l → H3 b = H2 b) (c3 : ∃ o, H3 l = some o) (hx : H x = none) : Frm (p :: l :: as) (p :: l :: (as ++ [x])) H H3 := by
  refine ⟨fun b o e h => ?_, fun b hb => ?_, fun b hb => ?_⟩
  · rw [k b (fun z => h (by simp [z]))]
    exact s b o e
  · have hb : b = p ∨ b = l ∨ b ∈ as ∨ b = x := by simpa using hb
    rcases hb with z | z | z | z
    · exact .inl (by simp [z])
    · exact .inl (by simp [z])
    · exact .inl (by simp [z])
    · exact .inr (by rw [z]; exact hx)
  · by_cases hl : b = l
    · rw [hl]; exact c3
    · obtain ⟨o, e⟩ := c.dom b hb
      exact ⟨o, by rw [k b hl]; exact s b o e⟩
theorem frm_set {q : Addr} {o : HO} (c : TubAt a H p l as ts) (hq : q ∈ as) : Frm (p :: l :: as) (p :: l :: as) H (upd H q o) := by
  refine ⟨fun b u e h => ?_, fun b hb => .inl hb, fun b hb => ?_⟩
  · rw [upd_ne (fun z => h (by simp [z, hq]))]
    exact e
  · by_cases hb' : b = q
    · exact ⟨o, by rw [hb']; exact upd_same⟩
    · obtain ⟨u, e⟩ := c.dom b hb
      exact ⟨u, by rw [upd_ne hb']; exact e⟩
theorem TubAt.fresh (c : TubAt a H p l as ts) {x : Addr} (h : H x = none) : x ∉ as := by
  intro hm
  obtain ⟨j, hj⟩ := List.mem_iff_getElem?.mp hm
  obtain ⟨t, d, _, e⟩ := c.at_ j x hj
  rw [h] at e
  cases e
theorem made_same {C x dn : Addr} (hx : H x = none) (hdn : H dn = none) (hk : ∀ b, b ≠ x → H2 b = (upd (upd H dn (.own x)) x (.ins C dn [])) b) : Same H H2 := fun b o e => by
  rw [hk b (ne_of_none e hx), upd_ne (ne_of_none e hx), upd_ne (ne_of_none e hdn)]
  exact e
end
theorem refusal_zero {ts : List PT} {k : Nat} {v : Int} (h : refusal ts k v = 0) : ∃ t, ts[k]? = some t := by
  unfold refusal at h
  split at h
  · cases h
  · split at h
    · cases h
    · rename_i t ht
      exact ⟨t, ht⟩
section
variable {P : Program} {w : World} {K : PySem.W.Frag} {mg : Str → Option Value} {base : Heap} {a : Ad}
theorem ok_Tubes_sample (T : Txt K mg a) : FnOk P w K mg base CX0 3 a.f_Tubes_sample a.d_Tubes_sample ["self", "patient", "volume"] (sp_Tubes_sample K a) := by
  have G_Tube_init : FnOk P w K mg base CX0 1 a.f_Tube_init a.d_Tube_init ["self", "patient", "origin", "depth", "left"] (sp_Tube_init K a) := ok_Tube_init T
  have G_Tubes_add : FnOk P w K mg base CX0 1 a.f_Tubes_add a.d_Tubes_add ["self", "tube"] (sp_Tubes_add K a) := ok_Tubes_add T
  have G_Tubes_is_full : FnOk P w K mg base CX0 1 a.f_Tubes_is_full a.d_Tubes_is_full ["self"] (sp_Tubes_is_full K a) := ok_Tubes_is_full T
  refine T.F_Tubes_sample.ok sc_Tubes_sample (fun vs H Q E h => ?_) (fun cdv A outer s H vs Q E hr h => ?_)
  · obtain ⟨p, l, as, ts, pa, v, rfl, _⟩ := h
    rfl
  · obtain ⟨p, l, as, ts, pa, v, rfl, C, k⟩ := h
    obtain ⟨⟨dx, h1⟩, hl, _, hlen, _⟩ := id C
    refine ⟨_, (pss_cons (ps_if (pt_cmpR op_eq (pv 2) pe_int (nomark _)) (pss_one (ps_ret (pe_gi rfl T.k_NOT_AS_TOLD))) pss_nil) (pss_cons (ps_if (pt_val (pe_meth0 (pv 0) T.cl_Tubes T.m_Tubes_is_full G_Tubes_is_full (hr.mono (by decide)) T.b_Tubes_is_full .nil pass0)) (pss_one (ps_ret (pe_gi rfl T.k_FULL))) pss_nil) (pss_one (ps_ret (pe_meth (pv 0) T.cl_Tubes T.m_Tubes_add G_Tubes_add (hr.mono (by decide)) T.b_Tubes_add .nil pass0 (pa_cons (pe_make T.mk_Tube G_Tube_init (hr.mono (by decide)) rfl T.g_Tube T.b_Tube_init .nil pass0 (pa_cons (pv 1) (pa_cons (pe_callB call_len_seq rfl T.n_len PySem.boot_len (pa_cons (pe_fld (pv 0) rfl) pa_nil)) (pa_cons pe_int (pa_cons (pv 2) pa_nil))))) pa_nil)))))), ?_⟩
    unfold mSample at k
    refine ⟨_, rfl, x_eqC ⟨_, rfl, ?_⟩⟩
    refine x_ite (fun h => ?_) (fun h => ?_)
    · rw [if_pos h] at k
      exact k as H C (Frm.refl C.dom)
    rw [if_neg h] at k
    refine ⟨_, rfl, p, dx, _, rfl, h1, fl_Tubes_no_is_full, p, l, as, ts, rfl, C, ⟨_, rfl, ?_⟩⟩
    refine x_ite (fun h2 => ?_) (fun h2 => ?_)
    · rw [if_pos h2] at k
      exact k as H C (Frm.refl C.dom)
    rw [if_neg h2] at k
    refine ⟨_, rfl, p, dx, _, rfl, h1, fl_Tubes_no_add, _, rfl, _, rfl, p, _, dx, _, _, rfl, h1, T.cl_Tubes, T.n_Tubes_tubes, fl_Tubes_get_tubes, l, _, rfl, .inl (SqL.of hl), _, rfl, fun x dn hx hdn hne => ?_⟩
    refine ⟨x, dn, pa, _, 0, v, rfl, upd_same, fun H2 hx2 hk2 => ⟨rfl, ?_⟩⟩
    have s2 : Same H H2 := made_same hx hdn hk2
    have el : (((as.map V.ref).length : Nat) : Int) = (ts.length : Int) := by rw [List.length_map, hlen]
    rw [el] at hx2
    refine ⟨p, l, x, dn, as, ts, _, rfl, C.same s2, hx2, C.fresh hx, by omega, fun H3 C3 hk3 => ?_⟩
    exact k (as ++ [x]) H3 C3 (frm_add C s2 hk3 ⟨_, C3.ls⟩ hx)
theorem ok_Tubes_take (T : Txt K mg a) : FnOk P w K mg base CX0 3 a.f_Tubes_take a.d_Tubes_take ["self", "number", "volume"] (sp_Tubes_take K a) := by
  have G_Tube_init : FnOk P w K mg base CX0 1 a.f_Tube_init a.d_Tube_init ["self", "patient", "origin", "depth", "left"] (sp_Tube_init K a) := ok_Tube_init T
  have G_Tubes_add : FnOk P w K mg base CX0 1 a.f_Tubes_add a.d_Tubes_add ["self", "tube"] (sp_Tubes_add K a) := ok_Tubes_add T
  have G_Tubes_is_full : FnOk P w K mg base CX0 1 a.f_Tubes_is_full a.d_Tubes_is_full ["self"] (sp_Tubes_is_full K a) := ok_Tubes_is_full T
  have G_Tubes_refusal_to_draw : FnOk P w K mg base CX0 2 a.f_Tubes_refusal_to_draw a.d_Tubes_refusal_to_draw ["self", "number", "volume"] (sp_Tubes_refusal_to_draw K a) := ok_Tubes_refusal_to_draw T
  refine T.F_Tubes_take.ok sc_Tubes_take (fun vs H Q E h => ?_) (fun cdv A outer s H vs Q E hr h => ?_)
  · obtain ⟨p, l, as, ts, n, v, rfl, _⟩ := h
    rfl
  · obtain ⟨p, l, as, ts, n, v, rfl, C, k⟩ := h
    obtain ⟨⟨dx, h1⟩, hl, _, hlen, _⟩ := id C
    refine ⟨_, (pss_cons (ps_set (i := 3) sc_Tubes_take.nd rfl (Or.inl rfl) (pe_meth (pv 0) T.cl_Tubes T.m_Tubes_refusal_to_draw G_Tubes_refusal_to_draw (hr.mono (by decide)) T.b_Tubes_refusal_to_draw .nil pass0 (pa_cons (pv 1) (pa_cons (pv 2) pa_nil)))) (pss_cons (ps_if (pt_cmpR op_ne (pv 3) pe_int (nomark _)) (pss_one (ps_ret (pv 3))) pss_nil) (pss_cons (ps_if (pt_val (pe_meth0 (pv 0) T.cl_Tubes T.m_Tubes_is_full G_Tubes_is_full (hr.mono (by decide)) T.b_Tubes_is_full .nil pass0)) (pss_one (ps_ret (pe_gi rfl T.k_FULL))) pss_nil) (pss_cons (ps_set (i := 4) sc_Tubes_take.nd rfl (Or.inl rfl) (pe_ix ix_list (pe_fld (pv 0) rfl) (pv 1) (fun _ _ => rfl))) (pss_cons (ps_fld (pv 4) (pe_op op_sub (pe_fld (pv 4) rfl) (pv 2)) rfl) (pss_one (ps_ret (pe_meth (pv 0) T.cl_Tubes T.m_Tubes_add G_Tubes_add (hr.mono (by decide)) T.b_Tubes_add .nil pass0 (pa_cons (pe_make T.mk_Tube G_Tube_init (hr.mono (by decide)) rfl T.g_Tube T.b_Tube_init .nil pass0 (pa_cons (pe_fld (pv 4) rfl) (pa_cons (pe_fld (pv 4) rfl) (pa_cons (pe_op op_add (pe_fld (pv 4) rfl) pe_int) (pa_cons (pv 2) pa_nil))))) pa_nil))))))))), ?_⟩
    unfold mTake at k
    refine ⟨_, rfl, p, dx, _, rfl, h1, fl_Tubes_no_refusal_to_draw, _, rfl, _, rfl, p, l, as, ts, n, v, rfl, C, ?_⟩
    refine ⟨_, rfl, x_neC ⟨_, rfl, ?_⟩⟩
    refine x_iten (fun h => ?_) (fun h => ?_)
    · rw [if_pos h] at k
      exact ⟨_, rfl, k as H C (Frm.refl C.dom)⟩
    rw [if_neg (fun z => z h)] at k
    obtain ⟨t, ht⟩ := refusal_zero h
    rw [ht] at k
    refine ⟨_, rfl, p, dx, _, rfl, h1, fl_Tubes_no_is_full, p, l, as, ts, rfl, C, ⟨_, rfl, ?_⟩⟩
    refine x_ite (fun h2 => ?_) (fun h2 => ?_)
    · rw [if_pos h2] at k
      exact k as H C (Frm.refl C.dom)
    rw [if_neg h2] at k
    obtain ⟨q, dq, hq, hH, hat⟩ := C.get ht
    refine ⟨_, rfl, p, _, dx, _, _, rfl, h1, T.cl_Tubes, T.n_Tubes_tubes, fl_Tubes_get_tubes, _, rfl, l, _, _, _, rfl, rfl, SqL.of hl, hat, ?_⟩
    refine ⟨_, rfl, q, _, dq, _, _, rfl, hH, T.cl_Tube, T.n_Tube_left, fl_Tube_get_left, _, rfl, _, _, rfl, rfl, _, rfl, q, _, dq, _, rfl, hH, T.cl_Tube, T.n_Tube_left, fl_Tube_len, ?_⟩
    have eF : putF "left" (V.int (t.left - v)) (flT t) = flT { t with left := t.left - v } := fl_Tube_put_left
    rw [eF]
    have C1 := C.set hq { t with left := t.left - v } hH
    obtain ⟨⟨dx1, h11⟩, hl1, _, hlen1, _⟩ := id C1
    refine ⟨_, rfl, p, dx1, _, rfl, h11, fl_Tubes_no_add, _, rfl, q, _, dq, _, _, rfl, upd_same, T.cl_Tube, T.n_Tube_patient, fl_Tube_get_patient, _, rfl, q, _, dq, _, _, rfl, upd_same, T.cl_Tube, T.n_Tube_origin, fl_Tube_get_origin,
      _, rfl, q, _, dq, _, _, rfl, upd_same, T.cl_Tube, T.n_Tube_depth, fl_Tube_get_depth, _, _, rfl, rfl, _, rfl, fun x dn hx hdn hne => ?_⟩
    refine ⟨x, dn, _, _, _, v, rfl, upd_same, fun H2 hx2 hk2 => ⟨rfl, ?_⟩⟩
    have s2 := made_same hx hdn hk2
    refine ⟨p, l, x, dn, as, ts.set n { t with left := t.left - v }, _, rfl, C1.same s2, hx2, C1.fresh hx, by rw [List.length_set]; omega, fun H3 C3 hk3 => ?_⟩
    rw [List.length_set]
    exact k (as ++ [x]) H3 C3 ((frm_set C (List.mem_of_getElem? hq)).trans (frm_add C1 s2 hk3 ⟨_, C3.ls⟩ hx))
theorem ok_Tubes_use (T : Txt K mg a) : FnOk P w K mg base CX0 3 a.f_Tubes_use a.d_Tubes_use ["self", "number", "volume"] (sp_Tubes_use K a) := by
  have G_Tubes_refusal_to_draw : FnOk P w K mg base CX0 2 a.f_Tubes_refusal_to_draw a.d_Tubes_refusal_to_draw ["self", "number", "volume"] (sp_Tubes_refusal_to_draw K a) := ok_Tubes_refusal_to_draw T
  refine T.F_Tubes_use.ok sc_Tubes_use (fun vs H Q E h => ?_) (fun cdv A outer s H vs Q E hr h => ?_)
  · obtain ⟨p, l, as, ts, n, v, rfl, _⟩ := h
    rfl
  · obtain ⟨p, l, as, ts, n, v, rfl, C, hor, k⟩ := h
    obtain ⟨⟨dx, h1⟩, hl, _, hlen, _⟩ := id C
    refine ⟨_, (pss_cons (ps_set (i := 3) sc_Tubes_use.nd rfl (Or.inl rfl) (pe_meth (pv 0) T.cl_Tubes T.m_Tubes_refusal_to_draw G_Tubes_refusal_to_draw (hr.mono (by decide)) T.b_Tubes_refusal_to_draw .nil pass0 (pa_cons (pv 1) (pa_cons (pv 2) pa_nil)))) (pss_cons (ps_if (pt_cmpR op_ne (pv 3) pe_int (nomark _)) (pss_one (ps_ret (pv 3))) pss_nil) (pss_cons (ps_set (i := 4) sc_Tubes_use.nd rfl (Or.inl rfl) (pe_ix ix_list (pe_fld (pv 0) rfl) (pv 1) (fun _ _ => rfl))) (pss_cons (ps_fld (pv 4) (pe_op op_sub (pe_fld (pv 4) rfl) (pv 2)) rfl) (pss_cons (ps_set (i := 5) sc_Tubes_use.nd rfl (Or.inl rfl) (pe_ix ix_list (pe_fld (pv 0) rfl) (pe_fld (pv 4) rfl) (fun _ _ => rfl))) (pss_cons (ps_fld (pv 5) (pe_op op_add (pe_fld (pv 5) rfl) (pv 2)) rfl) (pss_one (ps_ret (pe_op op_mod (pe_fld (pv 4) rfl) (pe_gi rfl T.k_LEFT_MODULUS)))))))))), ?_⟩
    unfold mUse at k
    refine ⟨_, rfl, p, dx, _, rfl, h1, fl_Tubes_no_refusal_to_draw, _, rfl, _, rfl, p, l, as, ts, n, v, rfl, C, ?_⟩
    refine ⟨_, rfl, x_neC ⟨_, rfl, ?_⟩⟩
    refine x_iten (fun h => ?_) (fun h => ?_)
    · rw [if_pos h] at k
      exact ⟨_, rfl, k H C (Frm.refl C.dom)⟩
    rw [if_neg (fun z => z h)] at k
    obtain ⟨t, ht⟩ := refusal_zero h
    rw [ht] at k
    obtain ⟨q, dq, hq, hH, hat⟩ := C.get ht
    refine ⟨_, rfl, p, _, dx, _, _, rfl, h1, T.cl_Tubes, T.n_Tubes_tubes, fl_Tubes_get_tubes, _, rfl, l, _, _, _, rfl, rfl, SqL.of hl, hat, ?_⟩
    refine ⟨_, rfl, q, _, dq, _, _, rfl, hH, T.cl_Tube, T.n_Tube_left, fl_Tube_get_left, _, rfl, _, _, rfl, rfl, _, rfl, q, _, dq, _, rfl, hH, T.cl_Tube, T.n_Tube_left, fl_Tube_len, ?_⟩
    have eF : putF "left" (V.int (t.left - v)) (flT t) = flT { t with left := t.left - v } := fl_Tube_put_left
    rw [eF]
    have C1 := C.set hq { t with left := t.left - v } hH
    obtain ⟨⟨dx1, h11⟩, hl1, _, hlen1, _⟩ := id C1
    have ho := hor t (List.mem_of_getElem? ht)
    have hos : ∃ o, (ts.set n { t with left := t.left - v })[t.origin.toNat]? = some o := ⟨_, List.getElem?_eq_getElem (by rw [List.length_set]; omega)⟩
    obtain ⟨o, hos⟩ := hos
    have k : ∀ H', TubAt a H' p l as ((ts.set n { t with left := t.left - v }).set t.origin.toNat { o with used := o.used + v }) → Frm (p :: l :: as) (p :: l :: as) H H' → Q (.int ((t.left - v) % 2147483648)) H' := by
      simp only [hos] at k
      exact k
    obtain ⟨qo, dqo, hqo, hHo, hato⟩ := C1.get hos
    have eo : ((t.origin.toNat : Nat) : Int) = t.origin := by omega
    rw [eo] at hato
    refine ⟨_, rfl, p, _, dx1, _, _, rfl, h11, T.cl_Tubes, T.n_Tubes_tubes, fl_Tubes_get_tubes, _, rfl, q, _, dq, _, _, rfl, upd_same, T.cl_Tube, T.n_Tube_origin, fl_Tube_get_origin, l, _, _, _, rfl, rfl, SqL.of hl1, hato, ?_⟩
    refine ⟨_, rfl, qo, _, dqo, _, _, rfl, hHo, T.cl_Tube, T.n_Tube_used, fl_Tube_get_used, _, rfl, _, _, rfl, rfl, _, rfl, qo, _, dqo, _, rfl, hHo, T.cl_Tube, T.n_Tube_used, fl_Tube_len, ?_⟩
    have eF2 : putF "used" (V.int (o.used + v)) (flT o) = flT { o with used := o.used + v } := fl_Tube_put_used
    rw [eF2]
    have C2 := C1.set hqo { o with used := o.used + v } hHo
    -- the tube's left as it stands then
    have hn2 : ∃ t2, ((ts.set n { t with left := t.left - v }).set t.origin.toNat { o with used := o.used + v })[n]? = some t2 ∧ t2.left = t.left - v := by
      have hn : n < ts.length := (List.getElem?_eq_some_iff.mp ht).1
      have e1 : (ts.set n { t with left := t.left - v })[n]? = some { t with left := t.left - v } := List.getElem?_set_self hn
      by_cases he : t.origin.toNat = n
      · rw [he] at hos ⊢
        rw [e1] at hos
        cases hos
        exact ⟨_, List.getElem?_set_self (by rw [List.length_set]; exact hn), rfl⟩
      · exact ⟨_, by rw [List.getElem?_set_ne he]; exact e1, rfl⟩
    obtain ⟨t2, ht2, hl2⟩ := hn2
    obtain ⟨q2, dq2, hq2, hH2, _⟩ := C2.get ht2
    rw [hq] at hq2
    cases hq2
    refine ⟨_, rfl, q, _, dq2, _, _, rfl, hH2, T.cl_Tube, T.n_Tube_left, fl_Tube_get_left, _, _, rfl, rfl, (by show (0 : Int) < 2147483648; decide), ?_⟩
    rw [hl2]
    exact k _ C2 ((frm_set C (List.mem_of_getElem? hq)).trans (frm_set C1 (List.mem_of_getElem? hqo)))
theorem ok_Tubes_put (T : Txt K mg a) : FnOk P w K mg base CX0 2 a.f_Tubes_put a.d_Tubes_put ["self", "number", "rack", "place"] (sp_Tubes_put K a) := by
  have G_Tubes_has : FnOk P w K mg base CX0 1 a.f_Tubes_has a.d_Tubes_has ["self", "number"] (sp_Tubes_has K a) := ok_Tubes_has T
  have G_Tubes_standing_at : FnOk P w K mg base CX0 1 a.f_Tubes_standing_at a.d_Tubes_standing_at ["self", "spot"] (sp_Tubes_standing_at K a) := ok_Tubes_standing_at T
  have G_spot_of : FnOk P w K mg base CX0 1 a.f_spot_of a.d_spot_of ["rack", "place"] (sp_spot_of K a) := ok_spot_of T
  refine T.F_Tubes_put.ok sc_Tubes_put (fun vs H Q E h => ?_) (fun cdv A outer s H vs Q E hr h => ?_)
  · obtain ⟨p, l, as, ts, n, r, pl, rfl, _⟩ := h
    rfl
  · obtain ⟨p, l, as, ts, n, r, pl, rfl, C, k⟩ := h
    obtain ⟨⟨dx, h1⟩, hl, _, hlen, _⟩ := id C
    refine ⟨_, (pss_cons (ps_set (i := 4) sc_Tubes_put.nd rfl (Or.inl rfl) (pe_call G_spot_of (hr.mono (by decide)) rfl T.g_spot_of T.kp_spot_of T.b_spot_of .nil pass0 (pa_cons (pv 2) (pa_cons (pv 3) pa_nil)))) (pss_cons (ps_if (pt_cmpR op_eq (pv 4) (pe_gi rfl T.k_NOWHERE) (nomark _)) (pss_one (ps_ret (pe_gi rfl T.k_NOT_AS_TOLD))) pss_nil) (pss_cons (ps_if (pt_not (pt_val (pe_meth (pv 0) T.cl_Tubes T.m_Tubes_has G_Tubes_has (hr.mono (by decide)) T.b_Tubes_has .nil pass0 (pa_cons (pv 1) pa_nil)))) (pss_one (ps_ret (pe_gi rfl T.k_NO_SUCH))) pss_nil) (pss_cons (ps_set (i := 5) sc_Tubes_put.nd rfl (Or.inl rfl) (pe_meth (pv 0) T.cl_Tubes T.m_Tubes_standing_at G_Tubes_standing_at (hr.mono (by decide)) T.b_Tubes_standing_at .nil pass0 (pa_cons (pv 4) pa_nil))) (pss_cons (ps_if (PW.pt (pw_and (pt_cmpR op_ne (pv 5) (pe_gi rfl T.k_NO_SUCH) (nomark _)) (pw_and1 (pt_cmpR op_ne (pv 5) (pv 1) (nomark _))))) (pss_one (ps_ret (pe_gi rfl T.k_ALREADY))) pss_nil) (pss_cons (ps_set (i := 6) sc_Tubes_put.nd rfl (Or.inl rfl) (pe_ix ix_list (pe_fld (pv 0) rfl) (pv 1) (fun _ _ => rfl))) (pss_cons (ps_fld (pv 6) (pv 4) rfl) (pss_one (ps_ret pe_int))))))))), ?_⟩
    unfold mPut at k
    refine ⟨_, rfl, _, rfl, r, pl, rfl, ?_⟩
    refine ⟨_, rfl, x_eqC ⟨_, rfl, ?_⟩⟩
    refine x_ite (fun h => ?_) (fun h => ?_)
    · rw [if_pos h] at k
      exact k H C (Frm.refl C.dom)
    rw [if_neg h] at k
    refine ⟨_, rfl, p, dx, _, rfl, h1, fl_Tubes_no_has, _, rfl, p, l, as, ts, n, rfl, C, ⟨_, rfl, ?_⟩⟩
    refine x_iten (fun h2 => ?_) (fun h2 => ?_)
    · rw [List.getElem?_eq_none (by omega)] at k
      exact k H C (Frm.refl C.dom)
    have hg : ts[n]? = some ts[n] := List.getElem?_eq_getElem h2
    generalize ts[n] = t at hg
    rw [hg] at k
    refine ⟨_, rfl, p, dx, _, rfl, h1, fl_Tubes_no_standing_at, _, rfl, p, l, as, ts, spotOf r pl, rfl, C, fun H2 s2 => ?_⟩
    have C2 := C.same s2
    have f2 : Frm (p :: l :: as) (p :: l :: as) H H2 := Frm.of_same C.dom s2
    obtain ⟨⟨dx2, h12⟩, hl2, _⟩ := id C2
    refine ⟨_, rfl, x_neC ⟨_, rfl, ?_⟩⟩
    have good : ¬ (standingAt ts (spotOf r pl) ≠ -2 ∧ standingAt ts (spotOf r pl) ≠ (n : Int)) → ∀ H', TubAt a H' p l as (ts.set n { t with spot := spotOf r pl }) → Frm (p :: l :: as) (p :: l :: as) H H' → Q (.int 0) H' := by
      intro hb
      simp only [if_neg hb] at k
      exact k
    obtain ⟨q, dq, hq, hH, hat⟩ := C2.get hg
    have eF : putF "spot" (V.int (spotOf r pl)) (flT t) = flT { t with spot := spotOf r pl } := fl_Tube_put_spot
    have C3 := C2.set hq { t with spot := spotOf r pl } hH
    have f3 := f2.trans (frm_set (o := .ins a.c_Tube dq (flT { t with spot := spotOf r pl })) C2 (List.mem_of_getElem? hq))
    refine x_iten (fun h3 => ?_) (fun h3 => ?_)
    · refine ⟨_, rfl, _, rfl, x_neI ⟨_, rfl, ?_⟩⟩
      refine x_iten (fun h4 => ?_) (fun h4 => ?_)
      · simp only [if_pos (show standingAt ts (spotOf r pl) ≠ -2 ∧ standingAt ts (spotOf r pl) ≠ (n : Int) from ⟨h3, h4⟩)] at k
        exact k H2 C2 f2
      · refine ⟨_, rfl, p, _, dx2, _, _, rfl, h12, T.cl_Tubes, T.n_Tubes_tubes, fl_Tubes_get_tubes, _, rfl, l, _, _, _, rfl, rfl, SqL.of hl2, hat, ?_⟩
        refine ⟨_, rfl, _, rfl, q, _, dq, _, rfl, hH, T.cl_Tube, T.n_Tube_spot, fl_Tube_len, ?_⟩
        rw [eF]
        exact good (fun z => z.2 h4) _ C3 f3
    · refine iteF ?_
      refine ⟨_, rfl, p, _, dx2, _, _, rfl, h12, T.cl_Tubes, T.n_Tubes_tubes, fl_Tubes_get_tubes, _, rfl, l, _, _, _, rfl, rfl, SqL.of hl2, hat, ?_⟩
      refine ⟨_, rfl, _, rfl, q, _, dq, _, rfl, hH, T.cl_Tube, T.n_Tube_spot, fl_Tube_len, ?_⟩
      rw [eF]
      exact good (fun z => z.1 h3) _ C3 f3
theorem ok_Tubes_at (T : Txt K mg a) : FnOk P w K mg base CX0 2 a.f_Tubes_at a.d_Tubes_at ["self", "rack", "place"] (sp_Tubes_at K a) := by
  have G_Tubes_standing_at : FnOk P w K mg base CX0 1 a.f_Tubes_standing_at a.d_Tubes_standing_at ["self", "spot"] (sp_Tubes_standing_at K a) := ok_Tubes_standing_at T
  have G_spot_of : FnOk P w K mg base CX0 1 a.f_spot_of a.d_spot_of ["rack", "place"] (sp_spot_of K a) := ok_spot_of T
  refine T.F_Tubes_at.ok sc_Tubes_at (fun vs H Q E h => ?_) (fun cdv A outer s H vs Q E hr h => ?_)
  · obtain ⟨p, l, as, ts, r, pl, rfl, _⟩ := h
    rfl
  · obtain ⟨p, l, as, ts, r, pl, rfl, C, k⟩ := h
    obtain ⟨⟨dx, h1⟩, hl, _, hlen, _⟩ := id C
    refine ⟨_, (pss_cons (ps_set (i := 3) sc_Tubes_at.nd rfl (Or.inl rfl) (pe_call G_spot_of (hr.mono (by decide)) rfl T.g_spot_of T.kp_spot_of T.b_spot_of .nil pass0 (pa_cons (pv 1) (pa_cons (pv 2) pa_nil)))) (pss_cons (ps_if (pt_cmpR op_eq (pv 3) (pe_gi rfl T.k_NOWHERE) (nomark _)) (pss_one (ps_ret (pe_gi rfl T.k_NOT_AS_TOLD))) pss_nil) (pss_one (ps_ret (pe_meth (pv 0) T.cl_Tubes T.m_Tubes_standing_at G_Tubes_standing_at (hr.mono (by decide)) T.b_Tubes_standing_at .nil pass0 (pa_cons (pv 3) pa_nil)))))), ?_⟩
    unfold mAt at k
    refine ⟨_, rfl, _, rfl, r, pl, rfl, ?_⟩
    refine ⟨_, rfl, x_eqC ⟨_, rfl, ?_⟩⟩
    refine x_ite (fun h => ?_) (fun h => ?_)
    · rw [if_pos h] at k
      exact k H (Same.refl _)
    rw [if_neg h] at k
    exact ⟨_, rfl, p, dx, _, rfl, h1, fl_Tubes_no_standing_at, _, rfl, p, l, as, ts, spotOf r pl, rfl, C, k⟩
theorem ok_Tubes_of (T : Txt K mg a) : FnOk P w K mg base CX0 2 a.f_Tubes_of a.d_Tubes_of ["self", "number"] (sp_Tubes_of K a) := by
  have G_Tubes_has : FnOk P w K mg base CX0 1 a.f_Tubes_has a.d_Tubes_has ["self", "number"] (sp_Tubes_has K a) := ok_Tubes_has T
  refine T.F_Tubes_of.ok sc_Tubes_of (fun vs H Q E h => ?_) (fun cdv A outer s H vs Q E hr h => ?_)
  · obtain ⟨p, l, as, ts, n, rfl, _⟩ := h
    rfl
  · obtain ⟨p, l, as, ts, n, rfl, C, k⟩ := h
    obtain ⟨⟨dx, h1⟩, hl, _, hlen, _⟩ := id C
    refine ⟨_, (pss_cons (ps_if (pt_not (pt_val (pe_meth (pv 0) T.cl_Tubes T.m_Tubes_has G_Tubes_has (hr.mono (by decide)) T.b_Tubes_has .nil pass0 (pa_cons (pv 1) pa_nil)))) (pss_one (ps_ret (pe_lst (pa_cons (pe_gi rfl T.k_NO_SUCH) pa_nil)))) pss_nil) (pss_cons (ps_set (i := 2) sc_Tubes_of.nd rfl (Or.inl rfl) (pe_ix ix_list (pe_fld (pv 0) rfl) (pv 1) (fun _ _ => rfl))) (pss_one (ps_ret (pe_lst (pa_cons pe_int (pa_cons (pe_fld (pv 2) rfl) (pa_cons (pe_fld (pv 2) rfl) (pa_cons (pe_fld (pv 2) rfl) (pa_cons (pe_fld (pv 2) rfl) pa_nil)))))))))), ?_⟩
    unfold mOf at k
    refine ⟨_, rfl, p, dx, _, rfl, h1, fl_Tubes_no_has, _, rfl, p, l, as, ts, n, rfl, C, ⟨_, rfl, ?_⟩⟩
    refine x_iten (fun h2 => ?_) (fun h2 => ?_)
    · rw [List.getElem?_eq_none (by omega)] at k
      exact ⟨(by show 1 ≤ sizeLine; decide), fun r hr => k r _ hr (same_new hr) upd_same⟩
    have hg : ts[n]? = some ts[n] := List.getElem?_eq_getElem h2
    generalize ts[n] = t at hg
    rw [hg] at k
    obtain ⟨q, dq, hq, hH, hat⟩ := C.get hg
    refine ⟨_, rfl, p, _, dx, _, _, rfl, h1, T.cl_Tubes, T.n_Tubes_tubes, fl_Tubes_get_tubes, _, rfl, l, _, _, _, rfl, rfl, SqL.of hl, hat, ?_⟩
    refine ⟨_, rfl, q, _, dq, _, _, rfl, hH, T.cl_Tube, T.n_Tube_patient, fl_Tube_get_patient, _, rfl, q, _, dq, _, _, rfl, hH, T.cl_Tube, T.n_Tube_origin, fl_Tube_get_origin, _, rfl, q, _, dq, _, _, rfl, hH, T.cl_Tube, T.n_Tube_left, fl_Tube_get_left,
      _, rfl, q, _, dq, _, _, rfl, hH, T.cl_Tube, T.n_Tube_depth, fl_Tube_get_depth, (by show 5 ≤ sizeLine; decide), fun r hr => k r _ hr (same_new hr) upd_same⟩
end
end WL

namespace WL
open PySem L2
def sp_Tubes_sum_of (_ : PySem.W.Frag) (a : Ad) : Sp := fun vs H Q _ => ∃ (p l : Addr) (as : List Addr) (ts : List PT) (k : Nat), vs = [.ref p, .int k] ∧ TubAt a H p l as ts ∧ ts.length ≤ 256 ∧ ∀ r H', H r = none → Same H H' → H' r = some (.lst ((mSum ts k).map V.int)) → Q (.ref r) H'
theorem ofSample_le (ts : List PT) (s : Int) : (ofSample ts s).length ≤ ts.length := List.length_filter_le _ _
section
variable {P : Program} {w : World} {K : PySem.W.Frag} {mg : Str → Option Value} {base : Heap} {a : Ad}
theorem ok_Tubes_sum_of (T : Txt K mg a) : FnOk P w K mg base CX0 2 a.f_Tubes_sum_of a.d_Tubes_sum_of ["self", "number"] (sp_Tubes_sum_of K a) := by
  have G_Tubes_has : FnOk P w K mg base CX0 1 a.f_Tubes_has a.d_Tubes_has ["self", "number"] (sp_Tubes_has K a) := ok_Tubes_has T
  refine T.F_Tubes_sum_of.ok sc_Tubes_sum_of (fun vs H Q E h => ?_) (fun cdv A outer s H vs Q E hr h => ?_)
  · obtain ⟨p, l, as, ts, n, rfl, _⟩ := h
    rfl
  · obtain ⟨p, l, as, ts, n, rfl, C, hm, k⟩ := h
    obtain ⟨⟨dx, h1⟩, hl, _, hlen, _⟩ := id C
    refine ⟨_, (pss_cons (ps_if (pt_not (pt_val (pe_meth (pv 0) T.cl_Tubes T.m_Tubes_has G_Tubes_has (hr.mono (by decide)) T.b_Tubes_has .nil pass0 (pa_cons (pv 1) pa_nil)))) (pss_one (ps_ret (pe_lst (pa_cons (pe_gi rfl T.k_NO_SUCH) pa_nil)))) pss_nil) (pss_cons (ps_set (i := 2) sc_Tubes_sum_of.nd rfl (Or.inl rfl) (pe_ix ix_list (pe_fld (pv 0) rfl) (pv 1) (fun _ _ => rfl))) (pss_cons (ps_if (pt_cmpR op_ne (pe_fld (pv 2) rfl) (pv 1) (nomark _)) (pss_one (ps_ret (pe_lst (pa_cons (pe_gi rfl T.k_NO_SUCH) pa_nil)))) pss_nil) (pss_cons (ps_setLc (i := 3) rfl sc_Tubes_sum_of.nd rfl rfl (sw_true rfl rfl rfl rfl) (pi_list (pe_fld (pv 0) rfl)) (show BlkOk ["self", "number", "sample_tube", "left", "tube"] (defScope s_Tubes_sum_of) _ [("tube", 4)] from blkOk_by (by decide +kernel)) (fun _ _ _ _ _ => by exact pg_name (i := 4) sc_Tubes_sum_of.nd rfl (Or.inl rfl)) (fun _ _ _ _ _ => by exact pts_one (pt_cmpR op_eq (pe_fldK (K := K) rfl (pv 4) rfl) (pv 1) (nomark _))) (fun _ _ _ _ _ => by exact (pe_fldK (K := K) rfl (pv 4) rfl))) (pss_one (ps_ret (pe_lst (pa_cons (pe_callB call_len_seq rfl T.n_len PySem.boot_len (pa_cons (pv 3) pa_nil)) (pa_cons (pe_callB (cr_sum rfl) rfl T.n_sum PyProof.Rows.boot_sum (pa_cons (pv 3) pa_nil)) (pa_cons (pe_fld (pv 2) rfl) pa_nil)))))))))), ?_⟩
    unfold mSum at k
    refine ⟨_, rfl, p, dx, _, rfl, h1, fl_Tubes_no_has, _, rfl, p, l, as, ts, n, rfl, C, ⟨_, rfl, ?_⟩⟩
    refine x_iten (fun h2 => ?_) (fun h2 => ?_)
    · rw [List.getElem?_eq_none (by omega)] at k
      exact ⟨(by show 1 ≤ sizeLine; decide), fun r hr => k r _ hr (same_new hr) upd_same⟩
    have hg : ts[n]? = some ts[n] := List.getElem?_eq_getElem h2
    generalize ts[n] = t at hg
    rw [hg] at k
    obtain ⟨q, dq, hq, hH, hat⟩ := C.get hg
    refine ⟨_, rfl, p, _, dx, _, _, rfl, h1, T.cl_Tubes, T.n_Tubes_tubes, fl_Tubes_get_tubes, _, rfl, l, _, _, _, rfl, rfl, SqL.of hl, hat, ?_⟩
    refine ⟨_, rfl, q, _, dq, _, _, rfl, hH, T.cl_Tube, T.n_Tube_origin, fl_Tube_get_origin, _, rfl, x_neI ⟨_, rfl, ?_⟩⟩
    refine x_iten (fun h3 => ?_) (fun h3 => ?_)
    · simp only [if_neg h3] at k
      exact ⟨(by show 1 ≤ sizeLine; decide), fun r hr => k r _ hr (same_new hr) upd_same⟩
    simp only [if_pos h3] at k
    -- left = [tube.left for tube in self.tubes if tube.origin == number]
    refine ⟨_, rfl, p, _, dx, _, _, rfl, h1, T.cl_Tubes, T.n_Tubes_tubes, fl_Tubes_get_tubes, l, rfl, ⟨_, SqL.of hl⟩, fun D hD => lc_list (K := K) (a := l) (xs := as.map V.ref) (fun i H2 => Same H H2 ∧ H2 D = some (.lst (((ofSample (ts.take i) n).map (·.left)).map V.int))) ⟨same_new hD, upd_same⟩ (fun i H2 _ z => z.1.seq (SqL.of hl)) ?_ ?_⟩
    · rintro i y H2 hi ⟨s2, hD2⟩
      obtain ⟨z, hz, rfl⟩ := get_ref hi
      obtain ⟨u, du, hu, hHu⟩ := C.at_ i z hz
      refine ⟨rfl, ?_⟩
      refine ⟨_, rfl, z, _, du, _, _, rfl, s2 _ _ hHu, T.cl_Tube, T.n_Tube_origin, fl_Tube_get_origin, _, rfl, x_eqI ⟨_, rfl, ?_⟩⟩
      refine x_ite (fun h4 => ?_) (fun h4 => ?_)
      · refine ⟨_, rfl, z, _, du, _, _, rfl, s2 _ _ hHu, T.cl_Tube, T.n_Tube_left, fl_Tube_get_left, _, hD2, ?_, ?_⟩
        · rw [List.length_map, List.length_map]
          have h5 := ofSample_le (ts.take i) n
          rw [List.length_take] at h5
          have : sizeLine = 16777216 := sizeLine_eq
          omega
        · refine ⟨fun b o e => by rw [upd_ne (ne_of_none e hD)]; exact s2 b o e, ?_⟩
          rw [upd_same, take_snoc hu, ofSample_snoc, if_pos h4]
          simp
      · refine ⟨s2, ?_⟩
        rw [take_snoc hu, ofSample_snoc, if_neg h4, List.append_nil]
        exact hD2
    · rintro H2 ⟨s2, hD2⟩
      have e0 : ts.take (as.map V.ref).length = ts := by rw [List.length_map, hlen]; exact List.take_of_length_le (Nat.le_refl _)
      rw [e0] at hD2
      refine ⟨_, rfl, D, _, rfl, .inl (SqL.of hD2), _, rfl, D, _, rfl, SqL.of hD2, _, rfl, q, _, dq, _, _, rfl, s2 _ _ hH, T.cl_Tube, T.n_Tube_used, fl_Tube_get_used, (by show 3 ≤ sizeLine; decide), fun r hr => ?_⟩
      refine k r _ (s2.free hr) (s2.trans (same_new hr)) ?_
      rw [upd_same]
      simp [sumLeft]
end
end WL

namespace WL
open PySem L2
def fl_Order (v0 v1 v2 v3 : V) : List (Str × V) := [("patient", v0), ("test", v1), ("stage", v2), ("value", v3)]
theorem fl_Order_get_patient {v0 v1 v2 v3 : V} : (fl_Order v0 v1 v2 v3).lookup ("patient" : Str) = some v0 := lk_hd
theorem fl_Order_put_patient {v0 v1 v2 v3 y : V} : putF ("patient" : Str) y (fl_Order v0 v1 v2 v3) = fl_Order y v1 v2 v3 := pf_hd
theorem fl_Order_get_test {v0 v1 v2 v3 : V} : (fl_Order v0 v1 v2 v3).lookup ("test" : Str) = some v1 := (lk_tl (by decide +kernel)).trans (lk_hd)
theorem fl_Order_put_test {v0 v1 v2 v3 y : V} : putF ("test" : Str) y (fl_Order v0 v1 v2 v3) = fl_Order v0 y v2 v3 := (pf_tl (by decide +kernel)).trans (congrArg (List.cons _) (pf_hd))
theorem fl_Order_get_stage {v0 v1 v2 v3 : V} : (fl_Order v0 v1 v2 v3).lookup ("stage" : Str) = some v2 := (lk_tl (by decide +kernel)).trans ((lk_tl (by decide +kernel)).trans (lk_hd))
theorem fl_Order_put_stage {v0 v1 v2 v3 y : V} : putF ("stage" : Str) y (fl_Order v0 v1 v2 v3) = fl_Order v0 v1 y v3 := (pf_tl (by decide +kernel)).trans (congrArg (List.cons _) ((pf_tl (by decide +kernel)).trans (congrArg (List.cons _) (pf_hd))))
theorem fl_Order_get_value {v0 v1 v2 v3 : V} : (fl_Order v0 v1 v2 v3).lookup ("value" : Str) = some v3 := (lk_tl (by decide +kernel)).trans ((lk_tl (by decide +kernel)).trans ((lk_tl (by decide +kernel)).trans (lk_hd)))
theorem fl_Order_put_value {v0 v1 v2 v3 y : V} : putF ("value" : Str) y (fl_Order v0 v1 v2 v3) = fl_Order v0 v1 v2 y := (pf_tl (by decide +kernel)).trans (congrArg (List.cons _) ((pf_tl (by decide +kernel)).trans (congrArg (List.cons _) ((pf_tl (by decide +kernel)).trans (congrArg (List.cons _) (pf_hd))))))
theorem fl_Order_no_init {v0 v1 v2 v3 : V} : (fl_Order v0 v1 v2 v3).lookup ("__init__" : Str) = none := (lk_tl (by decide +kernel)).trans ((lk_tl (by decide +kernel)).trans ((lk_tl (by decide +kernel)).trans ((lk_tl (by decide +kernel)).trans (rfl))))
theorem fl_Order_len {v0 v1 v2 v3 : V} : (fl_Order v0 v1 v2 v3).length < 1000 := by show 4 < 1000; decide
theorem fl_Order_new0 {v0 : V} : putF ("patient" : Str) v0 ([] : List (Str × V)) = ([("patient", v0)] : List (Str × V)) := rfl
theorem fl_Order_new1 {v0 v1 : V} : putF ("test" : Str) v1 ([("patient", v0)] : List (Str × V)) = ([("patient", v0), ("test", v1)] : List (Str × V)) := (pf_tl (by decide +kernel)).trans (congrArg (List.cons _) (rfl))
theorem fl_Order_new2 {v0 v1 v2 : V} : putF ("stage" : Str) v2 ([("patient", v0), ("test", v1)] : List (Str × V)) = ([("patient", v0), ("test", v1), ("stage", v2)] : List (Str × V)) := (pf_tl (by decide +kernel)).trans (congrArg (List.cons _) ((pf_tl (by decide +kernel)).trans (congrArg (List.cons _) (rfl))))
theorem fl_Order_new3 {v0 v1 v2 v3 : V} : putF ("value" : Str) v3 ([("patient", v0), ("test", v1), ("stage", v2)] : List (Str × V)) = ([("patient", v0), ("test", v1), ("stage", v2), ("value", v3)] : List (Str × V)) := (pf_tl (by decide +kernel)).trans (congrArg (List.cons _) ((pf_tl (by decide +kernel)).trans (congrArg (List.cons _) ((pf_tl (by decide +kernel)).trans (congrArg (List.cons _) (rfl))))))
def fl_Orders (v0 v1 : V) : List (Str × V) := [("orders", v0), ("batches", v1)]
theorem fl_Orders_get_orders {v0 v1 : V} : (fl_Orders v0 v1).lookup ("orders" : Str) = some v0 := lk_hd
theorem fl_Orders_put_orders {v0 v1 y : V} : putF ("orders" : Str) y (fl_Orders v0 v1) = fl_Orders y v1 := pf_hd
theorem fl_Orders_get_batches {v0 v1 : V} : (fl_Orders v0 v1).lookup ("batches" : Str) = some v1 := (lk_tl (by decide +kernel)).trans (lk_hd)
theorem fl_Orders_put_batches {v0 v1 y : V} : putF ("batches" : Str) y (fl_Orders v0 v1) = fl_Orders v0 y := (pf_tl (by decide +kernel)).trans (congrArg (List.cons _) (pf_hd))
theorem fl_Orders_no_init {v0 v1 : V} : (fl_Orders v0 v1).lookup ("__init__" : Str) = none := (lk_tl (by decide +kernel)).trans ((lk_tl (by decide +kernel)).trans (rfl))
theorem fl_Orders_no_start {v0 v1 : V} : (fl_Orders v0 v1).lookup ("start" : Str) = none := (lk_tl (by decide +kernel)).trans ((lk_tl (by decide +kernel)).trans (rfl))
theorem fl_Orders_no_order {v0 v1 : V} : (fl_Orders v0 v1).lookup ("order" : Str) = none := (lk_tl (by decide +kernel)).trans ((lk_tl (by decide +kernel)).trans (rfl))
theorem fl_Orders_no_begin_batch {v0 v1 : V} : (fl_Orders v0 v1).lookup ("begin_batch" : Str) = none := (lk_tl (by decide +kernel)).trans ((lk_tl (by decide +kernel)).trans (rfl))
theorem fl_Orders_no_run {v0 v1 : V} : (fl_Orders v0 v1).lookup ("run" : Str) = none := (lk_tl (by decide +kernel)).trans ((lk_tl (by decide +kernel)).trans (rfl))
theorem fl_Orders_no_result {v0 v1 : V} : (fl_Orders v0 v1).lookup ("result" : Str) = none := (lk_tl (by decide +kernel)).trans ((lk_tl (by decide +kernel)).trans (rfl))
theorem fl_Orders_no_close {v0 v1 : V} : (fl_Orders v0 v1).lookup ("close" : Str) = none := (lk_tl (by decide +kernel)).trans ((lk_tl (by decide +kernel)).trans (rfl))
theorem fl_Orders_no_give {v0 v1 : V} : (fl_Orders v0 v1).lookup ("give" : Str) = none := (lk_tl (by decide +kernel)).trans ((lk_tl (by decide +kernel)).trans (rfl))
theorem fl_Orders_no_state {v0 v1 : V} : (fl_Orders v0 v1).lookup ("state" : Str) = none := (lk_tl (by decide +kernel)).trans ((lk_tl (by decide +kernel)).trans (rfl))
theorem fl_Orders_no_has {v0 v1 : V} : (fl_Orders v0 v1).lookup ("has" : Str) = none := (lk_tl (by decide +kernel)).trans ((lk_tl (by decide +kernel)).trans (rfl))
theorem fl_Orders_len {v0 v1 : V} : (fl_Orders v0 v1).length < 1000 := by show 2 < 1000; decide
theorem fl_Orders_new0 {v0 : V} : putF ("orders" : Str) v0 ([] : List (Str × V)) = ([("orders", v0)] : List (Str × V)) := rfl
theorem fl_Orders_new1 {v0 v1 : V} : putF ("batches" : Str) v1 ([("orders", v0)] : List (Str × V)) = ([("orders", v0), ("batches", v1)] : List (Str × V)) := (pf_tl (by decide +kernel)).trans (congrArg (List.cons _) (rfl))
/-! ## frames, once more -/
section
variable {F G : List Addr} {H H' : Hp}
theorem frm_upd {q : Addr} {o : HO} (d : ∀ b, b ∈ F → ∃ o, H b = some o) (hq : q ∈ F) : Frm F F H (upd H q o) := by
  refine ⟨fun b u e h => ?_, fun b hb => .inl hb, fun b hb => ?_⟩
  · rw [upd_ne (fun z => h (by rw [z]; exact hq))]
    exact e
  · by_cases hb' : b = q
    · exact ⟨o, by rw [hb']; exact upd_same⟩
    · obtain ⟨u, e⟩ := d b hb
      exact ⟨u, by rw [upd_ne hb']; exact e⟩
theorem Frm.sub (x : Frm F G H H') {G' : List Addr} (h : ∀ b, b ∈ G' → b ∈ G) : Frm F G' H H' := ⟨x.keep, fun b hb => x.foot b (h b hb), x.dom⟩
theorem Frm.grow (x : Frm F G H H') {y : Addr} (hy : H y = none) {G' : List Addr} (h : ∀ b, b ∈ G' → b ∈ G ∨ b = y) : Frm F G' H H' :=
  ⟨x.keep, fun b hb => (h b hb).elim (x.foot b) (fun e => .inr (by rw [e]; exact hy)), x.dom⟩
end
theorem nd_eq {α β : Type} {f : α → β} {l : List α} (hN : (l.map f).Nodup) {x y : α} (hx : x ∈ l) (hy : y ∈ l) (e : f x = f y) : x = y := by
  obtain ⟨i, hi⟩ := List.mem_iff_getElem?.mp hx
  obtain ⟨j, hj⟩ := List.mem_iff_getElem?.mp hy
  have q := nd_ix hN (i := i) (j := j) (x := f x) (by rw [List.getElem?_map, hi]; rfl) (by rw [List.getElem?_map, hj, e]; rfl)
  subst q
  rw [hi] at hj
  exact Option.some.inj hj
/-! ## the objects -/
def vS : Klb3.State → V
  | .waits => .non
  | .inBatch => .non
  | .has v => .int (v : Nat)
  | .ready v => .int (v : Nat)
  | .given v => .int (v : Nat)
def flO (o : Klb3.Order) : List (Str × V) := fl_Order (.int (o.patient : Nat)) (.int (o.test : Nat)) (.int (Klb3.told o.state : Nat)) (vS o.state)
def kvOf (bs : List (Nat × Addr × List Nat)) : List (Key × V) := bs.map fun x => (Sum.inl (x.1 : Int), V.ref x.2.1)
def refAt (as : List Addr) (j : Nat) : V := V.ref (as.getD j 0)
def foot (p l d : Addr) (as : List Addr) (bs : List (Nat × Addr × List Nat)) : List Addr := p :: l :: d :: (as ++ bs.map (·.2.1))
structure OrdAt (a : Ad) (H : Hp) (p l d : Addr) (as : List Addr) (bs : List (Nat × Addr × List Nat)) (os : List Klb3.Order) : Prop where
  ob : ∃ dx, H p = some (.ins a.c_Orders dx (fl_Orders (.ref l) (.ref d)))
  ls : H l = some (.lst (as.map V.ref))
  dc : H d = some (.dK (kvOf bs))
  nd : as.Nodup
  len : as.length = os.length
  at_ : ∀ (j : Nat) (q : Addr), as[j]? = some q → ∃ o dx, os[j]? = some o ∧ H q = some (.ins a.c_Order dx (flO o))
  bt : ∀ x, x ∈ bs → H x.2.1 = some (.lst (x.2.2.map (refAt as)))
  bl : ∀ x, x ∈ bs → x.2.1 ≠ l
  bd : (bs.map (·.2.1)).Nodup
  lt : ∀ x, x ∈ bs → ∀ j, j ∈ x.2.2 → j < as.length
theorem order_ne {c c' : Addr} {d d' : Addr} {u v : V} {o : Klb3.Order} : HO.ins c d (fl_Orders u v) ≠ HO.ins c' d' (flO o) := by
  intro z
  injection z with _ _ e
  unfold fl_Orders flO fl_Order at e
  injection e with _ e
  injection e with _ e
  cases e
/-! ### the dict's pairs -/
theorem kv_some (bs : List (Nat × Addr × List Nat)) (t : Nat) : (valV (kvOf bs) (Sum.inl (t : Int))).isSome = decide (t ∈ bs.map (·.1)) := by
  rw [← valV_any, Bool.eq_iff_iff, List.any_eq_true, decide_eq_true_eq, List.mem_map]
  unfold kvOf
  constructor
  · rintro ⟨y, hy, e⟩
    obtain ⟨x, hx, rfl⟩ := List.mem_map.mp hy
    have e : (Sum.inl (x.1 : Int) : Key) = Sum.inl (t : Int) := of_decide_eq_true e
    have e : (x.1 : Int) = (t : Int) := Sum.inl.inj e
    exact ⟨x, hx, by omega⟩
  · rintro ⟨x, hx, e⟩
    exact ⟨_, List.mem_map.mpr ⟨x, hx, rfl⟩, decide_eq_true (by show (Sum.inl (x.1 : Int) : Key) = _; rw [e])⟩
theorem kv_none {bs : List (Nat × Addr × List Nat)} {t : Nat} (h : t ∉ bs.map (·.1)) : valV (kvOf bs) (Sum.inl (t : Int)) = none := by
  have q := kv_some bs t
  rw [decide_eq_false h] at q
  cases e : valV (kvOf bs) (Sum.inl (t : Int)) with
  | none => rfl
  | some v => rw [e] at q; cases q
theorem kv_at : ∀ {bs : List (Nat × Addr × List Nat)} {x : Nat × Addr × List Nat}, (bs.map (·.1)).Nodup → x ∈ bs → valV (kvOf bs) (Sum.inl (x.1 : Int)) = some (.ref x.2.1)
  | [], x, _, h => by simp at h
  | y :: r, x, hn, h => by
    have hn : (y.1 :: r.map (·.1)).Nodup := hn
    obtain ⟨h1, h2⟩ := List.nodup_cons.mp hn
    show valV ((Sum.inl (y.1 : Int), V.ref y.2.1) :: kvOf r) _ = _
    rcases List.mem_cons.mp h with e | e
    · subst e
      exact valV_pos rfl
    · rw [valV_neg, kv_at h2 e]
      intro z
      have z : (y.1 : Int) = (x.1 : Int) := Sum.inl.inj z
      exact h1 (List.mem_map.mpr ⟨x, e, by omega⟩)
theorem kv_put {bs : List (Nat × Addr × List Nat)} {t : Nat} {q : Addr} (h : t ∉ bs.map (·.1)) : putK (kvOf bs) (Sum.inl (t : Int)) (.ref q) = kvOf (bs ++ [(t, q, [])]) := by
  rw [putK_new _ (kv_none h)]
  unfold kvOf
  rw [List.map_append]
  rfl
theorem kv_drop (bs : List (Nat × Addr × List Nat)) (t : Nat) : dropK (kvOf bs) (Sum.inl (t : Int)) = kvOf (bs.filter fun x => x.1 != t) := by
  unfold dropK kvOf
  rw [List.filter_map]
  congr 1
  apply List.filter_congr
  intro x _
  show decide ((Sum.inl (x.1 : Int) : Key) ≠ Sum.inl (t : Int)) = (x.1 != t)
  by_cases h : x.1 = t
  · subst h; simp
  · have : ¬ ((x.1 : Int) = (t : Int)) := by omega
    have h2 : (Sum.inl (x.1 : Int) : Key) ≠ Sum.inl (t : Int) := fun z => this (Sum.inl.inj z)
    rw [decide_eq_true h2]
    symm
    simpa using h
theorem kv_into (t k : Nat) (bs : List (Nat × Addr × List Nat)) : kvOf (into t k bs) = kvOf bs := by
  unfold kvOf into
  rw [List.map_map]
  apply List.map_congr_left
  intro x _
  show (Sum.inl ((if x.1 = t then _ else x).1 : Int), V.ref (if x.1 = t then _ else x).2.1) = _
  split <;> rfl
theorem foot_into {p l d : Addr} {as : List Addr} {bs : List (Nat × Addr × List Nat)} {t k : Nat} : foot p l d as (into t k bs) = foot p l d as bs := by
  unfold foot
  rw [into_adr]
theorem foot_mem {p l d b : Addr} {as : List Addr} {bs : List (Nat × Addr × List Nat)} : b ∈ foot p l d as bs ↔ b = p ∨ b = l ∨ b = d ∨ b ∈ as ∨ b ∈ bs.map (·.2.1) := by
  unfold foot
  rw [List.mem_cons, List.mem_cons, List.mem_cons, List.mem_append]
section
variable {a : Ad} {H H' : Hp} {p l d : Addr} {as : List Addr} {bs : List (Nat × Addr × List Nat)} {os : List Klb3.Order}
theorem OrdAt.keep (c : OrdAt a H p l d as bs os) (k : ∀ b o, H b = some o → b ∈ foot p l d as bs → H' b = some o) : OrdAt a H' p l d as bs os := by
  obtain ⟨⟨dx, h1⟩, h2, h3, nd, len, at_, bt, bl, bd, lt⟩ := c
  refine ⟨⟨dx, k _ _ h1 (foot_mem.mpr (.inl rfl))⟩, k _ _ h2 (foot_mem.mpr (.inr (.inl rfl))), k _ _ h3 (foot_mem.mpr (.inr (.inr (.inl rfl)))), nd, len, fun j q hq => ?_, fun x hx => k _ _ (bt x hx) (foot_mem.mpr (.inr (.inr (.inr (.inr (List.mem_map.mpr ⟨x, hx, rfl⟩)))))), bl, bd, lt⟩
  obtain ⟨t, d', e1, e2⟩ := at_ j q hq
  exact ⟨t, d', e1, k _ _ e2 (foot_mem.mpr (.inr (.inr (.inr (.inl (List.mem_of_getElem? hq))))))⟩
theorem OrdAt.same (c : OrdAt a H p l d as bs os) (s : Same H H') : OrdAt a H' p l d as bs os := c.keep fun b o e _ => s b o e
theorem OrdAt.mem (c : OrdAt a H p l d as bs os) {q : Addr} (hq : q ∈ as) : ∃ o dx, H q = some (.ins a.c_Order dx (flO o)) := by
  obtain ⟨j, hj⟩ := List.mem_iff_getElem?.mp hq
  obtain ⟨o, dx, _, e⟩ := c.at_ j q hj
  exact ⟨o, dx, e⟩
theorem OrdAt.dom (c : OrdAt a H p l d as bs os) : ∀ b, b ∈ foot p l d as bs → ∃ o, H b = some o := by
  intro b hb
  rcases foot_mem.mp hb with z | z | z | z | z
  · obtain ⟨dx, e⟩ := c.ob
    exact ⟨_, by rw [z]; exact e⟩
  · exact ⟨_, by rw [z]; exact c.ls⟩
  · exact ⟨_, by rw [z]; exact c.dc⟩
  · obtain ⟨o, dx, e⟩ := c.mem z
    exact ⟨_, e⟩
  · obtain ⟨x, hx, e⟩ := List.mem_map.mp z
    exact ⟨_, by rw [← e]; exact c.bt x hx⟩
theorem OrdAt.np (c : OrdAt a H p l d as bs os) : p ∉ as := by
  intro h
  obtain ⟨o, d', e⟩ := c.mem h
  obtain ⟨dx, e'⟩ := c.ob
  rw [e'] at e
  exact order_ne (Option.some.inj e)
theorem OrdAt.nl (c : OrdAt a H p l d as bs os) : l ∉ as := by
  intro h
  obtain ⟨o, d', e⟩ := c.mem h
  rw [c.ls] at e
  cases e
theorem OrdAt.ndd (c : OrdAt a H p l d as bs os) : d ∉ as := by
  intro h
  obtain ⟨o, d', e⟩ := c.mem h
  rw [c.dc] at e
  cases e
theorem OrdAt.nb (c : OrdAt a H p l d as bs os) {x : Nat × Addr × List Nat} (hx : x ∈ bs) : x.2.1 ∉ as := by
  intro h
  obtain ⟨o, d', e⟩ := c.mem h
  rw [c.bt x hx] at e
  cases e
theorem OrdAt.npl (c : OrdAt a H p l d as bs os) : p ≠ l := by
  obtain ⟨dx, e⟩ := c.ob
  exact ne_of e c.ls (by intro z; cases z)
theorem OrdAt.npd (c : OrdAt a H p l d as bs os) : p ≠ d := by
  obtain ⟨dx, e⟩ := c.ob
  exact ne_of e c.dc (by intro z; cases z)
theorem OrdAt.nld (c : OrdAt a H p l d as bs os) : l ≠ d := ne_of c.ls c.dc (by intro z; cases z)
theorem OrdAt.bp (c : OrdAt a H p l d as bs os) {x : Nat × Addr × List Nat} (hx : x ∈ bs) : x.2.1 ≠ p := by
  obtain ⟨dx, e⟩ := c.ob
  exact ne_of (c.bt x hx) e (by intro z; cases z)
theorem OrdAt.bdd (c : OrdAt a H p l d as bs os) {x : Nat × Addr × List Nat} (hx : x ∈ bs) : x.2.1 ≠ d := ne_of (c.bt x hx) c.dc (by intro z; cases z)
theorem OrdAt.get (c : OrdAt a H p l d as bs os) {k : Nat} {o : Klb3.Order} (h : os[k]? = some o) : ∃ q dx, as[k]? = some q ∧ H q = some (.ins a.c_Order dx (flO o)) ∧ atI (as.map V.ref) (k : Int) = some (.ref q) := by
  have hk : k < as.length := by rw [c.len]; exact (List.getElem?_eq_some_iff.mp h).1
  obtain ⟨t', dx, e1, e2⟩ := c.at_ k as[k] (List.getElem?_eq_getElem hk)
  rw [h] at e1
  cases e1
  exact ⟨as[k], dx, List.getElem?_eq_getElem hk, e2, at_of (j := k) rfl (by rw [List.getElem?_map, List.getElem?_eq_getElem hk]; rfl)⟩
/-- an order changed -/
theorem OrdAt.set (c : OrdAt a H p l d as bs os) {k : Nat} {q dx : Addr} (hq : as[k]? = some q) (o' : Klb3.Order) : OrdAt a (upd H q (.ins a.c_Order dx (flO o'))) p l d as bs (os.set k o') := by
  have hm : q ∈ as := List.mem_of_getElem? hq
  obtain ⟨d', h1⟩ := c.ob
  refine ⟨⟨d', ?_⟩, ?_, ?_, c.nd, by rw [List.length_set]; exact c.len, fun j x hx => ?_, fun x hx => ?_, c.bl, c.bd, c.lt⟩
  · rw [upd_ne (fun e => c.np (by rw [e]; exact hm))]; exact h1
  · rw [upd_ne (fun e => c.nl (by rw [e]; exact hm))]; exact c.ls
  · rw [upd_ne (fun e => c.ndd (by rw [e]; exact hm))]; exact c.dc
  · by_cases hj : j = k
    · subst hj
      rw [hq] at hx
      cases hx
      have hlt : j < os.length := by rw [← c.len]; exact (List.getElem?_eq_some_iff.mp hq).1
      exact ⟨o', dx, List.getElem?_set_self hlt, upd_same⟩
    · obtain ⟨u, d2, e1, e2⟩ := c.at_ j x hx
      have hne : x ≠ q := fun e => hj (nd_ix c.nd hx (by rw [e]; exact hq))
      exact ⟨u, d2, by rw [List.getElem?_set_ne (fun e => hj e.symm)]; exact e1, by rw [upd_ne hne]; exact e2⟩
  · rw [upd_ne (fun e => c.nb hx (by rw [e]; exact hm))]; exact c.bt x hx
/-- one order more -/
theorem OrdAt.app (c : OrdAt a H p l d as bs os) {x dx : Addr} {o : Klb3.Order} (hx : H x = some (.ins a.c_Order dx (flO o))) (hn : x ∉ as) : OrdAt a (upd H l (.lst (as.map V.ref ++ [V.ref x]))) p l d (as ++ [x]) bs (os ++ [o]) := by
  obtain ⟨d', h1⟩ := c.ob
  refine ⟨⟨d', by rw [upd_ne c.npl]; exact h1⟩, by rw [upd_same, List.map_append]; rfl, by rw [upd_ne c.nld.symm]; exact c.dc, nd_snoc c.nd hn, by rw [List.length_append, List.length_append, c.len]; rfl, fun j q hq => ?_, fun y hy => ?_, c.bl, c.bd, fun y hy j hj => ?_⟩
  · have hlx : x ≠ l := ne_of hx c.ls (by intro z; cases z)
    by_cases hj : j < as.length
    · rw [List.getElem?_append_left hj] at hq
      obtain ⟨u, d2, e1, e2⟩ := c.at_ j q hq
      have hql : q ≠ l := ne_of e2 c.ls (by intro z; cases z)
      exact ⟨u, d2, by rw [List.getElem?_append_left (by rw [← c.len]; exact hj)]; exact e1, by rw [upd_ne hql]; exact e2⟩
    · have hlt := (List.getElem?_eq_some_iff.mp hq).1
      rw [List.length_append, List.length_singleton] at hlt
      have hjl : j = as.length := by omega
      subst hjl
      rw [List.getElem?_append_right (Nat.le_refl _), Nat.sub_self] at hq
      have hqx : x = q := Option.some.inj hq
      subst hqx
      refine ⟨o, dx, ?_, by rw [upd_ne hlx]; exact hx⟩
      rw [c.len, List.getElem?_append_right (Nat.le_refl _), Nat.sub_self]
      rfl
  · rw [upd_ne (c.bl y hy), c.bt y hy]
    congr 2
    apply List.map_congr_left
    intro j hj
    have := c.lt y hy j hj
    unfold refAt
    rw [List.getD_eq_getElem?_getD, List.getD_eq_getElem?_getD, List.getElem?_append_left this]
  · have := c.lt y hy j hj
    rw [List.length_append]
    omega
/-- a batch opened -/
theorem OrdAt.opn (c : OrdAt a H p l d as bs os) {q : Addr} {t : Nat} (hq : H q = none) (ht : t ∉ bs.map (·.1)) : OrdAt a (upd (upd H q (.lst [])) d (.dK (putK (kvOf bs) (Sum.inl (t : Int)) (.ref q)))) p l d as (bs ++ [(t, q, [])]) os := by
  obtain ⟨d', h1⟩ := c.ob
  have nq : q ≠ d := (ne_of_none c.dc hq).symm
  refine ⟨⟨d', by rw [upd_ne c.npd, upd_ne (ne_of_none h1 hq)]; exact h1⟩, by rw [upd_ne c.nld, upd_ne (ne_of_none c.ls hq)]; exact c.ls, by rw [upd_same, kv_put ht], c.nd, c.len, fun j x hx => ?_, fun x hx => ?_, fun x hx => ?_, ?_, fun x hx j hj => ?_⟩
  · obtain ⟨u, d2, e1, e2⟩ := c.at_ j x hx
    exact ⟨u, d2, e1, by rw [upd_ne (ne_of e2 c.dc (by intro z; cases z)), upd_ne (ne_of_none e2 hq)]; exact e2⟩
  · rcases List.mem_append.mp hx with h | h
    · rw [upd_ne (c.bdd h), upd_ne (ne_of_none (c.bt x h) hq)]
      exact c.bt x h
    · rw [List.mem_singleton.mp h]
      show upd _ d _ q = _
      rw [upd_ne nq, upd_same]
      rfl
  · rcases List.mem_append.mp hx with h | h
    · exact c.bl x h
    · rw [List.mem_singleton.mp h]
      exact (ne_of_none c.ls hq).symm
  · rw [List.map_append]
    refine nd_snoc c.bd fun h => ?_
    obtain ⟨x, hx, e⟩ := List.mem_map.mp h
    exact ne_of_none (c.bt x hx) hq e
  · rcases List.mem_append.mp hx with h | h
    · exact c.lt x h j hj
    · rw [List.mem_singleton.mp h] at hj
      cases hj
/-- an order put into the batch of its test -/
theorem OrdAt.into (c : OrdAt a H p l d as bs os) (hk : (bs.map (·.1)).Nodup) {x : Nat × Addr × List Nat} (hx : x ∈ bs) {k : Nat} {q : Addr} (hq : as[k]? = some q) : OrdAt a (upd H x.2.1 (.lst (x.2.2.map (refAt as) ++ [V.ref q]))) p l d as (into x.1 k bs) os := by
  obtain ⟨d', h1⟩ := c.ob
  have hlt : k < as.length := (List.getElem?_eq_some_iff.mp hq).1
  refine ⟨⟨d', by rw [upd_ne (c.bp hx).symm]; exact h1⟩, by rw [upd_ne (c.bl x hx).symm]; exact c.ls, by rw [upd_ne (c.bdd hx).symm, kv_into]; exact c.dc, c.nd, c.len, fun j y hy => ?_, fun y hy => ?_, fun y hy => ?_, by rw [into_adr]; exact c.bd, fun y hy j hj => ?_⟩
  · obtain ⟨u, d2, e1, e2⟩ := c.at_ j y hy
    exact ⟨u, d2, e1, by rw [upd_ne (ne_of e2 (c.bt x hx) (by intro z; cases z))]; exact e2⟩
  · obtain ⟨z, hz, e⟩ := List.mem_map.mp hy
    by_cases h : z.1 = x.1
    · have hzx := nd_eq hk hz hx h
      subst hzx
      rw [if_pos rfl] at e
      subst e
      show upd H z.2.1 _ z.2.1 = _
      have er : V.ref q = refAt as k := by
        unfold refAt
        rw [List.getD_eq_getElem?_getD, hq]
        rfl
      rw [upd_same, List.map_append, er]
      rfl
    · rw [if_neg h] at e
      subst e
      rw [upd_ne (fun e => h (by rw [nd_eq c.bd hz hx e]))]
      exact c.bt z hz
  · obtain ⟨z, hz, e⟩ := List.mem_map.mp hy
    by_cases h : z.1 = x.1
    · rw [if_pos h] at e
      subst e
      exact c.bl z hz
    · rw [if_neg h] at e
      subst e
      exact c.bl z hz
  · obtain ⟨z, hz, e⟩ := List.mem_map.mp hy
    by_cases h : z.1 = x.1
    · rw [if_pos h] at e
      subst e
      rcases List.mem_append.mp hj with h' | h'
      · exact c.lt z hz j h'
      · rw [List.mem_singleton.mp h']; exact hlt
    · rw [if_neg h] at e
      subst e
      exact c.lt z hz j hj
/-- a batch taken out -/
theorem OrdAt.drop (c : OrdAt a H p l d as bs os) (t : Nat) : OrdAt a (upd H d (.dK (dropK (kvOf bs) (Sum.inl (t : Int))))) p l d as (bs.filter fun x => x.1 != t) os := by
  obtain ⟨d', h1⟩ := c.ob
  refine ⟨⟨d', by rw [upd_ne c.npd]; exact h1⟩, by rw [upd_ne c.nld]; exact c.ls, by rw [upd_same, kv_drop], c.nd, c.len, fun j x hx => ?_, fun x hx => ?_, fun x hx => c.bl x (List.mem_filter.mp hx).1, c.bd.sublist (List.Sublist.map _ List.filter_sublist), fun x hx => c.lt x (List.mem_filter.mp hx).1⟩
  · obtain ⟨u, d2, e1, e2⟩ := c.at_ j x hx
    exact ⟨u, d2, e1, by rw [upd_ne (ne_of e2 c.dc (by intro z; cases z))]; exact e2⟩
  · have h := (List.mem_filter.mp hx).1
    rw [upd_ne (c.bdd h)]
    exact c.bt x h
theorem OrdAt.fresh (c : OrdAt a H p l d as bs os) {x : Addr} (h : H x = none) : x ∉ as := by
  intro hm
  obtain ⟨o, d', e⟩ := c.mem hm
  rw [h] at e
  cases e
end
end WL

namespace WL
open PySem L2
/-! ## the promises of the orders -/
def sp_leave_batch (_ : PySem.W.Frag) (a : Ad) : Sp := fun vs H Q _ => ∃ (q dx : Addr) (o : Klb3.Order) (n : Nat), vs = [.ref q, .int n] ∧ H q = some (.ins a.c_Order dx (flO o)) ∧
  Q (.bl (rdy n o)) (upd H q (.ins a.c_Order dx (flO { o with state := leave n o.state })))
def sp_Order_init (_ : PySem.W.Frag) (a : Ad) : Sp := fun vs H Q _ => ∃ (x dx : Addr) (pa t : Nat), vs = [.ref x, .int pa, .int t] ∧ H x = some (.ins a.c_Order dx []) ∧
  ∀ H', H' x = some (.ins a.c_Order dx (flO { patient := pa, test := t })) → (∀ b, b ≠ x → H' b = H b) → Q .non H'
def sp_Orders_init (_ : PySem.W.Frag) (a : Ad) : Sp := fun vs H Q _ => ∃ (p dx : Addr), vs = [.ref p] ∧ H p = some (.ins a.c_Orders dx []) ∧ ∀ l d H', OrdAt a H' p l d [] [] [] → Frm [p] [p, l, d] H H' → Q .non H'
def sp_Orders_start (_ : PySem.W.Frag) (a : Ad) : Sp := fun vs H Q _ => ∃ (p l d : Addr) (as : List Addr) (bs : List (Nat × Addr × List Nat)) (os : List Klb3.Order), vs = [.ref p] ∧ OrdAt a H p l d as bs os ∧
  ∀ l' d' H', OrdAt a H' p l' d' [] [] [] → Frm (foot p l d as bs) [p, l', d'] H H' → Q (.int 0) H'
def sp_Orders_has (_ : PySem.W.Frag) (a : Ad) : Sp := fun vs H Q _ => ∃ (p l d : Addr) (as : List Addr) (bs : List (Nat × Addr × List Nat)) (os : List Klb3.Order) (k : Nat), vs = [.ref p, .int k] ∧ OrdAt a H p l d as bs os ∧ Q (.bl (decide (k < os.length))) H
def sp_Orders_order (_ : PySem.W.Frag) (a : Ad) : Sp := fun vs H Q _ => ∃ (p l d : Addr) (as : List Addr) (bs : List (Nat × Addr × List Nat)) (os : List Klb3.Order) (pa t : Nat), vs = [.ref p, .int pa, .int t] ∧ OrdAt a H p l d as bs os ∧
  (15 < t → Q (.int (-22)) H) ∧ (¬ 15 < t → 256 ≤ os.length → Q (.int (-28)) H) ∧
  (¬ 15 < t → ¬ 256 ≤ os.length → ∀ x H', OrdAt a H' p l d (as ++ [x]) bs (os ++ [{ patient := pa, test := t }]) → Frm (foot p l d as bs) (foot p l d (as ++ [x]) bs) H H' → Q (.int os.length) H')
def sp_Orders_begin_batch (_ : PySem.W.Frag) (a : Ad) : Sp := fun vs H Q _ => ∃ (p l d : Addr) (as : List Addr) (bs : List (Nat × Addr × List Nat)) (os : List Klb3.Order) (t : Nat), vs = [.ref p, .int t] ∧ OrdAt a H p l d as bs os ∧ bs.length ≤ 16 ∧
  (15 < t → Q (.int (-22)) H) ∧ (¬ 15 < t → t ∈ bs.map (·.1) → Q (.int (-16)) H) ∧
  (¬ 15 < t → t ∉ bs.map (·.1) → ∀ q H', OrdAt a H' p l d as (bs ++ [(t, q, [])]) os → Frm (foot p l d as bs) (foot p l d as (bs ++ [(t, q, [])])) H H' → Q (.int 0) H')
def sp_Orders_run (_ : PySem.W.Frag) (a : Ad) : Sp := fun vs H Q _ => ∃ (p l d : Addr) (as : List Addr) (bs : List (Nat × Addr × List Nat)) (os : List Klb3.Order) (k pa : Nat), vs = [.ref p, .int k, .int pa] ∧ OrdAt a H p l d as bs os ∧ (bs.map (·.1)).Nodup ∧ (∀ x, x ∈ bs → x.2.2.length ≤ 256) ∧
  (os[k]? = none → Q (.int (-2)) H) ∧ ∀ o, os[k]? = some o → (o.patient ≠ pa → Q (.int (-71)) H) ∧ (o.patient = pa → o.state ≠ .waits → Q (.int (-16)) H) ∧ (o.patient = pa → o.state = .waits → o.test ∉ bs.map (·.1) → Q (.int (-11)) H) ∧
  (o.patient = pa → o.state = .waits → o.test ∈ bs.map (·.1) → ∀ H', OrdAt a H' p l d as (into o.test k bs) (os.set k { o with state := .inBatch }) → Frm (foot p l d as bs) (foot p l d as bs) H H' → Q (.int 0) H')
def sp_Orders_result (_ : PySem.W.Frag) (a : Ad) : Sp := fun vs H Q _ => ∃ (p l d : Addr) (as : List Addr) (bs : List (Nat × Addr × List Nat)) (os : List Klb3.Order) (k v : Nat), vs = [.ref p, .int k, .int v] ∧ OrdAt a H p l d as bs os ∧
  (os[k]? = none → Q (.int (-2)) H) ∧ ∀ o, os[k]? = some o → (o.state ≠ .inBatch → Q (.int (-11)) H) ∧
  (o.state = .inBatch → ∀ H', OrdAt a H' p l d as bs (os.set k { o with state := .has v }) → Frm (foot p l d as bs) (foot p l d as bs) H H' → Q (.int 0) H')
def sp_Orders_close (_ : PySem.W.Frag) (a : Ad) : Sp := fun vs H Q _ => ∃ (p l d : Addr) (as : List Addr) (bs : List (Nat × Addr × List Nat)) (os : List Klb3.Order) (t n : Nat), vs = [.ref p, .int t, .int n] ∧ OrdAt a H p l d as bs os ∧ (bs.map (·.1)).Nodup ∧ (∀ x, x ∈ bs → x.2.2.Nodup) ∧
  (15 < t → Q (.int (-22)) H) ∧ (¬ 15 < t → t ∉ bs.map (·.1) → Q (.int (-11)) H) ∧
  (¬ 15 < t → ∀ x, x ∈ bs → x.1 = t → ∀ H', OrdAt a H' p l d as (bs.filter fun x => x.1 != t) (part n x.2.2 os) → Frm (foot p l d as bs) (foot p l d as (bs.filter fun x => x.1 != t)) H H' → Q (.int (x.2.2.countP (rdyAt n os) : Nat)) H')
def sp_Orders_give (_ : PySem.W.Frag) (a : Ad) : Sp := fun vs H Q _ => ∃ (p l d : Addr) (as : List Addr) (bs : List (Nat × Addr × List Nat)) (os : List Klb3.Order) (k : Nat), vs = [.ref p, .int k] ∧ OrdAt a H p l d as bs os ∧
  ∀ (os' : List Klb3.Order) (ans : List Int), (match os[k]? with
      | none => os' = os ∧ ans = [-2]
      | some o => match o.state with
        | .given _ => os' = os ∧ ans = [-17]
        | .ready v => os' = os.set k { o with state := .given v } ∧ ans = [0, (v : Int)]
        | _ => os' = os ∧ ans = [-11]) →
    ∀ r H', OrdAt a H' p l d as bs os' → Frm (foot p l d as bs) (foot p l d as bs) H H' → H r = none → r ∉ foot p l d as bs → H' r = some (.lst (ans.map V.int)) → Q (.ref r) H'
def sp_Orders_state (_ : PySem.W.Frag) (a : Ad) : Sp := fun vs H Q _ => ∃ (p l d : Addr) (as : List Addr) (bs : List (Nat × Addr × List Nat)) (os : List Klb3.Order) (k : Nat), vs = [.ref p, .int k] ∧ OrdAt a H p l d as bs os ∧
  (os[k]? = none → Q (.int (-2)) H) ∧ ∀ o, os[k]? = some o → Q (.int (Klb3.told o.state : Nat)) H
theorem told_waits {s : Klb3.State} : ((Klb3.told s : Nat) : Int) = 0 ↔ s = .waits := by
  cases s <;> simp [Klb3.told]
theorem told_in {s : Klb3.State} : ((Klb3.told s : Nat) : Int) = 1 ↔ s = .inBatch := by
  cases s <;> simp [Klb3.told]
theorem told_has {s : Klb3.State} (h : ((Klb3.told s : Nat) : Int) = 2) : ∃ v, s = .has v := by
  cases s <;> simp [Klb3.told] at h ⊢
theorem not_foot {H : Hp} {F : List Addr} {x : Addr} (d : ∀ b, b ∈ F → ∃ o, H b = some o) (h : H x = none) : x ∉ F := fun hx => by
  obtain ⟨o, e⟩ := d x hx
  rw [h] at e
  cases e
section
variable {P : Program} {w : World} {K : PySem.W.Frag} {mg : Str → Option Value} {base : Heap} {a : Ad}
theorem ok_leave_batch (T : Txt K mg a) : FnOk P w K mg base CX0 1 a.f_leave_batch a.d_leave_batch ["order", "broken"] (sp_leave_batch K a) := by
  refine T.F_leave_batch.ok sc_leave_batch (fun vs H Q E h => ?_) (fun cdv A outer s H vs Q E hr h => ?_)
  · obtain ⟨q, dx, o, n, rfl, _⟩ := h
    rfl
  · obtain ⟨q, dx, o, n, rfl, hq, k⟩ := h
    refine ⟨_, (pss_cons (ps_if (PW.pt (pw_and (pt_cmpR op_eq (pv 1) pe_int (nomark _)) (pw_and1 (pt_cmpR op_eq (pe_fld (pv 0) rfl) (pe_gi rfl T.k_HAS_RESULT) (nomark _))))) (pss_cons (ps_fld (pv 0) (pe_gi rfl T.k_READY) rfl) (pss_one (ps_ret pe_bl))) pss_nil) (pss_cons (ps_fld (pv 0) (pe_gi rfl T.k_WAITS) rfl) (pss_cons (ps_fld (pv 0) pe_non rfl) (pss_one (ps_ret pe_bl))))), ?_⟩
    have out : rdy n o = false → leave n o.state = .waits → Q (.bl false) (upd H q (.ins a.c_Order dx (fl_Order (.int (o.patient : Nat)) (.int (o.test : Nat)) (.int 0) .non))) := by
      intro e1 e2
      rw [e1, e2] at k
      exact k
    have hq1 : ∀ o', upd H q (.ins a.c_Order dx (putF "stage" (.int 0) (flO o'))) q = some (.ins a.c_Order dx (fl_Order (.int (o'.patient : Nat)) (.int (o'.test : Nat)) (.int 0) (vS o'.state))) := fun o' => upd_of fl_Order_put_stage
    refine ⟨_, rfl, x_eqC ⟨_, rfl, ?_⟩⟩
    refine x_ite (fun h0 => ?_) (fun h0 => iteF ?_)
    · have h0 : n = 0 := by omega
      refine ⟨_, rfl, q, _, dx, _, _, rfl, hq, T.cl_Order, T.n_Order_stage, fl_Order_get_stage, x_eqC ⟨_, rfl, ?_⟩⟩
      refine x_ite (fun h2 => ?_) (fun h2 => ?_)
      · obtain ⟨v, hv⟩ := told_has h2
        refine ⟨_, rfl, q, _, dx, _, rfl, hq, T.cl_Order, T.n_Order_stage, fl_Order_len, ?_⟩
        have e1 : rdy n o = true := by unfold rdy; rw [hv, h0]; rfl
        have e2 : leave n o.state = .ready v := by rw [hv]; show (if n = 0 then _ else _) = _; rw [if_pos h0]
        have eF : putF "stage" (V.int 3) (flO o) = flO { o with state := .ready v } := by
          refine (fl_Order_put_stage (y := V.int 3)).trans ?_
          unfold flO
          rw [hv]
          rfl
        rw [eF]
        rw [e1, e2] at k
        exact k
      · refine ⟨_, rfl, q, _, dx, _, rfl, hq, T.cl_Order, T.n_Order_stage, fl_Order_len, ?_⟩
        refine ⟨_, rfl, q, _, dx, _, rfl, hq1 o, T.cl_Order, T.n_Order_value, fl_Order_len, ?_⟩
        rw [upd_upd, fl_Order_put_value]
        refine out ?_ ?_
        · unfold rdy
          cases hs : o.state <;> first | (rw [hs] at h2; exact absurd rfl h2) | simp [isHas]
        · cases hs : o.state <;> first | (rw [hs] at h2; exact absurd rfl h2) | rfl
    · have h0 : ¬ n = 0 := by omega
      refine ⟨_, rfl, q, _, dx, _, rfl, hq, T.cl_Order, T.n_Order_stage, fl_Order_len, ?_⟩
      refine ⟨_, rfl, q, _, dx, _, rfl, hq1 o, T.cl_Order, T.n_Order_value, fl_Order_len, ?_⟩
      rw [upd_upd, fl_Order_put_value]
      refine out ?_ ?_
      · unfold rdy
        rw [decide_eq_false h0]
        rfl
      · cases o.state <;> first | rfl | exact if_neg h0
theorem ok_Order_init (T : Txt K mg a) : FnOk P w K mg base CX0 1 a.f_Order_init a.d_Order_init ["self", "patient", "test"] (sp_Order_init K a) := by
  refine T.F_Order_init.ok sc_Order_init (fun vs H Q E h => ?_) (fun cdv A outer s H vs Q E hr h => ?_)
  · obtain ⟨x, dx, pa, t, rfl, _⟩ := h
    rfl
  · obtain ⟨x, dx, pa, t, rfl, hx, k⟩ := h
    refine ⟨_, (pss_cons (ps_fld (pv 0) (pv 1) rfl) (pss_cons (ps_fld (pv 0) (pv 2) rfl) (pss_cons (ps_fld (pv 0) (pe_gi rfl T.k_WAITS) rfl) (pss_one (ps_fld (pv 0) pe_non rfl))))), ?_⟩
    refine ⟨_, rfl, _, rfl, x, _, dx, _, rfl, hx, T.cl_Order, T.n_Order_patient, (by show 0 < 1000; decide), ?_⟩
    refine ⟨_, rfl, _, rfl, x, _, dx, _, rfl, upd_of fl_Order_new0, T.cl_Order, T.n_Order_test, (by show 1 < 1000; decide), ?_⟩
    refine ⟨_, rfl, x, _, dx, _, rfl, upd_of fl_Order_new1, T.cl_Order, T.n_Order_stage, (by show 2 < 1000; decide), ?_⟩
    refine ⟨_, rfl, x, _, dx, _, rfl, upd_of fl_Order_new2, T.cl_Order, T.n_Order_value, (by show 3 < 1000; decide), ?_⟩
    refine k _ (upd_of fl_Order_new3) fun b hb => ?_
    rw [upd_ne hb, upd_ne hb, upd_ne hb, upd_ne hb]
theorem ok_Orders_init (T : Txt K mg a) : FnOk P w K mg base CX0 1 a.f_Orders_init a.d_Orders_init ["self"] (sp_Orders_init K a) := by
  refine T.F_Orders_init.ok sc_Orders_init (fun vs H Q E h => ?_) (fun cdv A outer s H vs Q E hr h => ?_)
  · obtain ⟨p, dx, rfl, _⟩ := h
    rfl
  · obtain ⟨p, dx, rfl, hp, k⟩ := h
    refine ⟨_, (pss_cons (ps_fld (pv 0) (pe_lst pa_nil) rfl) (pss_one (ps_fld (pv 0) pe_dnewK rfl))), ?_⟩
    refine ⟨Nat.zero_le _, fun l hl => ?_⟩
    have npl : p ≠ l := ne_of_none hp hl
    refine ⟨_, rfl, p, _, dx, _, rfl, (upd_ne npl).trans hp, T.cl_Orders, T.n_Orders_orders, (by show 0 < 1000; decide), ?_⟩
    intro d hd
    have npd : p ≠ d := ne_of_none upd_same hd
    have hd1 := (upd_none hd).2
    have nld : l ≠ d := ne_of_none upd_same hd1
    have hd0 : H d = none := (upd_none hd1).2
    refine ⟨_, rfl, p, _, dx, _, rfl, (upd_ne npd).trans (upd_of fl_Orders_new0), T.cl_Orders, T.n_Orders_batches, (by show 1 < 1000; decide), ?_⟩
    refine k l d _ ⟨⟨dx, upd_of fl_Orders_new1⟩, by rw [upd_ne npl.symm, upd_ne nld, upd_ne npl.symm, upd_same]; rfl, by rw [upd_ne npd.symm, upd_same]; rfl, List.nodup_nil, rfl, fun j q h => by simp at h, fun x hx => by simp at hx, fun x hx => by simp at hx, List.nodup_nil, fun x hx => by simp at hx⟩ ⟨fun b o e h => ?_, fun b hb => ?_, fun b hb => ?_⟩
    · have hb : b ≠ p := fun z => h (by simp [z])
      rw [upd_ne hb, upd_ne (ne_of_none e hd0), upd_ne hb, upd_ne (ne_of_none e hl)]
      exact e
    · have hb : b = p ∨ b = l ∨ b = d := by simpa using hb
      rcases hb with z | z | z
      · exact .inl (by simp [z])
      · exact .inr (by rw [z]; exact hl)
      · exact .inr (by rw [z]; exact hd0)
    · exact ⟨_, by rw [List.mem_singleton.mp hb]; exact upd_same⟩
theorem ok_Orders_start (T : Txt K mg a) : FnOk P w K mg base CX0 1 a.f_Orders_start a.d_Orders_start ["self"] (sp_Orders_start K a) := by
  refine T.F_Orders_start.ok sc_Orders_start (fun vs H Q E h => ?_) (fun cdv A outer s H vs Q E hr h => ?_)
  · obtain ⟨p, l, d, as, bs, os, rfl, _⟩ := h
    rfl
  · obtain ⟨p, l0, d0, as, bs, os, rfl, C, k⟩ := h
    obtain ⟨dx, hp⟩ := C.ob
    refine ⟨_, (pss_cons (ps_fld (pv 0) (pe_lst pa_nil) rfl) (pss_cons (ps_fld (pv 0) pe_dnewK rfl) (pss_one (ps_ret pe_int)))), ?_⟩
    refine ⟨Nat.zero_le _, fun l hl => ?_⟩
    have npl : p ≠ l := ne_of_none hp hl
    refine ⟨_, rfl, p, _, dx, _, rfl, (upd_ne npl).trans hp, T.cl_Orders, T.n_Orders_orders, fl_Orders_len, ?_⟩
    intro d hd
    have npd : p ≠ d := ne_of_none upd_same hd
    have hd1 := (upd_none hd).2
    have nld : l ≠ d := ne_of_none upd_same hd1
    have hd0 : H d = none := (upd_none hd1).2
    refine ⟨_, rfl, p, _, dx, _, rfl, (upd_ne npd).trans (upd_of fl_Orders_put_orders), T.cl_Orders, T.n_Orders_batches, fl_Orders_len, ?_⟩
    refine k l d _ ⟨⟨dx, upd_of fl_Orders_put_batches⟩, by rw [upd_ne npl.symm, upd_ne nld, upd_ne npl.symm, upd_same]; rfl, by rw [upd_ne npd.symm, upd_same]; rfl, List.nodup_nil, rfl, fun j q h => by simp at h, fun x hx => by simp at hx, fun x hx => by simp at hx, List.nodup_nil, fun x hx => by simp at hx⟩ ⟨fun b o e h => ?_, fun b hb => ?_, fun b hb => ?_⟩
    · have hb : b ≠ p := fun z => h (foot_mem.mpr (.inl z))
      rw [upd_ne hb, upd_ne (ne_of_none e hd0), upd_ne hb, upd_ne (ne_of_none e hl)]
      exact e
    · have hb : b = p ∨ b = l ∨ b = d := by simpa using hb
      rcases hb with z | z | z
      · exact .inl (foot_mem.mpr (.inl z))
      · exact .inr (by rw [z]; exact hl)
      · exact .inr (by rw [z]; exact hd0)
    · by_cases hbp : b = p
      · exact ⟨_, by rw [hbp]; exact upd_same⟩
      · obtain ⟨o, e⟩ := C.dom b hb
        exact ⟨o, by rw [upd_ne hbp, upd_ne (ne_of_none e hd0), upd_ne hbp, upd_ne (ne_of_none e hl)]; exact e⟩
theorem ok_Orders_has (T : Txt K mg a) : FnOk P w K mg base CX0 1 a.f_Orders_has a.d_Orders_has ["self", "number"] (sp_Orders_has K a) := by
  refine T.F_Orders_has.ok sc_Orders_has (fun vs H Q E h => ?_) (fun cdv A outer s H vs Q E hr h => ?_)
  · obtain ⟨p, l, d, as, bs, os, n, rfl, _⟩ := h
    rfl
  · obtain ⟨p, l, d, as, bs, os, n, rfl, C, k⟩ := h
    obtain ⟨dx, h1⟩ := C.ob
    refine ⟨_, (pss_one (ps_ret (pe_cmpR op_lt (pv 1) (pe_callB call_len_seq rfl T.n_len PySem.boot_len (pa_cons (pe_fld (pv 0) rfl) pa_nil)) (nomark _)))), ?_⟩
    refine ⟨_, rfl, _, rfl, p, _, dx, _, _, rfl, h1, T.cl_Orders, T.n_Orders_orders, fl_Orders_get_orders, l, _, rfl, .inl (SqL.of C.ls), _, _, rfl, rfl, ?_⟩
    have e : decide ((n : Int) < (((as.map V.ref).length : Nat) : Int)) = decide (n < os.length) := by
      rw [List.length_map, C.len]
      exact decide_eq_decide.mpr (by omega)
    show Q (.bl (decide ((n : Int) < (((as.map V.ref).length : Nat) : Int)))) H
    rw [e]
    exact k
end
end WL

namespace WL
open PySem L2
section
variable {P : Program} {w : World} {K : PySem.W.Frag} {mg : Str → Option Value} {base : Heap} {a : Ad}
theorem ok_Orders_order (T : Txt K mg a) : FnOk P w K mg base CX0 3 a.f_Orders_order a.d_Orders_order ["self", "patient", "test"] (sp_Orders_order K a) := by
  have G_Order_init : FnOk P w K mg base CX0 1 a.f_Order_init a.d_Order_init ["self", "patient", "test"] (sp_Order_init K a) := ok_Order_init T
  refine T.F_Orders_order.ok sc_Orders_order (fun vs H Q E h => ?_) (fun cdv A outer s H vs Q E hr h => ?_)
  · obtain ⟨p, l, d, as, bs, os, pa, t, rfl, _⟩ := h
    rfl
  · obtain ⟨p, l, d, as, bs, os, pa, t, rfl, C, k1, k2, k3⟩ := h
    obtain ⟨dx, h1⟩ := C.ob
    refine ⟨_, (pss_cons (ps_if (pt_cmpR op_gt (pv 2) (pe_gi rfl T.k_LAST_TEST) (nomark _)) (pss_one (ps_ret (pe_gi rfl T.k_NOT_AS_TOLD))) pss_nil) (pss_cons (ps_if (pt_cmpR op_ge (pe_callB call_len_seq rfl T.n_len PySem.boot_len (pa_cons (pe_fld (pv 0) rfl) pa_nil)) (pe_gi rfl T.k_MOST_ORDERS) (nomark _)) (pss_one (ps_ret (pe_gi rfl T.k_FULL))) pss_nil) (pss_cons (ps_expr (pe_bm PySem.F.plainAttrs_list PySem.F.slot_list_append PySem.F.type_list_append mt_append (pe_fld (pv 0) rfl) (pa_cons (pe_make T.mk_Order G_Order_init (hr.mono (by decide)) rfl T.g_Order T.b_Order_init .nil pass0 (pa_cons (pv 1) (pa_cons (pv 2) pa_nil))) pa_nil))) (pss_one (ps_ret (pe_op op_sub (pe_callB call_len_seq rfl T.n_len PySem.boot_len (pa_cons (pe_fld (pv 0) rfl) pa_nil)) pe_int)))))), ?_⟩
    refine ⟨_, rfl, _, _, rfl, rfl, _, rfl, ?_⟩
    refine x_ite (fun h => ?_) (fun h => ?_)
    · exact k1 (by omega)
    have h : ¬ 15 < t := by omega
    refine ⟨_, rfl, p, _, dx, _, _, rfl, h1, T.cl_Orders, T.n_Orders_orders, fl_Orders_get_orders, l, _, rfl, .inl (SqL.of C.ls), _, _, rfl, rfl, _, rfl, ?_⟩
    have el : (((as.map V.ref).length : Nat) : Int) = (os.length : Int) := by rw [List.length_map, C.len]
    refine x_ite (fun h2 => ?_) (fun h2 => ?_)
    · rw [el] at h2
      exact k2 h (by omega)
    rw [el] at h2
    have h2 : ¬ 256 ≤ os.length := by omega
    have hz : (as.map V.ref).length < sizeLine := by
      rw [List.length_map, C.len]
      have : sizeLine = 16777216 := sizeLine_eq
      omega
    refine ⟨_, rfl, p, _, dx, _, _, rfl, h1, T.cl_Orders, T.n_Orders_orders, fl_Orders_get_orders, .inl ⟨rfl, _, SqL.of C.ls⟩, _, rfl, _, rfl, fun x dn hx hdn hne => ?_⟩
    refine ⟨x, dn, pa, t, rfl, upd_same, fun H2 hx2 hk2 => ⟨rfl, ?_⟩⟩
    have s2 : Same H H2 := made_same hx hdn hk2
    have C2 := C.same s2
    refine ⟨l, _, _, rfl, rfl, C2.ls, hz, ?_⟩
    have C3 := C2.app hx2 (C.fresh hx)
    obtain ⟨dx3, h13⟩ := C3.ob
    refine ⟨_, rfl, p, _, dx3, _, _, rfl, h13, T.cl_Orders, T.n_Orders_orders, fl_Orders_get_orders, l, _, rfl, .inl (SqL.of C3.ls), _, _, rfl, rfl, ?_⟩
    have e : ((((as ++ [x]).map V.ref).length : Nat) : Int) - 1 = (os.length : Int) := by
      rw [List.length_map, List.length_append, C.len]
      show ((os.length + 1 : Nat) : Int) - 1 = _
      omega
    have f2 : Frm (foot p l d as bs) (foot p l d as bs) H H2 := Frm.of_same C.dom s2
    have f3 := f2.trans (frm_upd (q := l) (o := .lst (as.map V.ref ++ [V.ref x])) C2.dom (foot_mem.mpr (.inr (.inl rfl))))
    have q := k3 h h2 x _ C3 (f3.grow hx fun b hb => ?_)
    · show Q (.int (((((as ++ [x]).map V.ref).length : Nat) : Int) - 1)) _
      rw [e]
      exact q
    · rcases foot_mem.mp hb with z | z | z | z | z
      · exact .inl (foot_mem.mpr (.inl z))
      · exact .inl (foot_mem.mpr (.inr (.inl z)))
      · exact .inl (foot_mem.mpr (.inr (.inr (.inl z))))
      · rcases List.mem_append.mp z with z | z
        · exact .inl (foot_mem.mpr (.inr (.inr (.inr (.inl z)))))
        · exact .inr (List.mem_singleton.mp z)
      · exact .inl (foot_mem.mpr (.inr (.inr (.inr (.inr z)))))
theorem ok_Orders_begin_batch (T : Txt K mg a) : FnOk P w K mg base CX0 1 a.f_Orders_begin_batch a.d_Orders_begin_batch ["self", "test"] (sp_Orders_begin_batch K a) := by
  refine T.F_Orders_begin_batch.ok sc_Orders_begin_batch (fun vs H Q E h => ?_) (fun cdv A outer s H vs Q E hr h => ?_)
  · obtain ⟨p, l, d, as, bs, os, t, rfl, _⟩ := h
    rfl
  · obtain ⟨p, l, d, as, bs, os, t, rfl, C, hfew, k1, k2, k3⟩ := h
    obtain ⟨dx, h1⟩ := C.ob
    refine ⟨_, (pss_cons (ps_if (pt_cmpR op_gt (pv 1) (pe_gi rfl T.k_LAST_TEST) (nomark _)) (pss_one (ps_ret (pe_gi rfl T.k_NOT_AS_TOLD))) pss_nil) (pss_cons (ps_if (pt_cmp (pc_din (hu_of hr) (pv 1) (pe_fld (pv 0) rfl))) (pss_one (ps_ret (pe_gi rfl T.k_BUSY))) pss_nil) (pss_cons (ps_dput (hu_of hr) (pe_fld (pv 0) rfl) (pv 1) (pe_lst pa_nil) rfl) (pss_one (ps_ret pe_int))))), ?_⟩
    refine ⟨_, rfl, _, _, rfl, rfl, _, rfl, ?_⟩
    refine x_ite (fun h => ?_) (fun h => ?_)
    · exact k1 (by omega)
    have h : ¬ 15 < t := by omega
    refine ⟨_, rfl, _, rfl, p, _, dx, _, _, rfl, h1, T.cl_Orders, T.n_Orders_batches, fl_Orders_get_batches, d, _, rfl, DGet.k (k := Sum.inl (t : Int)) C.dc, _, rfl, ?_⟩
    rw [kv_some]
    refine x_ite (fun h2 => ?_) (fun h2 => ?_)
    · exact k2 h h2
    -- self.batches[test] = []
    refine ⟨Nat.zero_le _, fun q hq => ?_⟩
    have s1 : Same H (upd H q (.lst [])) := same_new hq
    have hd1 : upd H q (.lst []) d = some (.dK (kvOf bs)) := s1 _ _ C.dc
    have hz : (kvOf bs).length < sizeLine := by
      unfold kvOf
      rw [List.length_map]
      have : sizeLine = 16777216 := sizeLine_eq
      omega
    refine ⟨_, rfl, p, _, dx, _, _, rfl, s1 _ _ h1, T.cl_Orders, T.n_Orders_batches, fl_Orders_get_batches, _, rfl, d, _, rfl, DPut.k (k := Sum.inl (t : Int)) hd1 hz, ?_⟩
    have f1 : Frm (foot p l d as bs) (foot p l d as bs) H (upd H q (.lst [])) := Frm.of_same C.dom s1
    have f2 := f1.trans (frm_upd (q := d) (o := .dK (putK (kvOf bs) (Sum.inl (t : Int)) (.ref q))) (C.same s1).dom (foot_mem.mpr (.inr (.inr (.inl rfl)))))
    refine k3 h h2 q _ (C.opn hq h2) (f2.grow hq fun b hb => ?_)
    rcases foot_mem.mp hb with z | z | z | z | z
    · exact .inl (foot_mem.mpr (.inl z))
    · exact .inl (foot_mem.mpr (.inr (.inl z)))
    · exact .inl (foot_mem.mpr (.inr (.inr (.inl z))))
    · exact .inl (foot_mem.mpr (.inr (.inr (.inr (.inl z)))))
    · rw [List.map_append] at z
      rcases List.mem_append.mp z with z | z
      · exact .inl (foot_mem.mpr (.inr (.inr (.inr (.inr z)))))
      · exact .inr (List.mem_singleton.mp z)
theorem ok_Orders_run (T : Txt K mg a) : FnOk P w K mg base CX0 2 a.f_Orders_run a.d_Orders_run ["self", "number", "patient"] (sp_Orders_run K a) := by
  have G_Orders_has : FnOk P w K mg base CX0 1 a.f_Orders_has a.d_Orders_has ["self", "number"] (sp_Orders_has K a) := ok_Orders_has T
  refine T.F_Orders_run.ok sc_Orders_run (fun vs H Q E h => ?_) (fun cdv A outer s H vs Q E hr h => ?_)
  · obtain ⟨p, l, d, as, bs, os, n, pa, rfl, _⟩ := h
    rfl
  · obtain ⟨p, l, d, as, bs, os, n, pa, rfl, C, hkn, hsh, k0, k1⟩ := h
    obtain ⟨dx, h1⟩ := C.ob
    refine ⟨_, (pss_cons (ps_if (pt_not (pt_val (pe_meth (pv 0) T.cl_Orders T.m_Orders_has G_Orders_has (hr.mono (by decide)) T.b_Orders_has .nil pass0 (pa_cons (pv 1) pa_nil)))) (pss_one (ps_ret (pe_gi rfl T.k_NO_SUCH))) pss_nil) (pss_cons (ps_set (i := 3) sc_Orders_run.nd rfl (Or.inl rfl) (pe_ix ix_list (pe_fld (pv 0) rfl) (pv 1) (fun _ _ => rfl))) (pss_cons (ps_if (pt_cmpR op_ne (pe_fld (pv 3) rfl) (pv 2) (nomark _)) (pss_one (ps_ret (pe_gi rfl T.k_OTHER_PATIENT))) pss_nil) (pss_cons (ps_if (pt_cmpR op_ne (pe_fld (pv 3) rfl) (pe_gi rfl T.k_WAITS) (nomark _)) (pss_one (ps_ret (pe_gi rfl T.k_BUSY))) pss_nil) (pss_cons (ps_if (pt_cmp (pc_dnotin (hu_of hr) (pe_fld (pv 3) rfl) (pe_fld (pv 0) rfl))) (pss_one (ps_ret (pe_gi rfl T.k_NOT_NOW))) pss_nil) (pss_cons (ps_fld (pv 3) (pe_gi rfl T.k_IN_BATCH) rfl) (pss_cons (ps_expr (pe_bm PySem.F.plainAttrs_list PySem.F.slot_list_append PySem.F.type_list_append mt_append (pe_dget (hu_of hr) (pe_fld (pv 0) rfl) (pe_fld (pv 3) rfl) (fun _ _ => rfl)) (pa_cons (pv 3) pa_nil))) (pss_one (ps_ret pe_int))))))))), ?_⟩
    refine ⟨_, rfl, p, dx, _, rfl, h1, fl_Orders_no_has, _, rfl, p, l, d, as, bs, os, n, rfl, C, ⟨_, rfl, ?_⟩⟩
    refine x_iten (fun h2 => ?_) (fun h2 => ?_)
    · exact k0 (List.getElem?_eq_none (by omega))
    have hg : os[n]? = some os[n] := List.getElem?_eq_getElem h2
    generalize os[n] = o at hg
    obtain ⟨k1, k2, k3, k4⟩ := k1 o hg
    obtain ⟨q, dq, hq, hH, hat⟩ := C.get hg
    refine ⟨_, rfl, p, _, dx, _, _, rfl, h1, T.cl_Orders, T.n_Orders_orders, fl_Orders_get_orders, _, rfl, l, _, _, _, rfl, rfl, SqL.of C.ls, hat, ?_⟩
    -- order.patient != patient
    refine ⟨_, rfl, q, _, dq, _, _, rfl, hH, T.cl_Order, T.n_Order_patient, fl_Order_get_patient, _, rfl, x_neI ⟨_, rfl, ?_⟩⟩
    refine x_iten (fun h3 => ?_) (fun h3 => ?_)
    · exact k1 (by omega)
    have h3 : o.patient = pa := by omega
    -- order.stage != WAITS
    refine ⟨_, rfl, q, _, dq, _, _, rfl, hH, T.cl_Order, T.n_Order_stage, fl_Order_get_stage, x_neC ⟨_, rfl, ?_⟩⟩
    refine x_iten (fun h4 => ?_) (fun h4 => ?_)
    · exact k2 h3 (fun z => h4 (told_waits.mpr z))
    have h4 : o.state = .waits := told_waits.mp h4
    -- order.test not in self.batches
    refine ⟨_, rfl, q, _, dq, _, _, rfl, hH, T.cl_Order, T.n_Order_test, fl_Order_get_test, _, rfl, p, _, dx, _, _, rfl, h1, T.cl_Orders, T.n_Orders_batches, fl_Orders_get_batches, d, _, rfl, DGet.k (k := Sum.inl (o.test : Int)) C.dc, _, rfl, ?_⟩
    rw [kv_some]
    refine x_iten (fun h5 => ?_) (fun h5 => ?_)
    · exact k3 h3 h4 h5
    obtain ⟨x, hx, ex⟩ := List.mem_map.mp h5
    have k4 := k4 h3 h4 h5
    -- order.stage = IN_BATCH
    refine ⟨_, rfl, q, _, dq, _, rfl, hH, T.cl_Order, T.n_Order_stage, fl_Order_len, ?_⟩
    have eF : putF "stage" (V.int 1) (flO o) = flO { o with state := .inBatch } := by
      refine (fl_Order_put_stage (y := V.int 1)).trans ?_
      unfold flO
      rw [h4]
      rfl
    rw [eF]
    have C1 := C.set (dx := dq) hq { o with state := .inBatch }
    obtain ⟨dx1, h11⟩ := C1.ob
    have hv : valV (kvOf bs) (Sum.inl (o.test : Int)) = some (.ref x.2.1) := by
      rw [← ex]
      exact kv_at hkn hx
    have hg2 : DGet (upd H q (.ins a.c_Order dq (flO { o with state := .inBatch }))) d (.int (o.test : Nat)) (some (.ref x.2.1)) := by
      rw [← hv]
      exact DGet.k (k := Sum.inl (o.test : Int)) C1.dc
    have hz : (x.2.2.map (refAt as)).length < sizeLine := by
      rw [List.length_map]
      have := hsh x hx
      have : sizeLine = 16777216 := sizeLine_eq
      omega
    -- self.batches[order.test].append(order)
    refine ⟨_, rfl, p, _, dx1, _, _, rfl, h11, T.cl_Orders, T.n_Orders_batches, fl_Orders_get_batches, _, rfl, q, _, dq, _, _, rfl, upd_same, T.cl_Order, T.n_Order_test, fl_Order_get_test, d, _, rfl, hg2, .inl ⟨rfl, _, SqL.of (C1.bt x hx)⟩, _, rfl, x.2.1, _, _, rfl, rfl, C1.bt x hx, hz, ?_⟩
    have C2 := C1.into hkn hx hq
    rw [ex] at C2
    have f1 : Frm (foot p l d as bs) (foot p l d as bs) H (upd H q (.ins a.c_Order dq (flO { o with state := .inBatch }))) := frm_upd C.dom (foot_mem.mpr (.inr (.inr (.inr (.inl (List.mem_of_getElem? hq))))))
    have f2 := f1.trans (frm_upd (q := x.2.1) (o := .lst (x.2.2.map (refAt as) ++ [V.ref q])) C1.dom (foot_mem.mpr (.inr (.inr (.inr (.inr (List.mem_map.mpr ⟨x, hx, rfl⟩)))))))
    exact k4 _ C2 f2
theorem ok_Orders_result (T : Txt K mg a) : FnOk P w K mg base CX0 2 a.f_Orders_result a.d_Orders_result ["self", "number", "value"] (sp_Orders_result K a) := by
  have G_Orders_has : FnOk P w K mg base CX0 1 a.f_Orders_has a.d_Orders_has ["self", "number"] (sp_Orders_has K a) := ok_Orders_has T
  refine T.F_Orders_result.ok sc_Orders_result (fun vs H Q E h => ?_) (fun cdv A outer s H vs Q E hr h => ?_)
  · obtain ⟨p, l, d, as, bs, os, n, v, rfl, _⟩ := h
    rfl
  · obtain ⟨p, l, d, as, bs, os, n, v, rfl, C, k0, k1⟩ := h
    obtain ⟨dx, h1⟩ := C.ob
    refine ⟨_, (pss_cons (ps_if (pt_not (pt_val (pe_meth (pv 0) T.cl_Orders T.m_Orders_has G_Orders_has (hr.mono (by decide)) T.b_Orders_has .nil pass0 (pa_cons (pv 1) pa_nil)))) (pss_one (ps_ret (pe_gi rfl T.k_NO_SUCH))) pss_nil) (pss_cons (ps_set (i := 3) sc_Orders_result.nd rfl (Or.inl rfl) (pe_ix ix_list (pe_fld (pv 0) rfl) (pv 1) (fun _ _ => rfl))) (pss_cons (ps_if (pt_cmpR op_ne (pe_fld (pv 3) rfl) (pe_gi rfl T.k_IN_BATCH) (nomark _)) (pss_one (ps_ret (pe_gi rfl T.k_NOT_NOW))) pss_nil) (pss_cons (ps_fld (pv 3) (pe_gi rfl T.k_HAS_RESULT) rfl) (pss_cons (ps_fld (pv 3) (pv 2) rfl) (pss_one (ps_ret pe_int))))))), ?_⟩
    refine ⟨_, rfl, p, dx, _, rfl, h1, fl_Orders_no_has, _, rfl, p, l, d, as, bs, os, n, rfl, C, ⟨_, rfl, ?_⟩⟩
    refine x_iten (fun h2 => ?_) (fun h2 => ?_)
    · exact k0 (List.getElem?_eq_none (by omega))
    have hg : os[n]? = some os[n] := List.getElem?_eq_getElem h2
    generalize os[n] = o at hg
    obtain ⟨k1, k2⟩ := k1 o hg
    obtain ⟨q, dq, hq, hH, hat⟩ := C.get hg
    refine ⟨_, rfl, p, _, dx, _, _, rfl, h1, T.cl_Orders, T.n_Orders_orders, fl_Orders_get_orders, _, rfl, l, _, _, _, rfl, rfl, SqL.of C.ls, hat, ?_⟩
    refine ⟨_, rfl, q, _, dq, _, _, rfl, hH, T.cl_Order, T.n_Order_stage, fl_Order_get_stage, x_neC ⟨_, rfl, ?_⟩⟩
    refine x_iten (fun h4 => ?_) (fun h4 => ?_)
    · exact k1 (fun z => h4 (told_in.mpr z))
    have h4 : o.state = .inBatch := told_in.mp h4
    refine ⟨_, rfl, q, _, dq, _, rfl, hH, T.cl_Order, T.n_Order_stage, fl_Order_len, ?_⟩
    refine ⟨_, rfl, _, rfl, q, _, dq, _, rfl, upd_of fl_Order_put_stage, T.cl_Order, T.n_Order_value, fl_Order_len, ?_⟩
    rw [upd_upd, fl_Order_put_value]
    exact k2 h4 _ (C.set (dx := dq) hq { o with state := .has v }) (frm_upd C.dom (foot_mem.mpr (.inr (.inr (.inr (.inl (List.mem_of_getElem? hq)))))))
theorem ok_Orders_state (T : Txt K mg a) : FnOk P w K mg base CX0 2 a.f_Orders_state a.d_Orders_state ["self", "number"] (sp_Orders_state K a) := by
  have G_Orders_has : FnOk P w K mg base CX0 1 a.f_Orders_has a.d_Orders_has ["self", "number"] (sp_Orders_has K a) := ok_Orders_has T
  refine T.F_Orders_state.ok sc_Orders_state (fun vs H Q E h => ?_) (fun cdv A outer s H vs Q E hr h => ?_)
  · obtain ⟨p, l, d, as, bs, os, n, rfl, _⟩ := h
    rfl
  · obtain ⟨p, l, d, as, bs, os, n, rfl, C, k0, k1⟩ := h
    obtain ⟨dx, h1⟩ := C.ob
    refine ⟨_, (pss_cons (ps_if (pt_not (pt_val (pe_meth (pv 0) T.cl_Orders T.m_Orders_has G_Orders_has (hr.mono (by decide)) T.b_Orders_has .nil pass0 (pa_cons (pv 1) pa_nil)))) (pss_one (ps_ret (pe_gi rfl T.k_NO_SUCH))) pss_nil) (pss_cons (ps_set (i := 2) sc_Orders_state.nd rfl (Or.inl rfl) (pe_ix ix_list (pe_fld (pv 0) rfl) (pv 1) (fun _ _ => rfl))) (pss_one (ps_ret (pe_fld (pv 2) rfl))))), ?_⟩
    refine ⟨_, rfl, p, dx, _, rfl, h1, fl_Orders_no_has, _, rfl, p, l, d, as, bs, os, n, rfl, C, ⟨_, rfl, ?_⟩⟩
    refine x_iten (fun h2 => ?_) (fun h2 => ?_)
    · exact k0 (List.getElem?_eq_none (by omega))
    have hg : os[n]? = some os[n] := List.getElem?_eq_getElem h2
    generalize os[n] = o at hg
    obtain ⟨q, dq, hq, hH, hat⟩ := C.get hg
    refine ⟨_, rfl, p, _, dx, _, _, rfl, h1, T.cl_Orders, T.n_Orders_orders, fl_Orders_get_orders, _, rfl, l, _, _, _, rfl, rfl, SqL.of C.ls, hat, ?_⟩
    exact ⟨_, rfl, q, _, dq, _, _, rfl, hH, T.cl_Order, T.n_Order_stage, fl_Order_get_stage, k1 o hg⟩
theorem ok_Orders_give (T : Txt K mg a) : FnOk P w K mg base CX0 2 a.f_Orders_give a.d_Orders_give ["self", "number"] (sp_Orders_give K a) := by
  have G_Orders_has : FnOk P w K mg base CX0 1 a.f_Orders_has a.d_Orders_has ["self", "number"] (sp_Orders_has K a) := ok_Orders_has T
  refine T.F_Orders_give.ok sc_Orders_give (fun vs H Q E h => ?_) (fun cdv A outer s H vs Q E hr h => ?_)
  · obtain ⟨p, l, d, as, bs, os, n, rfl, _⟩ := h
    rfl
  · obtain ⟨p, l, d, as, bs, os, n, rfl, C, k⟩ := h
    obtain ⟨dx, h1⟩ := C.ob
    have no : ∀ z : Int, (match os[n]? with
      | none => os = os ∧ [z] = [-2]
      | some o => match o.state with
        | .given _ => os = os ∧ [z] = [-17]
        | .ready v => os = os.set n { o with state := .given v } ∧ [z] = [0, (v : Int)]
        | _ => os = os ∧ [z] = [-11]) → ([V.int z] : List V).length ≤ sizeLine ∧ ∀ x, H x = none → Q (.ref x) (upd H x (.lst [V.int z])) := by
      intro z hz
      refine ⟨(by show 1 ≤ sizeLine; decide), fun x hx => ?_⟩
      exact k os [z] hz x _ (C.same (same_new hx)) (Frm.of_same C.dom (same_new hx)) hx (not_foot C.dom hx) upd_same
    refine ⟨_, (pss_cons (ps_if (pt_not (pt_val (pe_meth (pv 0) T.cl_Orders T.m_Orders_has G_Orders_has (hr.mono (by decide)) T.b_Orders_has .nil pass0 (pa_cons (pv 1) pa_nil)))) (pss_one (ps_ret (pe_lst (pa_cons (pe_gi rfl T.k_NO_SUCH) pa_nil)))) pss_nil) (pss_cons (ps_set (i := 2) sc_Orders_give.nd rfl (Or.inl rfl) (pe_ix ix_list (pe_fld (pv 0) rfl) (pv 1) (fun _ _ => rfl))) (pss_cons (ps_if (pt_cmpR op_eq (pe_fld (pv 2) rfl) (pe_gi rfl T.k_GIVEN_OUT) (nomark _)) (pss_one (ps_ret (pe_lst (pa_cons (pe_gi rfl T.k_ALREADY) pa_nil)))) pss_nil) (pss_cons (ps_if (pt_cmpR op_ne (pe_fld (pv 2) rfl) (pe_gi rfl T.k_READY) (nomark _)) (pss_one (ps_ret (pe_lst (pa_cons (pe_gi rfl T.k_NOT_NOW) pa_nil)))) pss_nil) (pss_cons (ps_fld (pv 2) (pe_gi rfl T.k_GIVEN_OUT) rfl) (pss_one (ps_ret (pe_lst (pa_cons pe_int (pa_cons (pe_fld (pv 2) rfl) pa_nil)))))))))), ?_⟩
    refine ⟨_, rfl, p, dx, _, rfl, h1, fl_Orders_no_has, _, rfl, p, l, d, as, bs, os, n, rfl, C, ⟨_, rfl, ?_⟩⟩
    refine x_iten (fun h2 => ?_) (fun h2 => ?_)
    · rw [List.getElem?_eq_none (by omega)] at no
      exact no _ ⟨rfl, rfl⟩
    have hg : os[n]? = some os[n] := List.getElem?_eq_getElem h2
    generalize os[n] = o at hg
    rw [hg] at no k
    obtain ⟨q, dq, hq, hH, hat⟩ := C.get hg
    refine ⟨_, rfl, p, _, dx, _, _, rfl, h1, T.cl_Orders, T.n_Orders_orders, fl_Orders_get_orders, _, rfl, l, _, _, _, rfl, rfl, SqL.of C.ls, hat, ?_⟩
    refine ⟨_, rfl, q, _, dq, _, _, rfl, hH, T.cl_Order, T.n_Order_stage, fl_Order_get_stage, x_eqC ⟨_, rfl, ?_⟩⟩
    refine x_ite (fun h3 => ?_) (fun h3 => ?_)
    · have hgv : ∃ v, o.state = .given v := by
        cases hs : o.state <;> rw [hs] at h3 <;> first | exact ⟨_, rfl⟩ | (simp [Klb3.told] at h3)
      obtain ⟨v, hv⟩ := hgv
      refine no _ ?_
      show match o.state with
        | .given _ => os = os ∧ ([-17] : List Int) = [-17]
        | .ready v => os = os.set n { o with state := .given v } ∧ ([-17] : List Int) = [0, (v : Int)]
        | _ => os = os ∧ ([-17] : List Int) = [-11]
      rw [hv]
      exact ⟨rfl, rfl⟩
    refine ⟨_, rfl, q, _, dq, _, _, rfl, hH, T.cl_Order, T.n_Order_stage, fl_Order_get_stage, x_neC ⟨_, rfl, ?_⟩⟩
    refine x_iten (fun h4 => ?_) (fun h4 => ?_)
    · refine no _ ?_
      show match o.state with
        | .given _ => os = os ∧ ([-11] : List Int) = [-17]
        | .ready v => os = os.set n { o with state := .given v } ∧ ([-11] : List Int) = [0, (v : Int)]
        | _ => os = os ∧ ([-11] : List Int) = [-11]
      split
      · rename_i hs
        exact absurd (by rw [hs]; rfl) h3
      · rename_i hs
        exact absurd (by rw [hs]; rfl) h4
      · exact ⟨rfl, rfl⟩
    have hr : ∃ v, o.state = .ready v := by
      cases hs : o.state <;> rw [hs] at h4 <;> first | exact ⟨_, rfl⟩ | (simp [Klb3.told] at h4)
    obtain ⟨v, hv⟩ := hr
    refine ⟨_, rfl, q, _, dq, _, rfl, hH, T.cl_Order, T.n_Order_stage, fl_Order_len, ?_⟩
    have eF : putF "stage" (V.int 4) (flO o) = flO { o with state := .given v } := by
      refine (fl_Order_put_stage (y := V.int 4)).trans ?_
      unfold flO
      rw [hv]
      rfl
    rw [eF]
    have C1 := C.set (dx := dq) hq { o with state := .given v }
    have f1 : Frm (foot p l d as bs) (foot p l d as bs) H (upd H q (.ins a.c_Order dq (flO { o with state := .given v }))) := frm_upd C.dom (foot_mem.mpr (.inr (.inr (.inr (.inl (List.mem_of_getElem? hq))))))
    refine ⟨_, rfl, q, _, dq, _, _, rfl, upd_same, T.cl_Order, T.n_Order_value, fl_Order_get_value, (by show 2 ≤ sizeLine; decide), fun r hr => ?_⟩
    have hr0 : H r = none := (upd_none hr).2
    refine k _ [0, (v : Int)] ?_ r _ (C1.same (same_new hr)) (f1.same (same_new hr)) hr0 (not_foot C.dom hr0) upd_same
    show match o.state with
        | .given _ => os.set n { o with state := .given v } = os ∧ ([0, (v : Int)] : List Int) = [-17]
        | .ready u => os.set n { o with state := .given v } = os.set n { o with state := .given u } ∧ ([0, (v : Int)] : List Int) = [0, (u : Int)]
        | _ => os.set n { o with state := .given v } = os ∧ ([0, (v : Int)] : List Int) = [-11]
    rw [hv]
    exact ⟨rfl, rfl⟩
end
end WL

namespace WL
open PySem L2
theorem get_refAt {as : List Addr} {ms : List Nat} {i : Nat} {y : V} (h : (ms.map (refAt as))[i]? = some y) (lt : ∀ j, j ∈ ms → j < as.length) : ∃ j q, ms[i]? = some j ∧ as[j]? = some q ∧ y = V.ref q := by
  rw [List.getElem?_map] at h
  cases e : ms[i]? with
  | none => rw [e] at h; cases h
  | some j =>
    rw [e] at h
    have hj := lt j (List.mem_of_getElem? e)
    refine ⟨j, as[j], rfl, List.getElem?_eq_getElem hj, ?_⟩
    have h : refAt as j = y := Option.some.inj h
    rw [← h]
    unfold refAt
    rw [List.getD_eq_getElem?_getD, List.getElem?_eq_getElem hj]
    rfl
section
variable {P : Program} {w : World} {K : PySem.W.Frag} {mg : Str → Option Value} {base : Heap} {a : Ad}
theorem ok_Orders_close (T : Txt K mg a) : FnOk P w K mg base CX0 2 a.f_Orders_close a.d_Orders_close ["self", "test", "broken"] (sp_Orders_close K a) := by
  have G_leave_batch : FnOk P w K mg base CX0 1 a.f_leave_batch a.d_leave_batch ["order", "broken"] (sp_leave_batch K a) := ok_leave_batch T
  refine T.F_Orders_close.ok sc_Orders_close (fun vs H Q E h => ?_) (fun cdv A outer s H vs Q E hr h => ?_)
  · obtain ⟨p, l, d, as, bs, os, t, n, rfl, _⟩ := h
    rfl
  · obtain ⟨p, l, d, as, bs, os, t, n, rfl, C, hkn, hms, k1, k2, k3⟩ := h
    obtain ⟨dx, h1⟩ := C.ob
    refine ⟨_, (pss_cons (ps_if (pt_cmpR op_gt (pv 1) (pe_gi rfl T.k_LAST_TEST) (nomark _)) (pss_one (ps_ret (pe_gi rfl T.k_NOT_AS_TOLD))) pss_nil) (pss_cons (ps_if (pt_cmp (pc_dnotin (hu_of hr) (pv 1) (pe_fld (pv 0) rfl))) (pss_one (ps_ret (pe_gi rfl T.k_NOT_NOW))) pss_nil) (pss_cons (ps_set (i := 3) sc_Orders_close.nd rfl (Or.inl rfl) (pe_dpop1 (pe_fld (pv 0) rfl) (pv 1) ⟨rfl, rfl, rfl, rfl⟩)) (pss_cons (ps_set (i := 4) sc_Orders_close.nd rfl (Or.inl rfl) pe_int) (pss_cons (ps_for PassesOwn.never rfl (pi_list (pv 3)) (pg_name (i := 5) sc_Orders_close.nd rfl (Or.inl rfl)) (pss_one (ps_if (pt_val (pe_call G_leave_batch (hr.mono (by decide)) rfl T.g_leave_batch T.kp_leave_batch T.b_leave_batch .nil pass0 (pa_cons (pv 5) (pa_cons (pv 2) pa_nil)))) (pss_one (ps_set (i := 4) sc_Orders_close.nd rfl (Or.inl rfl) (pe_op op_add (pv 4) pe_int))) pss_nil))) (pss_one (ps_ret (pv 4)))))))), ?_⟩
    refine ⟨_, rfl, _, _, rfl, rfl, _, rfl, ?_⟩
    refine x_ite (fun h => ?_) (fun h => ?_)
    · exact k1 (by omega)
    have h : ¬ 15 < t := by omega
    refine ⟨_, rfl, _, rfl, p, _, dx, _, _, rfl, h1, T.cl_Orders, T.n_Orders_batches, fl_Orders_get_batches, d, _, rfl, DGet.k (k := Sum.inl (t : Int)) C.dc, _, rfl, ?_⟩
    rw [kv_some]
    refine x_iten (fun h2 => ?_) (fun h2 => ?_)
    · exact k2 h h2
    obtain ⟨x, hx, ex⟩ := List.mem_map.mp h2
    have k3 := k3 h x hx ex
    have hv : valV (kvOf bs) (Sum.inl (t : Int)) = some (.ref x.2.1) := by
      rw [← ex]
      exact kv_at hkn hx
    -- batch = self.batches.pop(test)
    refine ⟨_, rfl, p, _, dx, _, _, rfl, h1, T.cl_Orders, T.n_Orders_batches, fl_Orders_get_batches, d, rfl, .inl ⟨_, .inl C.dc⟩, _, rfl, _, Sum.inl (t : Int), _, C.dc, rfl, hv, ?_⟩
    have C1 := C.drop t
    have hq1 : upd H d (.dK (dropK (kvOf bs) (Sum.inl (t : Int)))) x.2.1 = some (.lst (x.2.2.map (refAt as))) := by
      rw [upd_ne (C.bdd hx)]
      exact C.bt x hx
    have f1 : Frm (foot p l d as bs) (foot p l d as (bs.filter fun x => x.1 != t)) H (upd H d (.dK (dropK (kvOf bs) (Sum.inl (t : Int))))) := by
      refine (frm_upd C.dom (foot_mem.mpr (.inr (.inr (.inl rfl))))).sub fun b hb => ?_
      rcases foot_mem.mp hb with z | z | z | z | z
      · exact foot_mem.mpr (.inl z)
      · exact foot_mem.mpr (.inr (.inl z))
      · exact foot_mem.mpr (.inr (.inr (.inl z)))
      · exact foot_mem.mpr (.inr (.inr (.inr (.inl z))))
      · obtain ⟨y, hy, e⟩ := List.mem_map.mp z
        exact foot_mem.mpr (.inr (.inr (.inr (.inr (List.mem_map.mpr ⟨y, (List.mem_filter.mp hy).1, e⟩)))))
    generalize hH1 : upd H d (.dK (dropK (kvOf bs) (Sum.inl (t : Int)))) = H1 at C1 hq1 f1 ⊢
    -- for order in batch
    refine ⟨_, rfl, x.2.1, rfl, ⟨_, SqL.of hq1⟩, for_list (K := K) (a := x.2.1) (xs := x.2.2.map (refAt as)) (fun i σ H2 => ∃ v : Option V, σ = [some (.ref p), some (.int (t : Nat)), some (.int (n : Nat)), some (.ref x.2.1), some (.int ((x.2.2.take i).countP (rdyAt n os) : Nat)), v] ∧
        OrdAt a H2 p l d as (bs.filter fun x => x.1 != t) (part n (x.2.2.take i) os) ∧ H2 x.2.1 = some (.lst (x.2.2.map (refAt as))) ∧ Frm (foot p l d as bs) (foot p l d as (bs.filter fun x => x.1 != t)) H H2)
      ⟨none, rfl, by rw [List.take_zero, part_nil]; exact C1, hq1, f1⟩ (fun i σ H2 _ ⟨_, _, _, hq2, _⟩ => SqL.of hq2) ?_ ?_⟩
    · rintro i y σ H2 hi ⟨v, rfl, C2, hq2, f2⟩
      obtain ⟨j, q, hj, hq, rfl⟩ := get_refAt hi (C.lt x hx)
      have hjl : j < os.length := by rw [← C.len]; exact (List.getElem?_eq_some_iff.mp hq).1
      have ho : os[j]? = some os[j] := List.getElem?_eq_getElem hjl
      generalize os[j] = o at ho
      have hp := part_at (w := n) (os := os) (hms x hx) hj
      rw [ho] at hp
      obtain ⟨q', dq, hq', hH, _⟩ := C2.get hp
      rw [hq] at hq'
      cases hq'
      have C3 := C2.set (dx := dq) hq { o with state := leave n o.state }
      rw [← part_step hj ho] at C3
      have hm : q ∈ as := List.mem_of_getElem? hq
      have hq3 : upd H2 q (.ins a.c_Order dq (flO { o with state := leave n o.state })) x.2.1 = some (.lst (x.2.2.map (refAt as))) := by
        rw [upd_ne (fun e => C.nb hx (by rw [e]; exact hm))]
        exact hq2
      have f3 := f2.trans (frm_upd (q := q) (o := .ins a.c_Order dq (flO { o with state := leave n o.state })) C2.dom (foot_mem.mpr (.inr (.inr (.inr (.inl hm))))))
      have hc := rdy_step (w := n) hj ho
      refine ⟨_, rfl, _, rfl, q, dq, o, n, rfl, hH, ⟨_, rfl, ?_⟩⟩
      refine x_iteb (fun hb => ?_) (fun hb => ?_)
      · rw [if_pos hb] at hc
        refine ⟨_, rfl, _, _, rfl, rfl, some (.ref q), ?_, C3, hq3, f3⟩
        rw [hc]
        rfl
      · rw [hb, if_neg Bool.false_ne_true] at hc
        refine ⟨some (.ref q), ?_, C3, hq3, f3⟩
        rw [hc]
        rfl
    · rintro σ H2 ⟨v, rfl, C2, hq2, f2⟩
      rw [List.length_map, List.take_of_length_le (Nat.le_refl _)] at *
      exact ⟨_, rfl, k3 H2 C2 f2⟩
end
end WL

namespace WL
open PySem L2
/-! ## the parts, each with its objects and what it stands for -/
def Inv1 (a : Ad) (p : Addr) (q : Option Klb1.Abs) (H : Hp) (F : List Addr) : Prop := ∃ (r : Addr) (m s n : Int) (rc : List Int), F = [p, r] ∧ CtlAt a H p r m s n rc ∧ Rel1 q m s n rc
def Rel2 : Option Klb2.Lab → List PT → Prop
  | none, _ => True
  | some b, ts => Good b ∧ ts = tsOf b
def Inv2 (a : Ad) (p : Addr) (q : Option Klb2.Lab) (H : Hp) (F : List Addr) : Prop := ∃ (l : Addr) (as : List Addr) (ts : List PT), F = p :: l :: as ∧ TubAt a H p l as ts ∧ Rel2 q ts
theorem Inv1.keep {a : Ad} {p : Addr} {q : Option Klb1.Abs} {H H' : Hp} {F : List Addr} (h : Inv1 a p q H F) (k : ∀ b o, H b = some o → b ∈ F → H' b = some o) : Inv1 a p q H' F := by
  obtain ⟨r, m, s, n, rc, rfl, c, rel⟩ := h
  exact ⟨r, m, s, n, rc, rfl, c.keep fun b o e hb => k b o e (by rcases hb with z | z <;> simp [z]), rel⟩
theorem Inv1.dom {a : Ad} {p : Addr} {q : Option Klb1.Abs} {H : Hp} {F : List Addr} (h : Inv1 a p q H F) : ∀ b ∈ F, ∃ o, H b = some o := by
  obtain ⟨r, m, s, n, rc, rfl, ⟨⟨dx, h1⟩, h2⟩, rel⟩ := h
  intro b hb
  rcases List.mem_cons.mp hb with z | z
  · exact ⟨_, by rw [z]; exact h1⟩
  · exact ⟨_, by rw [List.mem_singleton.mp z]; exact h2⟩
theorem Inv2.keep {a : Ad} {p : Addr} {q : Option Klb2.Lab} {H H' : Hp} {F : List Addr} (h : Inv2 a p q H F) (k : ∀ b o, H b = some o → b ∈ F → H' b = some o) : Inv2 a p q H' F := by
  obtain ⟨l, as, ts, rfl, c, rel⟩ := h
  exact ⟨l, as, ts, rfl, c.keep k, rel⟩
theorem Inv2.dom {a : Ad} {p : Addr} {q : Option Klb2.Lab} {H : Hp} {F : List Addr} (h : Inv2 a p q H F) : ∀ b ∈ F, ∃ o, H b = some o := by
  obtain ⟨l, as, ts, rfl, c, rel⟩ := h
  intro b hb
  rcases List.mem_cons.mp hb with z | hb
  · obtain ⟨dx, e⟩ := c.ob
    exact ⟨_, by rw [z]; exact e⟩
  rcases List.mem_cons.mp hb with z | hb
  · exact ⟨_, by rw [z]; exact c.ls⟩
  · obtain ⟨j, hj⟩ := List.mem_iff_getElem?.mp hb
    obtain ⟨t, dx, _, e⟩ := c.at_ j b hj
    exact ⟨_, e⟩
theorem not_dom {F : List Addr} {H : Hp} {x : Addr} (d : ∀ b ∈ F, ∃ o, H b = some o) (h : H x = none) : x ∉ F := fun hx => by
  obtain ⟨o, e⟩ := d x hx
  rw [h] at e
  cases e
/-! ## the promises -/
def sp_controls_answer (_ : PySem.W.Frag) (a : Ad) : Sp := fun vs H Q _ => ∃ (p lc : Addr) (q q' : Option Klb1.Abs) (F : List Addr) (c : Klb1.Call) (v : Klb1.Ans), vs = [.ref p, .ref lc] ∧ Inv1 a p q H F ∧ H lc = some (.lst ((flat1 c).map V.int)) ∧ ok1 c ∧
  Klb1.acts q c = some (q', v) ∧ ∀ F' x H', Inv1 a p q' H' F' → Frm F F' H H' → H x = none → x ∉ F' → H' x = some (.lst ([v.value].map V.int)) → Q (.ref x) H'
def sp_tubes_answer (_ : PySem.W.Frag) (a : Ad) : Sp := fun vs H Q _ => ∃ (p lc : Addr) (q q' : Option Klb2.Lab) (F : List Addr) (c : Klb2.Call) (v : Klb2.Ans), vs = [.ref p, .ref lc] ∧ Inv2 a p q H F ∧ H lc = some (.lst ((flat2 c).map V.int)) ∧ ok2 c ∧
  Klb2.acts q c = some (q', v) ∧ ∀ F' x H', Inv2 a p q' H' F' → Frm F F' H H' → H x = none → x ∉ F' → H' x = some (.lst ((v.value :: asInts v.out).map V.int)) → Q (.ref x) H'
theorem origin_ok {b : Klb2.Lab} (g : Good b) : ∀ t ∈ tsOf b, 0 ≤ t.origin ∧ t.origin < (tsOf b).length := by
  intro t ht
  obtain ⟨i, hi⟩ := List.mem_iff_getElem?.mp ht
  rw [tsOf_get] at hi
  cases h : b.tubes[i]? with
  | none => rw [h] at hi; cases hi
  | some u =>
    rw [h] at hi
    cases hi
    obtain ⟨z, hz, _⟩ := g.samp i u h
    have := (List.getElem?_eq_some_iff.mp hz).1
    show 0 ≤ ((u.sample : Nat) : Int) ∧ ((u.sample : Nat) : Int) < _
    rw [tsOf_len]
    omega
section
variable {P : Program} {w : World} {K : PySem.W.Frag} {mg : Str → Option Value} {base : Heap} {a : Ad}
theorem ok_controls_answer (T : Txt K mg a) : FnOk P w K mg base CX0 5 a.f_controls_answer a.d_controls_answer ["controls", "call"] (sp_controls_answer K a) := by
  have G_Controls_batch : FnOk P w K mg base CX0 4 a.f_Controls_batch a.d_Controls_batch ["self", "values"] (sp_Controls_batch K a) := ok_Controls_batch T
  have G_Controls_how_many : FnOk P w K mg base CX0 1 a.f_Controls_how_many a.d_Controls_how_many ["self"] (sp_Controls_how_many K a) := ok_Controls_how_many T
  have G_Controls_start : FnOk P w K mg base CX0 2 a.f_Controls_start a.d_Controls_start ["self", "mean", "spread"] (sp_Controls_start K a) := ok_Controls_start T
  refine T.F_controls_answer.ok sc_controls_answer (fun vs H Q E h => ?_) (fun cdv A outer s H vs Q E hr h => ?_)
  · obtain ⟨p, lc, q, q', F, c, v, rfl, _⟩ := h
    rfl
  · obtain ⟨p, lc, q, q', F, c, v, rfl, I1, hc, hok, hact, k⟩ := h
    obtain ⟨r, m, s', n, rc, rfl, C, rel⟩ := id I1
    obtain ⟨⟨dx, h1⟩, h2⟩ := id C
    have fin : ∀ (r1 : Addr) (m1 s1 n1 : Int) (rc1 : List Int) (H1 : Hp) (z : Int), CtlAt a H1 p r1 m1 s1 n1 rc1 → Rel1 q' m1 s1 n1 rc1 → Frm [p, r] [p, r1] H H1 → z = v.value → ([V.int z] : List V).length ≤ sizeLine ∧ ∀ x, H1 x = none → Q (.ref x) (upd H1 x (.lst [V.int z])) := by
      intro r1 m1 s1 n1 rc1 H1 z C1 R1 f1 ez
      subst ez
      refine ⟨(by show 1 ≤ sizeLine; decide), fun x hx => ?_⟩
      have I2 : Inv1 a p q' H1 [p, r1] := ⟨r1, m1, s1, n1, rc1, rfl, C1, R1⟩
      exact k [p, r1] x _ (I2.keep fun b o e _ => same_new hx b o e) (f1.same (same_new hx)) (f1.free hx) (not_dom I2.dom hx) upd_same
    have wk : ∀ {G : List Addr} {H1 : Hp}, Frm [p] G H H1 → Frm [p, r] G H H1 := fun f => f.weak (fun b hb => by simp [List.mem_singleton.mp hb]) I1.dom
    refine ⟨_, (pss_cons (ps_if (pt_cmpR op_eq (pe_ix ix_list (pv 1) pe_int (fun _ _ => rfl)) (pe_gi rfl T.k_START_CONTROLS) (nomark _)) (pss_one (ps_ret (pe_lst (pa_cons (pe_meth (pv 0) T.cl_Controls T.m_Controls_start G_Controls_start (hr.mono (by decide)) T.b_Controls_start .nil pass0 (pa_cons (pe_ix ix_list (pv 1) pe_int (fun _ _ => rfl)) (pa_cons (pe_ix ix_list (pv 1) pe_int (fun _ _ => rfl)) pa_nil))) pa_nil)))) pss_nil) (pss_cons (ps_if (pt_cmpR op_eq (pe_ix ix_list (pv 1) pe_int (fun _ _ => rfl)) (pe_gi rfl T.k_BATCH) (nomark _)) (pss_one (ps_ret (pe_lst (pa_cons (pe_meth (pv 0) T.cl_Controls T.m_Controls_batch G_Controls_batch (hr.mono (by decide)) T.b_Controls_batch .nil pass0 (pa_cons (pe_slice sl_list (pv 1) (po_some pe_int) po_none) pa_nil)) pa_nil)))) pss_nil) (pss_one (ps_ret (pe_lst (pa_cons (pe_meth0 (pv 0) T.cl_Controls T.m_Controls_how_many G_Controls_how_many (hr.mono (by decide)) T.b_Controls_how_many .nil pass0) pa_nil)))))), ?_⟩
    cases c with
    | start m' sd =>
      refine ⟨_, rfl, lc, _, _, _, rfl, rfl, SqL.of hc, at_of (j := 0) rfl rfl, x_eqC ⟨_, rfl, ?_⟩⟩
      refine x_ite (fun _ => ?_) (fun h => absurd rfl h)
      refine ⟨_, rfl, p, dx, _, rfl, h1, fl_Controls_no_start, _, rfl, lc, _, _, _, rfl, rfl, SqL.of hc, at_of (j := 1) rfl rfl, _, rfl, lc, _, _, _, rfl, rfl, SqL.of hc, at_of (j := 2) rfl rfl, ?_⟩
      refine ⟨p, r, m, s', n, rc, m', (sd : Int), rfl, C, fun hb => ?_, fun hg r' H' C' f' => ?_⟩
      · rw [start1_bad q m' sd hb] at hact
        cases hact
        exact fin r m s' n rc H (-22) C rel (Frm.refl I1.dom) rfl
      · obtain ⟨e1, e2⟩ := start1_ok q m' sd hg
        rw [e1] at hact
        cases hact
        exact fin r' m' sd 0 [] H' 0 C' e2 (wk f') rfl
    | batch xs nn =>
      obtain ⟨rfl, hw32⟩ := hok
      cases q with
      | none => cases hact
      | some q0 =>
        refine ⟨_, rfl, lc, _, _, _, rfl, rfl, SqL.of hc, at_of (j := 0) rfl rfl, x_eqC ⟨_, rfl, ?_⟩⟩
        refine x_ite (fun h => absurd h (by decide)) (fun _ => ?_)
        refine ⟨_, rfl, lc, _, _, _, rfl, rfl, SqL.of hc, at_of (j := 0) rfl rfl, x_eqC ⟨_, rfl, ?_⟩⟩
        refine x_ite (fun _ => ?_) (fun h => absurd rfl h)
        refine ⟨_, rfl, p, dx, _, rfl, h1, fl_Controls_no_batch, _, rfl, _, rfl, lc, _, rfl, SqL.of hc, fun l hl => ?_⟩
        have ec : cutV ((flat1 (.batch xs xs.length)).map V.int) (some 2) none = xs.map V.int := cut_from _ 2 (by show 2 ≤ _; simp [flat1])
        rw [ec]
        have s1 : Same H (upd H l (.lst (xs.map V.int))) := same_new hl
        have C1 : CtlAt a (upd H l (.lst (xs.map V.int))) p r m s' n rc := C.keep fun b o e _ => s1 b o e
        have f1 : Frm [p, r] [p, r] H (upd H l (.lst (xs.map V.int))) := Frm.of_same I1.dom s1
        refine ⟨p, r, l, m, s', n, rc, xs, rfl, C1, upd_same, rel.len, fun hbad => ?_, fun hb1 hb8 r' n' rc' H' C' f' e0 e1 => ?_⟩
        · rw [batch1_bad q0 xs hbad] at hact
          cases hact
          exact fin r m s' n rc _ (-22) C1 rel f1 rfl
        · obtain ⟨q2, e2, z0, z1⟩ := batch1_ok rel xs hb1 hb8
          rw [e2] at hact
          cases hact
          have dom1 : ∀ b, b ∈ [p, r] → ∃ o, upd H l (.lst (xs.map V.int)) b = some o := fun b hb => let ⟨o, e⟩ := I1.dom b hb; ⟨o, s1 b o e⟩
          refine fin r' m s' n' rc' H' _ C' ?_ (f1.trans (f'.weak (fun b hb => by simp [List.mem_singleton.mp hb]) dom1)) rfl
          by_cases hz : brokenMask rc (xs.map (· - m)) s' = 0
          · obtain ⟨rfl, rfl⟩ := e0 hz
            exact z0 hz
          · obtain ⟨rfl, rfl⟩ := e1 hz
            exact z1 hz
    | count =>
      cases q with
      | none => cases hact
      | some q0 =>
        rw [count1_ok rel] at hact
        cases hact
        refine ⟨_, rfl, lc, _, _, _, rfl, rfl, SqL.of hc, at_of (j := 0) rfl rfl, x_eqC ⟨_, rfl, ?_⟩⟩
        refine x_ite (fun h => absurd h (by decide)) (fun _ => ?_)
        refine ⟨_, rfl, lc, _, _, _, rfl, rfl, SqL.of hc, at_of (j := 0) rfl rfl, x_eqC ⟨_, rfl, ?_⟩⟩
        refine x_ite (fun h => absurd h (by decide)) (fun _ => ?_)
        refine ⟨_, rfl, p, dx, _, rfl, h1, fl_Controls_no_how_many, ?_⟩
        exact ⟨p, r, m, s', n, rc, rfl, C, fin r m s' n rc H _ C rel (Frm.refl I1.dom) rfl⟩
theorem ok_tubes_answer (T : Txt K mg a) : FnOk P w K mg base CX0 4 a.f_tubes_answer a.d_tubes_answer ["tubes", "call"] (sp_tubes_answer K a) := by
  have G_Tubes_at : FnOk P w K mg base CX0 2 a.f_Tubes_at a.d_Tubes_at ["self", "rack", "place"] (sp_Tubes_at K a) := ok_Tubes_at T
  have G_Tubes_of : FnOk P w K mg base CX0 2 a.f_Tubes_of a.d_Tubes_of ["self", "number"] (sp_Tubes_of K a) := ok_Tubes_of T
  have G_Tubes_put : FnOk P w K mg base CX0 2 a.f_Tubes_put a.d_Tubes_put ["self", "number", "rack", "place"] (sp_Tubes_put K a) := ok_Tubes_put T
  have G_Tubes_sample : FnOk P w K mg base CX0 3 a.f_Tubes_sample a.d_Tubes_sample ["self", "patient", "volume"] (sp_Tubes_sample K a) := ok_Tubes_sample T
  have G_Tubes_start : FnOk P w K mg base CX0 1 a.f_Tubes_start a.d_Tubes_start ["self"] (sp_Tubes_start K a) := ok_Tubes_start T
  have G_Tubes_sum_of : FnOk P w K mg base CX0 2 a.f_Tubes_sum_of a.d_Tubes_sum_of ["self", "number"] (sp_Tubes_sum_of K a) := ok_Tubes_sum_of T
  have G_Tubes_take : FnOk P w K mg base CX0 3 a.f_Tubes_take a.d_Tubes_take ["self", "number", "volume"] (sp_Tubes_take K a) := ok_Tubes_take T
  have G_Tubes_use : FnOk P w K mg base CX0 3 a.f_Tubes_use a.d_Tubes_use ["self", "number", "volume"] (sp_Tubes_use K a) := ok_Tubes_use T
  refine T.F_tubes_answer.ok sc_tubes_answer (fun vs H Q E h => ?_) (fun cdv A outer s H vs Q E hr h => ?_)
  · obtain ⟨p, lc, q, q', F, c, v, rfl, _⟩ := h
    rfl
  · obtain ⟨p, lc, q, q', F, c, v, rfl, I2, hc, hok, hact, k⟩ := h
    obtain ⟨l, as, ts, rfl, C, rel⟩ := id I2
    obtain ⟨⟨dx, h1⟩, hl, _⟩ := id C
    have fin : ∀ (l1 : Addr) (as1 : List Addr) (ts1 : List PT) (H1 : Hp) (z : Int), TubAt a H1 p l1 as1 ts1 → Rel2 q' ts1 → Frm (p :: l :: as) (p :: l1 :: as1) H H1 → [z] = v.value :: asInts v.out → ([V.int z] : List V).length ≤ sizeLine ∧ ∀ x, H1 x = none → Q (.ref x) (upd H1 x (.lst [V.int z])) := by
      intro l1 as1 ts1 H1 z C1 R1 f1 ez
      refine ⟨(by show 1 ≤ sizeLine; decide), fun x hx => ?_⟩
      have J : Inv2 a p q' H1 (p :: l1 :: as1) := ⟨l1, as1, ts1, rfl, C1, R1⟩
      exact k (p :: l1 :: as1) x _ (J.keep fun b o e _ => same_new hx b o e) (f1.same (same_new hx)) (f1.free hx) (not_dom J.dom hx) (by rw [← ez]; exact upd_same)
    refine ⟨_, (pss_cons (ps_if (pt_cmpR op_eq (pe_ix ix_list (pv 1) pe_int (fun _ _ => rfl)) (pe_gi rfl T.k_START_TUBES) (nomark _)) (pss_one (ps_ret (pe_lst (pa_cons (pe_meth0 (pv 0) T.cl_Tubes T.m_Tubes_start G_Tubes_start (hr.mono (by decide)) T.b_Tubes_start .nil pass0) pa_nil)))) pss_nil) (pss_cons (ps_if (pt_cmpR op_eq (pe_ix ix_list (pv 1) pe_int (fun _ _ => rfl)) (pe_gi rfl T.k_SAMPLE) (nomark _)) (pss_one (ps_ret (pe_lst (pa_cons (pe_meth (pv 0) T.cl_Tubes T.m_Tubes_sample G_Tubes_sample (hr.mono (by decide)) T.b_Tubes_sample .nil pass0 (pa_cons (pe_ix ix_list (pv 1) pe_int (fun _ _ => rfl)) (pa_cons (pe_ix ix_list (pv 1) pe_int (fun _ _ => rfl)) pa_nil))) pa_nil)))) pss_nil) (pss_cons (ps_if (pt_cmpR op_eq (pe_ix ix_list (pv 1) pe_int (fun _ _ => rfl)) (pe_gi rfl T.k_TAKE) (nomark _)) (pss_one (ps_ret (pe_lst (pa_cons (pe_meth (pv 0) T.cl_Tubes T.m_Tubes_take G_Tubes_take (hr.mono (by decide)) T.b_Tubes_take .nil pass0 (pa_cons (pe_ix ix_list (pv 1) pe_int (fun _ _ => rfl)) (pa_cons (pe_ix ix_list (pv 1) pe_int (fun _ _ => rfl)) pa_nil))) pa_nil)))) pss_nil) (pss_cons (ps_if (pt_cmpR op_eq (pe_ix ix_list (pv 1) pe_int (fun _ _ => rfl)) (pe_gi rfl T.k_USE) (nomark _)) (pss_one (ps_ret (pe_lst (pa_cons (pe_meth (pv 0) T.cl_Tubes T.m_Tubes_use G_Tubes_use (hr.mono (by decide)) T.b_Tubes_use .nil pass0 (pa_cons (pe_ix ix_list (pv 1) pe_int (fun _ _ => rfl)) (pa_cons (pe_ix ix_list (pv 1) pe_int (fun _ _ => rfl)) pa_nil))) pa_nil)))) pss_nil) (pss_cons (ps_if (pt_cmpR op_eq (pe_ix ix_list (pv 1) pe_int (fun _ _ => rfl)) (pe_gi rfl T.k_PUT) (nomark _)) (pss_one (ps_ret (pe_lst (pa_cons (pe_meth (pv 0) T.cl_Tubes T.m_Tubes_put G_Tubes_put (hr.mono (by decide)) T.b_Tubes_put .nil pass0 (pa_cons (pe_ix ix_list (pv 1) pe_int (fun _ _ => rfl)) (pa_cons (pe_ix ix_list (pv 1) pe_int (fun _ _ => rfl)) (pa_cons (pe_ix ix_list (pv 1) pe_int (fun _ _ => rfl)) pa_nil)))) pa_nil)))) pss_nil) (pss_cons (ps_if (pt_cmpR op_eq (pe_ix ix_list (pv 1) pe_int (fun _ _ => rfl)) (pe_gi rfl T.k_AT) (nomark _)) (pss_one (ps_ret (pe_lst (pa_cons (pe_meth (pv 0) T.cl_Tubes T.m_Tubes_at G_Tubes_at (hr.mono (by decide)) T.b_Tubes_at .nil pass0 (pa_cons (pe_ix ix_list (pv 1) pe_int (fun _ _ => rfl)) (pa_cons (pe_ix ix_list (pv 1) pe_int (fun _ _ => rfl)) pa_nil))) pa_nil)))) pss_nil) (pss_cons (ps_if (pt_cmpR op_eq (pe_ix ix_list (pv 1) pe_int (fun _ _ => rfl)) (pe_gi rfl T.k_OF) (nomark _)) (pss_one (ps_ret (pe_meth (pv 0) T.cl_Tubes T.m_Tubes_of G_Tubes_of (hr.mono (by decide)) T.b_Tubes_of .nil pass0 (pa_cons (pe_ix ix_list (pv 1) pe_int (fun _ _ => rfl)) pa_nil)))) pss_nil) (pss_one (ps_ret (pe_meth (pv 0) T.cl_Tubes T.m_Tubes_sum_of G_Tubes_sum_of (hr.mono (by decide)) T.b_Tubes_sum_of .nil pass0 (pa_cons (pe_ix ix_list (pv 1) pe_int (fun _ _ => rfl)) pa_nil))))))))))), ?_⟩
    cases c with
    | start =>
      cases hact
      refine ⟨_, rfl, lc, _, _, _, rfl, rfl, SqL.of hc, at_of (j := 0) rfl rfl, x_eqC ⟨_, rfl, ?_⟩⟩
      refine x_ite (fun _ => ?_) (fun h => absurd rfl h)
      refine ⟨_, rfl, p, dx, _, rfl, h1, fl_Tubes_no_start, ?_⟩
      exact ⟨p, l, as, ts, rfl, C, fun l' H' C' f' => fin l' [] [] H' 0 C' ⟨good_nil, rfl⟩ f' rfl⟩
    | sample pa vo =>
      cases q with
      | none => cases hact
      | some b =>
        obtain ⟨g, rfl⟩ := rel
        obtain ⟨b', z, e1, e2, g'⟩ := sample_ok b g pa vo
        rw [e1] at hact
        cases hact
        refine ⟨_, rfl, lc, _, _, _, rfl, rfl, SqL.of hc, at_of (j := 0) rfl rfl, x_eqC ⟨_, rfl, ?_⟩⟩
        refine x_ite (fun h => absurd h (by decide)) (fun _ => ?_)
        refine ⟨_, rfl, lc, _, _, _, rfl, rfl, SqL.of hc, at_of (j := 0) rfl rfl, x_eqC ⟨_, rfl, ?_⟩⟩
        refine x_ite (fun _ => ?_) (fun h => absurd rfl h)
        refine ⟨_, rfl, p, dx, _, rfl, h1, fl_Tubes_no_sample, _, rfl, lc, _, _, _, rfl, rfl, SqL.of hc, at_of (j := 1) rfl rfl, _, rfl, lc, _, _, _, rfl, rfl, SqL.of hc, at_of (j := 2) rfl rfl, ?_⟩
        refine ⟨p, l, as, tsOf b, (pa : Int), (vo : Int), rfl, C, fun as' H' C' f' => ?_⟩
        rw [e2] at C' ⊢
        exact fin l as' _ H' z C' ⟨g', rfl⟩ f' rfl
    | take t vo =>
      cases q with
      | none => cases hact
      | some b =>
        obtain ⟨g, rfl⟩ := rel
        obtain ⟨b', z, e1, e2, g'⟩ := take_ok b g t vo
        rw [e1] at hact
        cases hact
        refine ⟨_, rfl, lc, _, _, _, rfl, rfl, SqL.of hc, at_of (j := 0) rfl rfl, x_eqC ⟨_, rfl, ?_⟩⟩
        refine x_ite (fun h => absurd h (by decide)) (fun _ => ?_)
        refine ⟨_, rfl, lc, _, _, _, rfl, rfl, SqL.of hc, at_of (j := 0) rfl rfl, x_eqC ⟨_, rfl, ?_⟩⟩
        refine x_ite (fun h => absurd h (by decide)) (fun _ => ?_)
        refine ⟨_, rfl, lc, _, _, _, rfl, rfl, SqL.of hc, at_of (j := 0) rfl rfl, x_eqC ⟨_, rfl, ?_⟩⟩
        refine x_ite (fun _ => ?_) (fun h => absurd rfl h)
        refine ⟨_, rfl, p, dx, _, rfl, h1, fl_Tubes_no_take, _, rfl, lc, _, _, _, rfl, rfl, SqL.of hc, at_of (j := 1) rfl rfl, _, rfl, lc, _, _, _, rfl, rfl, SqL.of hc, at_of (j := 2) rfl rfl, ?_⟩
        refine ⟨p, l, as, tsOf b, t, (vo : Int), rfl, C, fun as' H' C' f' => ?_⟩
        rw [e2] at C' ⊢
        exact fin l as' _ H' z C' ⟨g', rfl⟩ f' rfl
    | use t vo =>
      cases q with
      | none => cases hact
      | some b =>
        obtain ⟨g, rfl⟩ := rel
        obtain ⟨b', z, e1, e2, g'⟩ := use_ok b g t vo
        rw [e1] at hact
        cases hact
        refine ⟨_, rfl, lc, _, _, _, rfl, rfl, SqL.of hc, at_of (j := 0) rfl rfl, x_eqC ⟨_, rfl, ?_⟩⟩
        refine x_ite (fun h => absurd h (by decide)) (fun _ => ?_)
        refine ⟨_, rfl, lc, _, _, _, rfl, rfl, SqL.of hc, at_of (j := 0) rfl rfl, x_eqC ⟨_, rfl, ?_⟩⟩
        refine x_ite (fun h => absurd h (by decide)) (fun _ => ?_)
        refine ⟨_, rfl, lc, _, _, _, rfl, rfl, SqL.of hc, at_of (j := 0) rfl rfl, x_eqC ⟨_, rfl, ?_⟩⟩
        refine x_ite (fun h => absurd h (by decide)) (fun _ => ?_)
        refine ⟨_, rfl, lc, _, _, _, rfl, rfl, SqL.of hc, at_of (j := 0) rfl rfl, x_eqC ⟨_, rfl, ?_⟩⟩
        refine x_ite (fun _ => ?_) (fun h => absurd rfl h)
        refine ⟨_, rfl, p, dx, _, rfl, h1, fl_Tubes_no_use, _, rfl, lc, _, _, _, rfl, rfl, SqL.of hc, at_of (j := 1) rfl rfl, _, rfl, lc, _, _, _, rfl, rfl, SqL.of hc, at_of (j := 2) rfl rfl, ?_⟩
        refine ⟨p, l, as, tsOf b, t, (vo : Int), rfl, C, origin_ok g, fun H' C' f' => ?_⟩
        rw [e2] at C' ⊢
        exact fin l as _ H' z C' ⟨g', rfl⟩ f' rfl
    | put t ra pl =>
      cases q with
      | none => cases hact
      | some b =>
        obtain ⟨g, rfl⟩ := rel
        obtain ⟨b', z, e1, e2, g'⟩ := put_ok b g t ra pl
        rw [e1] at hact
        cases hact
        refine ⟨_, rfl, lc, _, _, _, rfl, rfl, SqL.of hc, at_of (j := 0) rfl rfl, x_eqC ⟨_, rfl, ?_⟩⟩
        refine x_ite (fun h => absurd h (by decide)) (fun _ => ?_)
        refine ⟨_, rfl, lc, _, _, _, rfl, rfl, SqL.of hc, at_of (j := 0) rfl rfl, x_eqC ⟨_, rfl, ?_⟩⟩
        refine x_ite (fun h => absurd h (by decide)) (fun _ => ?_)
        refine ⟨_, rfl, lc, _, _, _, rfl, rfl, SqL.of hc, at_of (j := 0) rfl rfl, x_eqC ⟨_, rfl, ?_⟩⟩
        refine x_ite (fun h => absurd h (by decide)) (fun _ => ?_)
        refine ⟨_, rfl, lc, _, _, _, rfl, rfl, SqL.of hc, at_of (j := 0) rfl rfl, x_eqC ⟨_, rfl, ?_⟩⟩
        refine x_ite (fun h => absurd h (by decide)) (fun _ => ?_)
        refine ⟨_, rfl, lc, _, _, _, rfl, rfl, SqL.of hc, at_of (j := 0) rfl rfl, x_eqC ⟨_, rfl, ?_⟩⟩
        refine x_ite (fun _ => ?_) (fun h => absurd rfl h)
        refine ⟨_, rfl, p, dx, _, rfl, h1, fl_Tubes_no_put, _, rfl, lc, _, _, _, rfl, rfl, SqL.of hc, at_of (j := 1) rfl rfl, _, rfl, lc, _, _, _, rfl, rfl, SqL.of hc, at_of (j := 2) rfl rfl, _, rfl, lc, _, _, _, rfl, rfl, SqL.of hc, at_of (j := 3) rfl rfl, ?_⟩
        refine ⟨p, l, as, tsOf b, t, (ra : Int), (pl : Int), rfl, C, fun H' C' f' => ?_⟩
        rw [e2] at C' ⊢
        exact fin l as _ H' z C' ⟨g', rfl⟩ f' rfl
    | at_ ra pl =>
      cases q with
      | none => cases hact
      | some b =>
        obtain ⟨g, rfl⟩ := rel
        rw [at_ok b g ra pl] at hact
        cases hact
        refine ⟨_, rfl, lc, _, _, _, rfl, rfl, SqL.of hc, at_of (j := 0) rfl rfl, x_eqC ⟨_, rfl, ?_⟩⟩
        refine x_ite (fun h => absurd h (by decide)) (fun _ => ?_)
        refine ⟨_, rfl, lc, _, _, _, rfl, rfl, SqL.of hc, at_of (j := 0) rfl rfl, x_eqC ⟨_, rfl, ?_⟩⟩
        refine x_ite (fun h => absurd h (by decide)) (fun _ => ?_)
        refine ⟨_, rfl, lc, _, _, _, rfl, rfl, SqL.of hc, at_of (j := 0) rfl rfl, x_eqC ⟨_, rfl, ?_⟩⟩
        refine x_ite (fun h => absurd h (by decide)) (fun _ => ?_)
        refine ⟨_, rfl, lc, _, _, _, rfl, rfl, SqL.of hc, at_of (j := 0) rfl rfl, x_eqC ⟨_, rfl, ?_⟩⟩
        refine x_ite (fun h => absurd h (by decide)) (fun _ => ?_)
        refine ⟨_, rfl, lc, _, _, _, rfl, rfl, SqL.of hc, at_of (j := 0) rfl rfl, x_eqC ⟨_, rfl, ?_⟩⟩
        refine x_ite (fun h => absurd h (by decide)) (fun _ => ?_)
        refine ⟨_, rfl, lc, _, _, _, rfl, rfl, SqL.of hc, at_of (j := 0) rfl rfl, x_eqC ⟨_, rfl, ?_⟩⟩
        refine x_ite (fun _ => ?_) (fun h => absurd rfl h)
        refine ⟨_, rfl, p, dx, _, rfl, h1, fl_Tubes_no_at, _, rfl, lc, _, _, _, rfl, rfl, SqL.of hc, at_of (j := 1) rfl rfl, _, rfl, lc, _, _, _, rfl, rfl, SqL.of hc, at_of (j := 2) rfl rfl, ?_⟩
        exact ⟨p, l, as, tsOf b, (ra : Int), (pl : Int), rfl, C, fun H' s' => fin l as _ H' _ (C.same s') ⟨g, rfl⟩ (Frm.of_same C.dom s') rfl⟩
    | of t =>
      cases q with
      | none => cases hact
      | some b =>
        obtain ⟨g, rfl⟩ := rel
        obtain ⟨v0, e1, e2⟩ := of_ok b t
        rw [e1] at hact
        cases hact
        refine ⟨_, rfl, lc, _, _, _, rfl, rfl, SqL.of hc, at_of (j := 0) rfl rfl, x_eqC ⟨_, rfl, ?_⟩⟩
        refine x_ite (fun h => absurd h (by decide)) (fun _ => ?_)
        refine ⟨_, rfl, lc, _, _, _, rfl, rfl, SqL.of hc, at_of (j := 0) rfl rfl, x_eqC ⟨_, rfl, ?_⟩⟩
        refine x_ite (fun h => absurd h (by decide)) (fun _ => ?_)
        refine ⟨_, rfl, lc, _, _, _, rfl, rfl, SqL.of hc, at_of (j := 0) rfl rfl, x_eqC ⟨_, rfl, ?_⟩⟩
        refine x_ite (fun h => absurd h (by decide)) (fun _ => ?_)
        refine ⟨_, rfl, lc, _, _, _, rfl, rfl, SqL.of hc, at_of (j := 0) rfl rfl, x_eqC ⟨_, rfl, ?_⟩⟩
        refine x_ite (fun h => absurd h (by decide)) (fun _ => ?_)
        refine ⟨_, rfl, lc, _, _, _, rfl, rfl, SqL.of hc, at_of (j := 0) rfl rfl, x_eqC ⟨_, rfl, ?_⟩⟩
        refine x_ite (fun h => absurd h (by decide)) (fun _ => ?_)
        refine ⟨_, rfl, lc, _, _, _, rfl, rfl, SqL.of hc, at_of (j := 0) rfl rfl, x_eqC ⟨_, rfl, ?_⟩⟩
        refine x_ite (fun h => absurd h (by decide)) (fun _ => ?_)
        refine ⟨_, rfl, lc, _, _, _, rfl, rfl, SqL.of hc, at_of (j := 0) rfl rfl, x_eqC ⟨_, rfl, ?_⟩⟩
        refine x_ite (fun _ => ?_) (fun h => absurd rfl h)
        refine ⟨_, rfl, p, dx, _, rfl, h1, fl_Tubes_no_of, _, rfl, lc, _, _, _, rfl, rfl, SqL.of hc, at_of (j := 1) rfl rfl, ?_⟩
        refine ⟨p, l, as, tsOf b, t, rfl, C, fun x H' hx s' hH => ?_⟩
        rw [e2] at hH
        exact k (p :: l :: as) x H' (I2.keep fun b o e _ => s' b o e) (Frm.of_same C.dom s') hx (not_dom C.dom hx) hH
    | sum t =>
      cases q with
      | none => cases hact
      | some b =>
        obtain ⟨g, rfl⟩ := rel
        obtain ⟨v0, e1, e2⟩ := sum_ok b t
        rw [e1] at hact
        cases hact
        refine ⟨_, rfl, lc, _, _, _, rfl, rfl, SqL.of hc, at_of (j := 0) rfl rfl, x_eqC ⟨_, rfl, ?_⟩⟩
        refine x_ite (fun h => absurd h (by decide)) (fun _ => ?_)
        refine ⟨_, rfl, lc, _, _, _, rfl, rfl, SqL.of hc, at_of (j := 0) rfl rfl, x_eqC ⟨_, rfl, ?_⟩⟩
        refine x_ite (fun h => absurd h (by decide)) (fun _ => ?_)
        refine ⟨_, rfl, lc, _, _, _, rfl, rfl, SqL.of hc, at_of (j := 0) rfl rfl, x_eqC ⟨_, rfl, ?_⟩⟩
        refine x_ite (fun h => absurd h (by decide)) (fun _ => ?_)
        refine ⟨_, rfl, lc, _, _, _, rfl, rfl, SqL.of hc, at_of (j := 0) rfl rfl, x_eqC ⟨_, rfl, ?_⟩⟩
        refine x_ite (fun h => absurd h (by decide)) (fun _ => ?_)
        refine ⟨_, rfl, lc, _, _, _, rfl, rfl, SqL.of hc, at_of (j := 0) rfl rfl, x_eqC ⟨_, rfl, ?_⟩⟩
        refine x_ite (fun h => absurd h (by decide)) (fun _ => ?_)
        refine ⟨_, rfl, lc, _, _, _, rfl, rfl, SqL.of hc, at_of (j := 0) rfl rfl, x_eqC ⟨_, rfl, ?_⟩⟩
        refine x_ite (fun h => absurd h (by decide)) (fun _ => ?_)
        refine ⟨_, rfl, lc, _, _, _, rfl, rfl, SqL.of hc, at_of (j := 0) rfl rfl, x_eqC ⟨_, rfl, ?_⟩⟩
        refine x_ite (fun h => absurd h (by decide)) (fun _ => ?_)
        refine ⟨_, rfl, p, dx, _, rfl, h1, fl_Tubes_no_sum_of, _, rfl, lc, _, _, _, rfl, rfl, SqL.of hc, at_of (j := 1) rfl rfl, ?_⟩
        refine ⟨p, l, as, tsOf b, t, rfl, C, by rw [tsOf_len]; exact g.most, fun x H' hx s' hH => ?_⟩
        rw [e2] at hH
        exact k (p :: l :: as) x H' (I2.keep fun b o e _ => s' b o e) (Frm.of_same C.dom s') hx (not_dom C.dom hx) hH
end
end WL

namespace WL
open PySem L2
/-! ## part 3, with its objects and what it stands for -/
def Inv3 (a : Ad) (p : Addr) (q : Option Klb3.Book) (H : Hp) (F : List Addr) : Prop := ∃ (l d : Addr) (as : List Addr) (bs : List (Nat × Addr × List Nat)) (os : List Klb3.Order), F = foot p l d as bs ∧ OrdAt a H p l d as bs os ∧ ∀ b, q = some b → os = b.orders ∧ Rel3 b bs
theorem Inv3.keep {a : Ad} {p : Addr} {q : Option Klb3.Book} {H H' : Hp} {F : List Addr} (h : Inv3 a p q H F) (k : ∀ b o, H b = some o → b ∈ F → H' b = some o) : Inv3 a p q H' F := by
  obtain ⟨l, d, as, bs, os, rfl, c, rel⟩ := h
  exact ⟨l, d, as, bs, os, rfl, c.keep k, rel⟩
theorem Inv3.dom {a : Ad} {p : Addr} {q : Option Klb3.Book} {H : Hp} {F : List Addr} (h : Inv3 a p q H F) : ∀ b ∈ F, ∃ o, H b = some o := by
  obtain ⟨l, d, as, bs, os, rfl, c, rel⟩ := h
  exact c.dom
def sp_orders_answer (_ : PySem.W.Frag) (a : Ad) : Sp := fun vs H Q _ => ∃ (p lc : Addr) (q q' : Option Klb3.Book) (F : List Addr) (c : Klb3.Call) (v : Klb3.Ans), vs = [.ref p, .ref lc] ∧ Inv3 a p q H F ∧ H lc = some (.lst ((flat3 c).map V.int)) ∧ ok3 c ∧
  Klb3.acts q c = some (q', v) ∧ ∀ F' x H', Inv3 a p q' H' F' → Frm F F' H H' → H x = none → x ∉ F' → H' x = some (.lst ((v.value :: asInts v.out).map V.int)) → Q (.ref x) H'
theorem open_iff {b : Klb3.Book} {bs : List (Nat × Addr × List Nat)} (R : Rel3 b bs) (t : Nat) : b.open_.contains t = true ↔ t ∈ bs.map (·.1) := by
  rw [List.contains_iff_mem, R.op]
theorem open_not {b : Klb3.Book} {bs : List (Nat × Addr × List Nat)} (R : Rel3 b bs) (t : Nat) : b.open_.contains t = false ↔ t ∉ bs.map (·.1) := by
  rw [← open_iff R t, Bool.not_eq_true]
section
variable {P : Program} {w : World} {K : PySem.W.Frag} {mg : Str → Option Value} {base : Heap} {a : Ad}
theorem ok_orders_answer (T : Txt K mg a) : FnOk P w K mg base CX0 4 a.f_orders_answer a.d_orders_answer ["orders", "call"] (sp_orders_answer K a) := by
  have G_Orders_begin_batch : FnOk P w K mg base CX0 1 a.f_Orders_begin_batch a.d_Orders_begin_batch ["self", "test"] (sp_Orders_begin_batch K a) := ok_Orders_begin_batch T
  have G_Orders_close : FnOk P w K mg base CX0 2 a.f_Orders_close a.d_Orders_close ["self", "test", "broken"] (sp_Orders_close K a) := ok_Orders_close T
  have G_Orders_give : FnOk P w K mg base CX0 2 a.f_Orders_give a.d_Orders_give ["self", "number"] (sp_Orders_give K a) := ok_Orders_give T
  have G_Orders_order : FnOk P w K mg base CX0 3 a.f_Orders_order a.d_Orders_order ["self", "patient", "test"] (sp_Orders_order K a) := ok_Orders_order T
  have G_Orders_result : FnOk P w K mg base CX0 2 a.f_Orders_result a.d_Orders_result ["self", "number", "value"] (sp_Orders_result K a) := ok_Orders_result T
  have G_Orders_run : FnOk P w K mg base CX0 2 a.f_Orders_run a.d_Orders_run ["self", "number", "patient"] (sp_Orders_run K a) := ok_Orders_run T
  have G_Orders_start : FnOk P w K mg base CX0 1 a.f_Orders_start a.d_Orders_start ["self"] (sp_Orders_start K a) := ok_Orders_start T
  have G_Orders_state : FnOk P w K mg base CX0 2 a.f_Orders_state a.d_Orders_state ["self", "number"] (sp_Orders_state K a) := ok_Orders_state T
  refine T.F_orders_answer.ok sc_orders_answer (fun vs H Q E h => ?_) (fun cdv A outer s H vs Q E hr h => ?_)
  · obtain ⟨p, lc, q, q', F, c, v, rfl, _⟩ := h
    rfl
  · obtain ⟨p, lc, q, q', F, c, v, rfl, I3, hc, hok, hact, k⟩ := h
    obtain ⟨l, d, as, bs, os, rfl, C, rel⟩ := id I3
    obtain ⟨dx, h1⟩ := C.ob
    have fin : ∀ (l1 d1 : Addr) (as1 : List Addr) (bs1 : List (Nat × Addr × List Nat)) (os1 : List Klb3.Order) (H1 : Hp) (z : Int), OrdAt a H1 p l1 d1 as1 bs1 os1 → (∀ b, q' = some b → os1 = b.orders ∧ Rel3 b bs1) → Frm (foot p l d as bs) (foot p l1 d1 as1 bs1) H H1 → [z] = v.value :: asInts v.out → ([V.int z] : List V).length ≤ sizeLine ∧ ∀ x, H1 x = none → Q (.ref x) (upd H1 x (.lst [V.int z])) := by
      intro l1 d1 as1 bs1 os1 H1 z C1 R1 f1 ez
      refine ⟨(by show 1 ≤ sizeLine; decide), fun x hx => ?_⟩
      have J : Inv3 a p q' H1 (foot p l1 d1 as1 bs1) := ⟨l1, d1, as1, bs1, os1, rfl, C1, R1⟩
      exact k (foot p l1 d1 as1 bs1) x _ (J.keep fun b o e _ => same_new hx b o e) (f1.same (same_new hx)) (f1.free hx) (not_dom J.dom hx) (by rw [← ez]; exact upd_same)
    refine ⟨_, (pss_cons (ps_if (pt_cmpR op_eq (pe_ix ix_list (pv 1) pe_int (fun _ _ => rfl)) (pe_gi rfl T.k_START_ORDERS) (nomark _)) (pss_one (ps_ret (pe_lst (pa_cons (pe_meth0 (pv 0) T.cl_Orders T.m_Orders_start G_Orders_start (hr.mono (by decide)) T.b_Orders_start .nil pass0) pa_nil)))) pss_nil) (pss_cons (ps_if (pt_cmpR op_eq (pe_ix ix_list (pv 1) pe_int (fun _ _ => rfl)) (pe_gi rfl T.k_ORDER) (nomark _)) (pss_one (ps_ret (pe_lst (pa_cons (pe_meth (pv 0) T.cl_Orders T.m_Orders_order G_Orders_order (hr.mono (by decide)) T.b_Orders_order .nil pass0 (pa_cons (pe_ix ix_list (pv 1) pe_int (fun _ _ => rfl)) (pa_cons (pe_ix ix_list (pv 1) pe_int (fun _ _ => rfl)) pa_nil))) pa_nil)))) pss_nil) (pss_cons (ps_if (pt_cmpR op_eq (pe_ix ix_list (pv 1) pe_int (fun _ _ => rfl)) (pe_gi rfl T.k_BEGIN_BATCH) (nomark _)) (pss_one (ps_ret (pe_lst (pa_cons (pe_meth (pv 0) T.cl_Orders T.m_Orders_begin_batch G_Orders_begin_batch (hr.mono (by decide)) T.b_Orders_begin_batch .nil pass0 (pa_cons (pe_ix ix_list (pv 1) pe_int (fun _ _ => rfl)) pa_nil)) pa_nil)))) pss_nil) (pss_cons (ps_if (pt_cmpR op_eq (pe_ix ix_list (pv 1) pe_int (fun _ _ => rfl)) (pe_gi rfl T.k_RUN) (nomark _)) (pss_one (ps_ret (pe_lst (pa_cons (pe_meth (pv 0) T.cl_Orders T.m_Orders_run G_Orders_run (hr.mono (by decide)) T.b_Orders_run .nil pass0 (pa_cons (pe_ix ix_list (pv 1) pe_int (fun _ _ => rfl)) (pa_cons (pe_ix ix_list (pv 1) pe_int (fun _ _ => rfl)) pa_nil))) pa_nil)))) pss_nil) (pss_cons (ps_if (pt_cmpR op_eq (pe_ix ix_list (pv 1) pe_int (fun _ _ => rfl)) (pe_gi rfl T.k_RESULT) (nomark _)) (pss_one (ps_ret (pe_lst (pa_cons (pe_meth (pv 0) T.cl_Orders T.m_Orders_result G_Orders_result (hr.mono (by decide)) T.b_Orders_result .nil pass0 (pa_cons (pe_ix ix_list (pv 1) pe_int (fun _ _ => rfl)) (pa_cons (pe_ix ix_list (pv 1) pe_int (fun _ _ => rfl)) pa_nil))) pa_nil)))) pss_nil) (pss_cons (ps_if (pt_cmpR op_eq (pe_ix ix_list (pv 1) pe_int (fun _ _ => rfl)) (pe_gi rfl T.k_CLOSE) (nomark _)) (pss_one (ps_ret (pe_lst (pa_cons (pe_meth (pv 0) T.cl_Orders T.m_Orders_close G_Orders_close (hr.mono (by decide)) T.b_Orders_close .nil pass0 (pa_cons (pe_ix ix_list (pv 1) pe_int (fun _ _ => rfl)) (pa_cons (pe_ix ix_list (pv 1) pe_int (fun _ _ => rfl)) pa_nil))) pa_nil)))) pss_nil) (pss_cons (ps_if (pt_cmpR op_eq (pe_ix ix_list (pv 1) pe_int (fun _ _ => rfl)) (pe_gi rfl T.k_GIVE) (nomark _)) (pss_one (ps_ret (pe_meth (pv 0) T.cl_Orders T.m_Orders_give G_Orders_give (hr.mono (by decide)) T.b_Orders_give .nil pass0 (pa_cons (pe_ix ix_list (pv 1) pe_int (fun _ _ => rfl)) pa_nil)))) pss_nil) (pss_one (ps_ret (pe_lst (pa_cons (pe_meth (pv 0) T.cl_Orders T.m_Orders_state G_Orders_state (hr.mono (by decide)) T.b_Orders_state .nil pass0 (pa_cons (pe_ix ix_list (pv 1) pe_int (fun _ _ => rfl)) pa_nil)) pa_nil))))))))))), ?_⟩
    cases c with
    | start =>
      cases hact
      refine ⟨_, rfl, lc, _, _, _, rfl, rfl, SqL.of hc, at_of (j := 0) rfl rfl, x_eqC ⟨_, rfl, ?_⟩⟩
      refine x_ite (fun _ => ?_) (fun h => absurd rfl h)
      refine ⟨_, rfl, p, dx, _, rfl, h1, fl_Orders_no_start, ?_⟩
      refine ⟨p, l, d, as, bs, os, rfl, C, fun l' d' H' C' f' => fin l' d' [] [] [] H' 0 C' (fun b e => ?_) f' rfl⟩
      cases e
      exact ⟨rfl, rel3_nil⟩
    | order pa t =>
      cases q with
      | none => cases hact
      | some b =>
        obtain ⟨rfl, R⟩ := rel b rfl
        simp only [Klb3.acts, Option.map_some, Option.some.injEq] at hact
        refine ⟨_, rfl, lc, _, _, _, rfl, rfl, SqL.of hc, at_of (j := 0) rfl rfl, x_eqC ⟨_, rfl, ?_⟩⟩
        refine x_ite (fun h => absurd h (by decide)) (fun _ => ?_)
        refine ⟨_, rfl, lc, _, _, _, rfl, rfl, SqL.of hc, at_of (j := 0) rfl rfl, x_eqC ⟨_, rfl, ?_⟩⟩
        refine x_ite (fun _ => ?_) (fun h => absurd rfl h)
        refine ⟨_, rfl, p, dx, _, rfl, h1, fl_Orders_no_order, _, rfl, lc, _, _, _, rfl, rfl, SqL.of hc, at_of (j := 1) rfl rfl, _, rfl, lc, _, _, _, rfl, rfl, SqL.of hc, at_of (j := 2) rfl rfl, ?_⟩
        refine ⟨p, l, d, as, bs, b.orders, pa, t, rfl, C, fun h => ?_, fun h h2 => ?_, fun h h2 x H' C' f' => ?_⟩
        · rw [if_pos h] at hact
          cases hact
          exact fin l d as bs b.orders H _ C (fun b' e => by cases e; exact ⟨rfl, R⟩) (Frm.refl C.dom) rfl
        · have := R.most
          rw [if_neg h, if_pos (by omega)] at hact
          cases hact
          exact fin l d as bs b.orders H _ C (fun b' e => by cases e; exact ⟨rfl, R⟩) (Frm.refl C.dom) rfl
        · rw [if_neg h, if_neg (by omega)] at hact
          cases hact
          exact fin l d (as ++ [x]) bs _ H' _ C' (fun b' e => by cases e; exact ⟨rfl, R.add pa t (by omega)⟩) f' rfl
    | open_ t =>
      cases q with
      | none => cases hact
      | some b =>
        obtain ⟨rfl, R⟩ := rel b rfl
        simp only [Klb3.acts, Option.map_some, Option.some.injEq] at hact
        refine ⟨_, rfl, lc, _, _, _, rfl, rfl, SqL.of hc, at_of (j := 0) rfl rfl, x_eqC ⟨_, rfl, ?_⟩⟩
        refine x_ite (fun h => absurd h (by decide)) (fun _ => ?_)
        refine ⟨_, rfl, lc, _, _, _, rfl, rfl, SqL.of hc, at_of (j := 0) rfl rfl, x_eqC ⟨_, rfl, ?_⟩⟩
        refine x_ite (fun h => absurd h (by decide)) (fun _ => ?_)
        refine ⟨_, rfl, lc, _, _, _, rfl, rfl, SqL.of hc, at_of (j := 0) rfl rfl, x_eqC ⟨_, rfl, ?_⟩⟩
        refine x_ite (fun _ => ?_) (fun h => absurd rfl h)
        refine ⟨_, rfl, p, dx, _, rfl, h1, fl_Orders_no_begin_batch, _, rfl, lc, _, _, _, rfl, rfl, SqL.of hc, at_of (j := 1) rfl rfl, ?_⟩
        refine ⟨p, l, d, as, bs, b.orders, t, rfl, C, R.few, fun h => ?_, fun h h2 => ?_, fun h h2 x H' C' f' => ?_⟩
        · rw [if_pos h] at hact
          cases hact
          exact fin l d as bs b.orders H _ C (fun b' e => by cases e; exact ⟨rfl, R⟩) (Frm.refl C.dom) rfl
        · rw [if_neg h, if_pos ((open_iff R t).mpr h2)] at hact
          cases hact
          exact fin l d as bs b.orders H _ C (fun b' e => by cases e; exact ⟨rfl, R⟩) (Frm.refl C.dom) rfl
        · rw [if_neg h, if_neg (fun z => h2 ((open_iff R t).mp z))] at hact
          cases hact
          exact fin l d as _ _ H' _ C' (fun b' e => by cases e; exact ⟨rfl, R.opn t x (by omega) h2⟩) f' rfl
    | run n pa =>
      cases q with
      | none => cases hact
      | some b =>
        obtain ⟨rfl, R⟩ := rel b rfl
        simp only [Klb3.acts, Option.map_some, Option.some.injEq] at hact
        refine ⟨_, rfl, lc, _, _, _, rfl, rfl, SqL.of hc, at_of (j := 0) rfl rfl, x_eqC ⟨_, rfl, ?_⟩⟩
        refine x_ite (fun h => absurd h (by decide)) (fun _ => ?_)
        refine ⟨_, rfl, lc, _, _, _, rfl, rfl, SqL.of hc, at_of (j := 0) rfl rfl, x_eqC ⟨_, rfl, ?_⟩⟩
        refine x_ite (fun h => absurd h (by decide)) (fun _ => ?_)
        refine ⟨_, rfl, lc, _, _, _, rfl, rfl, SqL.of hc, at_of (j := 0) rfl rfl, x_eqC ⟨_, rfl, ?_⟩⟩
        refine x_ite (fun h => absurd h (by decide)) (fun _ => ?_)
        refine ⟨_, rfl, lc, _, _, _, rfl, rfl, SqL.of hc, at_of (j := 0) rfl rfl, x_eqC ⟨_, rfl, ?_⟩⟩
        refine x_ite (fun _ => ?_) (fun h => absurd rfl h)
        refine ⟨_, rfl, p, dx, _, rfl, h1, fl_Orders_no_run, _, rfl, lc, _, _, _, rfl, rfl, SqL.of hc, at_of (j := 1) rfl rfl, _, rfl, lc, _, _, _, rfl, rfl, SqL.of hc, at_of (j := 2) rfl rfl, ?_⟩
        refine ⟨p, l, d, as, bs, b.orders, n, pa, rfl, C, R.nd, fun x hx => R.short hx, fun h => ?_, fun o ho => ⟨fun h => ?_, fun h h2 => ?_, fun h h2 h3 => ?_, fun h h2 h3 H' C' f' => ?_⟩⟩
        · simp only [h] at hact
          cases hact
          exact fin l d as bs b.orders H _ C (fun b' e => by cases e; exact ⟨rfl, R⟩) (Frm.refl C.dom) rfl
        · simp only [ho] at hact
          rw [if_pos h] at hact
          cases hact
          exact fin l d as bs b.orders H _ C (fun b' e => by cases e; exact ⟨rfl, R⟩) (Frm.refl C.dom) rfl
        · simp only [ho] at hact
          rw [if_neg (fun z => z h), if_pos h2] at hact
          cases hact
          exact fin l d as bs b.orders H _ C (fun b' e => by cases e; exact ⟨rfl, R⟩) (Frm.refl C.dom) rfl
        · simp only [ho] at hact
          rw [if_neg (fun z => z h), if_neg (fun z => z h2), if_pos ((open_not R o.test).mpr h3)] at hact
          cases hact
          exact fin l d as bs b.orders H _ C (fun b' e => by cases e; exact ⟨rfl, R⟩) (Frm.refl C.dom) rfl
        · simp only [ho] at hact
          rw [if_neg (fun z => z h), if_neg (fun z => z h2), if_neg (fun z => (open_not R o.test).mp z h3)] at hact
          cases hact
          have R' := R.run ho h2 (List.contains_iff_mem.mp ((open_iff R o.test).mpr h3))
          exact fin l d as _ _ H' _ C' (fun b' e => by cases e; exact ⟨rfl, R'⟩) (by rw [foot_into]; exact f') rfl
    | result n vo =>
      cases q with
      | none => cases hact
      | some b =>
        obtain ⟨rfl, R⟩ := rel b rfl
        simp only [Klb3.acts, Option.map_some, Option.some.injEq] at hact
        refine ⟨_, rfl, lc, _, _, _, rfl, rfl, SqL.of hc, at_of (j := 0) rfl rfl, x_eqC ⟨_, rfl, ?_⟩⟩
        refine x_ite (fun h => absurd h (by decide)) (fun _ => ?_)
        refine ⟨_, rfl, lc, _, _, _, rfl, rfl, SqL.of hc, at_of (j := 0) rfl rfl, x_eqC ⟨_, rfl, ?_⟩⟩
        refine x_ite (fun h => absurd h (by decide)) (fun _ => ?_)
        refine ⟨_, rfl, lc, _, _, _, rfl, rfl, SqL.of hc, at_of (j := 0) rfl rfl, x_eqC ⟨_, rfl, ?_⟩⟩
        refine x_ite (fun h => absurd h (by decide)) (fun _ => ?_)
        refine ⟨_, rfl, lc, _, _, _, rfl, rfl, SqL.of hc, at_of (j := 0) rfl rfl, x_eqC ⟨_, rfl, ?_⟩⟩
        refine x_ite (fun h => absurd h (by decide)) (fun _ => ?_)
        refine ⟨_, rfl, lc, _, _, _, rfl, rfl, SqL.of hc, at_of (j := 0) rfl rfl, x_eqC ⟨_, rfl, ?_⟩⟩
        refine x_ite (fun _ => ?_) (fun h => absurd rfl h)
        refine ⟨_, rfl, p, dx, _, rfl, h1, fl_Orders_no_result, _, rfl, lc, _, _, _, rfl, rfl, SqL.of hc, at_of (j := 1) rfl rfl, _, rfl, lc, _, _, _, rfl, rfl, SqL.of hc, at_of (j := 2) rfl rfl, ?_⟩
        refine ⟨p, l, d, as, bs, b.orders, n, vo, rfl, C, fun h => ?_, fun o ho => ⟨fun h => ?_, fun h H' C' f' => ?_⟩⟩
        · simp only [h] at hact
          cases hact
          exact fin l d as bs b.orders H _ C (fun b' e => by cases e; exact ⟨rfl, R⟩) (Frm.refl C.dom) rfl
        · simp only [ho] at hact
          rw [if_pos h] at hact
          cases hact
          exact fin l d as bs b.orders H _ C (fun b' e => by cases e; exact ⟨rfl, R⟩) (Frm.refl C.dom) rfl
        · simp only [ho] at hact
          rw [if_neg (fun z => z h)] at hact
          cases hact
          have R' := R.set (u := { o with state := .has vo }) ho rfl (by rw [h]; rfl)
          exact fin l d as bs _ H' _ C' (fun b' e => by cases e; exact ⟨rfl, R'⟩) f' rfl
    | close t n =>
      cases q with
      | none => cases hact
      | some b =>
        obtain ⟨rfl, R⟩ := rel b rfl
        simp only [Klb3.acts, Option.map_some, Option.some.injEq] at hact
        refine ⟨_, rfl, lc, _, _, _, rfl, rfl, SqL.of hc, at_of (j := 0) rfl rfl, x_eqC ⟨_, rfl, ?_⟩⟩
        refine x_ite (fun h => absurd h (by decide)) (fun _ => ?_)
        refine ⟨_, rfl, lc, _, _, _, rfl, rfl, SqL.of hc, at_of (j := 0) rfl rfl, x_eqC ⟨_, rfl, ?_⟩⟩
        refine x_ite (fun h => absurd h (by decide)) (fun _ => ?_)
        refine ⟨_, rfl, lc, _, _, _, rfl, rfl, SqL.of hc, at_of (j := 0) rfl rfl, x_eqC ⟨_, rfl, ?_⟩⟩
        refine x_ite (fun h => absurd h (by decide)) (fun _ => ?_)
        refine ⟨_, rfl, lc, _, _, _, rfl, rfl, SqL.of hc, at_of (j := 0) rfl rfl, x_eqC ⟨_, rfl, ?_⟩⟩
        refine x_ite (fun h => absurd h (by decide)) (fun _ => ?_)
        refine ⟨_, rfl, lc, _, _, _, rfl, rfl, SqL.of hc, at_of (j := 0) rfl rfl, x_eqC ⟨_, rfl, ?_⟩⟩
        refine x_ite (fun h => absurd h (by decide)) (fun _ => ?_)
        refine ⟨_, rfl, lc, _, _, _, rfl, rfl, SqL.of hc, at_of (j := 0) rfl rfl, x_eqC ⟨_, rfl, ?_⟩⟩
        refine x_ite (fun _ => ?_) (fun h => absurd rfl h)
        refine ⟨_, rfl, p, dx, _, rfl, h1, fl_Orders_no_close, _, rfl, lc, _, _, _, rfl, rfl, SqL.of hc, at_of (j := 1) rfl rfl, _, rfl, lc, _, _, _, rfl, rfl, SqL.of hc, at_of (j := 2) rfl rfl, ?_⟩
        refine ⟨p, l, d, as, bs, b.orders, t, n, rfl, C, R.nd, fun x hx => (R.mem x hx).1, fun h => ?_, fun h h2 => ?_, fun h x hx ex H' C' f' => ?_⟩
        · rw [if_pos h] at hact
          cases hact
          exact fin l d as bs b.orders H _ C (fun b' e => by cases e; exact ⟨rfl, R⟩) (Frm.refl C.dom) rfl
        · rw [if_neg h, if_pos ((open_not R t).mpr h2)] at hact
          cases hact
          exact fin l d as bs b.orders H _ C (fun b' e => by cases e; exact ⟨rfl, R⟩) (Frm.refl C.dom) rfl
        · rw [if_neg h, if_neg (fun z => (open_not R t).mp z (List.mem_map.mpr ⟨x, hx, ex⟩))] at hact
          cases hact
          have ec := rdy_all R hx n
          rw [ex] at ec
          have ep := part_all R hx n
          rw [ex] at ep
          rw [ep] at C'
          refine fin l d as _ _ H' _ C' (fun b' e => by cases e; exact ⟨rfl, R.cls t n⟩) f' ?_
          rw [ec]
          show [_] = [_]
          congr 1
          split <;> rfl
    | give n =>
      cases q with
      | none => cases hact
      | some b =>
        obtain ⟨rfl, R⟩ := rel b rfl
        simp only [Klb3.acts, Option.map_some, Option.some.injEq] at hact
        refine ⟨_, rfl, lc, _, _, _, rfl, rfl, SqL.of hc, at_of (j := 0) rfl rfl, x_eqC ⟨_, rfl, ?_⟩⟩
        refine x_ite (fun h => absurd h (by decide)) (fun _ => ?_)
        refine ⟨_, rfl, lc, _, _, _, rfl, rfl, SqL.of hc, at_of (j := 0) rfl rfl, x_eqC ⟨_, rfl, ?_⟩⟩
        refine x_ite (fun h => absurd h (by decide)) (fun _ => ?_)
        refine ⟨_, rfl, lc, _, _, _, rfl, rfl, SqL.of hc, at_of (j := 0) rfl rfl, x_eqC ⟨_, rfl, ?_⟩⟩
        refine x_ite (fun h => absurd h (by decide)) (fun _ => ?_)
        refine ⟨_, rfl, lc, _, _, _, rfl, rfl, SqL.of hc, at_of (j := 0) rfl rfl, x_eqC ⟨_, rfl, ?_⟩⟩
        refine x_ite (fun h => absurd h (by decide)) (fun _ => ?_)
        refine ⟨_, rfl, lc, _, _, _, rfl, rfl, SqL.of hc, at_of (j := 0) rfl rfl, x_eqC ⟨_, rfl, ?_⟩⟩
        refine x_ite (fun h => absurd h (by decide)) (fun _ => ?_)
        refine ⟨_, rfl, lc, _, _, _, rfl, rfl, SqL.of hc, at_of (j := 0) rfl rfl, x_eqC ⟨_, rfl, ?_⟩⟩
        refine x_ite (fun h => absurd h (by decide)) (fun _ => ?_)
        refine ⟨_, rfl, lc, _, _, _, rfl, rfl, SqL.of hc, at_of (j := 0) rfl rfl, x_eqC ⟨_, rfl, ?_⟩⟩
        refine x_ite (fun _ => ?_) (fun h => absurd rfl h)
        refine ⟨_, rfl, p, dx, _, rfl, h1, fl_Orders_no_give, _, rfl, lc, _, _, _, rfl, rfl, SqL.of hc, at_of (j := 1) rfl rfl, ?_⟩
        refine ⟨p, l, d, as, bs, b.orders, n, rfl, C, fun os' ans hm r H' C' f' hr hnr hH => ?_⟩
        have key : (∀ b', q' = some b' → os' = b'.orders ∧ Rel3 b' bs) ∧ ans = v.value :: asInts v.out := by
          cases ho : b.orders[n]? with
          | none =>
            simp only [ho] at hact hm
            cases hact
            obtain ⟨rfl, rfl⟩ := hm
            exact ⟨fun b' e => by cases e; exact ⟨rfl, R⟩, rfl⟩
          | some o =>
            simp only [ho] at hact hm
            cases hs : o.state with
            | waits =>
              simp only [hs] at hact hm
              cases hact
              obtain ⟨rfl, rfl⟩ := hm
              exact ⟨fun b' e => by cases e; exact ⟨rfl, R⟩, rfl⟩
            | inBatch =>
              simp only [hs] at hact hm
              cases hact
              obtain ⟨rfl, rfl⟩ := hm
              exact ⟨fun b' e => by cases e; exact ⟨rfl, R⟩, rfl⟩
            | has u =>
              simp only [hs] at hact hm
              cases hact
              obtain ⟨rfl, rfl⟩ := hm
              exact ⟨fun b' e => by cases e; exact ⟨rfl, R⟩, rfl⟩
            | ready u =>
              simp only [hs] at hact hm
              cases hact
              obtain ⟨rfl, rfl⟩ := hm
              have R' := R.set (u := { o with state := .given u }) ho rfl (by rw [hs]; rfl)
              exact ⟨fun b' e => by cases e; exact ⟨rfl, R'⟩, rfl⟩
            | given u =>
              simp only [hs] at hact hm
              cases hact
              obtain ⟨rfl, rfl⟩ := hm
              exact ⟨fun b' e => by cases e; exact ⟨rfl, R⟩, rfl⟩
        obtain ⟨R1, ea⟩ := key
        rw [ea] at hH
        exact k (foot p l d as bs) r H' ⟨l, d, as, bs, os', rfl, C', R1⟩ f' hr hnr hH
    | state n =>
      cases q with
      | none => cases hact
      | some b =>
        obtain ⟨rfl, R⟩ := rel b rfl
        simp only [Klb3.acts, Option.map_some, Option.some.injEq] at hact
        refine ⟨_, rfl, lc, _, _, _, rfl, rfl, SqL.of hc, at_of (j := 0) rfl rfl, x_eqC ⟨_, rfl, ?_⟩⟩
        refine x_ite (fun h => absurd h (by decide)) (fun _ => ?_)
        refine ⟨_, rfl, lc, _, _, _, rfl, rfl, SqL.of hc, at_of (j := 0) rfl rfl, x_eqC ⟨_, rfl, ?_⟩⟩
        refine x_ite (fun h => absurd h (by decide)) (fun _ => ?_)
        refine ⟨_, rfl, lc, _, _, _, rfl, rfl, SqL.of hc, at_of (j := 0) rfl rfl, x_eqC ⟨_, rfl, ?_⟩⟩
        refine x_ite (fun h => absurd h (by decide)) (fun _ => ?_)
        refine ⟨_, rfl, lc, _, _, _, rfl, rfl, SqL.of hc, at_of (j := 0) rfl rfl, x_eqC ⟨_, rfl, ?_⟩⟩
        refine x_ite (fun h => absurd h (by decide)) (fun _ => ?_)
        refine ⟨_, rfl, lc, _, _, _, rfl, rfl, SqL.of hc, at_of (j := 0) rfl rfl, x_eqC ⟨_, rfl, ?_⟩⟩
        refine x_ite (fun h => absurd h (by decide)) (fun _ => ?_)
        refine ⟨_, rfl, lc, _, _, _, rfl, rfl, SqL.of hc, at_of (j := 0) rfl rfl, x_eqC ⟨_, rfl, ?_⟩⟩
        refine x_ite (fun h => absurd h (by decide)) (fun _ => ?_)
        refine ⟨_, rfl, lc, _, _, _, rfl, rfl, SqL.of hc, at_of (j := 0) rfl rfl, x_eqC ⟨_, rfl, ?_⟩⟩
        refine x_ite (fun h => absurd h (by decide)) (fun _ => ?_)
        refine ⟨_, rfl, p, dx, _, rfl, h1, fl_Orders_no_state, _, rfl, lc, _, _, _, rfl, rfl, SqL.of hc, at_of (j := 1) rfl rfl, ?_⟩
        refine ⟨p, l, d, as, bs, b.orders, n, rfl, C, fun h => ?_, fun o ho => ?_⟩
        · simp only [h] at hact
          cases hact
          exact fin l d as bs b.orders H _ C (fun b' e => by cases e; exact ⟨rfl, R⟩) (Frm.refl C.dom) rfl
        · simp only [ho] at hact
          cases hact
          exact fin l d as bs b.orders H _ C (fun b' e => by cases e; exact ⟨rfl, R⟩) (Frm.refl C.dom) rfl
end
end WL

namespace WL
open PySem L2
/-- a call's flat list, as call_end finds its length -/
def FlatOk (fc : List Int) : Prop := (∃ x : List Int, fc = 1 :: (x.length : Int) :: x) ∨ ∃ (p : Int) (args : List Int), fc = p :: args ∧ p ≠ 1 ∧ (p, (args.length : Int)) ∈ ([(0, 2), (2, 0), (10, 0), (11, 2), (12, 2), (13, 2), (14, 3), (15, 2), (16, 1), (17, 1), (20, 0), (21, 2), (22, 1), (23, 2), (24, 2), (25, 2), (26, 1), (27, 1)] : List (Int × Int))
def sp_call_end (K : PySem.W.Frag) (_ : Ad) : Sp := fun vs H Q _ => ∃ (l : Addr) (ns fc t : List Int) (b : Nat), vs = [.ref l, .int b] ∧ SqL K H l (ns.map V.int) ∧ ns.drop b = fc ++ t ∧ FlatOk fc ∧ Q (.int ((b + fc.length : Nat) : Int)) H
theorem at_drop {ns fc t : List Int} {b i : Nat} {x z : Int} (h : ns.drop b = fc ++ t) (hx : fc[i]? = some x) (hz : z = ((b + i : Nat) : Int)) : atI (ns.map V.int) z = some (.int x) := by
  refine at_of hz ?_
  have e : ns[b + i]? = some x := by
    rw [← List.getElem?_drop, h, List.getElem?_append_left (List.getElem?_eq_some_iff.mp hx).1]
    exact hx
  rw [List.getElem?_map, e]
  rfl
/-- a statement that only gives the i-th name a value -/
def Lead (i : Nat) (t : TS) (σ : St) (H : Hp) (R : V → Hp → Prop) : Prop := ∀ D : Ends, (∀ v H', R v H' → D.nx (σ.set i (some v)) H') → t D σ H
theorem x_lead {i : Nat} {t u : TS} {D : Ends} {σ : St} {H : Hp} (R : V → Hp → Prop) (h : Lead i t σ H R) (hu : ∀ v H', R v H' → u D (σ.set i (some v)) H') : tSeq t u D σ H := h _ hu
section
variable {P : Program} {w : World} {K : PySem.W.Frag} {mg : Str → Option Value} {base : Heap} {a : Ad}
theorem ok_call_end (T : Txt K mg a) : FnOk P w K mg base CX0 1 a.f_call_end a.d_call_end ["calls", "begin"] (sp_call_end K a) := by
  refine T.F_call_end.ok sc_call_end (fun vs H Q E h => ?_) (fun cdv A outer s H vs Q E hr h => ?_)
  · obtain ⟨l, ns, fc, t, b, rfl, _⟩ := h
    rfl
  · obtain ⟨l, ns, fc, t, b, rfl, hS, hd, hf, k⟩ := h
    refine ⟨_, (pss_cons (ps_if (pt_cmpR op_eq (pe_ix ix_list (pv 0) (pv 1) (fun _ _ => rfl)) (pe_gi rfl T.k_BATCH) (nomark _)) (pss_one (ps_ret (pe_op op_add (pe_op op_add (pv 1) pe_int) (pe_ix ix_list (pv 0) (pe_op op_add (pv 1) pe_int) (fun _ _ => rfl))))) pss_nil) (pss_one (ps_ret (pe_op op_add (pe_op op_add (pv 1) pe_int) (pe_kd T.d_HANDED_OVER (pe_ix ix_list (pv 0) (pv 1) (fun _ _ => rfl))))))), ?_⟩
    rcases hf with ⟨x, rfl⟩ | ⟨p, args, rfl, hp, hm⟩
    · refine ⟨_, rfl, _, rfl, l, _, _, _, rfl, rfl, hS, at_drop (i := 0) hd rfl rfl, x_eqC ⟨_, rfl, ?_⟩⟩
      refine x_ite (fun _ => ?_) (fun h => absurd rfl h)
      refine ⟨_, rfl, _, _, rfl, rfl, _, rfl, _, rfl, _, _, rfl, rfl, l, _, _, _, rfl, rfl, hS, at_drop (i := 1) hd rfl rfl, _, _, rfl, rfl, ?_⟩
      have e : ((b + (1 :: (x.length : Int) :: x).length : Nat) : Int) = (b : Int) + 2 + (x.length : Int) := by
        simp only [List.length_cons]
        omega
      rw [e] at k
      exact k
    · refine ⟨_, rfl, _, rfl, l, _, _, _, rfl, rfl, hS, at_drop (i := 0) hd rfl rfl, x_eqC ⟨_, rfl, ?_⟩⟩
      refine x_ite (fun h => absurd h hp) (fun _ => ?_)
      refine ⟨_, rfl, _, _, rfl, rfl, _, rfl, _, rfl, l, _, _, _, rfl, rfl, hS, at_drop (i := 0) hd rfl rfl, _, _, rfl, hm, _, _, rfl, rfl, ?_⟩
      have e : ((b + (p :: args).length : Nat) : Int) = (b : Int) + 1 + (args.length : Int) := by
        simp only [List.length_cons]
        omega
      rw [e] at k
      exact k
end
theorem flat1_ok (c : Klb1.Call) : FlatOk (flat1 c) := by
  cases c with
  | start m s => exact .inr ⟨0, _, rfl, by decide, by simp⟩
  | batch x n => exact .inl ⟨x, rfl⟩
  | count => exact .inr ⟨2, _, rfl, by decide, by simp⟩
theorem flat2_ok (c : Klb2.Call) : FlatOk (flat2 c) := by
  cases c with
  | start => exact .inr ⟨10, _, rfl, by decide, by simp⟩
  | sample p v => exact .inr ⟨11, _, rfl, by decide, by simp⟩
  | take p v => exact .inr ⟨12, _, rfl, by decide, by simp⟩
  | use p v => exact .inr ⟨13, _, rfl, by decide, by simp⟩
  | put t r p => exact .inr ⟨14, _, rfl, by decide, by simp⟩
  | at_ r p => exact .inr ⟨15, _, rfl, by decide, by simp⟩
  | of t => exact .inr ⟨16, _, rfl, by decide, by simp⟩
  | sum t => exact .inr ⟨17, _, rfl, by decide, by simp⟩
theorem flat3_ok (c : Klb3.Call) : FlatOk (flat3 c) := by
  cases c with
  | start => exact .inr ⟨20, _, rfl, by decide, by simp⟩
  | order p t => exact .inr ⟨21, _, rfl, by decide, by simp⟩
  | open_ t => exact .inr ⟨22, _, rfl, by decide, by simp⟩
  | run o p => exact .inr ⟨23, _, rfl, by decide, by simp⟩
  | result o v => exact .inr ⟨24, _, rfl, by decide, by simp⟩
  | close t b => exact .inr ⟨25, _, rfl, by decide, by simp⟩
  | give o => exact .inr ⟨26, _, rfl, by decide, by simp⟩
  | state o => exact .inr ⟨27, _, rfl, by decide, by simp⟩
theorem flat_head {fc : List Int} (h : FlatOk fc) : ∃ p r, fc = p :: r := by
  rcases h with ⟨x, rfl⟩ | ⟨p, args, rfl, _⟩
  · exact ⟨_, _, rfl⟩
  · exact ⟨_, _, rfl⟩
/-! ## the way in -/
def spAns (K : PySem.W.Frag) : Sp := fun vs H Q _ => ∃ (l : Addr) (ns : List Int), vs = [.ref l] ∧ SqL K H l (ns.map V.int) ∧ PyKlb.answers_asked ns = true ∧ ns.length ≤ 30000 ∧
  ∀ x H', H' x = some (.lst ((PyKlb.answers ns).map V.int)) → Q (.ref x) H'
def sp_answers (K : PySem.W.Frag) (_ : Ad) : Sp := spAns K
theorem spAns_ok {K : PySem.W.Frag} {H : Hp} {l : Addr} {ns : List Int} (h1 : PyKlb.answers_asked ns = true) (h2 : ns.length ≤ 30000) (_ : ∀ z ∈ ns, (-2147483648 : Int) ≤ z ∧ z ≤ 4294967295) (_ : Only H) (hS : SqL K H l (ns.map V.int)) :
    spAns K [.ref l] H (fun v H' => ∃ x, v = .ref x ∧ H' x = some (.lst ((PyKlb.answers ns).map V.int))) fun _ _ _ => False :=
  ⟨l, ns, rfl, hS, h1, h2, fun x _ e => ⟨x, rfl, e⟩⟩
/-- the objects of the parts and the list of answers, apart from one another; H0: the heap at the beginning -/
structure Lab (a : Ad) (H0 : Hp) (pc pt po lo : Addr) (s : KlbNeutral.S) (done : List Int) (H : Hp) (F1 F2 F3 : List Addr) : Prop where
  old : Same H0 H
  i1 : Inv1 a pc s.1 H F1
  i2 : Inv2 a pt s.2.1 H F2
  i3 : Inv3 a po s.2.2 H F3
  out : H lo = some (.lst (done.map V.int))
  n1 : ∀ x, x ∈ F1 → H0 x = none
  n2 : ∀ x, x ∈ F2 → H0 x = none
  n3 : ∀ x, x ∈ F3 → H0 x = none
  no : H0 lo = none
  d12 : ∀ x, x ∈ F1 → x ∉ F2
  d13 : ∀ x, x ∈ F1 → x ∉ F3
  d23 : ∀ x, x ∈ F2 → x ∉ F3
  o1 : lo ∉ F1
  o2 : lo ∉ F2
  o3 : lo ∉ F3
section
variable {a : Ad} {H0 H H' : Hp} {pc pt po lo : Addr} {s : KlbNeutral.S} {done : List Int} {F1 F2 F3 G : List Addr}
/-- a call of part 1 -/
theorem Lab.c1 (L : Lab a H0 pc pt po lo s done H F1 F2 F3) {q : Option Klb1.Abs} (i : Inv1 a pc q H' G) (f : Frm F1 G H H') : Lab a H0 pc pt po lo (q, s.2.1, s.2.2) done H' G F2 F3 where
  old := fun b o e => f.keep b o (L.old b o e) fun z => by rw [L.n1 b z] at e; cases e
  i1 := i
  i2 := L.i2.keep fun b o e hb => f.keep b o e fun z => L.d12 b z hb
  i3 := L.i3.keep fun b o e hb => f.keep b o e fun z => L.d13 b z hb
  out := f.keep lo _ L.out L.o1
  n1 := fun x hx => (f.foot x hx).elim (L.n1 x) fun z => L.old.free z
  n2 := L.n2
  n3 := L.n3
  no := L.no
  d12 := fun x hx hx2 => by
    obtain ⟨o, e⟩ := L.i2.dom x hx2
    exact f.out e (fun z => L.d12 x z hx2) hx
  d13 := fun x hx hx2 => by
    obtain ⟨o, e⟩ := L.i3.dom x hx2
    exact f.out e (fun z => L.d13 x z hx2) hx
  d23 := L.d23
  o1 := f.out L.out L.o1
  o2 := L.o2
  o3 := L.o3
/-- a call of part 2 -/
theorem Lab.c2 (L : Lab a H0 pc pt po lo s done H F1 F2 F3) {q : Option Klb2.Lab} (i : Inv2 a pt q H' G) (f : Frm F2 G H H') : Lab a H0 pc pt po lo (s.1, q, s.2.2) done H' F1 G F3 where
  old := fun b o e => f.keep b o (L.old b o e) fun z => by rw [L.n2 b z] at e; cases e
  i1 := L.i1.keep fun b o e hb => f.keep b o e fun z => L.d12 b hb z
  i2 := i
  i3 := L.i3.keep fun b o e hb => f.keep b o e fun z => L.d23 b z hb
  out := f.keep lo _ L.out L.o2
  n1 := L.n1
  n2 := fun x hx => (f.foot x hx).elim (L.n2 x) fun z => L.old.free z
  n3 := L.n3
  no := L.no
  d12 := fun x hx hx2 => by
    obtain ⟨o, e⟩ := L.i1.dom x hx
    exact f.out e (fun z => L.d12 x hx z) hx2
  d13 := L.d13
  d23 := fun x hx hx2 => by
    obtain ⟨o, e⟩ := L.i3.dom x hx2
    exact f.out e (fun z => L.d23 x z hx2) hx
  o1 := L.o1
  o2 := f.out L.out L.o2
  o3 := L.o3
/-- a call of part 3 -/
theorem Lab.c3 (L : Lab a H0 pc pt po lo s done H F1 F2 F3) {q : Option Klb3.Book} (i : Inv3 a po q H' G) (f : Frm F3 G H H') : Lab a H0 pc pt po lo (s.1, s.2.1, q) done H' F1 F2 G where
  old := fun b o e => f.keep b o (L.old b o e) fun z => by rw [L.n3 b z] at e; cases e
  i1 := L.i1.keep fun b o e hb => f.keep b o e fun z => L.d13 b hb z
  i2 := L.i2.keep fun b o e hb => f.keep b o e fun z => L.d23 b hb z
  i3 := i
  out := f.keep lo _ L.out L.o3
  n1 := L.n1
  n2 := L.n2
  n3 := fun x hx => (f.foot x hx).elim (L.n3 x) fun z => L.old.free z
  no := L.no
  d12 := L.d12
  d13 := fun x hx hx2 => by
    obtain ⟨o, e⟩ := L.i1.dom x hx
    exact f.out e (fun z => L.d13 x hx z) hx2
  d23 := fun x hx hx2 => by
    obtain ⟨o, e⟩ := L.i2.dom x hx
    exact f.out e (fun z => L.d23 x hx z) hx2
  o1 := L.o1
  o2 := L.o2
  o3 := f.out L.out L.o3
theorem Lab.same (L : Lab a H0 pc pt po lo s done H F1 F2 F3) (y : Same H H') : Lab a H0 pc pt po lo s done H' F1 F2 F3 :=
  ⟨L.old.trans y, L.i1.keep fun b o e _ => y b o e, L.i2.keep fun b o e _ => y b o e, L.i3.keep fun b o e _ => y b o e, y _ _ L.out, L.n1, L.n2, L.n3, L.no, L.d12, L.d13, L.d23, L.o1, L.o2, L.o3⟩
/-- the list of answers grows -/
theorem Lab.more (L : Lab a H0 pc pt po lo s done H F1 F2 F3) (more : List Int) : Lab a H0 pc pt po lo s (done ++ more) (upd H lo (.lst ((done ++ more).map V.int))) F1 F2 F3 :=
  ⟨fun b o e => by rw [upd_ne (ne_of_none e L.no)]; exact L.old b o e, L.i1.keep fun b o e hb => by rw [upd_ne (fun z => L.o1 (by rw [← z]; exact hb))]; exact e,
   L.i2.keep fun b o e hb => by rw [upd_ne (fun z => L.o2 (by rw [← z]; exact hb))]; exact e, L.i3.keep fun b o e hb => by rw [upd_ne (fun z => L.o3 (by rw [← z]; exact hb))]; exact e, upd_same, L.n1, L.n2, L.n3, L.no, L.d12, L.d13, L.d23, L.o1, L.o2, L.o3⟩
end
section
variable {P : Program} {w : World} {K : PySem.W.Frag} {mg : Str → Option Value} {base : Heap} {a : Ad}
def leftOf (n : Nat) (σ : St) (_ : Hp) : Nat := match (σ[5]? : Option (Option V)) with
  | some (some (V.int b)) => n - b.toNat
  | _ => 0
theorem ok_answers (T : Txt K mg a) : FnOk P w K mg base CX0 6 a.f_answers a.d_answers ["calls"] (sp_answers K a) := by
  have G_Controls_init : FnOk P w K mg base CX0 1 a.f_Controls_init a.d_Controls_init ["self"] (sp_Controls_init K a) := ok_Controls_init T
  have G_Orders_init : FnOk P w K mg base CX0 1 a.f_Orders_init a.d_Orders_init ["self"] (sp_Orders_init K a) := ok_Orders_init T
  have G_Tubes_init : FnOk P w K mg base CX0 1 a.f_Tubes_init a.d_Tubes_init ["self"] (sp_Tubes_init K a) := ok_Tubes_init T
  have G_call_end : FnOk P w K mg base CX0 1 a.f_call_end a.d_call_end ["calls", "begin"] (sp_call_end K a) := ok_call_end T
  have G_controls_answer : FnOk P w K mg base CX0 5 a.f_controls_answer a.d_controls_answer ["controls", "call"] (sp_controls_answer K a) := ok_controls_answer T
  have G_orders_answer : FnOk P w K mg base CX0 4 a.f_orders_answer a.d_orders_answer ["orders", "call"] (sp_orders_answer K a) := ok_orders_answer T
  have G_tubes_answer : FnOk P w K mg base CX0 4 a.f_tubes_answer a.d_tubes_answer ["tubes", "call"] (sp_tubes_answer K a) := ok_tubes_answer T
  refine T.F_answers.ok sc_answers (fun vs H Q E h => ?_) (fun cdv A outer s H vs Q E hr h => ?_)
  · obtain ⟨l, ns, rfl, _⟩ := h
    rfl
  · obtain ⟨l, ns, rfl, hS, hask, hlen, k⟩ := h
    obtain ⟨hplay, hne⟩ := play_start ns hask
    refine ⟨_, (pss_cons (ps_set (i := 1) sc_answers.nd rfl (Or.inl rfl) (pe_make0 T.mk_Controls G_Controls_init (hr.mono (by decide)) rfl T.g_Controls T.b_Controls_init .nil pass0)) (pss_cons (ps_set (i := 2) sc_answers.nd rfl (Or.inl rfl) (pe_make0 T.mk_Tubes G_Tubes_init (hr.mono (by decide)) rfl T.g_Tubes T.b_Tubes_init .nil pass0)) (pss_cons (ps_set (i := 3) sc_answers.nd rfl (Or.inl rfl) (pe_make0 T.mk_Orders G_Orders_init (hr.mono (by decide)) rfl T.g_Orders T.b_Orders_init .nil pass0)) (pss_cons (ps_set (i := 4) sc_answers.nd rfl (Or.inl rfl) (pe_lst pa_nil)) (pss_cons (ps_set (i := 5) sc_answers.nd rfl (Or.inl rfl) pe_int) (pss_cons (ps_while PassesOwn.never (pt_cmpR op_lt (pv 5) (pe_callB call_len_seq rfl T.n_len PySem.boot_len (pa_cons (pv 0) pa_nil)) (nomark _)) (pss_cons (ps_set (i := 6) sc_answers.nd rfl (Or.inl rfl) (pe_call G_call_end (hr.mono (by decide)) rfl T.g_call_end T.kp_call_end T.b_call_end .nil pass0 (pa_cons (pv 0) (pa_cons (pv 5) pa_nil)))) (pss_cons (ps_set (i := 7) sc_answers.nd rfl (Or.inl rfl) (pe_slice sl_list (pv 0) (po_some (pv 5)) (po_some (pv 6)))) (pss_cons (ps_if (pt_cmpR op_lt (pe_ix ix_list (pv 7) pe_int (fun _ _ => rfl)) (pe_gi rfl T.k_START_TUBES) (nomark _)) (pss_one (ps_set (i := 8) sc_answers.nd rfl (Or.inl rfl) (pe_call G_controls_answer (hr.mono (by decide)) rfl T.g_controls_answer T.kp_controls_answer T.b_controls_answer .nil pass0 (pa_cons (pv 1) (pa_cons (pv 7) pa_nil))))) (pss_one (ps_if (pt_cmpR op_lt (pe_ix ix_list (pv 7) pe_int (fun _ _ => rfl)) (pe_gi rfl T.k_START_ORDERS) (nomark _)) (pss_one (ps_set (i := 8) sc_answers.nd rfl (Or.inl rfl) (pe_call G_tubes_answer (hr.mono (by decide)) rfl T.g_tubes_answer T.kp_tubes_answer T.b_tubes_answer .nil pass0 (pa_cons (pv 2) (pa_cons (pv 7) pa_nil))))) (pss_one (ps_set (i := 8) sc_answers.nd rfl (Or.inl rfl) (pe_call G_orders_answer (hr.mono (by decide)) rfl T.g_orders_answer T.kp_orders_answer T.b_orders_answer .nil pass0 (pa_cons (pv 3) (pa_cons (pv 7) pa_nil)))))))) (pss_cons (ps_expr (pe_bm PySem.F.plainAttrs_list PySem.F.slot_list_append PySem.F.type_list_append mt_append (pv 4) (pa_cons (pe_callB call_len_seq rfl T.n_len PySem.boot_len (pa_cons (pv 8) pa_nil)) pa_nil))) (pss_cons (ps_expr (pe_bm PySem.F.plainAttrs_list PySem.F.slot_list_extend PySem.F.type_list_extend mt_extend (pv 4) (pa_cons (pv 8) pa_nil))) (pss_one (ps_set (i := 5) sc_answers.nd rfl (Or.inl rfl) (pv 6))))))))) (pss_one (ps_ret (pv 4))))))))), ?_⟩
    have hsz : sizeLine = 16777216 := sizeLine_eq
    -- controls = Controls()
    intro pc dc npc ndc nec
    refine ⟨pc, dc, rfl, upd_same, fun r H1 C1 f1 => ⟨rfl, ?_⟩⟩
    have s1 : Same H H1 := fun b o e => f1.keep b o (by rw [upd_ne (ne_of_none e npc), upd_ne (ne_of_none e ndc)]; exact e) (by simp [ne_of_none e npc])
    have hr0 : H r = none := by
      rcases f1.foot r (by simp) with z | z
      · exact absurd (List.mem_singleton.mp z).symm C1.ne
      · exact (upd_none (upd_none z).2).2
    -- tubes = Tubes()
    intro pt dt npt ndt net
    refine ⟨pt, dt, rfl, upd_same, fun l2 H2 C2 f2 => ⟨rfl, ?_⟩⟩
    have s2 : Same H1 H2 := fun b o e => f2.keep b o (by rw [upd_ne (ne_of_none e npt), upd_ne (ne_of_none e ndt)]; exact e) (by simp [ne_of_none e npt])
    have hl20 : H1 l2 = none := by
      rcases f2.foot l2 (by simp) with z | z
      · exact absurd (List.mem_singleton.mp z).symm C2.npl
      · exact (upd_none (upd_none z).2).2
    -- orders = Orders()
    intro po dO npo ndo neo
    refine ⟨po, dO, rfl, upd_same, fun l3 d3 H3 C3 f3 => ⟨rfl, ?_⟩⟩
    have s3 : Same H2 H3 := fun b o e => f3.keep b o (by rw [upd_ne (ne_of_none e npo), upd_ne (ne_of_none e ndo)]; exact e) (by simp [ne_of_none e npo])
    have hl30 : H2 l3 = none := by
      rcases f3.foot l3 (by simp) with z | z
      · exact absurd (List.mem_singleton.mp z).symm C3.npl
      · exact (upd_none (upd_none z).2).2
    have hd30 : H2 d3 = none := by
      rcases f3.foot d3 (by simp) with z | z
      · exact absurd (List.mem_singleton.mp z).symm C3.npd
      · exact (upd_none (upd_none z).2).2
    -- answered = []
    refine ⟨Nat.zero_le _, fun lo hlo => ?_⟩
    have i1 : Inv1 a pc none H1 [pc, r] := ⟨r, 0, 1, 0, [], rfl, C1, Nat.zero_le _⟩
    have i2 : Inv2 a pt none H2 [pt, l2] := ⟨l2, [], [], rfl, C2, trivial⟩
    have i3 : Inv3 a po none H3 [po, l3, d3] := ⟨l3, d3, [], [], [], rfl, C3, fun b e => by cases e⟩
    have i12 : Inv1 a pc none H2 [pc, r] := i1.keep fun b o e _ => s2 b o e
    have i13 : Inv1 a pc none H3 [pc, r] := i12.keep fun b o e _ => s3 b o e
    have i23 : Inv2 a pt none H3 [pt, l2] := i2.keep fun b o e _ => s3 b o e
    have new3 : ∀ x, x ∈ [po, l3, d3] → H2 x = none := by
      intro x hx
      have hx : x = po ∨ x = l3 ∨ x = d3 := by simpa using hx
      rcases hx with rfl | rfl | rfl
      · exact npo
      · exact hl30
      · exact hd30
    have L0 : Lab a H pc pt po lo KlbNeutral.start [] (upd H3 lo (.lst [])) [pc, r] [pt, l2] [po, l3, d3] := by
      refine ⟨((s1.trans s2).trans s3).trans (same_new hlo), i13.keep fun b o e _ => same_new hlo b o e, i23.keep fun b o e _ => same_new hlo b o e, i3.keep fun b o e _ => same_new hlo b o e, upd_same, ?_, ?_, fun x hx => (s1.trans s2).free (new3 x hx), ((s1.trans s2).trans s3).free hlo, ?_, ?_, ?_, not_dom i13.dom hlo, not_dom i23.dom hlo, not_dom i3.dom hlo⟩
      · intro x hx
        have hx : x = pc ∨ x = r := by simpa using hx
        rcases hx with rfl | rfl
        · exact npc
        · exact hr0
      · intro x hx
        have hx : x = pt ∨ x = l2 := by simpa using hx
        rcases hx with rfl | rfl
        · exact s1.free npt
        · exact s1.free hl20
      · intro x hx hx2
        obtain ⟨o, e⟩ := i1.dom x hx
        have hx2 : x = pt ∨ x = l2 := by simpa using hx2
        rcases hx2 with rfl | rfl
        · rw [npt] at e; cases e
        · rw [hl20] at e; cases e
      · intro x hx hx2
        obtain ⟨o, e⟩ := i12.dom x hx
        rw [new3 x hx2] at e
        cases e
      · intro x hx hx2
        obtain ⟨o, e⟩ := i2.dom x hx
        rw [new3 x hx2] at e
        cases e
    -- while begin < len(calls)
    refine while_by (fun σ H' => ∃ (b : Nat) (s : KlbNeutral.S) (done rest : List Int) (F1 F2 F3 : List Addr) (v5 v6 v7 : Option V),
        σ = [some (.ref l), some (.ref pc), some (.ref pt), some (.ref po), some (.ref lo), some (.int b), v5, v6, v7] ∧ Lab a H pc pt po lo s done H' F1 F2 F3 ∧ Play s (ns.drop b) rest ∧ PyKlb.answers ns = done ++ rest ∧ b ≤ ns.length ∧ done.length ≤ 6 * b)
      (leftOf ns.length) ⟨0, _, [], _, _, _, _, none, none, none, rfl, L0, hplay, rfl, Nat.zero_le _, Nat.zero_le _⟩ ?_ ?_
    · rintro σ H' ⟨b, s, done, rest, F1, F2, F3, v5, v6, v7, rfl, L, pl, eans, hb, hdn⟩
      have hS' : SqL K H' l (ns.map V.int) := L.old.seq hS
      refine ⟨_, rfl, _, rfl, l, _, rfl, .inl hS', _, _, rfl, rfl, _, rfl, ?_⟩
      refine x_ite (fun h => ?_) (fun h => ?_)
      · have hlt : b < ns.length := by
          have h : (b : Int) < (((ns.map V.int).length : Nat) : Int) := h
          rw [List.length_map] at h
          omega
        obtain ⟨p0, r0, e0⟩ : ∃ p r, ns.drop b = p :: r := ⟨_, _, List.drop_eq_getElem_cons hlt⟩
        rw [e0] at pl
        obtain ⟨fc, t, s2, ans, out2, e1, st, pl2, e2⟩ := play_cons pl
        rw [← e0] at e1
        have hstl := step_len st
        have hflat : FlatOk fc := by
          cases st with
          | c1 c q v e ok h hs ha => rw [e]; exact flat1_ok c
          | c2 c q v e ok h hs ha => rw [e]; exact flat2_ok c
          | c3 c q v e ok h hs ha => rw [e]; exact flat3_ok c
        obtain ⟨p1, r1, ep⟩ := flat_head hflat
        have hbl : b + fc.length ≤ ns.length := by
          have := congrArg List.length e1
          rw [List.length_drop, List.length_append] at this
          omega
        have ht : ns.drop (b + fc.length) = t := by
          rw [← List.drop_drop, e1, List.drop_append_of_le_length (Nat.le_refl _), List.drop_length, List.nil_append]
        -- end = call_end(calls, begin)
        refine ⟨_, rfl, _, rfl, l, ns, fc, t, b, rfl, hS', e1, hflat, ?_⟩
        -- call = calls[begin:end]
        refine ⟨_, rfl, _, rfl, _, rfl, _, rfl, _, rfl, l, _, rfl, hS', fun lc hlc => ?_⟩
        have ec : cutV (ns.map V.int) (some (b : Int)) (some ((b + fc.length : Nat) : Int)) = fc.map V.int := by
          rw [cut_mid _ b (b + fc.length) (by omega) (by rw [List.length_map]; exact hbl), ← List.map_drop, e1, ← List.map_take]
          congr 1
          rw [Nat.add_sub_cancel_left, List.take_append_of_le_length (Nat.le_refl _), List.take_length]
        rw [ec]
        have L1 := L.same (same_new (o := .lst (fc.map V.int)) hlc)
        have hlc0 : H lc = none := L.old.free hlc
        -- which part answers
        dsimp only
        refine x_lead (i := 8) (fun v H2 => ∃ (x : Addr) (F1' F2' F3' : List Addr), v = .ref x ∧ Lab a H pc pt po lo s2 done H2 F1' F2' F3' ∧ H2 x = some (.lst (ans.map V.int)) ∧ x ≠ lo) ?_ ?_
        · intro D hD
          have hat : atI (fc.map V.int) 0 = some (.int p1) := at_of (j := 0) rfl (by rw [ep]; rfl)
          refine ⟨_, rfl, lc, _, _, _, rfl, rfl, SqL.of upd_same, hat, _, _, rfl, rfl, _, rfl, ?_⟩
          cases st with
          | c1 c q v e ok h hs ha =>
            subst hs ha
            have hp : p1 < 10 := by
              rw [e] at ep
              cases c <;> (cases ep; decide)
            refine x_ite (fun _ => ?_) (fun h => absurd hp h)
            refine ⟨_, rfl, _, rfl, pc, lc, s.1, q, F1, c, v, rfl, L1.i1, by rw [e]; exact upd_same, ok, h, fun F1' x H2 i' f' hx hnx hH => hD _ _ ⟨x, F1', F2, F3, rfl, L1.c1 i' f', hH, ?_⟩⟩
            rintro rfl
            rw [L1.out] at hx
            cases hx
          | c2 c q v e ok h hs ha =>
            subst hs ha
            have hp : ¬ p1 < 10 := by
              rw [e] at ep
              cases c <;> (cases ep; decide)
            have hp2 : p1 < 20 := by
              rw [e] at ep
              cases c <;> (cases ep; decide)
            refine x_ite (fun h => absurd h hp) (fun _ => ?_)
            refine ⟨_, rfl, lc, _, _, _, rfl, rfl, SqL.of upd_same, hat, _, _, rfl, rfl, _, rfl, ?_⟩
            refine x_ite (fun _ => ?_) (fun h => absurd hp2 h)
            refine ⟨_, rfl, _, rfl, pt, lc, s.2.1, q, F2, c, v, rfl, L1.i2, by rw [e]; exact upd_same, ok, h, fun F2' x H2 i' f' hx hnx hH => hD _ _ ⟨x, F1, F2', F3, rfl, L1.c2 i' f', hH, ?_⟩⟩
            rintro rfl
            rw [L1.out] at hx
            cases hx
          | c3 c q v e ok h hs ha =>
            subst hs ha
            have hp : ¬ p1 < 10 := by
              rw [e] at ep
              cases c <;> (cases ep; decide)
            have hp2 : ¬ p1 < 20 := by
              rw [e] at ep
              cases c <;> (cases ep; decide)
            refine x_ite (fun h => absurd h hp) (fun _ => ?_)
            refine ⟨_, rfl, lc, _, _, _, rfl, rfl, SqL.of upd_same, hat, _, _, rfl, rfl, _, rfl, ?_⟩
            refine x_ite (fun h => absurd h hp2) (fun _ => ?_)
            refine ⟨_, rfl, _, rfl, po, lc, s.2.2, q, F3, c, v, rfl, L1.i3, by rw [e]; exact upd_same, ok, h, fun F3' x H2 i' f' hx hnx hH => hD _ _ ⟨x, F1, F2, F3', rfl, L1.c3 i' f', hH, ?_⟩⟩
            rintro rfl
            rw [L1.out] at hx
            cases hx
        · rintro v H2 ⟨x, F1', F2', F3', rfl, L2', hH, hxl⟩
          -- answered.append(len(answer))
          refine ⟨_, rfl, .inl ⟨rfl, _, SqL.of L2'.out⟩, _, rfl, x, _, rfl, .inl (SqL.of hH), lo, _, _, rfl, rfl, L2'.out, by rw [List.length_map]; omega, ?_⟩
          have L3 := L2'.more [(ans.length : Int)]
          have ea : done.map V.int ++ [V.int (((ans.map V.int).length : Nat) : Int)] = (done ++ [(ans.length : Int)]).map V.int := by
            rw [List.length_map, List.map_append]
            rfl
          rw [ea]
          -- answered.extend(answer)
          refine ⟨_, rfl, .inl ⟨rfl, _, SqL.of L3.out⟩, _, rfl, lo, x, _, _, rfl, rfl, L3.out, (upd_ne hxl).trans hH, ?_, ?_⟩
          · rw [List.length_map, List.length_map, List.length_append, List.length_singleton]
            omega
          have L4 := L3.more ans
          rw [upd_upd] at L4
          rw [← List.map_append, upd_upd]
          -- begin = end
          refine ⟨_, rfl, ⟨b + fc.length, s2, _, out2, F1', F2', F3', _, _, _, rfl, L4, by rw [ht]; exact pl2, ?_, hbl, ?_⟩, ?_⟩
          · rw [eans, e2]
            simp
          · rw [List.length_append, List.length_append, List.length_singleton]
            omega
          · show ns.length - ((b + fc.length : Nat) : Int).toNat < ns.length - (b : Int).toNat
            omega
      · have hbe : b = ns.length := by
          have h : ¬ (b : Int) < (((ns.map V.int).length : Nat) : Int) := h
          rw [List.length_map] at h
          omega
        subst hbe
        rw [List.drop_length] at pl
        have er := play_nil pl
        subst er
        rw [List.append_nil] at eans
        refine ⟨_, rfl, k lo H' ?_⟩
        rw [eans]
        exact L.out
    · rintro σ H' Q' Q'' hQ ⟨v, e, v', e', p, ys, e1, e2, i, j, e3, e4, kk, e5, q⟩
      exact ⟨v, e, v', e', p, ys, e1, e2, i, j, e3, e4, kk, e5, hQ _ _ q⟩
end
end WL

namespace WL
open PySem L2
set_option maxHeartbeats 4000000 in
theorem txt_mk {K : PySem.W.Frag} {h : Heap} {mg : Str → Option Value} (X : K.In h) (G : h.Ns mainGlobals mg) {C_Controls : Addr} {C_Order : Addr} {C_Orders : Addr} {C_Tube : Addr} {C_Tubes : Addr} {f_one_sided : Addr} {od_one_sided an_one_sided : Option Addr} {sl_one_sided : Array (Option Value)} {oc_one_sided kV_one_sided dc_one_sided pm_one_sided cd_one_sided ct_one_sided : Value} {f_broken_in_a_row : Addr} {od_broken_in_a_row an_broken_in_a_row : Option Addr} {sl_broken_in_a_row : Array (Option Value)} {oc_broken_in_a_row kV_broken_in_a_row dc_broken_in_a_row pm_broken_in_a_row cd_broken_in_a_row ct_broken_in_a_row : Value} {f_far_apart : Addr} {od_far_apart an_far_apart : Option Addr} {sl_far_apart : Array (Option Value)} {oc_far_apart kV_far_apart dc_far_apart pm_far_apart cd_far_apart ct_far_apart : Value} {f_broken_rules : Addr} {od_broken_rules an_broken_rules : Option Addr} {sl_broken_rules : Array (Option Value)} {oc_broken_rules kV_broken_rules dc_broken_rules pm_broken_rules cd_broken_rules ct_broken_rules : Value} {f_Controls_init : Addr} {od_Controls_init an_Controls_init : Option Addr} {sl_Controls_init : Array (Option Value)} {oc_Controls_init kV_Controls_init dc_Controls_init pm_Controls_init cd_Controls_init ct_Controls_init : Value} {f_Controls_start : Addr} {od_Controls_start an_Controls_start : Option Addr} {sl_Controls_start : Array (Option Value)} {oc_Controls_start kV_Controls_start dc_Controls_start pm_Controls_start cd_Controls_start ct_Controls_start : Value} {f_Controls_batch : Addr} {od_Controls_batch an_Controls_batch : Option Addr} {sl_Controls_batch : Array (Option Value)} {oc_Controls_batch kV_Controls_batch dc_Controls_batch pm_Controls_batch cd_Controls_batch ct_Controls_batch : Value} {f_Controls_how_many : Addr} {od_Controls_how_many an_Controls_how_many : Option Addr} {sl_Controls_how_many : Array (Option Value)} {oc_Controls_how_many kV_Controls_how_many dc_Controls_how_many pm_Controls_how_many cd_Controls_how_many ct_Controls_how_many : Value} {f_Controls_keep : Addr} {od_Controls_keep an_Controls_keep : Option Addr} {sl_Controls_keep : Array (Option Value)} {oc_Controls_keep kV_Controls_keep dc_Controls_keep pm_Controls_keep cd_Controls_keep ct_Controls_keep : Value} {f_Controls_forget : Addr} {od_Controls_forget an_Controls_forget : Option Addr} {sl_Controls_forget : Array (Option Value)} {oc_Controls_forget kV_Controls_forget dc_Controls_forget pm_Controls_forget cd_Controls_forget ct_Controls_forget : Value} {f_leave_batch : Addr} {od_leave_batch an_leave_batch : Option Addr} {sl_leave_batch : Array (Option Value)} {oc_leave_batch kV_leave_batch dc_leave_batch pm_leave_batch cd_leave_batch ct_leave_batch : Value} {f_Order_init : Addr} {od_Order_init an_Order_init : Option Addr} {sl_Order_init : Array (Option Value)} {oc_Order_init kV_Order_init dc_Order_init pm_Order_init cd_Order_init ct_Order_init : Value} {f_Orders_init : Addr} {od_Orders_init an_Orders_init : Option Addr} {sl_Orders_init : Array (Option Value)} {oc_Orders_init kV_Orders_init dc_Orders_init pm_Orders_init cd_Orders_init ct_Orders_init : Value} {f_Orders_start : Addr} {od_Orders_start an_Orders_start : Option Addr} {sl_Orders_start : Array (Option Value)} {oc_Orders_start kV_Orders_start dc_Orders_start pm_Orders_start cd_Orders_start ct_Orders_start : Value} {f_Orders_order : Addr} {od_Orders_order an_Orders_order : Option Addr} {sl_Orders_order : Array (Option Value)} {oc_Orders_order kV_Orders_order dc_Orders_order pm_Orders_order cd_Orders_order ct_Orders_order : Value} {f_Orders_begin_batch : Addr} {od_Orders_begin_batch an_Orders_begin_batch : Option Addr} {sl_Orders_begin_batch : Array (Option Value)} {oc_Orders_begin_batch kV_Orders_begin_batch dc_Orders_begin_batch pm_Orders_begin_batch cd_Orders_begin_batch ct_Orders_begin_batch : Value} {f_Orders_run : Addr} {od_Orders_run an_Orders_run : Option Addr} {sl_Orders_run : Array (Option Value)} {oc_Orders_run kV_Orders_run dc_Orders_run pm_Orders_run cd_Orders_run ct_Orders_run : Value} {f_Orders_result : Addr} {od_Orders_result an_Orders_result : Option Addr} {sl_Orders_result : Array (Option Value)} {oc_Orders_result kV_Orders_result dc_Orders_result pm_Orders_result cd_Orders_result ct_Orders_result : Value} {f_Orders_close : Addr} {od_Orders_close an_Orders_close : Option Addr} {sl_Orders_close : Array (Option Value)} {oc_Orders_close kV_Orders_close dc_Orders_close pm_Orders_close cd_Orders_close ct_Orders_close : Value} {f_Orders_give : Addr} {od_Orders_give an_Orders_give : Option Addr} {sl_Orders_give : Array (Option Value)} {oc_Orders_give kV_Orders_give dc_Orders_give pm_Orders_give cd_Orders_give ct_Orders_give : Value} {f_Orders_state : Addr} {od_Orders_state an_Orders_state : Option Addr} {sl_Orders_state : Array (Option Value)} {oc_Orders_state kV_Orders_state dc_Orders_state pm_Orders_state cd_Orders_state ct_Orders_state : Value} {f_Orders_has : Addr} {od_Orders_has an_Orders_has : Option Addr} {sl_Orders_has : Array (Option Value)} {oc_Orders_has kV_Orders_has dc_Orders_has pm_Orders_has cd_Orders_has ct_Orders_has : Value} {f_spot_of : Addr} {od_spot_of an_spot_of : Option Addr} {sl_spot_of : Array (Option Value)} {oc_spot_of kV_spot_of dc_spot_of pm_spot_of cd_spot_of ct_spot_of : Value} {f_Tube_init : Addr} {od_Tube_init an_Tube_init : Option Addr} {sl_Tube_init : Array (Option Value)} {oc_Tube_init kV_Tube_init dc_Tube_init pm_Tube_init cd_Tube_init ct_Tube_init : Value} {f_Tubes_init : Addr} {od_Tubes_init an_Tubes_init : Option Addr} {sl_Tubes_init : Array (Option Value)} {oc_Tubes_init kV_Tubes_init dc_Tubes_init pm_Tubes_init cd_Tubes_init ct_Tubes_init : Value} {f_Tubes_start : Addr} {od_Tubes_start an_Tubes_start : Option Addr} {sl_Tubes_start : Array (Option Value)} {oc_Tubes_start kV_Tubes_start dc_Tubes_start pm_Tubes_start cd_Tubes_start ct_Tubes_start : Value} {f_Tubes_sample : Addr} {od_Tubes_sample an_Tubes_sample : Option Addr} {sl_Tubes_sample : Array (Option Value)} {oc_Tubes_sample kV_Tubes_sample dc_Tubes_sample pm_Tubes_sample cd_Tubes_sample ct_Tubes_sample : Value} {f_Tubes_take : Addr} {od_Tubes_take an_Tubes_take : Option Addr} {sl_Tubes_take : Array (Option Value)} {oc_Tubes_take kV_Tubes_take dc_Tubes_take pm_Tubes_take cd_Tubes_take ct_Tubes_take : Value} {f_Tubes_use : Addr} {od_Tubes_use an_Tubes_use : Option Addr} {sl_Tubes_use : Array (Option Value)} {oc_Tubes_use kV_Tubes_use dc_Tubes_use pm_Tubes_use cd_Tubes_use ct_Tubes_use : Value} {f_Tubes_put : Addr} {od_Tubes_put an_Tubes_put : Option Addr} {sl_Tubes_put : Array (Option Value)} {oc_Tubes_put kV_Tubes_put dc_Tubes_put pm_Tubes_put cd_Tubes_put ct_Tubes_put : Value} {f_Tubes_at : Addr} {od_Tubes_at an_Tubes_at : Option Addr} {sl_Tubes_at : Array (Option Value)} {oc_Tubes_at kV_Tubes_at dc_Tubes_at pm_Tubes_at cd_Tubes_at ct_Tubes_at : Value} {f_Tubes_of : Addr} {od_Tubes_of an_Tubes_of : Option Addr} {sl_Tubes_of : Array (Option Value)} {oc_Tubes_of kV_Tubes_of dc_Tubes_of pm_Tubes_of cd_Tubes_of ct_Tubes_of : Value} {f_Tubes_sum_of : Addr} {od_Tubes_sum_of an_Tubes_sum_of : Option Addr} {sl_Tubes_sum_of : Array (Option Value)} {oc_Tubes_sum_of kV_Tubes_sum_of dc_Tubes_sum_of pm_Tubes_sum_of cd_Tubes_sum_of ct_Tubes_sum_of : Value} {f_Tubes_has : Addr} {od_Tubes_has an_Tubes_has : Option Addr} {sl_Tubes_has : Array (Option Value)} {oc_Tubes_has kV_Tubes_has dc_Tubes_has pm_Tubes_has cd_Tubes_has ct_Tubes_has : Value} {f_Tubes_is_full : Addr} {od_Tubes_is_full an_Tubes_is_full : Option Addr} {sl_Tubes_is_full : Array (Option Value)} {oc_Tubes_is_full kV_Tubes_is_full dc_Tubes_is_full pm_Tubes_is_full cd_Tubes_is_full ct_Tubes_is_full : Value} {f_Tubes_add : Addr} {od_Tubes_add an_Tubes_add : Option Addr} {sl_Tubes_add : Array (Option Value)} {oc_Tubes_add kV_Tubes_add dc_Tubes_add pm_Tubes_add cd_Tubes_add ct_Tubes_add : Value} {f_Tubes_refusal_to_draw : Addr} {od_Tubes_refusal_to_draw an_Tubes_refusal_to_draw : Option Addr} {sl_Tubes_refusal_to_draw : Array (Option Value)} {oc_Tubes_refusal_to_draw kV_Tubes_refusal_to_draw dc_Tubes_refusal_to_draw pm_Tubes_refusal_to_draw cd_Tubes_refusal_to_draw ct_Tubes_refusal_to_draw : Value} {f_Tubes_standing_at : Addr} {od_Tubes_standing_at an_Tubes_standing_at : Option Addr} {sl_Tubes_standing_at : Array (Option Value)} {oc_Tubes_standing_at kV_Tubes_standing_at dc_Tubes_standing_at pm_Tubes_standing_at cd_Tubes_standing_at ct_Tubes_standing_at : Value} {f_call_end : Addr} {od_call_end an_call_end : Option Addr} {sl_call_end : Array (Option Value)} {oc_call_end kV_call_end dc_call_end pm_call_end cd_call_end ct_call_end : Value} {f_controls_answer : Addr} {od_controls_answer an_controls_answer : Option Addr} {sl_controls_answer : Array (Option Value)} {oc_controls_answer kV_controls_answer dc_controls_answer pm_controls_answer cd_controls_answer ct_controls_answer : Value} {f_tubes_answer : Addr} {od_tubes_answer an_tubes_answer : Option Addr} {sl_tubes_answer : Array (Option Value)} {oc_tubes_answer kV_tubes_answer dc_tubes_answer pm_tubes_answer cd_tubes_answer ct_tubes_answer : Value} {f_orders_answer : Addr} {od_orders_answer an_orders_answer : Option Addr} {sl_orders_answer : Array (Option Value)} {oc_orders_answer kV_orders_answer dc_orders_answer pm_orders_answer cd_orders_answer ct_orders_answer : Value} {f_answers : Addr} {od_answers an_answers : Option Addr} {sl_answers : Array (Option Value)} {oc_answers kV_answers dc_answers pm_answers cd_answers ct_answers : Value} {t_NO_SUCH : Tok} {t_NOT_NOW : Tok} {t_BUSY : Tok} {t_ALREADY : Tok} {t_NOT_AS_TOLD : Tok} {t_FULL : Tok} {t_TOO_LITTLE : Tok} {t_OTHER_PATIENT : Tok} {t_FARTHEST_MEAN : Tok} {t_WIDEST_SPREAD : Tok} {t_MOST_VALUES : Tok} {t_MOST_COUNTED : Tok} {t_LOOKED_BACK : Tok} {t_MOST_ORDERS : Tok} {t_LAST_TEST : Tok} {t_WAITS : Tok} {t_IN_BATCH : Tok} {t_HAS_RESULT : Tok} {t_READY : Tok} {t_GIVEN_OUT : Tok} {t_MOST_TUBES : Tok} {t_LAST_RACK : Tok} {t_LAST_PLACE : Tok} {t_NOWHERE : Tok} {t_LEFT_MODULUS : Tok} {t_START_CONTROLS : Tok} {t_BATCH : Tok} {t_START_TUBES : Tok} {t_SAMPLE : Tok} {t_TAKE : Tok} {t_USE : Tok} {t_PUT : Tok} {t_AT : Tok} {t_OF : Tok} {t_START_ORDERS : Tok} {t_ORDER : Tok} {t_BEGIN_BATCH : Tok} {t_RUN : Tok} {t_RESULT : Tok} {t_CLOSE : Tok} {t_GIVE : Tok} {x_HANDED_OVER : Addr} {o_HANDED_OVER : Obj}
    (ac_Controls : PySem.W.nsIn K mainGlobals "Controls" = some (some (.ref C_Controls)))
    (ac_Order : PySem.W.nsIn K mainGlobals "Order" = some (some (.ref C_Order)))
    (ac_Orders : PySem.W.nsIn K mainGlobals "Orders" = some (some (.ref C_Orders)))
    (ac_Tube : PySem.W.nsIn K mainGlobals "Tube" = some (some (.ref C_Tube)))
    (ac_Tubes : PySem.W.nsIn K mainGlobals "Tubes" = some (some (.ref C_Tubes)))
    (a_one_sided : PySem.W.nsIn K mainGlobals "one_sided" = some (some (.ref f_one_sided)))
    (l_one_sided : K.lookup f_one_sided = some ⟨oc_one_sided, od_one_sided, .func (PySem.W.fnOf "one_sided" "one_sided" (defArgs s_one_sided) (defBody s_one_sided) (defScope s_one_sided) .none kV_one_sided dc_one_sided pm_one_sided an_one_sided cd_one_sided ct_one_sided), sl_one_sided⟩)
    (e_one_sided : PySem.W.codeIn K cd_one_sided "one_sided" = true)
    (p_one_sided : PySem.W.keepIn K (.ref f_one_sided) = true)
    (a_broken_in_a_row : PySem.W.nsIn K mainGlobals "broken_in_a_row" = some (some (.ref f_broken_in_a_row)))
    (l_broken_in_a_row : K.lookup f_broken_in_a_row = some ⟨oc_broken_in_a_row, od_broken_in_a_row, .func (PySem.W.fnOf "broken_in_a_row" "broken_in_a_row" (defArgs s_broken_in_a_row) (defBody s_broken_in_a_row) (defScope s_broken_in_a_row) .none kV_broken_in_a_row dc_broken_in_a_row pm_broken_in_a_row an_broken_in_a_row cd_broken_in_a_row ct_broken_in_a_row), sl_broken_in_a_row⟩)
    (e_broken_in_a_row : PySem.W.codeIn K cd_broken_in_a_row "broken_in_a_row" = true)
    (p_broken_in_a_row : PySem.W.keepIn K (.ref f_broken_in_a_row) = true)
    (a_far_apart : PySem.W.nsIn K mainGlobals "far_apart" = some (some (.ref f_far_apart)))
    (l_far_apart : K.lookup f_far_apart = some ⟨oc_far_apart, od_far_apart, .func (PySem.W.fnOf "far_apart" "far_apart" (defArgs s_far_apart) (defBody s_far_apart) (defScope s_far_apart) .none kV_far_apart dc_far_apart pm_far_apart an_far_apart cd_far_apart ct_far_apart), sl_far_apart⟩)
    (e_far_apart : PySem.W.codeIn K cd_far_apart "far_apart" = true)
    (p_far_apart : PySem.W.keepIn K (.ref f_far_apart) = true)
    (a_broken_rules : PySem.W.nsIn K mainGlobals "broken_rules" = some (some (.ref f_broken_rules)))
    (l_broken_rules : K.lookup f_broken_rules = some ⟨oc_broken_rules, od_broken_rules, .func (PySem.W.fnOf "broken_rules" "broken_rules" (defArgs s_broken_rules) (defBody s_broken_rules) (defScope s_broken_rules) .none kV_broken_rules dc_broken_rules pm_broken_rules an_broken_rules cd_broken_rules ct_broken_rules), sl_broken_rules⟩)
    (e_broken_rules : PySem.W.codeIn K cd_broken_rules "broken_rules" = true)
    (p_broken_rules : PySem.W.keepIn K (.ref f_broken_rules) = true)
    (a_Controls_init : PySem.W.findIn K (.ref C_Controls) "__init__" = some (some (.ref f_Controls_init)))
    (i_Controls_init : PySem.W.isFn K (.ref f_Controls_init) = true)
    (l_Controls_init : K.lookup f_Controls_init = some ⟨oc_Controls_init, od_Controls_init, .func (PySem.W.fnOf "__init__" "Controls.__init__" (defArgs s_Controls_init) (defBody s_Controls_init) (defScope s_Controls_init) .none kV_Controls_init dc_Controls_init pm_Controls_init an_Controls_init cd_Controls_init ct_Controls_init), sl_Controls_init⟩)
    (e_Controls_init : PySem.W.codeIn K cd_Controls_init "Controls.__init__" = true)
    (p_Controls_init : PySem.W.keepIn K (.ref f_Controls_init) = true)
    (a_Controls_start : PySem.W.findIn K (.ref C_Controls) "start" = some (some (.ref f_Controls_start)))
    (i_Controls_start : PySem.W.isFn K (.ref f_Controls_start) = true)
    (l_Controls_start : K.lookup f_Controls_start = some ⟨oc_Controls_start, od_Controls_start, .func (PySem.W.fnOf "start" "Controls.start" (defArgs s_Controls_start) (defBody s_Controls_start) (defScope s_Controls_start) .none kV_Controls_start dc_Controls_start pm_Controls_start an_Controls_start cd_Controls_start ct_Controls_start), sl_Controls_start⟩)
    (e_Controls_start : PySem.W.codeIn K cd_Controls_start "Controls.start" = true)
    (p_Controls_start : PySem.W.keepIn K (.ref f_Controls_start) = true)
    (a_Controls_batch : PySem.W.findIn K (.ref C_Controls) "batch" = some (some (.ref f_Controls_batch)))
    (i_Controls_batch : PySem.W.isFn K (.ref f_Controls_batch) = true)
    (l_Controls_batch : K.lookup f_Controls_batch = some ⟨oc_Controls_batch, od_Controls_batch, .func (PySem.W.fnOf "batch" "Controls.batch" (defArgs s_Controls_batch) (defBody s_Controls_batch) (defScope s_Controls_batch) .none kV_Controls_batch dc_Controls_batch pm_Controls_batch an_Controls_batch cd_Controls_batch ct_Controls_batch), sl_Controls_batch⟩)
    (e_Controls_batch : PySem.W.codeIn K cd_Controls_batch "Controls.batch" = true)
    (p_Controls_batch : PySem.W.keepIn K (.ref f_Controls_batch) = true)
    (a_Controls_how_many : PySem.W.findIn K (.ref C_Controls) "how_many" = some (some (.ref f_Controls_how_many)))
    (i_Controls_how_many : PySem.W.isFn K (.ref f_Controls_how_many) = true)
    (l_Controls_how_many : K.lookup f_Controls_how_many = some ⟨oc_Controls_how_many, od_Controls_how_many, .func (PySem.W.fnOf "how_many" "Controls.how_many" (defArgs s_Controls_how_many) (defBody s_Controls_how_many) (defScope s_Controls_how_many) .none kV_Controls_how_many dc_Controls_how_many pm_Controls_how_many an_Controls_how_many cd_Controls_how_many ct_Controls_how_many), sl_Controls_how_many⟩)
    (e_Controls_how_many : PySem.W.codeIn K cd_Controls_how_many "Controls.how_many" = true)
    (p_Controls_how_many : PySem.W.keepIn K (.ref f_Controls_how_many) = true)
    (a_Controls_keep : PySem.W.findIn K (.ref C_Controls) "keep" = some (some (.ref f_Controls_keep)))
    (i_Controls_keep : PySem.W.isFn K (.ref f_Controls_keep) = true)
    (l_Controls_keep : K.lookup f_Controls_keep = some ⟨oc_Controls_keep, od_Controls_keep, .func (PySem.W.fnOf "keep" "Controls.keep" (defArgs s_Controls_keep) (defBody s_Controls_keep) (defScope s_Controls_keep) .none kV_Controls_keep dc_Controls_keep pm_Controls_keep an_Controls_keep cd_Controls_keep ct_Controls_keep), sl_Controls_keep⟩)
    (e_Controls_keep : PySem.W.codeIn K cd_Controls_keep "Controls.keep" = true)
    (p_Controls_keep : PySem.W.keepIn K (.ref f_Controls_keep) = true)
    (a_Controls_forget : PySem.W.findIn K (.ref C_Controls) "forget" = some (some (.ref f_Controls_forget)))
    (i_Controls_forget : PySem.W.isFn K (.ref f_Controls_forget) = true)
    (l_Controls_forget : K.lookup f_Controls_forget = some ⟨oc_Controls_forget, od_Controls_forget, .func (PySem.W.fnOf "forget" "Controls.forget" (defArgs s_Controls_forget) (defBody s_Controls_forget) (defScope s_Controls_forget) .none kV_Controls_forget dc_Controls_forget pm_Controls_forget an_Controls_forget cd_Controls_forget ct_Controls_forget), sl_Controls_forget⟩)
    (e_Controls_forget : PySem.W.codeIn K cd_Controls_forget "Controls.forget" = true)
    (p_Controls_forget : PySem.W.keepIn K (.ref f_Controls_forget) = true)
    (a_leave_batch : PySem.W.nsIn K mainGlobals "leave_batch" = some (some (.ref f_leave_batch)))
    (l_leave_batch : K.lookup f_leave_batch = some ⟨oc_leave_batch, od_leave_batch, .func (PySem.W.fnOf "leave_batch" "leave_batch" (defArgs s_leave_batch) (defBody s_leave_batch) (defScope s_leave_batch) .none kV_leave_batch dc_leave_batch pm_leave_batch an_leave_batch cd_leave_batch ct_leave_batch), sl_leave_batch⟩)
    (e_leave_batch : PySem.W.codeIn K cd_leave_batch "leave_batch" = true)
    (p_leave_batch : PySem.W.keepIn K (.ref f_leave_batch) = true)
    (a_Order_init : PySem.W.findIn K (.ref C_Order) "__init__" = some (some (.ref f_Order_init)))
    (i_Order_init : PySem.W.isFn K (.ref f_Order_init) = true)
    (l_Order_init : K.lookup f_Order_init = some ⟨oc_Order_init, od_Order_init, .func (PySem.W.fnOf "__init__" "Order.__init__" (defArgs s_Order_init) (defBody s_Order_init) (defScope s_Order_init) .none kV_Order_init dc_Order_init pm_Order_init an_Order_init cd_Order_init ct_Order_init), sl_Order_init⟩)
    (e_Order_init : PySem.W.codeIn K cd_Order_init "Order.__init__" = true)
    (p_Order_init : PySem.W.keepIn K (.ref f_Order_init) = true)
    (a_Orders_init : PySem.W.findIn K (.ref C_Orders) "__init__" = some (some (.ref f_Orders_init)))
    (i_Orders_init : PySem.W.isFn K (.ref f_Orders_init) = true)
    (l_Orders_init : K.lookup f_Orders_init = some ⟨oc_Orders_init, od_Orders_init, .func (PySem.W.fnOf "__init__" "Orders.__init__" (defArgs s_Orders_init) (defBody s_Orders_init) (defScope s_Orders_init) .none kV_Orders_init dc_Orders_init pm_Orders_init an_Orders_init cd_Orders_init ct_Orders_init), sl_Orders_init⟩)
    (e_Orders_init : PySem.W.codeIn K cd_Orders_init "Orders.__init__" = true)
    (p_Orders_init : PySem.W.keepIn K (.ref f_Orders_init) = true)
    (a_Orders_start : PySem.W.findIn K (.ref C_Orders) "start" = some (some (.ref f_Orders_start)))
    (i_Orders_start : PySem.W.isFn K (.ref f_Orders_start) = true)
    (l_Orders_start : K.lookup f_Orders_start = some ⟨oc_Orders_start, od_Orders_start, .func (PySem.W.fnOf "start" "Orders.start" (defArgs s_Orders_start) (defBody s_Orders_start) (defScope s_Orders_start) .none kV_Orders_start dc_Orders_start pm_Orders_start an_Orders_start cd_Orders_start ct_Orders_start), sl_Orders_start⟩)
    (e_Orders_start : PySem.W.codeIn K cd_Orders_start "Orders.start" = true)
    (p_Orders_start : PySem.W.keepIn K (.ref f_Orders_start) = true)
    (a_Orders_order : PySem.W.findIn K (.ref C_Orders) "order" = some (some (.ref f_Orders_order)))
    (i_Orders_order : PySem.W.isFn K (.ref f_Orders_order) = true)
    (l_Orders_order : K.lookup f_Orders_order = some ⟨oc_Orders_order, od_Orders_order, .func (PySem.W.fnOf "order" "Orders.order" (defArgs s_Orders_order) (defBody s_Orders_order) (defScope s_Orders_order) .none kV_Orders_order dc_Orders_order pm_Orders_order an_Orders_order cd_Orders_order ct_Orders_order), sl_Orders_order⟩)
    (e_Orders_order : PySem.W.codeIn K cd_Orders_order "Orders.order" = true)
    (p_Orders_order : PySem.W.keepIn K (.ref f_Orders_order) = true)
    (a_Orders_begin_batch : PySem.W.findIn K (.ref C_Orders) "begin_batch" = some (some (.ref f_Orders_begin_batch)))
    (i_Orders_begin_batch : PySem.W.isFn K (.ref f_Orders_begin_batch) = true)
    (l_Orders_begin_batch : K.lookup f_Orders_begin_batch = some ⟨oc_Orders_begin_batch, od_Orders_begin_batch, .func (PySem.W.fnOf "begin_batch" "Orders.begin_batch" (defArgs s_Orders_begin_batch) (defBody s_Orders_begin_batch) (defScope s_Orders_begin_batch) .none kV_Orders_begin_batch dc_Orders_begin_batch pm_Orders_begin_batch an_Orders_begin_batch cd_Orders_begin_batch ct_Orders_begin_batch), sl_Orders_begin_batch⟩)
    (e_Orders_begin_batch : PySem.W.codeIn K cd_Orders_begin_batch "Orders.begin_batch" = true)
    (p_Orders_begin_batch : PySem.W.keepIn K (.ref f_Orders_begin_batch) = true)
    (a_Orders_run : PySem.W.findIn K (.ref C_Orders) "run" = some (some (.ref f_Orders_run)))
    (i_Orders_run : PySem.W.isFn K (.ref f_Orders_run) = true)
    (l_Orders_run : K.lookup f_Orders_run = some ⟨oc_Orders_run, od_Orders_run, .func (PySem.W.fnOf "run" "Orders.run" (defArgs s_Orders_run) (defBody s_Orders_run) (defScope s_Orders_run) .none kV_Orders_run dc_Orders_run pm_Orders_run an_Orders_run cd_Orders_run ct_Orders_run), sl_Orders_run⟩)
    (e_Orders_run : PySem.W.codeIn K cd_Orders_run "Orders.run" = true)
    (p_Orders_run : PySem.W.keepIn K (.ref f_Orders_run) = true)
    (a_Orders_result : PySem.W.findIn K (.ref C_Orders) "result" = some (some (.ref f_Orders_result)))
    (i_Orders_result : PySem.W.isFn K (.ref f_Orders_result) = true)
    (l_Orders_result : K.lookup f_Orders_result = some ⟨oc_Orders_result, od_Orders_result, .func (PySem.W.fnOf "result" "Orders.result" (defArgs s_Orders_result) (defBody s_Orders_result) (defScope s_Orders_result) .none kV_Orders_result dc_Orders_result pm_Orders_result an_Orders_result cd_Orders_result ct_Orders_result), sl_Orders_result⟩)
    (e_Orders_result : PySem.W.codeIn K cd_Orders_result "Orders.result" = true)
    (p_Orders_result : PySem.W.keepIn K (.ref f_Orders_result) = true)
    (a_Orders_close : PySem.W.findIn K (.ref C_Orders) "close" = some (some (.ref f_Orders_close)))
    (i_Orders_close : PySem.W.isFn K (.ref f_Orders_close) = true)
    (l_Orders_close : K.lookup f_Orders_close = some ⟨oc_Orders_close, od_Orders_close, .func (PySem.W.fnOf "close" "Orders.close" (defArgs s_Orders_close) (defBody s_Orders_close) (defScope s_Orders_close) .none kV_Orders_close dc_Orders_close pm_Orders_close an_Orders_close cd_Orders_close ct_Orders_close), sl_Orders_close⟩)
    (e_Orders_close : PySem.W.codeIn K cd_Orders_close "Orders.close" = true)
    (p_Orders_close : PySem.W.keepIn K (.ref f_Orders_close) = true)
    (a_Orders_give : PySem.W.findIn K (.ref C_Orders) "give" = some (some (.ref f_Orders_give)))
    (i_Orders_give : PySem.W.isFn K (.ref f_Orders_give) = true)
    (l_Orders_give : K.lookup f_Orders_give = some ⟨oc_Orders_give, od_Orders_give, .func (PySem.W.fnOf "give" "Orders.give" (defArgs s_Orders_give) (defBody s_Orders_give) (defScope s_Orders_give) .none kV_Orders_give dc_Orders_give pm_Orders_give an_Orders_give cd_Orders_give ct_Orders_give), sl_Orders_give⟩)
    (e_Orders_give : PySem.W.codeIn K cd_Orders_give "Orders.give" = true)
    (p_Orders_give : PySem.W.keepIn K (.ref f_Orders_give) = true)
    (a_Orders_state : PySem.W.findIn K (.ref C_Orders) "state" = some (some (.ref f_Orders_state)))
    (i_Orders_state : PySem.W.isFn K (.ref f_Orders_state) = true)
    (l_Orders_state : K.lookup f_Orders_state = some ⟨oc_Orders_state, od_Orders_state, .func (PySem.W.fnOf "state" "Orders.state" (defArgs s_Orders_state) (defBody s_Orders_state) (defScope s_Orders_state) .none kV_Orders_state dc_Orders_state pm_Orders_state an_Orders_state cd_Orders_state ct_Orders_state), sl_Orders_state⟩)
    (e_Orders_state : PySem.W.codeIn K cd_Orders_state "Orders.state" = true)
    (p_Orders_state : PySem.W.keepIn K (.ref f_Orders_state) = true)
    (a_Orders_has : PySem.W.findIn K (.ref C_Orders) "has" = some (some (.ref f_Orders_has)))
    (i_Orders_has : PySem.W.isFn K (.ref f_Orders_has) = true)
    (l_Orders_has : K.lookup f_Orders_has = some ⟨oc_Orders_has, od_Orders_has, .func (PySem.W.fnOf "has" "Orders.has" (defArgs s_Orders_has) (defBody s_Orders_has) (defScope s_Orders_has) .none kV_Orders_has dc_Orders_has pm_Orders_has an_Orders_has cd_Orders_has ct_Orders_has), sl_Orders_has⟩)
    (e_Orders_has : PySem.W.codeIn K cd_Orders_has "Orders.has" = true)
    (p_Orders_has : PySem.W.keepIn K (.ref f_Orders_has) = true)
    (a_spot_of : PySem.W.nsIn K mainGlobals "spot_of" = some (some (.ref f_spot_of)))
    (l_spot_of : K.lookup f_spot_of = some ⟨oc_spot_of, od_spot_of, .func (PySem.W.fnOf "spot_of" "spot_of" (defArgs s_spot_of) (defBody s_spot_of) (defScope s_spot_of) .none kV_spot_of dc_spot_of pm_spot_of an_spot_of cd_spot_of ct_spot_of), sl_spot_of⟩)
    (e_spot_of : PySem.W.codeIn K cd_spot_of "spot_of" = true)
    (p_spot_of : PySem.W.keepIn K (.ref f_spot_of) = true)
    (a_Tube_init : PySem.W.findIn K (.ref C_Tube) "__init__" = some (some (.ref f_Tube_init)))
    (i_Tube_init : PySem.W.isFn K (.ref f_Tube_init) = true)
    (l_Tube_init : K.lookup f_Tube_init = some ⟨oc_Tube_init, od_Tube_init, .func (PySem.W.fnOf "__init__" "Tube.__init__" (defArgs s_Tube_init) (defBody s_Tube_init) (defScope s_Tube_init) .none kV_Tube_init dc_Tube_init pm_Tube_init an_Tube_init cd_Tube_init ct_Tube_init), sl_Tube_init⟩)
    (e_Tube_init : PySem.W.codeIn K cd_Tube_init "Tube.__init__" = true)
    (p_Tube_init : PySem.W.keepIn K (.ref f_Tube_init) = true)
    (a_Tubes_init : PySem.W.findIn K (.ref C_Tubes) "__init__" = some (some (.ref f_Tubes_init)))
    (i_Tubes_init : PySem.W.isFn K (.ref f_Tubes_init) = true)
    (l_Tubes_init : K.lookup f_Tubes_init = some ⟨oc_Tubes_init, od_Tubes_init, .func (PySem.W.fnOf "__init__" "Tubes.__init__" (defArgs s_Tubes_init) (defBody s_Tubes_init) (defScope s_Tubes_init) .none kV_Tubes_init dc_Tubes_init pm_Tubes_init an_Tubes_init cd_Tubes_init ct_Tubes_init), sl_Tubes_init⟩)
    (e_Tubes_init : PySem.W.codeIn K cd_Tubes_init "Tubes.__init__" = true)
    (p_Tubes_init : PySem.W.keepIn K (.ref f_Tubes_init) = true)
    (a_Tubes_start : PySem.W.findIn K (.ref C_Tubes) "start" = some (some (.ref f_Tubes_start)))
    (i_Tubes_start : PySem.W.isFn K (.ref f_Tubes_start) = true)
    (l_Tubes_start : K.lookup f_Tubes_start = some ⟨oc_Tubes_start, od_Tubes_start, .func (PySem.W.fnOf "start" "Tubes.start" (defArgs s_Tubes_start) (defBody s_Tubes_start) (defScope s_Tubes_start) .none kV_Tubes_start dc_Tubes_start pm_Tubes_start an_Tubes_start cd_Tubes_start ct_Tubes_start), sl_Tubes_start⟩)
    (e_Tubes_start : PySem.W.codeIn K cd_Tubes_start "Tubes.start" = true)
    (p_Tubes_start : PySem.W.keepIn K (.ref f_Tubes_start) = true)
    (a_Tubes_sample : PySem.W.findIn K (.ref C_Tubes) "sample" = some (some (.ref f_Tubes_sample)))
    (i_Tubes_sample : PySem.W.isFn K (.ref f_Tubes_sample) = true)
    (l_Tubes_sample : K.lookup f_Tubes_sample = some ⟨oc_Tubes_sample, od_Tubes_sample, .func (PySem.W.fnOf "sample" "Tubes.sample" (defArgs s_Tubes_sample) (defBody s_Tubes_sample) (defScope s_Tubes_sample) .none kV_Tubes_sample dc_Tubes_sample pm_Tubes_sample an_Tubes_sample cd_Tubes_sample ct_Tubes_sample), sl_Tubes_sample⟩)
    (e_Tubes_sample : PySem.W.codeIn K cd_Tubes_sample "Tubes.sample" = true)
    (p_Tubes_sample : PySem.W.keepIn K (.ref f_Tubes_sample) = true)
    (a_Tubes_take : PySem.W.findIn K (.ref C_Tubes) "take" = some (some (.ref f_Tubes_take)))
    (i_Tubes_take : PySem.W.isFn K (.ref f_Tubes_take) = true)
    (l_Tubes_take : K.lookup f_Tubes_take = some ⟨oc_Tubes_take, od_Tubes_take, .func (PySem.W.fnOf "take" "Tubes.take" (defArgs s_Tubes_take) (defBody s_Tubes_take) (defScope s_Tubes_take) .none kV_Tubes_take dc_Tubes_take pm_Tubes_take an_Tubes_take cd_Tubes_take ct_Tubes_take), sl_Tubes_take⟩)
    (e_Tubes_take : PySem.W.codeIn K cd_Tubes_take "Tubes.take" = true)
    (p_Tubes_take : PySem.W.keepIn K (.ref f_Tubes_take) = true)
    (a_Tubes_use : PySem.W.findIn K (.ref C_Tubes) "use" = some (some (.ref f_Tubes_use)))
    (i_Tubes_use : PySem.W.isFn K (.ref f_Tubes_use) = true)
    (l_Tubes_use : K.lookup f_Tubes_use = some ⟨oc_Tubes_use, od_Tubes_use, .func (PySem.W.fnOf "use" "Tubes.use" (defArgs s_Tubes_use) (defBody s_Tubes_use) (defScope s_Tubes_use) .none kV_Tubes_use dc_Tubes_use pm_Tubes_use an_Tubes_use cd_Tubes_use ct_Tubes_use), sl_Tubes_use⟩)
    (e_Tubes_use : PySem.W.codeIn K cd_Tubes_use "Tubes.use" = true)
    (p_Tubes_use : PySem.W.keepIn K (.ref f_Tubes_use) = true)
    (a_Tubes_put : PySem.W.findIn K (.ref C_Tubes) "put" = some (some (.ref f_Tubes_put)))
    (i_Tubes_put : PySem.W.isFn K (.ref f_Tubes_put) = true)
    (l_Tubes_put : K.lookup f_Tubes_put = some ⟨oc_Tubes_put, od_Tubes_put, .func (PySem.W.fnOf "put" "Tubes.put" (defArgs s_Tubes_put) (defBody s_Tubes_put) (defScope s_Tubes_put) .none kV_Tubes_put dc_Tubes_put pm_Tubes_put an_Tubes_put cd_Tubes_put ct_Tubes_put), sl_Tubes_put⟩)
    (e_Tubes_put : PySem.W.codeIn K cd_Tubes_put "Tubes.put" = true)
    (p_Tubes_put : PySem.W.keepIn K (.ref f_Tubes_put) = true)
    (a_Tubes_at : PySem.W.findIn K (.ref C_Tubes) "at" = some (some (.ref f_Tubes_at)))
    (i_Tubes_at : PySem.W.isFn K (.ref f_Tubes_at) = true)
    (l_Tubes_at : K.lookup f_Tubes_at = some ⟨oc_Tubes_at, od_Tubes_at, .func (PySem.W.fnOf "at" "Tubes.at" (defArgs s_Tubes_at) (defBody s_Tubes_at) (defScope s_Tubes_at) .none kV_Tubes_at dc_Tubes_at pm_Tubes_at an_Tubes_at cd_Tubes_at ct_Tubes_at), sl_Tubes_at⟩)
    (e_Tubes_at : PySem.W.codeIn K cd_Tubes_at "Tubes.at" = true)
    (p_Tubes_at : PySem.W.keepIn K (.ref f_Tubes_at) = true)
    (a_Tubes_of : PySem.W.findIn K (.ref C_Tubes) "of" = some (some (.ref f_Tubes_of)))
    (i_Tubes_of : PySem.W.isFn K (.ref f_Tubes_of) = true)
    (l_Tubes_of : K.lookup f_Tubes_of = some ⟨oc_Tubes_of, od_Tubes_of, .func (PySem.W.fnOf "of" "Tubes.of" (defArgs s_Tubes_of) (defBody s_Tubes_of) (defScope s_Tubes_of) .none kV_Tubes_of dc_Tubes_of pm_Tubes_of an_Tubes_of cd_Tubes_of ct_Tubes_of), sl_Tubes_of⟩)
    (e_Tubes_of : PySem.W.codeIn K cd_Tubes_of "Tubes.of" = true)
    (p_Tubes_of : PySem.W.keepIn K (.ref f_Tubes_of) = true)
    (a_Tubes_sum_of : PySem.W.findIn K (.ref C_Tubes) "sum_of" = some (some (.ref f_Tubes_sum_of)))
    (i_Tubes_sum_of : PySem.W.isFn K (.ref f_Tubes_sum_of) = true)
    (l_Tubes_sum_of : K.lookup f_Tubes_sum_of = some ⟨oc_Tubes_sum_of, od_Tubes_sum_of, .func (PySem.W.fnOf "sum_of" "Tubes.sum_of" (defArgs s_Tubes_sum_of) (defBody s_Tubes_sum_of) (defScope s_Tubes_sum_of) .none kV_Tubes_sum_of dc_Tubes_sum_of pm_Tubes_sum_of an_Tubes_sum_of cd_Tubes_sum_of ct_Tubes_sum_of), sl_Tubes_sum_of⟩)
    (e_Tubes_sum_of : PySem.W.codeIn K cd_Tubes_sum_of "Tubes.sum_of" = true)
    (p_Tubes_sum_of : PySem.W.keepIn K (.ref f_Tubes_sum_of) = true)
    (a_Tubes_has : PySem.W.findIn K (.ref C_Tubes) "has" = some (some (.ref f_Tubes_has)))
    (i_Tubes_has : PySem.W.isFn K (.ref f_Tubes_has) = true)
    (l_Tubes_has : K.lookup f_Tubes_has = some ⟨oc_Tubes_has, od_Tubes_has, .func (PySem.W.fnOf "has" "Tubes.has" (defArgs s_Tubes_has) (defBody s_Tubes_has) (defScope s_Tubes_has) .none kV_Tubes_has dc_Tubes_has pm_Tubes_has an_Tubes_has cd_Tubes_has ct_Tubes_has), sl_Tubes_has⟩)
    (e_Tubes_has : PySem.W.codeIn K cd_Tubes_has "Tubes.has" = true)
    (p_Tubes_has : PySem.W.keepIn K (.ref f_Tubes_has) = true)
    (a_Tubes_is_full : PySem.W.findIn K (.ref C_Tubes) "is_full" = some (some (.ref f_Tubes_is_full)))
    (i_Tubes_is_full : PySem.W.isFn K (.ref f_Tubes_is_full) = true)
    (l_Tubes_is_full : K.lookup f_Tubes_is_full = some ⟨oc_Tubes_is_full, od_Tubes_is_full, .func (PySem.W.fnOf "is_full" "Tubes.is_full" (defArgs s_Tubes_is_full) (defBody s_Tubes_is_full) (defScope s_Tubes_is_full) .none kV_Tubes_is_full dc_Tubes_is_full pm_Tubes_is_full an_Tubes_is_full cd_Tubes_is_full ct_Tubes_is_full), sl_Tubes_is_full⟩)
    (e_Tubes_is_full : PySem.W.codeIn K cd_Tubes_is_full "Tubes.is_full" = true)
    (p_Tubes_is_full : PySem.W.keepIn K (.ref f_Tubes_is_full) = true)
    (a_Tubes_add : PySem.W.findIn K (.ref C_Tubes) "add" = some (some (.ref f_Tubes_add)))
    (i_Tubes_add : PySem.W.isFn K (.ref f_Tubes_add) = true)
    (l_Tubes_add : K.lookup f_Tubes_add = some ⟨oc_Tubes_add, od_Tubes_add, .func (PySem.W.fnOf "add" "Tubes.add" (defArgs s_Tubes_add) (defBody s_Tubes_add) (defScope s_Tubes_add) .none kV_Tubes_add dc_Tubes_add pm_Tubes_add an_Tubes_add cd_Tubes_add ct_Tubes_add), sl_Tubes_add⟩)
    (e_Tubes_add : PySem.W.codeIn K cd_Tubes_add "Tubes.add" = true)
    (p_Tubes_add : PySem.W.keepIn K (.ref f_Tubes_add) = true)
    (a_Tubes_refusal_to_draw : PySem.W.findIn K (.ref C_Tubes) "refusal_to_draw" = some (some (.ref f_Tubes_refusal_to_draw)))
    (i_Tubes_refusal_to_draw : PySem.W.isFn K (.ref f_Tubes_refusal_to_draw) = true)
    (l_Tubes_refusal_to_draw : K.lookup f_Tubes_refusal_to_draw = some ⟨oc_Tubes_refusal_to_draw, od_Tubes_refusal_to_draw, .func (PySem.W.fnOf "refusal_to_draw" "Tubes.refusal_to_draw" (defArgs s_Tubes_refusal_to_draw) (defBody s_Tubes_refusal_to_draw) (defScope s_Tubes_refusal_to_draw) .none kV_Tubes_refusal_to_draw dc_Tubes_refusal_to_draw pm_Tubes_refusal_to_draw an_Tubes_refusal_to_draw cd_Tubes_refusal_to_draw ct_Tubes_refusal_to_draw), sl_Tubes_refusal_to_draw⟩)
    (e_Tubes_refusal_to_draw : PySem.W.codeIn K cd_Tubes_refusal_to_draw "Tubes.refusal_to_draw" = true)
    (p_Tubes_refusal_to_draw : PySem.W.keepIn K (.ref f_Tubes_refusal_to_draw) = true)
    (a_Tubes_standing_at : PySem.W.findIn K (.ref C_Tubes) "standing_at" = some (some (.ref f_Tubes_standing_at)))
    (i_Tubes_standing_at : PySem.W.isFn K (.ref f_Tubes_standing_at) = true)
    (l_Tubes_standing_at : K.lookup f_Tubes_standing_at = some ⟨oc_Tubes_standing_at, od_Tubes_standing_at, .func (PySem.W.fnOf "standing_at" "Tubes.standing_at" (defArgs s_Tubes_standing_at) (defBody s_Tubes_standing_at) (defScope s_Tubes_standing_at) .none kV_Tubes_standing_at dc_Tubes_standing_at pm_Tubes_standing_at an_Tubes_standing_at cd_Tubes_standing_at ct_Tubes_standing_at), sl_Tubes_standing_at⟩)
    (e_Tubes_standing_at : PySem.W.codeIn K cd_Tubes_standing_at "Tubes.standing_at" = true)
    (p_Tubes_standing_at : PySem.W.keepIn K (.ref f_Tubes_standing_at) = true)
    (a_call_end : PySem.W.nsIn K mainGlobals "call_end" = some (some (.ref f_call_end)))
    (l_call_end : K.lookup f_call_end = some ⟨oc_call_end, od_call_end, .func (PySem.W.fnOf "call_end" "call_end" (defArgs s_call_end) (defBody s_call_end) (defScope s_call_end) .none kV_call_end dc_call_end pm_call_end an_call_end cd_call_end ct_call_end), sl_call_end⟩)
    (e_call_end : PySem.W.codeIn K cd_call_end "call_end" = true)
    (p_call_end : PySem.W.keepIn K (.ref f_call_end) = true)
    (a_controls_answer : PySem.W.nsIn K mainGlobals "controls_answer" = some (some (.ref f_controls_answer)))
    (l_controls_answer : K.lookup f_controls_answer = some ⟨oc_controls_answer, od_controls_answer, .func (PySem.W.fnOf "controls_answer" "controls_answer" (defArgs s_controls_answer) (defBody s_controls_answer) (defScope s_controls_answer) .none kV_controls_answer dc_controls_answer pm_controls_answer an_controls_answer cd_controls_answer ct_controls_answer), sl_controls_answer⟩)
    (e_controls_answer : PySem.W.codeIn K cd_controls_answer "controls_answer" = true)
    (p_controls_answer : PySem.W.keepIn K (.ref f_controls_answer) = true)
    (a_tubes_answer : PySem.W.nsIn K mainGlobals "tubes_answer" = some (some (.ref f_tubes_answer)))
    (l_tubes_answer : K.lookup f_tubes_answer = some ⟨oc_tubes_answer, od_tubes_answer, .func (PySem.W.fnOf "tubes_answer" "tubes_answer" (defArgs s_tubes_answer) (defBody s_tubes_answer) (defScope s_tubes_answer) .none kV_tubes_answer dc_tubes_answer pm_tubes_answer an_tubes_answer cd_tubes_answer ct_tubes_answer), sl_tubes_answer⟩)
    (e_tubes_answer : PySem.W.codeIn K cd_tubes_answer "tubes_answer" = true)
    (p_tubes_answer : PySem.W.keepIn K (.ref f_tubes_answer) = true)
    (a_orders_answer : PySem.W.nsIn K mainGlobals "orders_answer" = some (some (.ref f_orders_answer)))
    (l_orders_answer : K.lookup f_orders_answer = some ⟨oc_orders_answer, od_orders_answer, .func (PySem.W.fnOf "orders_answer" "orders_answer" (defArgs s_orders_answer) (defBody s_orders_answer) (defScope s_orders_answer) .none kV_orders_answer dc_orders_answer pm_orders_answer an_orders_answer cd_orders_answer ct_orders_answer), sl_orders_answer⟩)
    (e_orders_answer : PySem.W.codeIn K cd_orders_answer "orders_answer" = true)
    (p_orders_answer : PySem.W.keepIn K (.ref f_orders_answer) = true)
    (a_answers : PySem.W.nsIn K mainGlobals "answers" = some (some (.ref f_answers)))
    (l_answers : K.lookup f_answers = some ⟨oc_answers, od_answers, .func (PySem.W.fnOf "answers" "answers" (defArgs s_answers) (defBody s_answers) (defScope s_answers) .none kV_answers dc_answers pm_answers an_answers cd_answers ct_answers), sl_answers⟩)
    (e_answers : PySem.W.codeIn K cd_answers "answers" = true)
    (p_answers : PySem.W.keepIn K (.ref f_answers) = true)
    (pg_Controls : PySem.W.plainGet K C_Controls Str.empty = true)
    (hd_Controls : PySem.W.hasDictIn K C_Controls = true)
    (po_Controls : PySem.W.plainOver K C_Controls = true)
    (sa_Controls : PySem.W.findIn K (.ref C_Controls) "__setattr__" = some (some (.builtin "object.__setattr__")))
    (mk_Controls : PySem.W.makesIn K C_Controls = true)
    (kc_Controls : PySem.W.keepIn K (.ref C_Controls) = true)
    (n_Controls_mean : PySem.W.findIn K (.ref C_Controls) "mean" = some none)
    (n_Controls_spread : PySem.W.findIn K (.ref C_Controls) "spread" = some none)
    (n_Controls_counted : PySem.W.findIn K (.ref C_Controls) "counted" = some none)
    (n_Controls_recent : PySem.W.findIn K (.ref C_Controls) "recent" = some none)
    (pg_Order : PySem.W.plainGet K C_Order Str.empty = true)
    (hd_Order : PySem.W.hasDictIn K C_Order = true)
    (po_Order : PySem.W.plainOver K C_Order = true)
    (sa_Order : PySem.W.findIn K (.ref C_Order) "__setattr__" = some (some (.builtin "object.__setattr__")))
    (mk_Order : PySem.W.makesIn K C_Order = true)
    (kc_Order : PySem.W.keepIn K (.ref C_Order) = true)
    (n_Order_patient : PySem.W.findIn K (.ref C_Order) "patient" = some none)
    (n_Order_test : PySem.W.findIn K (.ref C_Order) "test" = some none)
    (n_Order_stage : PySem.W.findIn K (.ref C_Order) "stage" = some none)
    (n_Order_value : PySem.W.findIn K (.ref C_Order) "value" = some none)
    (pg_Orders : PySem.W.plainGet K C_Orders Str.empty = true)
    (hd_Orders : PySem.W.hasDictIn K C_Orders = true)
    (po_Orders : PySem.W.plainOver K C_Orders = true)
    (sa_Orders : PySem.W.findIn K (.ref C_Orders) "__setattr__" = some (some (.builtin "object.__setattr__")))
    (mk_Orders : PySem.W.makesIn K C_Orders = true)
    (kc_Orders : PySem.W.keepIn K (.ref C_Orders) = true)
    (n_Orders_orders : PySem.W.findIn K (.ref C_Orders) "orders" = some none)
    (n_Orders_batches : PySem.W.findIn K (.ref C_Orders) "batches" = some none)
    (pg_Tube : PySem.W.plainGet K C_Tube Str.empty = true)
    (hd_Tube : PySem.W.hasDictIn K C_Tube = true)
    (po_Tube : PySem.W.plainOver K C_Tube = true)
    (sa_Tube : PySem.W.findIn K (.ref C_Tube) "__setattr__" = some (some (.builtin "object.__setattr__")))
    (mk_Tube : PySem.W.makesIn K C_Tube = true)
    (kc_Tube : PySem.W.keepIn K (.ref C_Tube) = true)
    (n_Tube_patient : PySem.W.findIn K (.ref C_Tube) "patient" = some none)
    (n_Tube_origin : PySem.W.findIn K (.ref C_Tube) "origin" = some none)
    (n_Tube_depth : PySem.W.findIn K (.ref C_Tube) "depth" = some none)
    (n_Tube_left : PySem.W.findIn K (.ref C_Tube) "left" = some none)
    (n_Tube_spot : PySem.W.findIn K (.ref C_Tube) "spot" = some none)
    (n_Tube_used : PySem.W.findIn K (.ref C_Tube) "used" = some none)
    (pg_Tubes : PySem.W.plainGet K C_Tubes Str.empty = true)
    (hd_Tubes : PySem.W.hasDictIn K C_Tubes = true)
    (po_Tubes : PySem.W.plainOver K C_Tubes = true)
    (sa_Tubes : PySem.W.findIn K (.ref C_Tubes) "__setattr__" = some (some (.builtin "object.__setattr__")))
    (mk_Tubes : PySem.W.makesIn K C_Tubes = true)
    (kc_Tubes : PySem.W.keepIn K (.ref C_Tubes) = true)
    (n_Tubes_tubes : PySem.W.findIn K (.ref C_Tubes) "tubes" = some none)
    (k_NO_SUCH : PySem.W.nsIn K mainGlobals "NO_SUCH" = some (some (.int (-2) t_NO_SUCH)))
    (k_NOT_NOW : PySem.W.nsIn K mainGlobals "NOT_NOW" = some (some (.int (-11) t_NOT_NOW)))
    (k_BUSY : PySem.W.nsIn K mainGlobals "BUSY" = some (some (.int (-16) t_BUSY)))
    (k_ALREADY : PySem.W.nsIn K mainGlobals "ALREADY" = some (some (.int (-17) t_ALREADY)))
    (k_NOT_AS_TOLD : PySem.W.nsIn K mainGlobals "NOT_AS_TOLD" = some (some (.int (-22) t_NOT_AS_TOLD)))
    (k_FULL : PySem.W.nsIn K mainGlobals "FULL" = some (some (.int (-28) t_FULL)))
    (k_TOO_LITTLE : PySem.W.nsIn K mainGlobals "TOO_LITTLE" = some (some (.int (-61) t_TOO_LITTLE)))
    (k_OTHER_PATIENT : PySem.W.nsIn K mainGlobals "OTHER_PATIENT" = some (some (.int (-71) t_OTHER_PATIENT)))
    (k_FARTHEST_MEAN : PySem.W.nsIn K mainGlobals "FARTHEST_MEAN" = some (some (.int 1000000000 t_FARTHEST_MEAN)))
    (k_WIDEST_SPREAD : PySem.W.nsIn K mainGlobals "WIDEST_SPREAD" = some (some (.int 1000000 t_WIDEST_SPREAD)))
    (k_MOST_VALUES : PySem.W.nsIn K mainGlobals "MOST_VALUES" = some (some (.int 8 t_MOST_VALUES)))
    (k_MOST_COUNTED : PySem.W.nsIn K mainGlobals "MOST_COUNTED" = some (some (.int 1000000 t_MOST_COUNTED)))
    (k_LOOKED_BACK : PySem.W.nsIn K mainGlobals "LOOKED_BACK" = some (some (.int 9 t_LOOKED_BACK)))
    (k_MOST_ORDERS : PySem.W.nsIn K mainGlobals "MOST_ORDERS" = some (some (.int 256 t_MOST_ORDERS)))
    (k_LAST_TEST : PySem.W.nsIn K mainGlobals "LAST_TEST" = some (some (.int 15 t_LAST_TEST)))
    (k_WAITS : PySem.W.nsIn K mainGlobals "WAITS" = some (some (.int 0 t_WAITS)))
    (k_IN_BATCH : PySem.W.nsIn K mainGlobals "IN_BATCH" = some (some (.int 1 t_IN_BATCH)))
    (k_HAS_RESULT : PySem.W.nsIn K mainGlobals "HAS_RESULT" = some (some (.int 2 t_HAS_RESULT)))
    (k_READY : PySem.W.nsIn K mainGlobals "READY" = some (some (.int 3 t_READY)))
    (k_GIVEN_OUT : PySem.W.nsIn K mainGlobals "GIVEN_OUT" = some (some (.int 4 t_GIVEN_OUT)))
    (k_MOST_TUBES : PySem.W.nsIn K mainGlobals "MOST_TUBES" = some (some (.int 256 t_MOST_TUBES)))
    (k_LAST_RACK : PySem.W.nsIn K mainGlobals "LAST_RACK" = some (some (.int 15 t_LAST_RACK)))
    (k_LAST_PLACE : PySem.W.nsIn K mainGlobals "LAST_PLACE" = some (some (.int 95 t_LAST_PLACE)))
    (k_NOWHERE : PySem.W.nsIn K mainGlobals "NOWHERE" = some (some (.int (-1) t_NOWHERE)))
    (k_LEFT_MODULUS : PySem.W.nsIn K mainGlobals "LEFT_MODULUS" = some (some (.int 2147483648 t_LEFT_MODULUS)))
    (k_START_CONTROLS : PySem.W.nsIn K mainGlobals "START_CONTROLS" = some (some (.int 0 t_START_CONTROLS)))
    (k_BATCH : PySem.W.nsIn K mainGlobals "BATCH" = some (some (.int 1 t_BATCH)))
    (k_START_TUBES : PySem.W.nsIn K mainGlobals "START_TUBES" = some (some (.int 10 t_START_TUBES)))
    (k_SAMPLE : PySem.W.nsIn K mainGlobals "SAMPLE" = some (some (.int 11 t_SAMPLE)))
    (k_TAKE : PySem.W.nsIn K mainGlobals "TAKE" = some (some (.int 12 t_TAKE)))
    (k_USE : PySem.W.nsIn K mainGlobals "USE" = some (some (.int 13 t_USE)))
    (k_PUT : PySem.W.nsIn K mainGlobals "PUT" = some (some (.int 14 t_PUT)))
    (k_AT : PySem.W.nsIn K mainGlobals "AT" = some (some (.int 15 t_AT)))
    (k_OF : PySem.W.nsIn K mainGlobals "OF" = some (some (.int 16 t_OF)))
    (k_START_ORDERS : PySem.W.nsIn K mainGlobals "START_ORDERS" = some (some (.int 20 t_START_ORDERS)))
    (k_ORDER : PySem.W.nsIn K mainGlobals "ORDER" = some (some (.int 21 t_ORDER)))
    (k_BEGIN_BATCH : PySem.W.nsIn K mainGlobals "BEGIN_BATCH" = some (some (.int 22 t_BEGIN_BATCH)))
    (k_RUN : PySem.W.nsIn K mainGlobals "RUN" = some (some (.int 23 t_RUN)))
    (k_RESULT : PySem.W.nsIn K mainGlobals "RESULT" = some (some (.int 24 t_RESULT)))
    (k_CLOSE : PySem.W.nsIn K mainGlobals "CLOSE" = some (some (.int 25 t_CLOSE)))
    (k_GIVE : PySem.W.nsIn K mainGlobals "GIVE" = some (some (.int 26 t_GIVE)))
    (d_HANDED_OVER : PySem.W.nsIn K mainGlobals "HANDED_OVER" = some (some (.ref x_HANDED_OVER)))
    (do_HANDED_OVER : K.lookup x_HANDED_OVER = some o_HANDED_OVER)
    (dk_HANDED_OVER : kdOk o_HANDED_OVER [(0, 2), (2, 0), (10, 0), (11, 2), (12, 2), (13, 2), (14, 3), (15, 2), (16, 1), (17, 1), (20, 0), (21, 2), (22, 1), (23, 2), (24, 2), (25, 2), (26, 1), (27, 1)] = true)
    (b_enumerate : PySem.W.nsIn K mainGlobals "enumerate" = some none)
    (b_len : PySem.W.nsIn K mainGlobals "len" = some none)
    (b_list : PySem.W.nsIn K mainGlobals "list" = some none)
    (b_max : PySem.W.nsIn K mainGlobals "max" = some none)
    (b_min : PySem.W.nsIn K mainGlobals "min" = some none)
    (b_sum : PySem.W.nsIn K mainGlobals "sum" = some none)
    : ∃ a : Ad, Txt K mg a ∧ (∀ (s : Shared) (v : Value), BindsTo s a.d_answers ⟨[v], []⟩ [("calls", v)]) := by
  have F_one_sided := fun_mk (st := s_one_sided) l_one_sided e_one_sided p_one_sided
  have F_broken_in_a_row := fun_mk (st := s_broken_in_a_row) l_broken_in_a_row e_broken_in_a_row p_broken_in_a_row
  have F_far_apart := fun_mk (st := s_far_apart) l_far_apart e_far_apart p_far_apart
  have F_broken_rules := fun_mk (st := s_broken_rules) l_broken_rules e_broken_rules p_broken_rules
  have F_Controls_init := fun_mk (st := s_Controls_init) l_Controls_init e_Controls_init p_Controls_init
  have F_Controls_start := fun_mk (st := s_Controls_start) l_Controls_start e_Controls_start p_Controls_start
  have F_Controls_batch := fun_mk (st := s_Controls_batch) l_Controls_batch e_Controls_batch p_Controls_batch
  have F_Controls_how_many := fun_mk (st := s_Controls_how_many) l_Controls_how_many e_Controls_how_many p_Controls_how_many
  have F_Controls_keep := fun_mk (st := s_Controls_keep) l_Controls_keep e_Controls_keep p_Controls_keep
  have F_Controls_forget := fun_mk (st := s_Controls_forget) l_Controls_forget e_Controls_forget p_Controls_forget
  have F_leave_batch := fun_mk (st := s_leave_batch) l_leave_batch e_leave_batch p_leave_batch
  have F_Order_init := fun_mk (st := s_Order_init) l_Order_init e_Order_init p_Order_init
  have F_Orders_init := fun_mk (st := s_Orders_init) l_Orders_init e_Orders_init p_Orders_init
  have F_Orders_start := fun_mk (st := s_Orders_start) l_Orders_start e_Orders_start p_Orders_start
  have F_Orders_order := fun_mk (st := s_Orders_order) l_Orders_order e_Orders_order p_Orders_order
  have F_Orders_begin_batch := fun_mk (st := s_Orders_begin_batch) l_Orders_begin_batch e_Orders_begin_batch p_Orders_begin_batch
  have F_Orders_run := fun_mk (st := s_Orders_run) l_Orders_run e_Orders_run p_Orders_run
  have F_Orders_result := fun_mk (st := s_Orders_result) l_Orders_result e_Orders_result p_Orders_result
  have F_Orders_close := fun_mk (st := s_Orders_close) l_Orders_close e_Orders_close p_Orders_close
  have F_Orders_give := fun_mk (st := s_Orders_give) l_Orders_give e_Orders_give p_Orders_give
  have F_Orders_state := fun_mk (st := s_Orders_state) l_Orders_state e_Orders_state p_Orders_state
  have F_Orders_has := fun_mk (st := s_Orders_has) l_Orders_has e_Orders_has p_Orders_has
  have F_spot_of := fun_mk (st := s_spot_of) l_spot_of e_spot_of p_spot_of
  have F_Tube_init := fun_mk (st := s_Tube_init) l_Tube_init e_Tube_init p_Tube_init
  have F_Tubes_init := fun_mk (st := s_Tubes_init) l_Tubes_init e_Tubes_init p_Tubes_init
  have F_Tubes_start := fun_mk (st := s_Tubes_start) l_Tubes_start e_Tubes_start p_Tubes_start
  have F_Tubes_sample := fun_mk (st := s_Tubes_sample) l_Tubes_sample e_Tubes_sample p_Tubes_sample
  have F_Tubes_take := fun_mk (st := s_Tubes_take) l_Tubes_take e_Tubes_take p_Tubes_take
  have F_Tubes_use := fun_mk (st := s_Tubes_use) l_Tubes_use e_Tubes_use p_Tubes_use
  have F_Tubes_put := fun_mk (st := s_Tubes_put) l_Tubes_put e_Tubes_put p_Tubes_put
  have F_Tubes_at := fun_mk (st := s_Tubes_at) l_Tubes_at e_Tubes_at p_Tubes_at
  have F_Tubes_of := fun_mk (st := s_Tubes_of) l_Tubes_of e_Tubes_of p_Tubes_of
  have F_Tubes_sum_of := fun_mk (st := s_Tubes_sum_of) l_Tubes_sum_of e_Tubes_sum_of p_Tubes_sum_of
  have F_Tubes_has := fun_mk (st := s_Tubes_has) l_Tubes_has e_Tubes_has p_Tubes_has
  have F_Tubes_is_full := fun_mk (st := s_Tubes_is_full) l_Tubes_is_full e_Tubes_is_full p_Tubes_is_full
  have F_Tubes_add := fun_mk (st := s_Tubes_add) l_Tubes_add e_Tubes_add p_Tubes_add
  have F_Tubes_refusal_to_draw := fun_mk (st := s_Tubes_refusal_to_draw) l_Tubes_refusal_to_draw e_Tubes_refusal_to_draw p_Tubes_refusal_to_draw
  have F_Tubes_standing_at := fun_mk (st := s_Tubes_standing_at) l_Tubes_standing_at e_Tubes_standing_at p_Tubes_standing_at
  have F_call_end := fun_mk (st := s_call_end) l_call_end e_call_end p_call_end
  have F_controls_answer := fun_mk (st := s_controls_answer) l_controls_answer e_controls_answer p_controls_answer
  have F_tubes_answer := fun_mk (st := s_tubes_answer) l_tubes_answer e_tubes_answer p_tubes_answer
  have F_orders_answer := fun_mk (st := s_orders_answer) l_orders_answer e_orders_answer p_orders_answer
  have F_answers := fun_mk (st := s_answers) l_answers e_answers p_answers
  have B_one_sided := F_one_sided.binds (ps := ["offsets", "many", "bound"]) fun _ _ _ _ _ _ us hl => match us, hl with | [_, _, _], _ => rfl
  have B_broken_in_a_row := F_broken_in_a_row.binds (ps := ["offsets", "spread"]) fun _ _ _ _ _ _ us hl => match us, hl with | [_, _], _ => rfl
  have B_far_apart := F_far_apart.binds (ps := ["offsets", "bound"]) fun _ _ _ _ _ _ us hl => match us, hl with | [_, _], _ => rfl
  have B_broken_rules := F_broken_rules.binds (ps := ["before", "batch", "spread"]) fun _ _ _ _ _ _ us hl => match us, hl with | [_, _, _], _ => rfl
  have B_Controls_init := F_Controls_init.binds (ps := ["self"]) fun _ _ _ _ _ _ us hl => match us, hl with | [_], _ => rfl
  have B_Controls_start := F_Controls_start.binds (ps := ["self", "mean", "spread"]) fun _ _ _ _ _ _ us hl => match us, hl with | [_, _, _], _ => rfl
  have B_Controls_batch := F_Controls_batch.binds (ps := ["self", "values"]) fun _ _ _ _ _ _ us hl => match us, hl with | [_, _], _ => rfl
  have B_Controls_how_many := F_Controls_how_many.binds (ps := ["self"]) fun _ _ _ _ _ _ us hl => match us, hl with | [_], _ => rfl
  have B_Controls_keep := F_Controls_keep.binds (ps := ["self", "offsets"]) fun _ _ _ _ _ _ us hl => match us, hl with | [_, _], _ => rfl
  have B_Controls_forget := F_Controls_forget.binds (ps := ["self"]) fun _ _ _ _ _ _ us hl => match us, hl with | [_], _ => rfl
  have B_leave_batch := F_leave_batch.binds (ps := ["order", "broken"]) fun _ _ _ _ _ _ us hl => match us, hl with | [_, _], _ => rfl
  have B_Order_init := F_Order_init.binds (ps := ["self", "patient", "test"]) fun _ _ _ _ _ _ us hl => match us, hl with | [_, _, _], _ => rfl
  have B_Orders_init := F_Orders_init.binds (ps := ["self"]) fun _ _ _ _ _ _ us hl => match us, hl with | [_], _ => rfl
  have B_Orders_start := F_Orders_start.binds (ps := ["self"]) fun _ _ _ _ _ _ us hl => match us, hl with | [_], _ => rfl
  have B_Orders_order := F_Orders_order.binds (ps := ["self", "patient", "test"]) fun _ _ _ _ _ _ us hl => match us, hl with | [_, _, _], _ => rfl
  have B_Orders_begin_batch := F_Orders_begin_batch.binds (ps := ["self", "test"]) fun _ _ _ _ _ _ us hl => match us, hl with | [_, _], _ => rfl
  have B_Orders_run := F_Orders_run.binds (ps := ["self", "number", "patient"]) fun _ _ _ _ _ _ us hl => match us, hl with | [_, _, _], _ => rfl
  have B_Orders_result := F_Orders_result.binds (ps := ["self", "number", "value"]) fun _ _ _ _ _ _ us hl => match us, hl with | [_, _, _], _ => rfl
  have B_Orders_close := F_Orders_close.binds (ps := ["self", "test", "broken"]) fun _ _ _ _ _ _ us hl => match us, hl with | [_, _, _], _ => rfl
  have B_Orders_give := F_Orders_give.binds (ps := ["self", "number"]) fun _ _ _ _ _ _ us hl => match us, hl with | [_, _], _ => rfl
  have B_Orders_state := F_Orders_state.binds (ps := ["self", "number"]) fun _ _ _ _ _ _ us hl => match us, hl with | [_, _], _ => rfl
  have B_Orders_has := F_Orders_has.binds (ps := ["self", "number"]) fun _ _ _ _ _ _ us hl => match us, hl with | [_, _], _ => rfl
  have B_spot_of := F_spot_of.binds (ps := ["rack", "place"]) fun _ _ _ _ _ _ us hl => match us, hl with | [_, _], _ => rfl
  have B_Tube_init := F_Tube_init.binds (ps := ["self", "patient", "origin", "depth", "left"]) fun _ _ _ _ _ _ us hl => match us, hl with | [_, _, _, _, _], _ => rfl
  have B_Tubes_init := F_Tubes_init.binds (ps := ["self"]) fun _ _ _ _ _ _ us hl => match us, hl with | [_], _ => rfl
  have B_Tubes_start := F_Tubes_start.binds (ps := ["self"]) fun _ _ _ _ _ _ us hl => match us, hl with | [_], _ => rfl
  have B_Tubes_sample := F_Tubes_sample.binds (ps := ["self", "patient", "volume"]) fun _ _ _ _ _ _ us hl => match us, hl with | [_, _, _], _ => rfl
  have B_Tubes_take := F_Tubes_take.binds (ps := ["self", "number", "volume"]) fun _ _ _ _ _ _ us hl => match us, hl with | [_, _, _], _ => rfl
  have B_Tubes_use := F_Tubes_use.binds (ps := ["self", "number", "volume"]) fun _ _ _ _ _ _ us hl => match us, hl with | [_, _, _], _ => rfl
  have B_Tubes_put := F_Tubes_put.binds (ps := ["self", "number", "rack", "place"]) fun _ _ _ _ _ _ us hl => match us, hl with | [_, _, _, _], _ => rfl
  have B_Tubes_at := F_Tubes_at.binds (ps := ["self", "rack", "place"]) fun _ _ _ _ _ _ us hl => match us, hl with | [_, _, _], _ => rfl
  have B_Tubes_of := F_Tubes_of.binds (ps := ["self", "number"]) fun _ _ _ _ _ _ us hl => match us, hl with | [_, _], _ => rfl
  have B_Tubes_sum_of := F_Tubes_sum_of.binds (ps := ["self", "number"]) fun _ _ _ _ _ _ us hl => match us, hl with | [_, _], _ => rfl
  have B_Tubes_has := F_Tubes_has.binds (ps := ["self", "number"]) fun _ _ _ _ _ _ us hl => match us, hl with | [_, _], _ => rfl
  have B_Tubes_is_full := F_Tubes_is_full.binds (ps := ["self"]) fun _ _ _ _ _ _ us hl => match us, hl with | [_], _ => rfl
  have B_Tubes_add := F_Tubes_add.binds (ps := ["self", "tube"]) fun _ _ _ _ _ _ us hl => match us, hl with | [_, _], _ => rfl
  have B_Tubes_refusal_to_draw := F_Tubes_refusal_to_draw.binds (ps := ["self", "number", "volume"]) fun _ _ _ _ _ _ us hl => match us, hl with | [_, _, _], _ => rfl
  have B_Tubes_standing_at := F_Tubes_standing_at.binds (ps := ["self", "spot"]) fun _ _ _ _ _ _ us hl => match us, hl with | [_, _], _ => rfl
  have B_call_end := F_call_end.binds (ps := ["calls", "begin"]) fun _ _ _ _ _ _ us hl => match us, hl with | [_, _], _ => rfl
  have B_controls_answer := F_controls_answer.binds (ps := ["controls", "call"]) fun _ _ _ _ _ _ us hl => match us, hl with | [_, _], _ => rfl
  have B_tubes_answer := F_tubes_answer.binds (ps := ["tubes", "call"]) fun _ _ _ _ _ _ us hl => match us, hl with | [_, _], _ => rfl
  have B_orders_answer := F_orders_answer.binds (ps := ["orders", "call"]) fun _ _ _ _ _ _ us hl => match us, hl with | [_, _], _ => rfl
  have B_answers := F_answers.binds (ps := ["calls"]) fun _ _ _ _ _ _ us hl => match us, hl with | [_], _ => rfl
  refine ⟨⟨C_Controls, C_Order, C_Orders, C_Tube, C_Tubes, f_one_sided, (PySem.W.fnOf "one_sided" "one_sided" (defArgs s_one_sided) (defBody s_one_sided) (defScope s_one_sided) .none kV_one_sided dc_one_sided pm_one_sided an_one_sided cd_one_sided ct_one_sided), f_broken_in_a_row, (PySem.W.fnOf "broken_in_a_row" "broken_in_a_row" (defArgs s_broken_in_a_row) (defBody s_broken_in_a_row) (defScope s_broken_in_a_row) .none kV_broken_in_a_row dc_broken_in_a_row pm_broken_in_a_row an_broken_in_a_row cd_broken_in_a_row ct_broken_in_a_row), f_far_apart, (PySem.W.fnOf "far_apart" "far_apart" (defArgs s_far_apart) (defBody s_far_apart) (defScope s_far_apart) .none kV_far_apart dc_far_apart pm_far_apart an_far_apart cd_far_apart ct_far_apart), f_broken_rules, (PySem.W.fnOf "broken_rules" "broken_rules" (defArgs s_broken_rules) (defBody s_broken_rules) (defScope s_broken_rules) .none kV_broken_rules dc_broken_rules pm_broken_rules an_broken_rules cd_broken_rules ct_broken_rules), f_Controls_init, (PySem.W.fnOf "__init__" "Controls.__init__" (defArgs s_Controls_init) (defBody s_Controls_init) (defScope s_Controls_init) .none kV_Controls_init dc_Controls_init pm_Controls_init an_Controls_init cd_Controls_init ct_Controls_init), f_Controls_start, (PySem.W.fnOf "start" "Controls.start" (defArgs s_Controls_start) (defBody s_Controls_start) (defScope s_Controls_start) .none kV_Controls_start dc_Controls_start pm_Controls_start an_Controls_start cd_Controls_start ct_Controls_start), f_Controls_batch, (PySem.W.fnOf "batch" "Controls.batch" (defArgs s_Controls_batch) (defBody s_Controls_batch) (defScope s_Controls_batch) .none kV_Controls_batch dc_Controls_batch pm_Controls_batch an_Controls_batch cd_Controls_batch ct_Controls_batch), f_Controls_how_many, (PySem.W.fnOf "how_many" "Controls.how_many" (defArgs s_Controls_how_many) (defBody s_Controls_how_many) (defScope s_Controls_how_many) .none kV_Controls_how_many dc_Controls_how_many pm_Controls_how_many an_Controls_how_many cd_Controls_how_many ct_Controls_how_many), f_Controls_keep, (PySem.W.fnOf "keep" "Controls.keep" (defArgs s_Controls_keep) (defBody s_Controls_keep) (defScope s_Controls_keep) .none kV_Controls_keep dc_Controls_keep pm_Controls_keep an_Controls_keep cd_Controls_keep ct_Controls_keep), f_Controls_forget, (PySem.W.fnOf "forget" "Controls.forget" (defArgs s_Controls_forget) (defBody s_Controls_forget) (defScope s_Controls_forget) .none kV_Controls_forget dc_Controls_forget pm_Controls_forget an_Controls_forget cd_Controls_forget ct_Controls_forget), f_leave_batch, (PySem.W.fnOf "leave_batch" "leave_batch" (defArgs s_leave_batch) (defBody s_leave_batch) (defScope s_leave_batch) .none kV_leave_batch dc_leave_batch pm_leave_batch an_leave_batch cd_leave_batch ct_leave_batch), f_Order_init, (PySem.W.fnOf "__init__" "Order.__init__" (defArgs s_Order_init) (defBody s_Order_init) (defScope s_Order_init) .none kV_Order_init dc_Order_init pm_Order_init an_Order_init cd_Order_init ct_Order_init), f_Orders_init, (PySem.W.fnOf "__init__" "Orders.__init__" (defArgs s_Orders_init) (defBody s_Orders_init) (defScope s_Orders_init) .none kV_Orders_init dc_Orders_init pm_Orders_init an_Orders_init cd_Orders_init ct_Orders_init), f_Orders_start, (PySem.W.fnOf "start" "Orders.start" (defArgs s_Orders_start) (defBody s_Orders_start) (defScope s_Orders_start) .none kV_Orders_start dc_Orders_start pm_Orders_start an_Orders_start cd_Orders_start ct_Orders_start), f_Orders_order, (PySem.W.fnOf "order" "Orders.order" (defArgs s_Orders_order) (defBody s_Orders_order) (defScope s_Orders_order) .none kV_Orders_order dc_Orders_order pm_Orders_order an_Orders_order cd_Orders_order ct_Orders_order), f_Orders_begin_batch, (PySem.W.fnOf "begin_batch" "Orders.begin_batch" (defArgs s_Orders_begin_batch) (defBody s_Orders_begin_batch) (defScope s_Orders_begin_batch) .none kV_Orders_begin_batch dc_Orders_begin_batch pm_Orders_begin_batch an_Orders_begin_batch cd_Orders_begin_batch ct_Orders_begin_batch), f_Orders_run, (PySem.W.fnOf "run" "Orders.run" (defArgs s_Orders_run) (defBody s_Orders_run) (defScope s_Orders_run) .none kV_Orders_run dc_Orders_run pm_Orders_run an_Orders_run cd_Orders_run ct_Orders_run), f_Orders_result, (PySem.W.fnOf "result" "Orders.result" (defArgs s_Orders_result) (defBody s_Orders_result) (defScope s_Orders_result) .none kV_Orders_result dc_Orders_result pm_Orders_result an_Orders_result cd_Orders_result ct_Orders_result), f_Orders_close, (PySem.W.fnOf "close" "Orders.close" (defArgs s_Orders_close) (defBody s_Orders_close) (defScope s_Orders_close) .none kV_Orders_close dc_Orders_close pm_Orders_close an_Orders_close cd_Orders_close ct_Orders_close), f_Orders_give, (PySem.W.fnOf "give" "Orders.give" (defArgs s_Orders_give) (defBody s_Orders_give) (defScope s_Orders_give) .none kV_Orders_give dc_Orders_give pm_Orders_give an_Orders_give cd_Orders_give ct_Orders_give), f_Orders_state, (PySem.W.fnOf "state" "Orders.state" (defArgs s_Orders_state) (defBody s_Orders_state) (defScope s_Orders_state) .none kV_Orders_state dc_Orders_state pm_Orders_state an_Orders_state cd_Orders_state ct_Orders_state), f_Orders_has, (PySem.W.fnOf "has" "Orders.has" (defArgs s_Orders_has) (defBody s_Orders_has) (defScope s_Orders_has) .none kV_Orders_has dc_Orders_has pm_Orders_has an_Orders_has cd_Orders_has ct_Orders_has), f_spot_of, (PySem.W.fnOf "spot_of" "spot_of" (defArgs s_spot_of) (defBody s_spot_of) (defScope s_spot_of) .none kV_spot_of dc_spot_of pm_spot_of an_spot_of cd_spot_of ct_spot_of), f_Tube_init, (PySem.W.fnOf "__init__" "Tube.__init__" (defArgs s_Tube_init) (defBody s_Tube_init) (defScope s_Tube_init) .none kV_Tube_init dc_Tube_init pm_Tube_init an_Tube_init cd_Tube_init ct_Tube_init), f_Tubes_init, (PySem.W.fnOf "__init__" "Tubes.__init__" (defArgs s_Tubes_init) (defBody s_Tubes_init) (defScope s_Tubes_init) .none kV_Tubes_init dc_Tubes_init pm_Tubes_init an_Tubes_init cd_Tubes_init ct_Tubes_init), f_Tubes_start, (PySem.W.fnOf "start" "Tubes.start" (defArgs s_Tubes_start) (defBody s_Tubes_start) (defScope s_Tubes_start) .none kV_Tubes_start dc_Tubes_start pm_Tubes_start an_Tubes_start cd_Tubes_start ct_Tubes_start), f_Tubes_sample, (PySem.W.fnOf "sample" "Tubes.sample" (defArgs s_Tubes_sample) (defBody s_Tubes_sample) (defScope s_Tubes_sample) .none kV_Tubes_sample dc_Tubes_sample pm_Tubes_sample an_Tubes_sample cd_Tubes_sample ct_Tubes_sample), f_Tubes_take, (PySem.W.fnOf "take" "Tubes.take" (defArgs s_Tubes_take) (defBody s_Tubes_take) (defScope s_Tubes_take) .none kV_Tubes_take dc_Tubes_take pm_Tubes_take an_Tubes_take cd_Tubes_take ct_Tubes_take), f_Tubes_use, (PySem.W.fnOf "use" "Tubes.use" (defArgs s_Tubes_use) (defBody s_Tubes_use) (defScope s_Tubes_use) .none kV_Tubes_use dc_Tubes_use pm_Tubes_use an_Tubes_use cd_Tubes_use ct_Tubes_use), f_Tubes_put, (PySem.W.fnOf "put" "Tubes.put" (defArgs s_Tubes_put) (defBody s_Tubes_put) (defScope s_Tubes_put) .none kV_Tubes_put dc_Tubes_put pm_Tubes_put an_Tubes_put cd_Tubes_put ct_Tubes_put), f_Tubes_at, (PySem.W.fnOf "at" "Tubes.at" (defArgs s_Tubes_at) (defBody s_Tubes_at) (defScope s_Tubes_at) .none kV_Tubes_at dc_Tubes_at pm_Tubes_at an_Tubes_at cd_Tubes_at ct_Tubes_at), f_Tubes_of, (PySem.W.fnOf "of" "Tubes.of" (defArgs s_Tubes_of) (defBody s_Tubes_of) (defScope s_Tubes_of) .none kV_Tubes_of dc_Tubes_of pm_Tubes_of an_Tubes_of cd_Tubes_of ct_Tubes_of), f_Tubes_sum_of, (PySem.W.fnOf "sum_of" "Tubes.sum_of" (defArgs s_Tubes_sum_of) (defBody s_Tubes_sum_of) (defScope s_Tubes_sum_of) .none kV_Tubes_sum_of dc_Tubes_sum_of pm_Tubes_sum_of an_Tubes_sum_of cd_Tubes_sum_of ct_Tubes_sum_of), f_Tubes_has, (PySem.W.fnOf "has" "Tubes.has" (defArgs s_Tubes_has) (defBody s_Tubes_has) (defScope s_Tubes_has) .none kV_Tubes_has dc_Tubes_has pm_Tubes_has an_Tubes_has cd_Tubes_has ct_Tubes_has), f_Tubes_is_full, (PySem.W.fnOf "is_full" "Tubes.is_full" (defArgs s_Tubes_is_full) (defBody s_Tubes_is_full) (defScope s_Tubes_is_full) .none kV_Tubes_is_full dc_Tubes_is_full pm_Tubes_is_full an_Tubes_is_full cd_Tubes_is_full ct_Tubes_is_full), f_Tubes_add, (PySem.W.fnOf "add" "Tubes.add" (defArgs s_Tubes_add) (defBody s_Tubes_add) (defScope s_Tubes_add) .none kV_Tubes_add dc_Tubes_add pm_Tubes_add an_Tubes_add cd_Tubes_add ct_Tubes_add), f_Tubes_refusal_to_draw, (PySem.W.fnOf "refusal_to_draw" "Tubes.refusal_to_draw" (defArgs s_Tubes_refusal_to_draw) (defBody s_Tubes_refusal_to_draw) (defScope s_Tubes_refusal_to_draw) .none kV_Tubes_refusal_to_draw dc_Tubes_refusal_to_draw pm_Tubes_refusal_to_draw an_Tubes_refusal_to_draw cd_Tubes_refusal_to_draw ct_Tubes_refusal_to_draw), f_Tubes_standing_at, (PySem.W.fnOf "standing_at" "Tubes.standing_at" (defArgs s_Tubes_standing_at) (defBody s_Tubes_standing_at) (defScope s_Tubes_standing_at) .none kV_Tubes_standing_at dc_Tubes_standing_at pm_Tubes_standing_at an_Tubes_standing_at cd_Tubes_standing_at ct_Tubes_standing_at), f_call_end, (PySem.W.fnOf "call_end" "call_end" (defArgs s_call_end) (defBody s_call_end) (defScope s_call_end) .none kV_call_end dc_call_end pm_call_end an_call_end cd_call_end ct_call_end), f_controls_answer, (PySem.W.fnOf "controls_answer" "controls_answer" (defArgs s_controls_answer) (defBody s_controls_answer) (defScope s_controls_answer) .none kV_controls_answer dc_controls_answer pm_controls_answer an_controls_answer cd_controls_answer ct_controls_answer), f_tubes_answer, (PySem.W.fnOf "tubes_answer" "tubes_answer" (defArgs s_tubes_answer) (defBody s_tubes_answer) (defScope s_tubes_answer) .none kV_tubes_answer dc_tubes_answer pm_tubes_answer an_tubes_answer cd_tubes_answer ct_tubes_answer), f_orders_answer, (PySem.W.fnOf "orders_answer" "orders_answer" (defArgs s_orders_answer) (defBody s_orders_answer) (defScope s_orders_answer) .none kV_orders_answer dc_orders_answer pm_orders_answer an_orders_answer cd_orders_answer ct_orders_answer), f_answers, (PySem.W.fnOf "answers" "answers" (defArgs s_answers) (defBody s_answers) (defScope s_answers) .none kV_answers dc_answers pm_answers an_answers cd_answers ct_answers)⟩, ?_, fun s v => .of_eq rfl⟩
  exact ⟨⟨pg_Controls, hd_Controls, po_Controls, sa_Controls⟩,
    ⟨mk_Controls, a_Controls_init, i_Controls_init, kc_Controls⟩,
    PySem.W.mg_of X G ac_Controls,
    n_Controls_mean,
    n_Controls_spread,
    n_Controls_counted,
    n_Controls_recent,
    ⟨pg_Order, hd_Order, po_Order, sa_Order⟩,
    ⟨mk_Order, a_Order_init, i_Order_init, kc_Order⟩,
    PySem.W.mg_of X G ac_Order,
    n_Order_patient,
    n_Order_test,
    n_Order_stage,
    n_Order_value,
    ⟨pg_Orders, hd_Orders, po_Orders, sa_Orders⟩,
    ⟨mk_Orders, a_Orders_init, i_Orders_init, kc_Orders⟩,
    PySem.W.mg_of X G ac_Orders,
    n_Orders_orders,
    n_Orders_batches,
    ⟨pg_Tube, hd_Tube, po_Tube, sa_Tube⟩,
    ⟨mk_Tube, a_Tube_init, i_Tube_init, kc_Tube⟩,
    PySem.W.mg_of X G ac_Tube,
    n_Tube_patient,
    n_Tube_origin,
    n_Tube_depth,
    n_Tube_left,
    n_Tube_spot,
    n_Tube_used,
    ⟨pg_Tubes, hd_Tubes, po_Tubes, sa_Tubes⟩,
    ⟨mk_Tubes, a_Tubes_init, i_Tubes_init, kc_Tubes⟩,
    PySem.W.mg_of X G ac_Tubes,
    n_Tubes_tubes,
    F_one_sided,
    B_one_sided,
    PySem.W.mg_of X G a_one_sided,
    p_one_sided,
    F_broken_in_a_row,
    B_broken_in_a_row,
    PySem.W.mg_of X G a_broken_in_a_row,
    p_broken_in_a_row,
    F_far_apart,
    B_far_apart,
    PySem.W.mg_of X G a_far_apart,
    p_far_apart,
    F_broken_rules,
    B_broken_rules,
    PySem.W.mg_of X G a_broken_rules,
    p_broken_rules,
    F_Controls_init,
    B_Controls_init,
    ⟨a_Controls_init, i_Controls_init, p_Controls_init⟩,
    F_Controls_start,
    B_Controls_start,
    ⟨a_Controls_start, i_Controls_start, p_Controls_start⟩,
    F_Controls_batch,
    B_Controls_batch,
    ⟨a_Controls_batch, i_Controls_batch, p_Controls_batch⟩,
    F_Controls_how_many,
    B_Controls_how_many,
    ⟨a_Controls_how_many, i_Controls_how_many, p_Controls_how_many⟩,
    F_Controls_keep,
    B_Controls_keep,
    ⟨a_Controls_keep, i_Controls_keep, p_Controls_keep⟩,
    F_Controls_forget,
    B_Controls_forget,
    ⟨a_Controls_forget, i_Controls_forget, p_Controls_forget⟩,
    F_leave_batch,
    B_leave_batch,
    PySem.W.mg_of X G a_leave_batch,
    p_leave_batch,
    F_Order_init,
    B_Order_init,
    ⟨a_Order_init, i_Order_init, p_Order_init⟩,
    F_Orders_init,
    B_Orders_init,
    ⟨a_Orders_init, i_Orders_init, p_Orders_init⟩,
    F_Orders_start,
    B_Orders_start,
    ⟨a_Orders_start, i_Orders_start, p_Orders_start⟩,
    F_Orders_order,
    B_Orders_order,
    ⟨a_Orders_order, i_Orders_order, p_Orders_order⟩,
    F_Orders_begin_batch,
    B_Orders_begin_batch,
    ⟨a_Orders_begin_batch, i_Orders_begin_batch, p_Orders_begin_batch⟩,
    F_Orders_run,
    B_Orders_run,
    ⟨a_Orders_run, i_Orders_run, p_Orders_run⟩,
    F_Orders_result,
    B_Orders_result,
    ⟨a_Orders_result, i_Orders_result, p_Orders_result⟩,
    F_Orders_close,
    B_Orders_close,
    ⟨a_Orders_close, i_Orders_close, p_Orders_close⟩,
    F_Orders_give,
    B_Orders_give,
    ⟨a_Orders_give, i_Orders_give, p_Orders_give⟩,
    F_Orders_state,
    B_Orders_state,
    ⟨a_Orders_state, i_Orders_state, p_Orders_state⟩,
    F_Orders_has,
    B_Orders_has,
    ⟨a_Orders_has, i_Orders_has, p_Orders_has⟩,
    F_spot_of,
    B_spot_of,
    PySem.W.mg_of X G a_spot_of,
    p_spot_of,
    F_Tube_init,
    B_Tube_init,
    ⟨a_Tube_init, i_Tube_init, p_Tube_init⟩,
    F_Tubes_init,
    B_Tubes_init,
    ⟨a_Tubes_init, i_Tubes_init, p_Tubes_init⟩,
    F_Tubes_start,
    B_Tubes_start,
    ⟨a_Tubes_start, i_Tubes_start, p_Tubes_start⟩,
    F_Tubes_sample,
    B_Tubes_sample,
    ⟨a_Tubes_sample, i_Tubes_sample, p_Tubes_sample⟩,
    F_Tubes_take,
    B_Tubes_take,
    ⟨a_Tubes_take, i_Tubes_take, p_Tubes_take⟩,
    F_Tubes_use,
    B_Tubes_use,
    ⟨a_Tubes_use, i_Tubes_use, p_Tubes_use⟩,
    F_Tubes_put,
    B_Tubes_put,
    ⟨a_Tubes_put, i_Tubes_put, p_Tubes_put⟩,
    F_Tubes_at,
    B_Tubes_at,
    ⟨a_Tubes_at, i_Tubes_at, p_Tubes_at⟩,
    F_Tubes_of,
    B_Tubes_of,
    ⟨a_Tubes_of, i_Tubes_of, p_Tubes_of⟩,
    F_Tubes_sum_of,
    B_Tubes_sum_of,
    ⟨a_Tubes_sum_of, i_Tubes_sum_of, p_Tubes_sum_of⟩,
    F_Tubes_has,
    B_Tubes_has,
    ⟨a_Tubes_has, i_Tubes_has, p_Tubes_has⟩,
    F_Tubes_is_full,
    B_Tubes_is_full,
    ⟨a_Tubes_is_full, i_Tubes_is_full, p_Tubes_is_full⟩,
    F_Tubes_add,
    B_Tubes_add,
    ⟨a_Tubes_add, i_Tubes_add, p_Tubes_add⟩,
    F_Tubes_refusal_to_draw,
    B_Tubes_refusal_to_draw,
    ⟨a_Tubes_refusal_to_draw, i_Tubes_refusal_to_draw, p_Tubes_refusal_to_draw⟩,
    F_Tubes_standing_at,
    B_Tubes_standing_at,
    ⟨a_Tubes_standing_at, i_Tubes_standing_at, p_Tubes_standing_at⟩,
    F_call_end,
    B_call_end,
    PySem.W.mg_of X G a_call_end,
    p_call_end,
    F_controls_answer,
    B_controls_answer,
    PySem.W.mg_of X G a_controls_answer,
    p_controls_answer,
    F_tubes_answer,
    B_tubes_answer,
    PySem.W.mg_of X G a_tubes_answer,
    p_tubes_answer,
    F_orders_answer,
    B_orders_answer,
    PySem.W.mg_of X G a_orders_answer,
    p_orders_answer,
    F_answers,
    B_answers,
    PySem.W.mg_of X G a_answers,
    p_answers,
    ⟨_, PySem.W.mg_of X G k_NO_SUCH⟩,
    ⟨_, PySem.W.mg_of X G k_NOT_NOW⟩,
    ⟨_, PySem.W.mg_of X G k_BUSY⟩,
    ⟨_, PySem.W.mg_of X G k_ALREADY⟩,
    ⟨_, PySem.W.mg_of X G k_NOT_AS_TOLD⟩,
    ⟨_, PySem.W.mg_of X G k_FULL⟩,
    ⟨_, PySem.W.mg_of X G k_TOO_LITTLE⟩,
    ⟨_, PySem.W.mg_of X G k_OTHER_PATIENT⟩,
    ⟨_, PySem.W.mg_of X G k_FARTHEST_MEAN⟩,
    ⟨_, PySem.W.mg_of X G k_WIDEST_SPREAD⟩,
    ⟨_, PySem.W.mg_of X G k_MOST_VALUES⟩,
    ⟨_, PySem.W.mg_of X G k_MOST_COUNTED⟩,
    ⟨_, PySem.W.mg_of X G k_LOOKED_BACK⟩,
    ⟨_, PySem.W.mg_of X G k_MOST_ORDERS⟩,
    ⟨_, PySem.W.mg_of X G k_LAST_TEST⟩,
    ⟨_, PySem.W.mg_of X G k_WAITS⟩,
    ⟨_, PySem.W.mg_of X G k_IN_BATCH⟩,
    ⟨_, PySem.W.mg_of X G k_HAS_RESULT⟩,
    ⟨_, PySem.W.mg_of X G k_READY⟩,
    ⟨_, PySem.W.mg_of X G k_GIVEN_OUT⟩,
    ⟨_, PySem.W.mg_of X G k_MOST_TUBES⟩,
    ⟨_, PySem.W.mg_of X G k_LAST_RACK⟩,
    ⟨_, PySem.W.mg_of X G k_LAST_PLACE⟩,
    ⟨_, PySem.W.mg_of X G k_NOWHERE⟩,
    ⟨_, PySem.W.mg_of X G k_LEFT_MODULUS⟩,
    ⟨_, PySem.W.mg_of X G k_START_CONTROLS⟩,
    ⟨_, PySem.W.mg_of X G k_BATCH⟩,
    ⟨_, PySem.W.mg_of X G k_START_TUBES⟩,
    ⟨_, PySem.W.mg_of X G k_SAMPLE⟩,
    ⟨_, PySem.W.mg_of X G k_TAKE⟩,
    ⟨_, PySem.W.mg_of X G k_USE⟩,
    ⟨_, PySem.W.mg_of X G k_PUT⟩,
    ⟨_, PySem.W.mg_of X G k_AT⟩,
    ⟨_, PySem.W.mg_of X G k_OF⟩,
    ⟨_, PySem.W.mg_of X G k_START_ORDERS⟩,
    ⟨_, PySem.W.mg_of X G k_ORDER⟩,
    ⟨_, PySem.W.mg_of X G k_BEGIN_BATCH⟩,
    ⟨_, PySem.W.mg_of X G k_RUN⟩,
    ⟨_, PySem.W.mg_of X G k_RESULT⟩,
    ⟨_, PySem.W.mg_of X G k_CLOSE⟩,
    ⟨_, PySem.W.mg_of X G k_GIVE⟩,
    ⟨⟨_, _, PySem.W.mg_of X G d_HANDED_OVER, do_HANDED_OVER, dk_HANDED_OVER⟩⟩,
    PySem.W.mg_none_of X G b_enumerate,
    PySem.W.mg_none_of X G b_len,
    PySem.W.mg_none_of X G b_list,
    PySem.W.mg_none_of X G b_max,
    PySem.W.mg_none_of X G b_min,
    PySem.W.mg_none_of X G b_sum⟩
end WL

/-! These names are taken here so that the head's tactic lays no helper equations for its tables of the heap: nothing needs them, and they grow with the square of the table (57 MB of the compiled file's 64; without them 15). -/
namespace PySem.W.Fast
def tw8544204022246606506 : Unit := ()
def tw978942449709223148 : Unit := ()
def tw7461528712288007850 : Unit := ()
def tw13043586972130411906 : Unit := ()
def tw215465241422964503 : Unit := ()
def tw11986187782344723263 : Unit := ()
def tw11887477848622070760 : Unit := ()
def tw39499144073039156 : Unit := ()
def tw10842156795799504813 : Unit := ()
def tw10760222864693358506 : Unit := ()
def tw17408592561068420149 : Unit := ()
def tw1820605046466430475 : Unit := ()
def tw7515064392008823512 : Unit := ()
def tw7971909934121305062 : Unit := ()
end PySem.W.Fast
open PySem PySem.W PyProof.Rows
set_option maxRecDepth 100000 in
set_option maxHeartbeats 0 in
theorem PySem.Challenge.cw_wholelab_s01_answers_holds : PySem.Challenge.rw_wholelab_s01_answers.Holds := by
  w_on
  k_headS
  (case hw => exact ⟨[.list [.int 10]], by decide +kernel, by decide +kernel⟩)
  k_fillS
  refine L2.walk_spec (sp := WL.spAns) (x := "calls") (k := 6) (by decide) rfl ⟨rfl, by decide, by decide⟩ (fun w h Y => PySem.W.kIn_of Y) ?F ?S
  case F =>
    intro w mg fa h KX G hmg
    obtain ⟨a, T, hb⟩ : ∃ a : WL.Ad, WL.Txt (L2.KOf KX) mg a ∧ (∀ (s : Shared) (v : Value), BindsTo s a.d_answers ⟨[v], []⟩ [("calls", v)]) := by
      dsimp only [L2.KOf]
      refine' WL.txt_mk KX G ?ac_Controls ?ac_Order ?ac_Orders ?ac_Tube ?ac_Tubes ?a_one_sided ?l_one_sided ?e_one_sided ?p_one_sided ?a_broken_in_a_row ?l_broken_in_a_row ?e_broken_in_a_row ?p_broken_in_a_row ?a_far_apart ?l_far_apart ?e_far_apart ?p_far_apart ?a_broken_rules ?l_broken_rules ?e_broken_rules ?p_broken_rules ?a_Controls_init ?i_Controls_init ?l_Controls_init ?e_Controls_init ?p_Controls_init ?a_Controls_start ?i_Controls_start ?l_Controls_start ?e_Controls_start ?p_Controls_start ?a_Controls_batch ?i_Controls_batch ?l_Controls_batch ?e_Controls_batch ?p_Controls_batch ?a_Controls_how_many ?i_Controls_how_many ?l_Controls_how_many ?e_Controls_how_many ?p_Controls_how_many ?a_Controls_keep ?i_Controls_keep ?l_Controls_keep ?e_Controls_keep ?p_Controls_keep ?a_Controls_forget ?i_Controls_forget ?l_Controls_forget ?e_Controls_forget ?p_Controls_forget ?a_leave_batch ?l_leave_batch ?e_leave_batch ?p_leave_batch ?a_Order_init ?i_Order_init ?l_Order_init ?e_Order_init ?p_Order_init ?a_Orders_init ?i_Orders_init ?l_Orders_init ?e_Orders_init ?p_Orders_init ?a_Orders_start ?i_Orders_start ?l_Orders_start ?e_Orders_start ?p_Orders_start ?a_Orders_order ?i_Orders_order ?l_Orders_order ?e_Orders_order ?p_Orders_order ?a_Orders_begin_batch ?i_Orders_begin_batch ?l_Orders_begin_batch ?e_Orders_begin_batch ?p_Orders_begin_batch ?a_Orders_run ?i_Orders_run ?l_Orders_run ?e_Orders_run ?p_Orders_run ?a_Orders_result ?i_Orders_result ?l_Orders_result ?e_Orders_result ?p_Orders_result ?a_Orders_close ?i_Orders_close ?l_Orders_close ?e_Orders_close ?p_Orders_close ?a_Orders_give ?i_Orders_give ?l_Orders_give ?e_Orders_give ?p_Orders_give ?a_Orders_state ?i_Orders_state ?l_Orders_state ?e_Orders_state ?p_Orders_state ?a_Orders_has ?i_Orders_has ?l_Orders_has ?e_Orders_has ?p_Orders_has ?a_spot_of ?l_spot_of ?e_spot_of ?p_spot_of ?a_Tube_init ?i_Tube_init ?l_Tube_init ?e_Tube_init ?p_Tube_init ?a_Tubes_init ?i_Tubes_init ?l_Tubes_init ?e_Tubes_init ?p_Tubes_init ?a_Tubes_start ?i_Tubes_start ?l_Tubes_start ?e_Tubes_start ?p_Tubes_start ?a_Tubes_sample ?i_Tubes_sample ?l_Tubes_sample ?e_Tubes_sample ?p_Tubes_sample ?a_Tubes_take ?i_Tubes_take ?l_Tubes_take ?e_Tubes_take ?p_Tubes_take ?a_Tubes_use ?i_Tubes_use ?l_Tubes_use ?e_Tubes_use ?p_Tubes_use ?a_Tubes_put ?i_Tubes_put ?l_Tubes_put ?e_Tubes_put ?p_Tubes_put ?a_Tubes_at ?i_Tubes_at ?l_Tubes_at ?e_Tubes_at ?p_Tubes_at ?a_Tubes_of ?i_Tubes_of ?l_Tubes_of ?e_Tubes_of ?p_Tubes_of ?a_Tubes_sum_of ?i_Tubes_sum_of ?l_Tubes_sum_of ?e_Tubes_sum_of ?p_Tubes_sum_of ?a_Tubes_has ?i_Tubes_has ?l_Tubes_has ?e_Tubes_has ?p_Tubes_has ?a_Tubes_is_full ?i_Tubes_is_full ?l_Tubes_is_full ?e_Tubes_is_full ?p_Tubes_is_full ?a_Tubes_add ?i_Tubes_add ?l_Tubes_add ?e_Tubes_add ?p_Tubes_add ?a_Tubes_refusal_to_draw ?i_Tubes_refusal_to_draw ?l_Tubes_refusal_to_draw ?e_Tubes_refusal_to_draw ?p_Tubes_refusal_to_draw ?a_Tubes_standing_at ?i_Tubes_standing_at ?l_Tubes_standing_at ?e_Tubes_standing_at ?p_Tubes_standing_at ?a_call_end ?l_call_end ?e_call_end ?p_call_end ?a_controls_answer ?l_controls_answer ?e_controls_answer ?p_controls_answer ?a_tubes_answer ?l_tubes_answer ?e_tubes_answer ?p_tubes_answer ?a_orders_answer ?l_orders_answer ?e_orders_answer ?p_orders_answer ?a_answers ?l_answers ?e_answers ?p_answers ?pg_Controls ?hd_Controls ?po_Controls ?sa_Controls ?mk_Controls ?kc_Controls ?n_Controls_mean ?n_Controls_spread ?n_Controls_counted ?n_Controls_recent ?pg_Order ?hd_Order ?po_Order ?sa_Order ?mk_Order ?kc_Order ?n_Order_patient ?n_Order_test ?n_Order_stage ?n_Order_value ?pg_Orders ?hd_Orders ?po_Orders ?sa_Orders ?mk_Orders ?kc_Orders ?n_Orders_orders ?n_Orders_batches ?pg_Tube ?hd_Tube ?po_Tube ?sa_Tube ?mk_Tube ?kc_Tube ?n_Tube_patient ?n_Tube_origin ?n_Tube_depth ?n_Tube_left ?n_Tube_spot ?n_Tube_used ?pg_Tubes ?hd_Tubes ?po_Tubes ?sa_Tubes ?mk_Tubes ?kc_Tubes ?n_Tubes_tubes ?k_NO_SUCH ?k_NOT_NOW ?k_BUSY ?k_ALREADY ?k_NOT_AS_TOLD ?k_FULL ?k_TOO_LITTLE ?k_OTHER_PATIENT ?k_FARTHEST_MEAN ?k_WIDEST_SPREAD ?k_MOST_VALUES ?k_MOST_COUNTED ?k_LOOKED_BACK ?k_MOST_ORDERS ?k_LAST_TEST ?k_WAITS ?k_IN_BATCH ?k_HAS_RESULT ?k_READY ?k_GIVEN_OUT ?k_MOST_TUBES ?k_LAST_RACK ?k_LAST_PLACE ?k_NOWHERE ?k_LEFT_MODULUS ?k_START_CONTROLS ?k_BATCH ?k_START_TUBES ?k_SAMPLE ?k_TAKE ?k_USE ?k_PUT ?k_AT ?k_OF ?k_START_ORDERS ?k_ORDER ?k_BEGIN_BATCH ?k_RUN ?k_RESULT ?k_CLOSE ?k_GIVE ?d_HANDED_OVER ?do_HANDED_OVER ?dk_HANDED_OVER ?b_enumerate ?b_len ?b_list ?b_max ?b_min ?b_sum
      (case ac_Controls => k_is)
      (case ac_Order => k_is)
      (case ac_Orders => k_is)
      (case ac_Tube => k_is)
      (case ac_Tubes => k_is)
      (case a_one_sided => k_is)
      (case l_one_sided => k_is)
      (case e_one_sided => k_is)
      (case p_one_sided => k_is)
      (case a_broken_in_a_row => k_is)
      (case l_broken_in_a_row => k_is)
      (case e_broken_in_a_row => k_is)
      (case p_broken_in_a_row => k_is)
      (case a_far_apart => k_is)
      (case l_far_apart => k_is)
      (case e_far_apart => k_is)
      (case p_far_apart => k_is)
      (case a_broken_rules => k_is)
      (case l_broken_rules => k_is)
      (case e_broken_rules => k_is)
      (case p_broken_rules => k_is)
      (case a_Controls_init => k_is)
      (case i_Controls_init => k_is)
      (case l_Controls_init => k_is)
      (case e_Controls_init => k_is)
      (case p_Controls_init => k_is)
      (case a_Controls_start => k_is)
      (case i_Controls_start => k_is)
      (case l_Controls_start => k_is)
      (case e_Controls_start => k_is)
      (case p_Controls_start => k_is)
      (case a_Controls_batch => k_is)
      (case i_Controls_batch => k_is)
      (case l_Controls_batch => k_is)
      (case e_Controls_batch => k_is)
      (case p_Controls_batch => k_is)
      (case a_Controls_how_many => k_is)
      (case i_Controls_how_many => k_is)
      (case l_Controls_how_many => k_is)
      (case e_Controls_how_many => k_is)
      (case p_Controls_how_many => k_is)
      (case a_Controls_keep => k_is)
      (case i_Controls_keep => k_is)
      (case l_Controls_keep => k_is)
      (case e_Controls_keep => k_is)
      (case p_Controls_keep => k_is)
      (case a_Controls_forget => k_is)
      (case i_Controls_forget => k_is)
      (case l_Controls_forget => k_is)
      (case e_Controls_forget => k_is)
      (case p_Controls_forget => k_is)
      (case a_leave_batch => k_is)
      (case l_leave_batch => k_is)
      (case e_leave_batch => k_is)
      (case p_leave_batch => k_is)
      (case a_Order_init => k_is)
      (case i_Order_init => k_is)
      (case l_Order_init => k_is)
      (case e_Order_init => k_is)
      (case p_Order_init => k_is)
      (case a_Orders_init => k_is)
      (case i_Orders_init => k_is)
      (case l_Orders_init => k_is)
      (case e_Orders_init => k_is)
      (case p_Orders_init => k_is)
      (case a_Orders_start => k_is)
      (case i_Orders_start => k_is)
      (case l_Orders_start => k_is)
      (case e_Orders_start => k_is)
      (case p_Orders_start => k_is)
      (case a_Orders_order => k_is)
      (case i_Orders_order => k_is)
      (case l_Orders_order => k_is)
      (case e_Orders_order => k_is)
      (case p_Orders_order => k_is)
      (case a_Orders_begin_batch => k_is)
      (case i_Orders_begin_batch => k_is)
      (case l_Orders_begin_batch => k_is)
      (case e_Orders_begin_batch => k_is)
      (case p_Orders_begin_batch => k_is)
      (case a_Orders_run => k_is)
      (case i_Orders_run => k_is)
      (case l_Orders_run => k_is)
      (case e_Orders_run => k_is)
      (case p_Orders_run => k_is)
      (case a_Orders_result => k_is)
      (case i_Orders_result => k_is)
      (case l_Orders_result => k_is)
      (case e_Orders_result => k_is)
      (case p_Orders_result => k_is)
      (case a_Orders_close => k_is)
      (case i_Orders_close => k_is)
      (case l_Orders_close => k_is)
      (case e_Orders_close => k_is)
      (case p_Orders_close => k_is)
      (case a_Orders_give => k_is)
      (case i_Orders_give => k_is)
      (case l_Orders_give => k_is)
      (case e_Orders_give => k_is)
      (case p_Orders_give => k_is)
      (case a_Orders_state => k_is)
      (case i_Orders_state => k_is)
      (case l_Orders_state => k_is)
      (case e_Orders_state => k_is)
      (case p_Orders_state => k_is)
      (case a_Orders_has => k_is)
      (case i_Orders_has => k_is)
      (case l_Orders_has => k_is)
      (case e_Orders_has => k_is)
      (case p_Orders_has => k_is)
      (case a_spot_of => k_is)
      (case l_spot_of => k_is)
      (case e_spot_of => k_is)
      (case p_spot_of => k_is)
      (case a_Tube_init => k_is)
      (case i_Tube_init => k_is)
      (case l_Tube_init => k_is)
      (case e_Tube_init => k_is)
      (case p_Tube_init => k_is)
      (case a_Tubes_init => k_is)
      (case i_Tubes_init => k_is)
      (case l_Tubes_init => k_is)
      (case e_Tubes_init => k_is)
      (case p_Tubes_init => k_is)
      (case a_Tubes_start => k_is)
      (case i_Tubes_start => k_is)
      (case l_Tubes_start => k_is)
      (case e_Tubes_start => k_is)
      (case p_Tubes_start => k_is)
      (case a_Tubes_sample => k_is)
      (case i_Tubes_sample => k_is)
      (case l_Tubes_sample => k_is)
      (case e_Tubes_sample => k_is)
      (case p_Tubes_sample => k_is)
      (case a_Tubes_take => k_is)
      (case i_Tubes_take => k_is)
      (case l_Tubes_take => k_is)
      (case e_Tubes_take => k_is)
      (case p_Tubes_take => k_is)
      (case a_Tubes_use => k_is)
      (case i_Tubes_use => k_is)
      (case l_Tubes_use => k_is)
      (case e_Tubes_use => k_is)
      (case p_Tubes_use => k_is)
      (case a_Tubes_put => k_is)
      (case i_Tubes_put => k_is)
      (case l_Tubes_put => k_is)
      (case e_Tubes_put => k_is)
      (case p_Tubes_put => k_is)
      (case a_Tubes_at => k_is)
      (case i_Tubes_at => k_is)
      (case l_Tubes_at => k_is)
      (case e_Tubes_at => k_is)
      (case p_Tubes_at => k_is)
      (case a_Tubes_of => k_is)
      (case i_Tubes_of => k_is)
      (case l_Tubes_of => k_is)
      (case e_Tubes_of => k_is)
      (case p_Tubes_of => k_is)
      (case a_Tubes_sum_of => k_is)
      (case i_Tubes_sum_of => k_is)
      (case l_Tubes_sum_of => k_is)
      (case e_Tubes_sum_of => k_is)
      (case p_Tubes_sum_of => k_is)
      (case a_Tubes_has => k_is)
      (case i_Tubes_has => k_is)
      (case l_Tubes_has => k_is)
      (case e_Tubes_has => k_is)
      (case p_Tubes_has => k_is)
      (case a_Tubes_is_full => k_is)
      (case i_Tubes_is_full => k_is)
      (case l_Tubes_is_full => k_is)
      (case e_Tubes_is_full => k_is)
      (case p_Tubes_is_full => k_is)
      (case a_Tubes_add => k_is)
      (case i_Tubes_add => k_is)
      (case l_Tubes_add => k_is)
      (case e_Tubes_add => k_is)
      (case p_Tubes_add => k_is)
      (case a_Tubes_refusal_to_draw => k_is)
      (case i_Tubes_refusal_to_draw => k_is)
      (case l_Tubes_refusal_to_draw => k_is)
      (case e_Tubes_refusal_to_draw => k_is)
      (case p_Tubes_refusal_to_draw => k_is)
      (case a_Tubes_standing_at => k_is)
      (case i_Tubes_standing_at => k_is)
      (case l_Tubes_standing_at => k_is)
      (case e_Tubes_standing_at => k_is)
      (case p_Tubes_standing_at => k_is)
      (case a_call_end => k_is)
      (case l_call_end => k_is)
      (case e_call_end => k_is)
      (case p_call_end => k_is)
      (case a_controls_answer => k_is)
      (case l_controls_answer => k_is)
      (case e_controls_answer => k_is)
      (case p_controls_answer => k_is)
      (case a_tubes_answer => k_is)
      (case l_tubes_answer => k_is)
      (case e_tubes_answer => k_is)
      (case p_tubes_answer => k_is)
      (case a_orders_answer => k_is)
      (case l_orders_answer => k_is)
      (case e_orders_answer => k_is)
      (case p_orders_answer => k_is)
      (case a_answers => k_is)
      (case l_answers => k_is)
      (case e_answers => k_is)
      (case p_answers => k_is)
      (case pg_Controls => k_is)
      (case hd_Controls => k_is)
      (case po_Controls => k_is)
      (case sa_Controls => k_is)
      (case mk_Controls => k_is)
      (case kc_Controls => k_is)
      (case n_Controls_mean => k_is)
      (case n_Controls_spread => k_is)
      (case n_Controls_counted => k_is)
      (case n_Controls_recent => k_is)
      (case pg_Order => k_is)
      (case hd_Order => k_is)
      (case po_Order => k_is)
      (case sa_Order => k_is)
      (case mk_Order => k_is)
      (case kc_Order => k_is)
      (case n_Order_patient => k_is)
      (case n_Order_test => k_is)
      (case n_Order_stage => k_is)
      (case n_Order_value => k_is)
      (case pg_Orders => k_is)
      (case hd_Orders => k_is)
      (case po_Orders => k_is)
      (case sa_Orders => k_is)
      (case mk_Orders => k_is)
      (case kc_Orders => k_is)
      (case n_Orders_orders => k_is)
      (case n_Orders_batches => k_is)
      (case pg_Tube => k_is)
      (case hd_Tube => k_is)
      (case po_Tube => k_is)
      (case sa_Tube => k_is)
      (case mk_Tube => k_is)
      (case kc_Tube => k_is)
      (case n_Tube_patient => k_is)
      (case n_Tube_origin => k_is)
      (case n_Tube_depth => k_is)
      (case n_Tube_left => k_is)
      (case n_Tube_spot => k_is)
      (case n_Tube_used => k_is)
      (case pg_Tubes => k_is)
      (case hd_Tubes => k_is)
      (case po_Tubes => k_is)
      (case sa_Tubes => k_is)
      (case mk_Tubes => k_is)
      (case kc_Tubes => k_is)
      (case n_Tubes_tubes => k_is)
      (case k_NO_SUCH => k_is)
      (case k_NOT_NOW => k_is)
      (case k_BUSY => k_is)
      (case k_ALREADY => k_is)
      (case k_NOT_AS_TOLD => k_is)
      (case k_FULL => k_is)
      (case k_TOO_LITTLE => k_is)
      (case k_OTHER_PATIENT => k_is)
      (case k_FARTHEST_MEAN => k_is)
      (case k_WIDEST_SPREAD => k_is)
      (case k_MOST_VALUES => k_is)
      (case k_MOST_COUNTED => k_is)
      (case k_LOOKED_BACK => k_is)
      (case k_MOST_ORDERS => k_is)
      (case k_LAST_TEST => k_is)
      (case k_WAITS => k_is)
      (case k_IN_BATCH => k_is)
      (case k_HAS_RESULT => k_is)
      (case k_READY => k_is)
      (case k_GIVEN_OUT => k_is)
      (case k_MOST_TUBES => k_is)
      (case k_LAST_RACK => k_is)
      (case k_LAST_PLACE => k_is)
      (case k_NOWHERE => k_is)
      (case k_LEFT_MODULUS => k_is)
      (case k_START_CONTROLS => k_is)
      (case k_BATCH => k_is)
      (case k_START_TUBES => k_is)
      (case k_SAMPLE => k_is)
      (case k_TAKE => k_is)
      (case k_USE => k_is)
      (case k_PUT => k_is)
      (case k_AT => k_is)
      (case k_OF => k_is)
      (case k_START_ORDERS => k_is)
      (case k_ORDER => k_is)
      (case k_BEGIN_BATCH => k_is)
      (case k_RUN => k_is)
      (case k_RESULT => k_is)
      (case k_CLOSE => k_is)
      (case k_GIVE => k_is)
      (case d_HANDED_OVER => k_is)
      (case do_HANDED_OVER => k_is)
      (case dk_HANDED_OVER => decide +kernel)
      (case b_enumerate => k_is)
      (case b_len => k_is)
      (case b_list => k_is)
      (case b_max => k_is)
      (case b_min => k_is)
      (case b_sum => k_is)
    have e0 := hmg.symm.trans T.g_answers
    cases e0
    exact ⟨_, hb, fun base _ _ => WL.ok_answers T⟩
  case S => exact fun K H l ns h1 h2 h3 hO hS => WL.spAns_ok h1 h2 h3 hO hS
#print axioms PySem.Challenge.cw_wholelab_s01_answers_holds
