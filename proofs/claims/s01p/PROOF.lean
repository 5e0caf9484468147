import PyProof.Rows.All
import Wide.All
import OpenK.AllK
import Wide.FinOn
import PyProof.EqAt
import PyProof.EqKinds
import PyProof.TupleCall
import KE.BitLaws
import KE.OsGo
import Open.SpecLaws
import PySem.Challenge.RW_outoforder_s01_answers
set_option Elab.async false
set_option linter.all false
set_option maxRecDepth 100000
namespace L2
open PySem PySem.Spec PyProof.Rows
abbrev Key := Sum Int Str
def keyIs : Key → Value → Bool
  | .inl k, v => Value.isInt k v
  | .inr x, v => Value.isStrOf x v
def keyH (w : World) : Key → Int
  | .inl k => hashInt k
  | .inr x => hashStr w x
theorem keyIs_shape : ∀ {k : Key} {v : Value}, keyIs k v = true → (∃ i t, k = Sum.inl i ∧ v = Value.int i t) ∨ (∃ x t, k = Sum.inr x ∧ v = Value.str x t)
  | .inl i, v, h => by
    obtain ⟨t, e⟩ := Value.isInt_shape (k := i) (v := v) h
    exact .inl ⟨i, t, rfl, e⟩
  | .inr x, v, h => by
    obtain ⟨t, e⟩ := Value.isStrOf_shape (x := x) (v := v) h
    exact .inr ⟨x, t, rfl, e⟩
theorem keyIs_int (i : Int) (t : Tok) : keyIs (.inl i) (.int i t) = true := by simp [keyIs, Value.isInt]
theorem keyIs_str (x : Str) (t : Tok) : keyIs (.inr x) (.str x t) = true := by simp [keyIs, Value.isStrOf]
theorem key_ll (a b : Int) : decide ((Sum.inl a : Key) = Sum.inl b) = (a == b) := by
  by_cases e : a = b
  · subst e; simp
  · have h : ¬ (Sum.inl a : Key) = Sum.inl b := fun q => e (Sum.inl.inj q)
    rw [decide_eq_false h]
    exact (beq_eq_false_iff_ne.mpr e).symm
theorem key_rr (a b : Str) : decide ((Sum.inr a : Key) = Sum.inr b) = decide (a = b) := by
  by_cases e : a = b
  · subst e; simp
  · have h : ¬ (Sum.inr a : Key) = Sum.inr b := fun q => e (Sum.inr.inj q)
    rw [decide_eq_false h, decide_eq_false e]
theorem key_lr (a : Int) (b : Str) : decide ((Sum.inl a : Key) = Sum.inr b) = false := decide_eq_false (fun q => nomatch q)
theorem key_rl (a : Str) (b : Int) : decide ((Sum.inr a : Key) = Sum.inl b) = false := decide_eq_false (fun q => nomatch q)
def mixKind (prog : Program) (w : World) : PySem.KeyKind prog w Key where
  is := keyIs
  hash := keyH w
  inj := fun v a b ha hb => by
    rcases keyIs_shape ha with ⟨i, t, rfl, rfl⟩ | ⟨x, t, rfl, rfl⟩
    · rcases keyIs_shape hb with ⟨j, u, rfl, e⟩ | ⟨y, u, rfl, e⟩
      · injection e with e1 _; rw [e1]
      · exact nomatch e
    · rcases keyIs_shape hb with ⟨j, u, rfl, e⟩ | ⟨y, u, rfl, e⟩
      · exact nomatch e
      · injection e with e1 _; rw [e1]
  byValue := fun k v h => by
    rcases keyIs_shape h with ⟨i, t, rfl, rfl⟩ | ⟨x, t, rfl, rfl⟩ <;> rfl
  pyHash := fun hv h => by
    rcases keyIs_shape hv with ⟨i, t, rfl, rfl⟩ | ⟨x, t, rfl, rfl⟩
    · exact wpAny_pyHash_int h
    · exact wpAny_pyHash_str h
  eqBool := fun hu hv h => by
    rcases keyIs_shape hu with ⟨i, t, rfl, rfl⟩ | ⟨x, t, rfl, rfl⟩
    · rcases keyIs_shape hv with ⟨j, u, rfl, rfl⟩ | ⟨y, u, rfl, rfl⟩
      · rw [key_ll] at h; exact wpAny_eqBool_int h
      · rw [key_lr] at h; exact SeqAt.EqAt.int_str i t y u _ _ _ _ h
    · rcases keyIs_shape hv with ⟨j, u, rfl, rfl⟩ | ⟨y, u, rfl, rfl⟩
      · rw [key_rl] at h; exact SeqAt.EqAt.str_int x t j u _ _ _ _ h
      · rw [key_rr] at h; exact wpAny_eqBool_str h
  «strs» := fun k x t v h => by
    rcases keyIs_shape h with ⟨i, u, rfl, e⟩ | ⟨y, u, rfl, e⟩
    · exact nomatch e
    · injection e with e1 _
      subst e1
      cases v <;> rfl
theorem mixKind_int (prog : Program) (w : World) (i : Int) (t : Tok) : (mixKind prog w).is (.inl i) (.int i t) = true := keyIs_int i t
theorem mixKind_str (prog : Program) (w : World) (x : Str) (t : Tok) : (mixKind prog w).is (.inr x) (.str x t) = true := keyIs_str x t
end L2
namespace L2
open PySem PySem.Spec PyProof.Rows
inductive V where
  | non | bl (b : Bool) | int (i : Int) | str (x : Str) | byt (b : Array UInt8) | flt (b : UInt64) | ref (a : Addr) | ty (n : String)
  deriving DecidableEq
def RelV : V → Value → Prop
  | .non, u => u = Value.none
  | .bl b, u => u = Value.bool b
  | .int i, u => ∃ t, u = Value.int i t
  | .str x, u => ∃ t, u = Value.str x t
  | .byt b, u => ∃ t, u = Value.bytes b t
  | .flt b, u => ∃ t, u = Value.float b t
  | .ref a, u => u = Value.ref a
  | .ty n, u => u = Value.type n
abbrev Vals : List V → List Value → Prop := Paired RelV
theorem Vals.length {xs : List V} {us : List Value} (r : Vals xs us) : xs.length = us.length := Paired.length r
theorem Vals.get : ∀ {xs : List V} {us : List Value} {i : Nat} {x : V}, Vals xs us → xs[i]? = some x → ∃ u, us[i]? = some u ∧ RelV x u
  | _, _, _, _, .nil, e => by simp at e
  | _, _, 0, _, .cons r _, e => by simp at e; subst e; exact ⟨_, rfl, r⟩
  | _, _, i + 1, x, .cons _ t, e => by
    obtain ⟨u, h1, h2⟩ := Vals.get (i := i) (x := x) t (by simpa using e)
    exact ⟨u, by simpa using h1, h2⟩
theorem Vals.set {x : V} {u : Value} (r : RelV x u) : ∀ {xs : List V} {us : List Value} (i : Nat), Vals xs us → Vals (xs.set i x) (us.set i u)
  | _, _, _, .nil => .nil
  | _, _, 0, .cons _ t => .cons r t
  | _, _, i + 1, .cons q t => .cons q (Vals.set r i t)
theorem Vals.append : ∀ {xs ys : List V} {us ws : List Value}, Vals xs us → Vals ys ws → Vals (xs ++ ys) (us ++ ws)
  | _, _, _, _, .nil, s => s
  | _, _, _, _, .cons r t, s => .cons r (Vals.append t s)
theorem Vals.take : ∀ {xs : List V} {us : List Value} (n : Nat), Vals xs us → Vals (xs.take n) (us.take n)
  | _, _, 0, _ => .nil
  | _, _, _ + 1, .nil => .nil
  | _, _, n + 1, .cons r t => .cons r (Vals.take n t)
theorem Vals.drop : ∀ {xs : List V} {us : List Value} (n : Nat), Vals xs us → Vals (xs.drop n) (us.drop n)
  | _, _, 0, r => r
  | _, _, _ + 1, .nil => .nil
  | _, _, n + 1, .cons _ t => Vals.drop n t
def RelO : Option V → Option Value → Prop
  | some v, some u => RelV v u
  | none, none => True
  | _, _ => False
def KV {κ : Type} : List (κ × V) → List (κ × Value) → Prop := Paired fun (p : κ × V) (q : κ × Value) => p.1 = q.1 ∧ RelV p.2 q.2
def kV : Key → V
  | .inl i => .int i
  | .inr x => .str x
inductive HO where
  /-- a list -/
  | lst (xs : List V)
  /-- a tuple (never changes) -/
  | tup (xs : List V)
  /-- a dict whose keys are ints and texts; one whose keys are tuples of ints and texts (the empty one is both) -/
  | dK (kvs : List (Key × V)) | dT (kvs : List (List Key × V))
  /-- a set of ints: its members, its size -/
  | set (S : Int → Bool) (n : Nat)
  /-- an instance of the class at C, its dict at dx, its attributes -/
  | ins (C dx : Addr) (fs : List (Str × V))
  /-- the dict of the instance at x -/
  | own (x : Addr)
  /-- the dict of an exception -/
  | xd (fs : List (Str × V))
  /-- a bound method, f of x -/
  | met (f x : Addr)
  /-- a range object lo, lo + 1, .. below hi -/
  | rng (lo hi : Int)
  /-- a thing that is known to the object (the script; a dict while a loop walks it): read, never written while it is so -/
  | frz (o : Obj) (u : HO)
  /-- a code object's table -/
  | tbl (ps : Array Value)
  /-- any other thing, by what is true of its one object (a def of one's own: SetO a S n := HO.ext fun h => ..) -/
  | ext (φ : Heap → Prop)
abbrev Hp := Addr → Option HO
def upd (H : Hp) (a : Addr) (o : HO) : Hp := fun b => if b = a then some o else H b
theorem upd_same {H : Hp} {a : Addr} {o : HO} : upd H a o a = some o := by unfold upd; rw [if_pos rfl]
theorem upd_ne {H : Hp} {a b : Addr} {o : HO} (h : b ≠ a) : upd H a o b = H b := by unfold upd; rw [if_neg h]
theorem upd_upd {H : Hp} {a : Addr} {o u : HO} : upd (upd H a o) a u = upd H a u := by
  funext b; unfold upd; split <;> rfl
theorem ne_of {H : Hp} {a b : Addr} {o u : HO} (h : H a = some o) (h' : H b = some u) (d : o ≠ u) : a ≠ b := by
  intro e; subst e; rw [h] at h'; exact d (Option.some.inj h')
theorem ne_of_none {H : Hp} {a b : Addr} {o : HO} (h : H a = some o) (h' : H b = none) : a ≠ b := by
  intro e; subst e; rw [h] at h'; cases h'
section
variable (P : Program) (w : World)
def ObjOk (H : Hp) (h : Heap) (a : Addr) : HO → Prop
  | .lst xs => xs.length ≤ sizeLine ∧ ∃ (its : List Value) (n : Nat), Vals xs its ∧ h.get? a = some { cls := .type "list", data := .seq its.toArray n }
  | .tup xs => xs.length ≤ sizeLine ∧ ∃ its : List Value, Vals xs its ∧ IsTup h a its.toArray
  | .dK kvs => kvs.length ≤ sizeLine ∧ (a == sysModules) = false ∧ ∃ vs, KV kvs vs ∧ h.DictOf (mixKind P w) a vs
  | .dT kvs => kvs.length ≤ sizeLine ∧ (a == sysModules) = false ∧ ∃ xs : List (List Key × Addr × Value),
      Paired (fun (p : List Key × V) (q : List Key × Addr × Value) => p.1 = q.1 ∧ H q.2.1 = some (.tup (p.1.map kV)) ∧ RelV p.2 q.2.2) kvs xs ∧
      ∃ o es ep, h.get? a = some o ∧ o.ExactDict ∧ o.data = .dict es ep ∧ es.toList = xs.map (entryOfKey (tupleKind (mixKind P w))) ∧ (xs.map (·.1)).Nodup
  | .set S n => h.SetOf (intKind P w) a S n
  | .ins C dx fs => H dx = some (.own a) ∧ fs.length ≤ 1000 ∧ dx ≠ a ∧ h.get? a = some (PySem.W.instObj C dx) ∧
      ∃ mA, h.Ns1 dx mA ∧ (∀ f, RelO (fs.lookup f) (mA f)) ∧ PySem.Within mA (fs.map (·.1))
  | .own _ => ∃ o, h.get? a = some o
  | .xd fs => ∃ mA, h.Ns1 a mA ∧ ∀ f, RelO (fs.lookup f) (mA f)
  | .rng lo hi => ∃ t u v, h.get? a = some { cls := .type "range", data := .fields #[.int lo t, .int hi u, .int 1 v] }
  | .frz o u => h.get? a = some o ∧ ObjOk H h a u
  | .tbl ps => h.get? a = some { cls := .none, data := .fields ps }
  | .met f x => h.get? a = some (PySem.W.methodObj (.ref f) (.ref x))
  | .ext φ => φ h ∧ (∃ o, h.get? a = some o) ∧ ∀ h1 h2 : Heap, φ h1 → (∀ o, h1.get? a = some o → h2.get? a = some o) → φ h2
def HOk (H : Hp) (h : Heap) : Prop := ∀ a o, H a = some o → ObjOk P w H h a o
end
section
variable {P : Program} {w : World} {H H' : Hp} {h h' : Heap} {a : Addr} {o : HO}
theorem ObjOk.lt (x : ObjOk P w H h a o) : a < h.objs.size := by
  cases o with
  | lst xs => obtain ⟨_, _, _, _, e⟩ := x; exact Heap.lt_size e
  | tup xs => obtain ⟨_, _, _, p⟩ := x; exact p.lt
  | dK kvs => obtain ⟨_, _, _, _, o, _, _, e, _⟩ := x; exact Heap.lt_size e
  | dT kvs => obtain ⟨_, _, _, _, o, _, _, e, _⟩ := x; exact Heap.lt_size e
  | set S n => obtain ⟨o, _, _, _, e, _⟩ := x; exact Heap.lt_size e
  | ins C dx fs => obtain ⟨_, _, _, e, _⟩ := x; exact Heap.lt_size e
  | own y => obtain ⟨_, e⟩ := x; exact Heap.lt_size e
  | xd fs => obtain ⟨_, ⟨_, _, _, e, _⟩, _⟩ := x; exact Heap.lt_size e
  | rng lo hi => obtain ⟨_, _, _, e⟩ := x; exact Heap.lt_size e
  | frz ob u => obtain ⟨e, _⟩ := x; exact Heap.lt_size e
  | tbl ps => exact Heap.lt_size (show h.get? a = some _ from x)
  | met f y => exact Heap.lt_size (show h.get? a = some _ from x)
  | ext φ => obtain ⟨_, ⟨_, e⟩, _⟩ := x; exact Heap.lt_size e
theorem Paired.mapP {α β : Type} {F G : α → β → Prop} : ∀ {l₁ : List α} {l₂ : List β}, Paired F l₁ l₂ → (∀ a b, F a b → G a b) → Paired G l₁ l₂
  | _, _, .nil, _ => .nil
  | _, _, .cons r t, f => .cons (f _ _ r) (Paired.mapP t f)
theorem ObjOk.stay (x : ObjOk P w H h a o) (k : ∀ b u, (b = a ∨ H b = some (.own a)) → h.get? b = some u → h'.get? b = some u)
    (ho : ∀ b, H b = some (.own a) → H' b = some (.own a)) (ht : ∀ b xs, H b = some (.tup xs) → H' b = some (.tup xs)) : ObjOk P w H' h' a o := by
  induction o with
  | lst xs => obtain ⟨z, its, n, r, e⟩ := x; exact ⟨z, its, n, r, k _ _ (.inl rfl) e⟩
  | tup xs => obtain ⟨z, its, r, ob, e, c⟩ := x; exact ⟨z, its, r, ob, k _ _ (.inl rfl) e, c⟩
  | dK kvs => obtain ⟨z, y, vs, r, ob, es, ep, e, c⟩ := x; exact ⟨z, y, vs, r, ob, es, ep, k _ _ (.inl rfl) e, c⟩
  | dT kvs =>
    obtain ⟨z, y, xs, r, ob, es, ep, e, c⟩ := x
    exact ⟨z, y, xs, Paired.mapP r fun p q z => ⟨z.1, ht _ _ z.2.1, z.2.2⟩, ob, es, ep, k _ _ (.inl rfl) e, c⟩
  | set S n => obtain ⟨ob, es, ep, t, e, c⟩ := x; exact ⟨ob, es, ep, t, k _ _ (.inl rfl) e, c⟩
  | ins C dx fs =>
    obtain ⟨d, z, ne, e, mA, ⟨od, es, ep, e2, c⟩, r⟩ := x
    exact ⟨ho _ d, z, ne, k _ _ (.inl rfl) e, mA, ⟨od, es, ep, k _ _ (.inr d) e2, c⟩, r⟩
  | own y => obtain ⟨ob, e⟩ := x; exact ⟨ob, k _ _ (.inl rfl) e⟩
  | xd fs => obtain ⟨mA, ⟨od, es, ep, e, c⟩, r⟩ := x; exact ⟨mA, ⟨od, es, ep, k _ _ (.inl rfl) e, c⟩, r⟩
  | rng lo hi => obtain ⟨t, u, v, e⟩ := x; exact ⟨t, u, v, k _ _ (.inl rfl) e⟩
  | frz ob u ih => obtain ⟨e, q⟩ := x; exact ⟨k _ _ (.inl rfl) e, ih q⟩
  | tbl ps =>
    have e : h.get? a = some { cls := .none, data := .fields ps } := x
    show h'.get? a = some { cls := .none, data := .fields ps }
    exact k a _ (.inl rfl) e
  | met f y =>
    have e : h.get? a = some (PySem.W.methodObj (.ref f) (.ref y)) := x
    show h'.get? a = some (PySem.W.methodObj (.ref f) (.ref y))
    exact k a _ (.inl rfl) e
  | ext φ => obtain ⟨p, ⟨o, e⟩, st⟩ := x; exact ⟨st _ _ p fun o q => k _ _ (.inl rfl) q, ⟨o, k _ _ (.inl rfl) e⟩, st⟩
theorem HOk.lt (x : HOk P w H h) (e : H a = some o) : a < h.objs.size := (x a o e).lt
theorem HOk.fresh (x : HOk P w H h) (e : h.objs.size ≤ a) : H a = none := by
  cases q : H a with
  | none => rfl
  | some u => exact absurd (Nat.lt_of_lt_of_le (x.lt q) e) (Nat.lt_irrefl _)
theorem HOk.kept (x : HOk P w H h) (k : ∀ b u, h.get? b = some u → h'.get? b = some u) : HOk P w H h' := fun a o e =>
  (x a o e).stay (fun b u _ q => k b u q) (fun _ q => q) fun _ _ q => q
theorem HOk.laid (x : HOk P w H h) (k : ∀ b u, h.get? b = some u → h'.get? b = some u) (hp : h.objs.size ≤ a) (new : ObjOk P w (upd H a o) h' a o) : HOk P w (upd H a o) h' := fun b u e => by
  have hn := x.fresh hp
  by_cases hb : b = a
  · subst hb; rw [upd_same] at e; cases e; exact new
  · rw [upd_ne hb] at e
    exact (x b u e).stay (fun c v _ q => k c v q) (fun c q => by rw [upd_ne (ne_of_none q hn)]; exact q) fun c xs q => by rw [upd_ne (ne_of_none q hn)]; exact q
end
def Rd (H : Hp) (a : Addr) (u : HO) : Prop := H a = some u ∨ ∃ o, H a = some (.frz o u)
theorem Rd.ok {P : Program} {w : World} {H : Hp} {h : Heap} {a : Addr} {u : HO} (r : Rd H a u) (x : HOk P w H h) : ObjOk P w H h a u := by
  rcases r with r | ⟨o, r⟩
  · exact x a u r
  · obtain ⟨_, q⟩ := x a _ r
    exact q
def Mut : Option HO → Prop
  | some (.lst _) => True
  | some (.dK _) => True
  | some (.dT _) => True
  | some (.set _ _) => True
  | some (.ins _ _ _) => True
  | some (.ext _) => True
  | _ => False
section
variable {P : Program} {w : World} {H : Hp} {h h' : Heap} {x e : Addr} {o' : HO}
theorem HOk.write (ok : HOk P w H h) (mu : Mut (H x)) (he : e = x ∨ H e = some (.own x)) (k : ∀ b u, b ≠ e → h.get? b = some u → h'.get? b = some u) (heo : ∃ u, h'.get? e = some u)
    (new : ObjOk P w (upd H x o') h' x o') : HOk P w (upd H x o') h' := fun b u q => by
  have nown : ∀ c y, H c = some (.own y) → c ≠ x := fun c y r z => by subst z; rw [r] at mu; exact mu
  have ntup : ∀ c xs, H c = some (.tup xs) → c ≠ x := fun c xs r z => by subst z; rw [r] at mu; exact mu
  by_cases hb : b = x
  · subst hb; rw [upd_same] at q; cases q; exact new
  · rw [upd_ne hb] at q
    by_cases hbe : b = e
    · have q' : H b = some (.own x) := by
        rcases he with z | z
        · exact absurd (hbe.trans z) hb
        · rw [hbe]; exact z
      rw [q] at q'; cases q'
      obtain ⟨v, hv⟩ := heo
      exact ⟨v, by rw [hbe]; exact hv⟩
    · refine (ok b u q).stay (fun c v hc r => k c v ?_ r) (fun c r => by rw [upd_ne (nown c b r)]; exact r) fun c xs r => by rw [upd_ne (ntup c xs r)]; exact r
      rcases hc with rfl | hc
      · exact hbe
      · rintro rfl
        rcases he with z | z
        · exact nown c b hc z
        · rw [hc] at z; cases z; exact hb rfl
end
structure Un (fs ex : List Addr) (H H' : Hp) (h h' : Heap) : Prop where
  keep : ∀ b o, h.get? b = some o → H b = none → b ∉ fs → b ∉ ex → h'.get? b = some o
  slot : ∀ b o, h.get? b = some o → H b = none → b ∈ fs → b ∉ ex → ∃ sl, h'.get? b = some { o with slots := sl }
  free : ∀ b o, h.get? b = some o → H b = none → b ∉ ex → H' b = none
  there : ∀ b o, h.get? b = some o → b ∉ ex → ∃ o', h'.get? b = some o'
  tups : ∀ b xs, H b = some (.tup xs) → H' b = some (.tup xs)
  frzs : ∀ b o u, H b = some (.frz o u) → H' b = some (.frz o u)
  tbls : ∀ b ps, H b = some (.tbl ps) → ∃ more, H' b = some (.tbl (ps ++ more))
section
variable {fs fs' ex ex' : List Addr} {H H1 H2 : Hp} {h h1 h2 h' : Heap} {a x e : Addr} {o : HO}
theorem Un.any (u : Un fs ex H H1 h h1) {b : Addr} {ob : Obj} (q : h.get? b = some ob) (n : H b = none) (hx : b ∉ ex) : ∃ sl, h1.get? b = some { ob with slots := sl } := by
  by_cases hb : b ∈ fs
  · exact u.slot b ob q n hb hx
  · exact ⟨ob.slots, u.keep b ob q n hb hx⟩
theorem Un.kept (k : ∀ b u, h.get? b = some u → h'.get? b = some u) : Un fs ex H H h h' :=
  ⟨fun b ob q _ _ _ => k b ob q, fun b ob q _ _ _ => ⟨ob.slots, k b ob q⟩, fun _ _ _ n _ => n, fun b ob q _ => ⟨ob, k b ob q⟩, fun _ _ q => q, fun _ _ _ q => q, fun _ ps q => ⟨#[], by rw [q]; simp⟩⟩
theorem Un.refl : Un fs ex H H h h := Un.kept fun _ _ q => q
theorem Un.laid (k : ∀ b u, h.get? b = some u → h'.get? b = some u) (hp : h.objs.size ≤ a) (hn : H a = none) : Un fs ex H (upd H a o) h h' where
  keep := fun b u q _ _ _ => k b u q
  slot := fun b u q _ _ _ => ⟨u.slots, k b u q⟩
  free := fun b u q n _ => by rw [upd_ne (Nat.ne_of_lt (Nat.lt_of_lt_of_le (Heap.lt_size q) hp))]; exact n
  there := fun b u q _ => ⟨u, k b u q⟩
  tups := fun b xs q => by rw [upd_ne (ne_of_none q hn)]; exact q
  frzs := fun b u xs q => by rw [upd_ne (ne_of_none q hn)]; exact q
  tbls := fun b ps q => ⟨#[], by rw [upd_ne (ne_of_none q hn), q]; simp⟩
theorem Un.write (mu : Mut (H x)) (he : e = x ∨ H e = some (.own x)) (k : ∀ b u, b ≠ e → h.get? b = some u → h'.get? b = some u) (heo : ∃ u, h'.get? e = some u) : Un fs ex H (upd H x o) h h' := by
  have hx : ∀ b, H b = none → b ≠ x := fun b n z => by subst z; rw [n] at mu; exact mu
  have hb : ∀ b, H b = none → b ≠ e := fun b n z => by
    subst z
    rcases he with r | r
    · exact hx b n r
    · rw [n] at r; cases r
  have hm : ∀ b u, H b = some u → ¬ Mut (some u) → b ≠ x := fun b u q nm z => by subst z; rw [q] at mu; exact nm mu
  refine ⟨fun b u q n _ _ => k b u (hb b n) q, fun b u q n _ _ => ⟨u.slots, k b u (hb b n) q⟩, fun b u q n _ => by rw [upd_ne (hx b n)]; exact n, fun b u q _ => ?_,
    fun b xs q => by rw [upd_ne (hm b _ q fun z => z)]; exact q, fun b u xs q => by rw [upd_ne (hm b _ q fun z => z)]; exact q, fun b ps q => ⟨#[], by rw [upd_ne (hm b _ q fun z => z), q]; simp⟩⟩
  by_cases hbe : b = e
  · subst hbe; exact heo
  · exact ⟨u, k b u hbe q⟩
end
def trk (h : Heap) (H : Hp) : List Addr := (List.range h.objs.size).filter fun a => (H a).isSome
def hidT (h : Heap) (H : Hp) : Heap := PySem.W.hideAll h (trk h H)
theorem hidT_size (h : Heap) (H : Hp) : (hidT h H).objs.size = h.objs.size := PySem.W.hideAll_size _ _
theorem hidT_get {h : Heap} {H : Hp} {b : Addr} {o : Obj} (e : h.get? b = some o) (n : H b = none) : (hidT h H).get? b = some o :=
  PySem.W.hideAll_get _ e fun hm => by
    have q : (H b).isSome = true := (List.mem_filter.mp hm).2
    rw [n] at q; simp at q
theorem of_hidT {h : Heap} {H : Hp} {b : Addr} {o : Obj} (e : (hidT h H).get? b = some o) : h.get? b = some o ∧ H b = none := by
  have e' : h.get? b = some o := PySem.W.of_hideAll (trk h H) e
  refine ⟨e', ?_⟩
  cases q : H b with
  | none => rfl
  | some x =>
    have hm : b ∈ trk h H := List.mem_filter.mpr ⟨List.mem_range.mpr (Heap.lt_size e'), by simp [q]⟩
    have z : (hidT h H).get? b = none := PySem.W.hideAll_none (trk h H) hm
    rw [z] at e; cases e
end L2
namespace L2
open PySem PySem.Spec PyProof.Rows
structure Mod (K : PySem.W.Frag) (mg : Str → Option Value) (base : Heap) : Prop where
  kin : K.In base
  glob : base.Ns mainGlobals mg
  blt : ∃ mb, base.Ns builtinsNs mb ∧ ∀ x : Str, x ≠ "__name__" → mb x = bootBuiltins x
  nolimit : base.NoLimit
/-- the context: a def's body (or a comprehension's block) running. base: fixed through the whole law; s₀, H₀: the entry; outer: the frames whose slots others may change (a def's callers); stack: all frames that run;
   ex: iterators that were made ahead of the entry and are walked here (a comprehension's); fn: the names whose cells were made at the entry (a def: all; a comprehension's block: its own); calm: not within an except suite; pn: pins that every state bears; xe: what is wanted of an exception that leaves the code -/
structure Cx where
  prog : Program
  w : World
  K : PySem.W.Frag
  mg : Str → Option Value
  base : Heap
  A : Around
  N : List Str
  s_0 : Shared
  H_0 : Hp
  env : Env
  outer : List Env
  stack : List Env
  ex : List Addr
  fn : Str → Bool
  calm : Bool
  pn : List (Addr × Obj)
  xe : Value → Shared → Prop
def frs (l : List Env) : List Addr := l.filterMap (·.frame)
abbrev Cx.fs (X : Cx) : List Addr := frs X.outer
def Vis (sc : Scope) (x : Str) : Prop := sc.names.lookup x = some .local ∨ sc.names.lookup x = some .cell ∨ sc.names.lookup x = some .free
def Loc (sc : Scope) (x : Str) : Prop := sc.names.lookup x = some .local ∨ sc.names.lookup x = some .cell
def Look (env : Env) (h : Heap) (m : Str → Option Value) (x : Str) (u : Value) : Prop :=
  (env.kindOf x = some .local ∧ m x = some u) ∨ ((env.kindOf x = some .cell ∨ env.kindOf x = some .free) ∧ ∃ c, env.cells.lookup x = some c ∧ h.IsCell c (some u))
structure Cx.Ok (X : Cx) : Prop where
  mod : Mod X.K X.mg X.base
  kind : X.env.scope.kind = .function
  glob : X.env.globals = mainGlobals
  blt : X.env.builtins = builtinsNs
  above : X.s_0.heap.objs.size ≤ X.env.locals
  inj : ∀ x y c, X.env.cells.lookup x = some c → X.env.cells.lookup y = some c → x = y
  has : ∀ x, (X.env.kindOf x = some .cell ∨ X.env.kindOf x = some .free) → ∃ c, X.env.cells.lookup x = some c
  cab : ∀ x c, X.fn x = true → X.env.cells.lookup x = some c → X.s_0.heap.objs.size ≤ c
  hd : X.calm = true → X.A.handled = none
  frames : X.A.frames = some X.stack
  stk : X.stack = X.outer ∨ (X.stack = X.env :: X.outer ∧ X.env.frame = some X.env.locals)
  exf : ∀ b ∈ X.ex, b ≠ X.env.locals ∧ ∀ x c, X.env.cells.lookup x = some c → c ≠ b
  bs : ∀ b o, X.base.get? b = some o → X.s_0.heap.get? b = some o ∧ X.H_0 b = none
  bsz : X.base.objs.size ≤ X.s_0.heap.objs.size
  noex : ∀ b o, X.base.get? b = some o → b ∉ X.ex
  exfs : ∀ b ∈ X.ex, b ∉ X.fs
  funs : X.s_0.heap.FunFrames X.base X.outer
  frf : ∀ b ∈ X.fs, X.H_0 b = none
structure Inv (X : Cx) (pins : List (Addr × Obj)) (σ : List (Option V)) (H : Hp) (s : Shared) : Prop where
  ok : X.Ok
  os : s.os = X.s_0.os
  bare : AllBare s.gens
  base : Un X.fs X.ex X.H_0 H X.s_0.heap s.heap
  loc : ∃ m, s.heap.Ns X.env.locals m ∧ ∀ (i : Nat) (x : Str) (v : V), X.N[i]? = some x → σ[i]? = some (some v) → Vis X.env.scope x → ∃ u, RelV v u ∧ Look X.env s.heap m x u
  cell : ∀ x c, X.env.cells.lookup x = some c → ∃ v, s.heap.IsCell c v
  free : H X.env.locals = none
  freeC : ∀ x c, X.env.cells.lookup x = some c → H c = none
  pin : ∀ p ∈ X.pn ++ pins, s.heap.get? p.1 = some p.2 ∧ H p.1 = none ∧ p.1 ≠ X.env.locals ∧ p.1 ∉ X.fs ∧ ∀ v, p.2.data ≠ .cell v
  hok : HOk X.prog X.w H s.heap
  len : σ.length = X.N.length
section
variable {X : Cx} {pins : List (Addr × Obj)} {σ : List (Option V)} {H H' : Hp} {s : Shared} {h' : Heap}
theorem Cx.Ok.nofr (ok : X.Ok) {b : Addr} {o : Obj} (e : X.base.get? b = some o) : b ∉ X.fs := fun hb => by
  have := (ok.funs.mem hb).1
  rw [e] at this; cases this
theorem Inv.bs (I : Inv X pins σ H s) : ∀ b o, X.base.get? b = some o → s.heap.get? b = some o ∧ H b = none := fun b o e =>
  ⟨I.base.keep b o (I.ok.bs b o e).1 (I.ok.bs b o e).2 (I.ok.nofr e) (I.ok.noex b o e), I.base.free b o (I.ok.bs b o e).1 (I.ok.bs b o e).2 (I.ok.noex b o e)⟩
theorem Inv.bk (I : Inv X pins σ H s) : ∀ b o, X.base.get? b = some o → s.heap.get? b = some o := fun b o e => (I.bs b o e).1
theorem Inv.mod (I : Inv X pins σ H s) : Mod X.K X.mg X.base := I.ok.mod
theorem Inv.kIn (I : Inv X pins σ H s) : X.K.In s.heap := I.ok.mod.kin.keeps I.bk
theorem Inv.fr (I : Inv X pins σ H s) : ∃ m, Fr X.base X.env.locals s.heap m :=
  let ⟨m, hn, _⟩ := I.loc
  ⟨m, hn, I.bk, Nat.le_trans I.ok.bsz I.ok.above⟩
theorem Inv.lt (I : Inv X pins σ H s) : X.env.locals < s.heap.objs.size := let ⟨_, hn, _⟩ := I.loc; hn.lt
theorem Inv.sz (I : Inv X pins σ H s) : X.s_0.heap.objs.size ≤ s.heap.objs.size := Nat.le_trans I.ok.above (Nat.le_of_lt I.lt)
theorem Inv.nofs (I : Inv X pins σ H s) {a : Addr} (h : s.heap.objs.size ≤ a) : a ∉ X.fs := fun hb => by
  obtain ⟨_, o, ho, _⟩ := I.ok.funs.mem hb
  exact absurd (Nat.lt_of_lt_of_le (Heap.lt_size ho) (Nat.le_trans I.sz h)) (Nat.lt_irrefl _)
theorem Inv.cne (I : Inv X pins σ H s) : ∀ x c, X.env.cells.lookup x = some c → c ≠ X.env.locals := fun x c e z => by
  obtain ⟨v, o, ho, hd⟩ := I.cell x c e
  obtain ⟨m, ⟨o', es, ep, ho', hd', _⟩, _⟩ := I.loc
  rw [z, ho'] at ho; cases ho; rw [hd'] at hd; cases hd
theorem Inv.funs (I : Inv X pins σ H s) : s.heap.FunFrames X.base X.outer := by
  have all : ∀ (l : List Env), (∀ b ∈ frs l, b ∈ X.fs) → X.s_0.heap.FunFrames X.base l → s.heap.FunFrames X.base l := by
    intro l
    induction l with
    | nil => intro _ _; trivial
    | cons env r ih =>
      intro hs hl
      obtain ⟨hk, ⟨L, o, hf, hn, ho, hd⟩, hr⟩ := hl
      have hL : L ∈ X.fs := hs L (by unfold frs; rw [List.filterMap_cons, hf]; exact List.mem_cons_self)
      obtain ⟨sl, e⟩ := I.base.slot L o ho (I.ok.frf L hL) hL fun z => I.ok.exfs L z hL
      exact ⟨hk, ⟨L, _, hf, hn, e, hd⟩, ih (fun b hb => hs b (by unfold frs; rw [List.filterMap_cons, hf]; exact List.mem_cons_of_mem _ hb)) hr⟩
  exact all X.outer (fun _ hb => hb) I.ok.funs
theorem Inv.stack (I : Inv X pins σ H s) : s.heap.FunFrames X.base X.stack := by
  rcases I.ok.stk with e | ⟨e, hf⟩
  · rw [e]; exact I.funs
  · rw [e]
    obtain ⟨m, hn, _⟩ := I.loc
    refine .cons (by rw [I.ok.kind]; decide) hf hn ?_ I.funs
    exact Heap.get?_none_of_le (Nat.le_trans I.ok.bsz I.ok.above)
theorem Inv.stkSub (I : Inv X pins σ H s) : ∀ b ∈ frs X.stack, b ∈ X.env.locals :: X.fs := fun b hb => by
  rcases I.ok.stk with e | ⟨e, hf⟩
  · rw [e] at hb; exact List.mem_cons_of_mem _ hb
  · rw [e] at hb
    unfold frs at hb
    rw [List.filterMap_cons, hf] at hb
    exact hb
theorem Inv.stkFree (I : Inv X pins σ H s) : ∀ b ∈ frs X.stack, H b = none := fun b hb => by
  rcases List.mem_cons.mp (I.stkSub b hb) with e | hb
  · rw [e]; exact I.free
  · obtain ⟨_, o, ho, _⟩ := I.ok.funs.mem hb
    exact I.base.free b o ho (I.ok.frf b hb) fun z => I.ok.exfs b z hb
theorem Inv.step {g' : Array GenState} {t' : Nat} {d' : Drawn} {ch : List Addr} (I : Inv X pins σ H s)
    (hch : ∀ b ∈ ch, (b ∈ X.ex ∨ X.s_0.heap.objs.size ≤ b) ∧ b ≠ X.env.locals ∧ (∀ x c, X.env.cells.lookup x = some c → c ≠ b) ∧ ∀ p ∈ X.pn ++ pins, p.1 ≠ b)
    (keep : ∀ b o, b ≠ X.env.locals → b ∉ X.fs → b ∉ ch → s.heap.get? b = some o → H b = none → h'.get? b = some o)
    (slot : ∀ b o, b ≠ X.env.locals → b ∈ X.fs → b ∉ ch → s.heap.get? b = some o → H b = none → ∃ sl, h'.get? b = some { o with slots := sl }) (free : ∀ b o, b ∉ ch → s.heap.get? b = some o → H b = none → H' b = none)
    (there : ∀ b o, b ∉ ch → s.heap.get? b = some o → ∃ o', h'.get? b = some o')
    (tups : ∀ b xs, H b = some (.tup xs) → H' b = some (.tup xs)) (frzs : ∀ b o u, H b = some (.frz o u) → H' b = some (.frz o u)) (tbls : ∀ b ps, H b = some (.tbl ps) → ∃ more, H' b = some (.tbl (ps ++ more)))
    (ns : ∀ m, s.heap.Ns X.env.locals m → h'.Ns X.env.locals m) (hok : HOk X.prog X.w H' h') (hg : AllBare g') :
    Inv X pins σ H' { s with heap := h', gens := g', drawn := d', toks := t' } := by
  have neL : ∀ b o, X.s_0.heap.get? b = some o → b ≠ X.env.locals := fun b o e => Nat.ne_of_lt (Nat.lt_of_lt_of_le (Heap.lt_size e) I.ok.above)
  have neC : ∀ b o, X.s_0.heap.get? b = some o → b ∉ X.ex → b ∉ ch := fun b o e hx hb => by
    rcases (hch b hb).1 with z | z
    · exact hx z
    · exact absurd (Nat.lt_of_lt_of_le (Heap.lt_size e) z) (Nat.lt_irrefl _)
  have cellK : ∀ x c, X.env.cells.lookup x = some c → ∀ v, s.heap.IsCell c v → h'.IsCell c v := fun x c e v ⟨o, ho, hd⟩ => by
    have nch : c ∉ ch := fun z => (hch c z).2.2.1 x c e rfl
    by_cases hc : c ∈ X.fs
    · obtain ⟨sl, q⟩ := slot c o (I.cne x c e) hc nch ho (I.freeC x c e)
      exact ⟨_, q, hd⟩
    · exact ⟨o, keep c o (I.cne x c e) hc nch ho (I.freeC x c e), hd⟩
  refine ⟨I.ok, I.os, hg, ⟨fun b o e n hb hx => ?_, fun b o e n hb hx => ?_, fun b o e n hx => ?_, fun b o e hx => ?_, fun b xs e => tups b xs (I.base.tups b xs e), fun b o xs e => frzs b o xs (I.base.frzs b o xs e), fun b ps e => ?_⟩, ?_, fun x c e => ?_, ?_, fun x c e => ?_, fun p hp => ?_, hok, I.len⟩
  · exact keep b o (neL b o e) hb (neC b o e hx) (I.base.keep b o e n hb hx) (I.base.free b o e n hx)
  · obtain ⟨sl, e1⟩ := I.base.slot b o e n hb hx
    obtain ⟨sl', e2⟩ := slot b _ (neL b o e) hb (neC b o e hx) e1 (I.base.free b o e n hx)
    exact ⟨sl', e2⟩
  · obtain ⟨o', e1⟩ := I.base.there b o e hx
    exact free b o' (neC b o e hx) e1 (I.base.free b o e n hx)
  · obtain ⟨o', e1⟩ := I.base.there b o e hx
    exact there b o' (neC b o e hx) e1
  · obtain ⟨m1, e1⟩ := I.base.tbls b ps e
    obtain ⟨m2, e2⟩ := tbls b _ e1
    exact ⟨m1 ++ m2, by rw [e2, Array.append_assoc]⟩
  · obtain ⟨m, hn, hl⟩ := I.loc
    refine ⟨m, ns m hn, fun i x v e1 e2 e3 => ?_⟩
    obtain ⟨u, r, l⟩ := hl i x v e1 e2 e3
    refine ⟨u, r, ?_⟩
    rcases l with l | ⟨k, c, e, z⟩
    · exact .inl l
    · exact .inr ⟨k, c, e, cellK x c e _ z⟩
  · obtain ⟨v, z⟩ := I.cell x c e
    exact ⟨v, cellK x c e v z⟩
  · obtain ⟨m, ⟨o, _, _, ho, _⟩, _⟩ := I.loc
    exact free _ o (fun z => (hch _ z).2.1 rfl) ho I.free
  · obtain ⟨v, o, ho, hd⟩ := I.cell x c e
    exact free c o (fun z => (hch c z).2.2.1 x c e rfl) ho (I.freeC x c e)
  · obtain ⟨e, n, ne, nf, d⟩ := I.pin p hp
    have nch : p.1 ∉ ch := fun z => (hch p.1 z).2.2.2 p hp rfl
    exact ⟨keep p.1 p.2 ne nf nch e n, free p.1 p.2 nch e n, ne, nf, d⟩
theorem Inv.un {t' : Nat} (I : Inv X pins σ H s) (u : Un X.fs [] H H' s.heap h') (hok : HOk X.prog X.w H' h') : Inv X pins σ H' { s with heap := h', toks := t' } := by
  obtain ⟨m, ⟨o, es, ep, ho, r⟩, _⟩ := id I.loc
  obtain ⟨sl, hL⟩ := u.any ho I.free (by simp)
  exact I.step (g' := s.gens) (d' := s.drawn) (ch := []) (fun _ z => nomatch z) (fun b o _ hb _ e n => u.keep b o e n hb (by simp)) (fun b o _ hb _ e n => u.slot b o e n hb (by simp)) (fun b o _ e n => u.free b o e n (by simp)) (fun b o _ e => u.there b o e (by simp)) u.tups u.frzs u.tbls (fun m' hm => by
    obtain ⟨o', es', ep', ho', r'⟩ := hm
    rw [ho] at ho'; cases ho'
    exact ⟨_, es', ep', hL, r'⟩) hok I.bare
theorem Inv.call {g' : Array GenState} {t' : Nat} {d' : Drawn} {ch : List Addr} (I : Inv X pins σ H s) (u : Un (frs X.stack) ch H H' s.heap h') (hok : HOk X.prog X.w H' h') (hg : AllBare g')
    (hch : ∀ b ∈ ch, (b ∈ X.ex ∨ X.s_0.heap.objs.size ≤ b) ∧ b ≠ X.env.locals ∧ (∀ x c, X.env.cells.lookup x = some c → c ≠ b) ∧ ∀ p ∈ X.pn ++ pins, p.1 ≠ b) :
    Inv X pins σ H' { s with heap := h', gens := g', drawn := d', toks := t' } := by
  obtain ⟨m, ⟨o, es, ep, ho, r⟩, _⟩ := id I.loc
  obtain ⟨sl, hL⟩ := u.any ho I.free fun z => (hch _ z).2.1 rfl
  exact I.step (ch := ch) hch (fun b o hL hb hc e n => u.keep b o e n (fun z => (List.mem_cons.mp (I.stkSub b z)).elim hL hb) hc) (fun b o _ _ hc e n => u.any e n hc) (fun b o hc e n => u.free b o e n hc) (fun b o hc e => u.there b o e hc) u.tups u.frzs u.tbls (fun m' hm => by
    obtain ⟨o', es', ep', ho', r'⟩ := hm
    rw [ho] at ho'; cases ho'
    exact ⟨_, es', ep', hL, r'⟩) hok hg
theorem Inv.turned {t' : Nat} {it : Addr} (I : Inv X pins σ H s) (k : ∀ b o, b ≠ it → s.heap.get? b = some o → h'.get? b = some o) (hn : H it = none) (hL : it ≠ X.env.locals)
    (h1 : it ∈ X.ex ∨ X.s_0.heap.objs.size ≤ it) (h2 : ∀ x c, X.env.cells.lookup x = some c → c ≠ it) (h3 : ∀ p ∈ X.pn ++ pins, p.1 ≠ it) : Inv X pins σ H { s with heap := h', toks := t' } := by
  have nit : ∀ b u, H b = some u → b ≠ it := fun b u e z => by rw [z, hn] at e; cases e
  refine I.step (g' := s.gens) (d' := s.drawn) (ch := [it]) (fun b hb => ?_) (fun b o _ _ hc e _ => k b o (fun z => hc (by simp [z])) e) (fun b o _ _ hc e _ => ⟨o.slots, k b o (fun z => hc (by simp [z])) e⟩) (fun _ _ _ _ n => n)
    (fun b o hc e => ⟨o, k b o (fun z => hc (by simp [z])) e⟩) (fun _ _ e => e) (fun _ _ _ e => e) (fun b ps e => ⟨#[], by rw [e]; simp⟩) (fun m hm => ?_) (fun b u e => ?_) I.bare
  · have e : b = it := by simpa using hb
    subst e
    exact ⟨h1, hL, h2, h3⟩
  · obtain ⟨o, es, ep, ho, r⟩ := hm
    exact ⟨o, es, ep, k _ o (Ne.symm hL) ho, r⟩
  · refine (I.hok b u e).stay (fun c v hc q => k c v ?_ q) (fun _ q => q) fun _ _ q => q
    rcases hc with z | z
    · rw [z]; exact nit b u e
    · exact nit c _ z
theorem Inv.tok (I : Inv X pins σ H s) (t : Nat) : Inv X pins σ H { s with toks := t } := I.un (h' := s.heap) (t' := t) Un.refl I.hok
theorem Inv.kept {t' : Nat} (I : Inv X pins σ H s) (k : ∀ b u, s.heap.get? b = some u → h'.get? b = some u) : Inv X pins σ H { s with heap := h', toks := t' } := I.un (Un.kept k) (I.hok.kept k)
theorem Inv.laid {a : Addr} {o : HO} {t' : Nat} (I : Inv X pins σ H s) (k : ∀ b u, s.heap.get? b = some u → h'.get? b = some u) (hp : s.heap.objs.size ≤ a) (new : ObjOk X.prog X.w (upd H a o) h' a o) :
    Inv X pins σ (upd H a o) { s with heap := h', toks := t' } := I.un (Un.laid k hp (I.hok.fresh hp)) (I.hok.laid k hp new)
theorem Inv.write {x e : Addr} {o : HO} {t' : Nat} (I : Inv X pins σ H s) (mu : Mut (H x)) (he : e = x ∨ H e = some (.own x)) (k : ∀ b u, b ≠ e → s.heap.get? b = some u → h'.get? b = some u) (heo : ∃ u, h'.get? e = some u)
    (new : ObjOk X.prog X.w (upd H x o) h' x o) : Inv X pins σ (upd H x o) { s with heap := h', toks := t' } := I.un (Un.write mu he k heo) (I.hok.write mu he k heo new)
theorem Inv.weak {σ' : List (Option V)} (I : Inv X pins σ H s) (hl : σ'.length = σ.length) (w : ∀ (i : Nat) v, σ'[i]? = some (some v) → σ[i]? = some (some v)) : Inv X pins σ' H s :=
  ⟨I.ok, I.os, I.bare, I.base, let ⟨m, hn, hl'⟩ := I.loc; ⟨m, hn, fun i x v e1 e2 e3 => hl' i x v e1 (w i v e2) e3⟩, I.cell, I.free, I.freeC, I.pin, I.hok, hl.trans I.len⟩
theorem Inv.pins_of {pins' : List (Addr × Obj)} (I : Inv X pins σ H s) (h : ∀ p ∈ pins', s.heap.get? p.1 = some p.2 ∧ H p.1 = none ∧ p.1 ≠ X.env.locals ∧ p.1 ∉ X.fs ∧ ∀ v, p.2.data ≠ .cell v) : Inv X pins' σ H s :=
  ⟨I.ok, I.os, I.bare, I.base, I.loc, I.cell, I.free, I.freeC, fun p hp => (List.mem_append.mp hp).elim (fun z => I.pin p (List.mem_append_left _ z)) (h p), I.hok, I.len⟩
theorem nodup_ix {N : List Str} (hN : N.Nodup) {i j : Nat} {x : Str} (a : N[i]? = some x) (b : N[j]? = some x) : i = j := by
  obtain ⟨h1, e1⟩ := List.getElem?_eq_some_iff.mp a
  obtain ⟨h2, e2⟩ := List.getElem?_eq_some_iff.mp b
  exact (List.getElem_inj hN).mp (e1.trans e2.symm)
theorem store_ok2 {M : Model} {A : Around} {E : Value → Shared → Prop} {i : Nat} {x : Str} {v : V} {u : Value} {Q : Unit → Shared → Prop} (I : Inv X pins σ H s) (hN : X.N.Nodup) (hi : X.N[i]? = some x) (hx : Loc X.env.scope x) (r : RelV v u)
    (h : ∀ s', Inv X pins (σ.set i (some v)) H s' → (∃ a, Heap.SameBut a s.heap s'.heap ∧ (a = X.env.locals ∨ X.env.cells.lookup x = some a)) → Q () s') (hf : X.fn x = true ∨ X.env.scope.names.lookup x = some .local := by first | exact .inl rfl | exact .inr rfl | assumption) : wpAny M A (storeName X.env x u) Q E s := by
  obtain ⟨m, hn, hl⟩ := id I.loc
  have hcls : (X.env.scope.kind == .class || (X.env.scope.kind == .module && X.env.locals != X.env.globals)) = false := by rw [I.ok.kind]; rfl
  have hiσ : i < σ.length := by rw [I.len]; exact (List.getElem?_eq_some_iff.mp hi).1
  have cne := I.cne
  have tracked : ∀ {a : Addr} {h' : Heap}, (∃ o, s.heap.get? a = some o ∧ H a = none) → Heap.SameBut a s.heap h' → HOk X.prog X.w H h' := fun {a h'} ha hs b ob e => by
    obtain ⟨_, _, hfree⟩ := ha
    refine (I.hok b ob e).stay (fun c w' hc q => (hs.2 c ?_).trans q) (fun _ q => q) fun _ _ q => q
    rintro rfl
    rcases hc with rfl | hc
    · rw [hfree] at e; cases e
    · rw [hfree] at hc; cases hc
  rcases hx with hk | hk
  · refine wpAny_storeName_local hk hn (fun h' hn' hs => ?_) hcls
    obtain ⟨oL, _, _, hoL, _⟩ := id hn
    refine h _ ⟨I.ok, I.os, I.bare, ⟨fun b o e n hb hx => ?_, fun b o e n hb hx => ?_, I.base.free, fun b o e hx => ?_, I.base.tups, I.base.frzs, I.base.tbls⟩, ⟨_, hn', fun j y v' e1 e2 e3 => ?_⟩, fun y c e => ?_, I.free, I.freeC, fun p hp => ?_, tracked ⟨oL, hoL, I.free⟩ hs, by simpa using I.len⟩ ⟨_, hs, .inl rfl⟩
    · exact (hs.2 b (Nat.ne_of_lt (Nat.lt_of_lt_of_le (Heap.lt_size e) I.ok.above))).trans (I.base.keep b o e n hb hx)
    · obtain ⟨sl, e1⟩ := I.base.slot b o e n hb hx
      exact ⟨sl, (hs.2 b (Nat.ne_of_lt (Nat.lt_of_lt_of_le (Heap.lt_size e) I.ok.above))).trans e1⟩
    · obtain ⟨o', e1⟩ := I.base.there b o e hx
      exact ⟨o', (hs.2 b (Nat.ne_of_lt (Nat.lt_of_lt_of_le (Heap.lt_size e) I.ok.above))).trans e1⟩
    · by_cases hj : j = i
      · subst hj
        rw [hi] at e1; cases e1
        rw [List.getElem?_set_self hiσ] at e2
        cases e2
        exact ⟨u, r, .inl ⟨hk, by simp⟩⟩
      · rw [List.getElem?_set_ne (Ne.symm hj)] at e2
        obtain ⟨u', r', q⟩ := hl j y v' e1 e2 e3
        refine ⟨u', r', ?_⟩
        rcases q with ⟨k, e⟩ | ⟨k, c, e, z⟩
        · refine .inl ⟨k, ?_⟩
          have : y ≠ x := fun e => hj (nodup_ix hN e1 (e ▸ hi))
          simp [this, e]
        · exact .inr ⟨k, c, e, z.sameBut hs (cne y c e)⟩
    · obtain ⟨w', z⟩ := I.cell y c e
      exact ⟨w', z.sameBut hs (cne y c e)⟩
    · obtain ⟨e, n, ne, nf, d⟩ := I.pin p hp
      exact ⟨(hs.2 p.1 ne).trans e, n, ne, nf, d⟩
  · have hfn : X.fn x = true := by
      rcases hf with z | z
      · exact z
      · rw [z] at hk; cases hk
    obtain ⟨c, hc⟩ := I.ok.has x (.inl hk)
    obtain ⟨w', z⟩ := I.cell x c hc
    refine wpAny_storeName_cell I.ok.kind hk hc z (fun h' hc' hs => ?_)
    obtain ⟨oc, hoc, hocd⟩ := id z
    refine h { s with heap := h' } ⟨I.ok, I.os, I.bare, ⟨fun b o e n hb hx => ?_, fun b o e n hb hx => ?_, I.base.free, fun b o e hx => ?_, I.base.tups, I.base.frzs, I.base.tbls⟩, ⟨m, hn.sameBut hs (Ne.symm (cne x c hc)), fun j y v' e1 e2 e3 => ?_⟩, fun y c' e => ?_, I.free, I.freeC, fun p hp => ?_, tracked ⟨oc, hoc, I.freeC x c hc⟩ hs, by simpa using I.len⟩ ⟨c, hs, .inr hc⟩
    · exact (hs.2 b (Nat.ne_of_lt (Nat.lt_of_lt_of_le (Heap.lt_size e) (I.ok.cab x c hfn hc)))).trans (I.base.keep b o e n hb hx)
    · obtain ⟨sl, e1⟩ := I.base.slot b o e n hb hx
      exact ⟨sl, (hs.2 b (Nat.ne_of_lt (Nat.lt_of_lt_of_le (Heap.lt_size e) (I.ok.cab x c hfn hc)))).trans e1⟩
    · obtain ⟨o', e1⟩ := I.base.there b o e hx
      exact ⟨o', (hs.2 b (Nat.ne_of_lt (Nat.lt_of_lt_of_le (Heap.lt_size e) (I.ok.cab x c hfn hc)))).trans e1⟩
    · by_cases hj : j = i
      · subst hj
        rw [hi] at e1; cases e1
        rw [List.getElem?_set_self hiσ] at e2
        cases e2
        exact ⟨u, r, .inr ⟨.inl hk, c, hc, hc'⟩⟩
      · rw [List.getElem?_set_ne (Ne.symm hj)] at e2
        obtain ⟨u', r', q⟩ := hl j y v' e1 e2 e3
        refine ⟨u', r', ?_⟩
        rcases q with q | ⟨k, c', e, z'⟩
        · exact .inl q
        · refine .inr ⟨k, c', e, z'.sameBut hs ?_⟩
          rintro rfl
          exact hj (nodup_ix hN e1 (I.ok.inj _ _ _ e hc ▸ hi))
    · by_cases hcc : c' = c
      · subst hcc; exact ⟨_, hc'⟩
      · obtain ⟨w2, z2⟩ := I.cell y c' e
        exact ⟨w2, z2.sameBut hs hcc⟩
    · obtain ⟨e, n, ne, nf, d⟩ := I.pin p hp
      refine ⟨(hs.2 p.1 ?_).trans e, n, ne, nf, d⟩
      intro q
      rw [q, hoc] at e
      have q' : oc = p.2 := Option.some.inj e
      exact d w' (by rw [← q']; exact hocd)
theorem store_ok {M : Model} {A : Around} {E : Value → Shared → Prop} {i : Nat} {x : Str} {v : V} {u : Value} {Q : Unit → Shared → Prop} (I : Inv X pins σ H s) (hN : X.N.Nodup) (hi : X.N[i]? = some x) (hx : Loc X.env.scope x) (r : RelV v u)
    (h : ∀ s', Inv X pins (σ.set i (some v)) H s' → Q () s') (hf : X.fn x = true ∨ X.env.scope.names.lookup x = some .local := by first | exact .inl rfl | exact .inr rfl | assumption) : wpAny M A (storeName X.env x u) Q E s :=
  store_ok2 I hN hi hx r (fun s' I' _ => h s' I') hf
theorem Inv.call' {s' : Shared} {ch : List Addr} (I : Inv X pins σ H s) (ho : s'.os = s.os) (u : Un (frs X.stack) ch H H' s.heap s'.heap) (hok : HOk X.prog X.w H' s'.heap) (hg : AllBare s'.gens)
    (hch : ∀ b ∈ ch, (b ∈ X.ex ∨ X.s_0.heap.objs.size ≤ b) ∧ b ≠ X.env.locals ∧ (∀ x c, X.env.cells.lookup x = some c → c ≠ b) ∧ ∀ p ∈ X.pn ++ pins, p.1 ≠ b) : Inv X pins σ H' s' := by
  obtain ⟨h', g', d', t', o'⟩ := s'
  have e : o' = s.os := ho
  subst e
  exact I.call (g' := g') (t' := t') (d' := d') u hok hg hch
end
abbrev XK := Value → Option Addr → Hp → Prop
abbrev St := List (Option V)
abbrev VK := V → Hp → Prop
abbrev TE := St → Hp → VK → Prop
abbrev TT := St → Hp → (Bool → Hp → Prop) → Prop
abbrev TA := St → Hp → (List V → Hp → Prop) → Prop
structure Ends where
  nx : St → Hp → Prop
  rt : VK
  bk : St → Hp → Prop := fun _ _ => False
  ct : St → Hp → Prop := fun _ _ => False
abbrev TS := Ends → St → Hp → Prop
def EP (X : Cx) (pins : List (Addr × Obj)) (σ : St) (Q : VK) (u : Value) (s' : Shared) : Prop := ∃ v H', Inv X pins σ H' s' ∧ RelV v u ∧ Q v H'
def TP (X : Cx) (pins : List (Addr × Obj)) (σ : St) (Q : Bool → Hp → Prop) (b : Bool) (s' : Shared) : Prop := ∃ H', Inv X pins σ H' s' ∧ Q b H'
def AP (X : Cx) (pins : List (Addr × Obj)) (σ : St) (Q : List V → Hp → Prop) (us : List Value) (s' : Shared) : Prop := ∃ vs H', Inv X pins σ H' s' ∧ Vals vs us ∧ Q vs H'
def SP (X : Cx) (pins : List (Addr × Obj)) (D : Ends) (f : Flow) (s' : Shared) : Prop :=
  match f with
  | .next => ∃ σ' H', Inv X pins σ' H' s' ∧ D.nx σ' H'
  | .brk => ∃ σ' H', Inv X pins σ' H' s' ∧ D.bk σ' H'
  | .cont => ∃ σ' H', Inv X pins σ' H' s' ∧ D.ct σ' H'
  | .ret u => ∃ v σ' H', Inv X pins σ' H' s' ∧ RelV v u ∧ D.rt v H'
def PE (X : Cx) (e : Expr) (t : TE) : Prop :=
  ∀ (pins : List (Addr × Obj)) (s : Shared) (σ : St) (H : Hp) (Q : VK), Inv X pins σ H s → t σ H Q → wpAny (model X.prog X.w) X.A (eval e X.env) (EP X pins σ Q) X.xe s
def PT (X : Cx) (e : Expr) (t : TT) : Prop :=
  ∀ (pins : List (Addr × Obj)) (s : Shared) (σ : St) (H : Hp) (Q : Bool → Hp → Prop), Inv X pins σ H s → t σ H Q → wpAny (model X.prog X.w) X.A (isTrue e X.env (eval e X.env)) (TP X pins σ Q) X.xe s
def PW (X : Cx) (e : Expr) (t : TT) : Prop :=
  ∀ (whole : Sem Value) (pins : List (Addr × Obj)) (s : Shared) (σ : St) (H : Hp) (Q : Bool → Hp → Prop), Inv X pins σ H s → t σ H Q → wpAny (model X.prog X.w) X.A (isTrue e X.env whole) (TP X pins σ Q) X.xe s
theorem PW.pt {X : Cx} {e : Expr} {t : TT} (h : PW X e t) : PT X e t := h _
def PA (X : Cx) (es : List Expr) (t : TA) : Prop :=
  ∀ (pos : Pos) (pins : List (Addr × Obj)) (s : Shared) (σ : St) (H : Hp) (Q : List V → Hp → Prop), Inv X pins σ H s → t σ H Q → wpAny (model X.prog X.w) X.A (spliced (backTo pos (starEach es X.env))) (AP X pins σ Q) X.xe s
def PS (X : Cx) (st : Stmt) (t : TS) : Prop :=
  ∀ (pins : List (Addr × Obj)) (s : Shared) (σ : St) (H : Hp) (D : Ends), Inv X pins σ H s → t D σ H → wpAny (model X.prog X.w) X.A (exec st X.env) (SP X pins D) X.xe s
def PSs (X : Cx) (st : List Stmt) (t : TS) : Prop :=
  ∀ (pins : List (Addr × Obj)) (s : Shared) (σ : St) (H : Hp) (D : Ends), Inv X pins σ H s → t D σ H → wpAny (model X.prog X.w) X.A (execs st X.env) (SP X pins D) X.xe s
theorem thn {α : Type} {t : Sem α} {Q Q' : α → Shared → Prop} {M : Model} {A : Around} {E : Value → Shared → Prop} {s : Shared} (h : wpAny M A t Q E s) (hQ : ∀ a s, Q a s → Q' a s) : wpAny M A t Q' E s := wpAny_mono h hQ fun _ _ x => x
end L2
namespace L2
open PySem PySem.Spec PyProof.Rows
section
variable {X : Cx}
theorem bin {a b : Expr} {ta tb : TE} (ha : PE X a ta) (hb : PE X b tb) {pins : List (Addr × Obj)} {s : Shared} {σ : St} {H : Hp} {R : V → V → Hp → Prop} (I : Inv X pins σ H s) (h : ta σ H fun x H1 => tb σ H1 fun y H2 => R x y H2)
    {α : Type} {Q : α → Shared → Prop} {f : Value → Value → Sem α}
    (hf : ∀ v u s2 x y H2, Inv X pins σ H2 s2 → RelV x v → RelV y u → R x y H2 → wpAny (model X.prog X.w) X.A (f v u) Q X.xe s2) :
    wpAny (model X.prog X.w) X.A (eval a X.env) (fun v s₁ => wpAny (model X.prog X.w) X.A (eval b X.env) (fun u s₂ => wpAny (model X.prog X.w) X.A (f v u) Q X.xe s₂) X.xe s₁) X.xe s := by
  refine thn (ha pins s σ H _ I h) fun v s1 ⟨x, H1, I1, r1, q1⟩ => ?_
  refine thn (hb pins s1 σ H1 _ I1 q1) fun u s2 ⟨y, H2, I2, r2, q2⟩ => ?_
  exact hf v u s2 x y H2 I2 r1 r2 q2
def tVar (i : Nat) : TE := fun σ H Q => ∃ v, σ[i]? = some (some v) ∧ Q v H
def tC (v : V) : TE := fun _ H Q => Q v H
theorem pe_var {i : Nat} {x : Str} {pos : Pos} (hN : X.N[i]? = some x) (hv : Vis X.env.scope x) (hd : (x == ("__debug__" : Str)) = false := by decide) (hcd : (x == ("__classdict__" : Str)) = false := by decide) : PE X (.Name x pos) (tVar i) := by
  intro pins s σ H Q I h
  obtain ⟨v, e, h⟩ := h
  obtain ⟨m, hn, hl⟩ := I.loc
  obtain ⟨u, r, l⟩ := hl i x v hN e hv
  have fin : EP X pins σ Q u s := ⟨v, H, I, r, h⟩
  rcases l with ⟨hk, hm⟩ | ⟨hk, c, hc, hcell⟩
  · exact wpAny_Name (wpAny_loadName_local I.ok.kind hk hn hm fin) hd
  · rcases hk with hk | hk
    · exact wpAny_Name (wpAny_loadName_cell I.ok.kind hk hc hcell fin) hd
    · exact wpAny_Name (wpAny_loadName_free I.ok.kind hk hc hcell fin hcd) hd
theorem pe_int {i j pos} : PE X (.Constant (.int i) j pos) (tC (.int i)) := fun _ _ _ H _ I h => wpAny_Constant_int ⟨.int i, H, I.tok _, ⟨_, rfl⟩, h⟩
theorem pe_bl {b j pos} : PE X (.Constant (.bool b) j pos) (tC (.bl b)) := fun _ _ _ H _ I h => Constant_bool ⟨.bl b, H, I, rfl, h⟩
theorem pe_non {j pos} : PE X (.Constant .none j pos) (tC .non) := fun _ _ _ H _ I h => Constant_none ⟨.non, H, I, rfl, h⟩
def Gl (X : Cx) (x : Str) : Prop := X.env.kindOf x = some .globalImplicit
theorem ld_glob {E : Value → Shared → Prop} {pins : List (Addr × Obj)} {s : Shared} {σ : St} {H : Hp} {x : Str} {u : Value} {pos : Pos} {Q : Value → Shared → Prop} (I : Inv X pins σ H s) (hg : Gl X x) (hm : X.mg x = some u) (h : Q u s)
    (hd : (x == ("__debug__" : Str)) = false := by decide) : wpAny (model X.prog X.w) X.A (eval (.Name x pos) X.env) Q E s :=
  Calls.Name_function_global I.ok.kind hg (Calls.loadGlobal_global (by rw [I.ok.glob]; exact I.mod.glob.keeps I.bk) hm h) hd
theorem ld_blt {E : Value → Shared → Prop} {pins : List (Addr × Obj)} {s : Shared} {σ : St} {H : Hp} {x : Str} {u : Value} {pos : Pos} {Q : Value → Shared → Prop} (I : Inv X pins σ H s) (hg : Gl X x) (hm : X.mg x = none) (hv : bootBuiltins x = some u) (h : Q u s)
    (hn : x ≠ "__name__" := by decide) (hd : (x == ("__debug__" : Str)) = false := by decide) : wpAny (model X.prog X.w) X.A (eval (.Name x pos) X.env) Q E s := by
  obtain ⟨mb, h1, h2⟩ := I.mod.blt
  exact Calls.Name_function_global I.ok.kind hg (Calls.loadGlobal_builtin (by rw [I.ok.glob]; exact I.mod.glob.keeps I.bk) hm (by rw [I.ok.blt]; exact h1.keeps I.bk) ((h2 x hn).trans hv) h) hd
theorem pe_glob {x : Str} {v : V} {u : Value} {pos : Pos} (hg : Gl X x) (hm : X.mg x = some u) (r : RelV v u) (hd : (x == ("__debug__" : Str)) = false := by decide) : PE X (.Name x pos) (tC v) :=
  fun _ _ _ H _ I h => ld_glob I hg hm ⟨v, H, I, r, h⟩ hd
variable {a b : Expr} {ta tb : TE} {pos : Pos}
def PC (X : Cx) (op : CmpOp) (a b : Expr) (t : TE) : Prop :=
  ∀ (pins : List (Addr × Obj)) (s : Shared) (σ : St) (H : Hp) (Q : VK), Inv X pins σ H s → t σ H Q →
    wpAny (model X.prog X.w) X.A (eval a X.env) (fun v s₁ => wpAny (model X.prog X.w) X.A (eval b X.env) (fun u s₂ => wpAny (model X.prog X.w) X.A (compareOp op v u) (EP X pins σ Q) X.xe s₂) X.xe s₁) X.xe s
def tB (t : TE) : TT := fun σ H Q => t σ H fun x H1 => ∃ c, x = .bl c ∧ Q c H1
theorem pt_cmp {op : CmpOp} {t : TE} (h : PC X op a b t) (h1 : behindInMarks op b = false := by first | exact nobehind _ (by decide) (by decide) | rfl) : PT X (.Compare a [op] [b] pos) (tB t) := by
  intro pins s σ H Q I hw
  refine wpAny_isTrue_Compare1 (thn (h pins s σ H _ I hw) fun v s1 h1 => thn h1 fun u s2 h2 => thn h2 fun c s3 ⟨x, H1, I1, r1, q1⟩ => ?_) h1
  obtain ⟨d, rfl, q⟩ := q1
  cases r1
  exact wpAny_truthy_bool ⟨H1, I1, q⟩
theorem pt_val {e : Expr} {t : TE} (h : PE X e t) (he : ∀ whole, isTrue e X.env whole = (do let v ← whole; standAt e.pos; holding [v] (truthy v)) := by intro _; rfl) : PT X e (tB t) := by
  intro pins s σ H Q I hw
  refine isTrue_plain (thn (h pins s σ H _ I hw) fun v s1 ⟨x, H1, I1, r1, q1⟩ => ?_) (he _)
  obtain ⟨d, rfl, q⟩ := q1
  cases r1
  exact wpAny_truthy_bool ⟨H1, I1, q⟩
variable {tA tB' : TT} {rest : List Expr}
def tAnd (t u : TT) : TT := fun σ H Q => t σ H fun c H1 => if c = true then u σ H1 Q else Q false H1
def tOr (t u : TT) : TT := fun σ H Q => t σ H fun c H1 => if c = true then Q true H1 else u σ H1 Q
def tNot (t : TT) : TT := fun σ H Q => t σ H fun c H1 => Q (!c) H1
theorem pw_and1 (ha : PT X a tA) : PW X (.BoolOp .And [a] pos) tA := by
  intro wh pins s σ H Q I h
  refine isTrue_and (thn (ha pins s σ H Q I h) fun c s1 e => ?_)
  cases c with
  | true => exact isTrue_and_nil e
  | false => exact e
theorem pw_or1 (ha : PT X a tA) : PW X (.BoolOp .Or [a] pos) tA := by
  intro wh pins s σ H Q I h
  refine isTrue_or (thn (ha pins s σ H Q I h) fun c s1 e => ?_)
  cases c with
  | false => exact isTrue_or_nil e
  | true => exact e
theorem pw_and (ha : PT X a tA) (hb : PW X (.BoolOp .And (b :: rest) pos) tB') : PW X (.BoolOp .And (a :: b :: rest) pos) (tAnd tA tB') := by
  intro wh pins s σ H Q I h
  refine isTrue_and (thn (ha pins s σ H _ I h) fun c s1 ⟨H1, I1, q1⟩ => ?_)
  cases c with
  | true => exact hb wh pins s1 σ H1 Q I1 q1
  | false => exact ⟨H1, I1, q1⟩
theorem pw_or (ha : PT X a tA) (hb : PW X (.BoolOp .Or (b :: rest) pos) tB') : PW X (.BoolOp .Or (a :: b :: rest) pos) (tOr tA tB') := by
  intro wh pins s σ H Q I h
  refine isTrue_or (thn (ha pins s σ H _ I h) fun c s1 ⟨H1, I1, q1⟩ => ?_)
  cases c with
  | true => exact ⟨H1, I1, q1⟩
  | false => exact hb wh pins s1 σ H1 Q I1 q1
theorem pt_not (ha : PT X a tA) : PT X (.UnaryOp .Not a pos) (tNot tA) := by
  intro pins s σ H Q I h
  exact isTrue_not (ha pins s σ H (fun c H1 => Q (!c) H1) I h)
def tAndV (ta tb : TE) : TE := fun σ H Q => ta σ H fun x H1 => ∃ c, x = .bl c ∧ if c = true then tb σ H1 Q else Q (.bl false) H1
def tOrV (ta tb : TE) : TE := fun σ H Q => ta σ H fun x H1 => ∃ c, x = .bl c ∧ if c = true then Q (.bl true) H1 else tb σ H1 Q
def tNotV (ta : TE) : TE := fun σ H Q => ta σ H fun x H1 => ∃ c, x = .bl c ∧ Q (.bl (!c)) H1
theorem pe_one {op} {t : TE} (h : PE X a t) : PE X (.BoolOp op [a] pos) t := fun pins s σ H Q I hw => BoolOp_one (h pins s σ H Q I hw)
theorem pe_and (ha : PE X a ta) (hb : PE X (.BoolOp .And (b :: rest) pos) tb) : PE X (.BoolOp .And (a :: b :: rest) pos) (tAndV ta tb) := by
  intro pins s σ H Q I h
  refine BoolOp_and (thn (ha pins s σ H _ I h) fun v s1 ⟨x, H1, I1, r1, q1⟩ => ?_)
  obtain ⟨c, rfl, q1⟩ := q1
  cases r1
  refine wpAny_truthy_bool ?_
  cases c with
  | true => exact hb pins s1 σ H1 Q I1 q1
  | false => exact ⟨.bl false, H1, I1, rfl, q1⟩
theorem pe_or (ha : PE X a ta) (hb : PE X (.BoolOp .Or (b :: rest) pos) tb) : PE X (.BoolOp .Or (a :: b :: rest) pos) (tOrV ta tb) := by
  intro pins s σ H Q I h
  refine BoolOp_or (thn (ha pins s σ H _ I h) fun v s1 ⟨x, H1, I1, r1, q1⟩ => ?_)
  obtain ⟨c, rfl, q1⟩ := q1
  cases r1
  refine wpAny_truthy_bool ?_
  cases c with
  | false => exact hb pins s1 σ H1 Q I1 q1
  | true => exact ⟨.bl true, H1, I1, rfl, q1⟩
def tIf (t : TT) (ta tb : TE) : TE := fun σ H Q => t σ H fun c H1 => if c = true then ta σ H1 Q else tb σ H1 Q
theorem pe_ifExp {c : Expr} (hc : PT X c tA) (ha : PE X a ta) (hb : PE X b tb) : PE X (.IfExp c a b pos) (tIf tA ta tb) := by
  intro pins s σ H Q I h
  refine wpAny_IfExp (thn (hc pins s σ H _ I h) fun d s1 ⟨H1, I1, q1⟩ => ?_)
  cases d with
  | true => exact ha pins s1 σ H1 Q I1 q1
  | false => exact hb pins s1 σ H1 Q I1 q1
end
end L2
namespace L2
open PySem PySem.Spec PyProof.Rows
def SqL (K : PySem.W.Frag) (H : Hp) (a : Addr) (xs : List V) : Prop :=
  Rd H a (.lst xs) ∨
    ∃ (o : Obj) (its : Array Value) (n : Nat), K.lookup a = some o ∧ o.cls = .type "list" ∧ o.dict = none ∧ o.data = .seq its n ∧ its.size ≤ sizeLine ∧ Vals xs its.toList
def SqT (K : PySem.W.Frag) (H : Hp) (a : Addr) (xs : List V) : Prop :=
  Rd H a (.tup xs) ∨
    ∃ (o : Obj) (its : Array Value) (n : Nat), K.lookup a = some o ∧ o.cls = .type "tuple" ∧ o.data = .seq its n ∧ its.size ≤ sizeLine ∧ Vals xs its.toList
def absV : Value → Option V
  | .none => some .non
  | .bool b => some (.bl b)
  | .int i _ => some (.int i)
  | .str x _ => some (.str x)
  | .bytes b _ => some (.byt b)
  | .float b _ => some (.flt b)
  | .ref a => some (.ref a)
  | .type n => some (.ty n)
  | _ => none
theorem RelV.abs {x : V} {u : Value} (r : RelV x u) : absV u = some x := by
  cases x with
  | non => cases r; rfl
  | bl _ => cases r; rfl
  | int _ => obtain ⟨t, rfl⟩ := r; rfl
  | str _ => obtain ⟨t, rfl⟩ := r; rfl
  | byt _ => obtain ⟨t, rfl⟩ := r; rfl
  | flt _ => obtain ⟨t, rfl⟩ := r; rfl
  | ref _ => cases r; rfl
  | ty _ => cases r; rfl
theorem RelV.inj {x y : V} {u : Value} (r : RelV x u) (q : RelV y u) : x = y := Option.some.inj (r.abs.symm.trans q.abs)
theorem Vals.inj : ∀ {xs ys : List V} {us : List Value}, Vals xs us → Vals ys us → xs = ys
  | _, _, _, .nil, .nil => rfl
  | _, _, _, .cons r t, .cons r' t' => by rw [r.inj r', Vals.inj t t']
section
variable {X : Cx} {pins : List (Addr × Obj)} {σ : St} {H : Hp} {s : Shared} {a : Addr} {xs ys : List V}
theorem SqL.of {K : PySem.W.Frag} (h : H a = some (.lst xs)) : SqL K H a xs := .inl (.inl h)
theorem SqT.of {K : PySem.W.Frag} (h : H a = some (.tup xs)) : SqT K H a xs := .inl (.inl h)
theorem Inv.list (I : Inv X pins σ H s) (h : SqL X.K H a xs) : ∃ its : List Value, Vals xs its ∧ PlainL s.heap a its.toArray ∧ xs.length ≤ sizeLine := by
  rcases h with h | ⟨o, its, n, hk, hc, hd, hs, hz, r⟩
  · obtain ⟨z, its, n, r, e⟩ := h.ok I.hok
    exact ⟨its, r, ⟨_, n, e, rfl, rfl, rfl⟩, z⟩
  · refine ⟨its.toList, r, ⟨o, n, I.kIn a o hk, hc, hd, by simpa using hs⟩, ?_⟩
    have e := r.length
    simp only [Array.length_toList] at e
    omega
theorem Inv.tuple (I : Inv X pins σ H s) (h : SqT X.K H a xs) : ∃ its : List Value, Vals xs its ∧ IsTup s.heap a its.toArray ∧ xs.length ≤ sizeLine := by
  rcases h with h | ⟨o, its, n, hk, hc, hs, hz, r⟩
  · obtain ⟨z, its, r, p⟩ := h.ok I.hok
    exact ⟨its, r, p, z⟩
  · refine ⟨its.toList, r, ⟨o, I.kIn a o hk, hc, n, by simpa using hs⟩, ?_⟩
    have e := r.length
    simp only [Array.length_toList] at e
    omega
theorem Inv.list_inj (I : Inv X pins σ H s) (h : SqL X.K H a xs) (h' : SqL X.K H a ys) : xs = ys := by
  obtain ⟨its, r, ⟨o, n, e, _, _, d⟩, _⟩ := I.list h
  obtain ⟨its', r', ⟨o', n', e', _, _, d'⟩, _⟩ := I.list h'
  rw [e] at e'; cases e'
  rw [d] at d'
  injection d' with d1 _
  have : its = its' := by simpa using congrArg Array.toList d1
  subst this
  exact r.inj r'
theorem Inv.tuple_inj (I : Inv X pins σ H s) (h : SqT X.K H a xs) (h' : SqT X.K H a ys) : xs = ys := by
  obtain ⟨its, r, ⟨o, e, _, n, d⟩, _⟩ := I.tuple h
  obtain ⟨its', r', ⟨o', e', _, n', d'⟩, _⟩ := I.tuple h'
  rw [e] at e'; cases e'
  rw [d] at d'
  injection d' with d1 _
  have : its = its' := by simpa using congrArg Array.toList d1
  subst this
  exact r.inj r'
end
abbrev Cx.wish (X : Cx) (E : Value → Shared → Prop) : Cx := { X with xe := E }
abbrev Cx.nox (X : Cx) : Cx := X.wish fun _ _ => False
theorem Cx.Ok.wish {X : Cx} (ok : X.Ok) (E : Value → Shared → Prop) : (X.wish E).Ok :=
  ⟨ok.mod, ok.kind, ok.glob, ok.blt, ok.above, ok.inj, ok.has, ok.cab, ok.hd, ok.frames, ok.stk, ok.exf, ok.bs, ok.bsz, ok.noex, ok.exfs, ok.funs, ok.frf⟩
theorem Cx.Ok.unwish {X : Cx} {E : Value → Shared → Prop} (ok : (X.wish E).Ok) : X.Ok :=
  ⟨ok.mod, ok.kind, ok.glob, ok.blt, ok.above, ok.inj, ok.has, ok.cab, ok.hd, ok.frames, ok.stk, ok.exf, ok.bs, ok.bsz, ok.noex, ok.exfs, ok.funs, ok.frf⟩
section
variable {X : Cx} {pins : List (Addr × Obj)} {σ : St} {H : Hp} {s : Shared} {E : Value → Shared → Prop}
theorem Inv.wish (I : Inv X pins σ H s) (E : Value → Shared → Prop) : Inv (X.wish E) pins σ H s := ⟨I.ok.wish E, I.os, I.bare, I.base, I.loc, I.cell, I.free, I.freeC, I.pin, I.hok, I.len⟩
theorem Inv.unwish (I : Inv (X.wish E) pins σ H s) : Inv X pins σ H s := ⟨I.ok.unwish, I.os, I.bare, I.base, I.loc, I.cell, I.free, I.freeC, I.pin, I.hok, I.len⟩
theorem SP.unwish {D : Ends} {f : Flow} {s' : Shared} (h : SP (X.wish E) pins D f s') : SP X pins D f s' := by
  cases f with
  | next => obtain ⟨σ', H', I, q⟩ := h; exact ⟨σ', H', I.unwish, q⟩
  | brk => obtain ⟨σ', H', I, q⟩ := h; exact ⟨σ', H', I.unwish, q⟩
  | cont => obtain ⟨σ', H', I, q⟩ := h; exact ⟨σ', H', I.unwish, q⟩
  | ret u => obtain ⟨v, σ', H', I, r, q⟩ := h; exact ⟨v, σ', H', I.unwish, r, q⟩
theorem PSs.nox {st : List Stmt} {t : TS} (h : PSs X.nox st t) : PSs X st t := fun pins s σ H D I hw =>
  wpAny_mono (h pins s σ H D (I.wish _) hw) (fun _ _ q => q.unwish) fun _ _ z => False.elim z
end
section
variable {X : Cx} {st : Stmt} {rest : List Stmt} {t u : TS} {e : Expr} {te : TE} {pos : Pos}
def tNext : TS := fun D σ H => D.nx σ H
def tSeq (t u : TS) : TS := fun D σ H => t { D with nx := u D } σ H
theorem pss_nil : PSs X [] tNext := fun _ _ σ H _ I h => wpAny_execs_nil ⟨σ, H, I, h⟩
theorem pss_cons (h1 : PS X st t) (h2 : PSs X rest u) : PSs X (st :: rest) (tSeq t u) := by
  intro pins s σ H D I h
  refine wpAny_execs_cons (thn (h1 pins s σ H { D with nx := u D } I h) fun f s1 q => ?_)
  cases f with
  | next =>
    obtain ⟨σ', H', I', q⟩ := q
    exact h2 pins s1 σ' H' D I' q
  | ret v => exact q
  | brk => exact q
  | cont => exact q
theorem pss_one (h1 : PS X st t) : PSs X [st] t := by
  intro pins s σ H D I h
  refine wpAny_execs_cons (thn (h1 pins s σ H D I h) fun f s1 q => ?_)
  cases f with
  | next => exact wpAny_execs_nil q
  | ret v => exact q
  | brk => exact q
  | cont => exact q
def tBreak : TS := fun D σ H => D.bk σ H
def tCont : TS := fun D σ H => D.ct σ H
theorem Inv.quiet {pins : List (Addr × Obj)} {σ : St} {H : Hp} {s : Shared} (I : Inv X pins σ H s) : interactive X.env = false := by simp [interactive, I.ok.kind]
def tDrop (te : TE) : TS := fun D σ H => te σ H fun _ H1 => D.nx σ H1
theorem ps_expr (he : PE X e te) (hs : swapsWith e none pos.line X.env = pure false := by rfl) : PS X (.Expr e pos) (tDrop te) := by
  intro pins s σ H D I h
  exact wpAny_Expr_any (thn (he pins s σ H _ I h) fun v s1 ⟨x, H1, I1, r1, q1⟩ => ⟨σ, H1, I1, q1⟩) I.quiet hs
def tRet (te : TE) : TS := fun D σ H => te σ H D.rt
theorem ps_ret (he : PE X e te) : PS X (.Return (some e) pos) (tRet te) := by
  intro pins s σ H D I h
  exact wpAny_Return_some (thn (he pins s σ H _ I h) fun v s1 ⟨x, H1, I1, r1, q1⟩ => ⟨x, σ, H1, I1, r1, q1⟩)
def tRetN : TS := fun D _ H => D.rt .non H
theorem ps_retN : PS X (.Return none pos) tRetN := fun _ _ σ H _ I h => wpAny_Return_none ⟨.non, σ, H, I, rfl, h⟩
def tIfS (c : TT) (t u : TS) : TS := fun D σ H => c σ H fun b H1 => if b = true then t D σ H1 else u D σ H1
theorem ps_if {c : Expr} {a b : List Stmt} {tc : TT} (hc : PT X c tc) (ha : PSs X a t) (hb : PSs X b u) : PS X (.If c a b pos) (tIfS tc t u) := by
  intro pins s σ H D I h
  refine wpAny_If (thn (hc pins s σ H _ I h) fun d s1 ⟨H1, I1, q1⟩ => ?_)
  cases d with
  | true => exact ha pins s1 σ H1 D I1 q1
  | false => exact hb pins s1 σ H1 D I1 q1
def tNever : TS := fun _ _ _ => False
theorem ps_never : PS X st tNever := fun _ _ _ _ _ _ h => h.elim
end
abbrev TG := V → St → Hp → (St → Hp → Prop) → Prop
abbrev TGs := List V → St → Hp → (St → Hp → Prop) → Prop
def PG (X : Cx) (target : Expr) (t : TG) : Prop :=
  ∀ (pins : List (Addr × Obj)) (s : Shared) (σ : St) (H : Hp) (v : V) (u : Value) (Q : St → Hp → Prop), Inv X pins σ H s → RelV v u → t v σ H Q →
    wpAny (model X.prog X.w) X.A (assign target X.env u) (fun _ s' => ∃ σ' H', Inv X pins σ' H' s' ∧ Q σ' H') X.xe s
def PGs (X : Cx) (ts : List Expr) (t : TGs) : Prop :=
  ∀ (pins : List (Addr × Obj)) (s : Shared) (σ : St) (H : Hp) (vs : List V) (us : List Value) (Q : St → Hp → Prop), Inv X pins σ H s → Vals vs us → t vs σ H Q →
    wpAny (model X.prog X.w) X.A (assignInOrder ((assignEach ts X.env).map (·.2)) us) (fun _ s' => ∃ σ' H', Inv X pins σ' H' s' ∧ Q σ' H') X.xe s
abbrev TSet := V → V → V → Hp → (Hp → Prop) → Prop
def PSet (X : Cx) (t : TSet) : Prop :=
  ∀ (pins : List (Addr × Obj)) (s : Shared) (σ : St) (H : Hp) (o i v : V) (ov iv u : Value) (Q : Hp → Prop), Inv X pins σ H s → RelV o ov → RelV i iv → RelV v u → t o i v H Q →
    wpAny (model X.prog X.w) X.A (setItem ov iv u) (fun _ s' => ∃ H', Inv X pins σ H' s' ∧ Q H') X.xe s
abbrev TIp := V → V → Hp → VK → Prop
def PIp (X : Cx) (op : Operator) (t : TIp) : Prop :=
  ∀ (pins : List (Addr × Obj)) (s : Shared) (σ : St) (H : Hp) (x y : V) (v u : Value) (Q : VK), Inv X pins σ H s → RelV x v → RelV y u → t x y H Q →
    wpAny (model X.prog X.w) X.A (inplaceOp op v u) (EP X pins σ Q) X.xe s
section
variable {X : Cx} {pos : Pos}
def gName (i : Nat) : TG := fun v σ H Q => Q (σ.set i (some v)) H
theorem pg_name {i : Nat} {x : Str} (hN : X.N.Nodup) (hi : X.N[i]? = some x) (hx : Loc X.env.scope x) (hf : X.fn x = true ∨ X.env.scope.names.lookup x = some .local := by first | exact .inl rfl | exact .inr rfl | assumption) : PG X (.Name x pos) (gName i) := by
  intro pins s σ H v u Q I r h
  exact wpAny_assign_Name (store_ok I hN hi hx r (fun s' I' => ⟨_, H, I', h⟩) hf)
def gNil : TGs := fun vs σ H Q => vs = [] ∧ Q σ H
def gCons (t : TG) (u : TGs) : TGs := fun vs σ H Q => ∃ v r, vs = v :: r ∧ t v σ H fun σ' H' => u r σ' H' Q
theorem pgs_nil : PGs X [] gNil := by
  intro pins s σ H vs us Q I r h
  obtain ⟨e, h⟩ := h
  subst e
  cases r
  exact assignInOrder_nil ⟨σ, H, I, h⟩
theorem pgs_cons {e : Expr} {es : List Expr} {t : TG} {u : TGs} (h1 : PG X e t) (h2 : PGs X es u)
    (hs : (assignEach (e :: es) X.env).map (·.2) = assign e X.env :: (assignEach es X.env).map (·.2) := by rfl) : PGs X (e :: es) (gCons t u) := by
  intro pins s σ H vs us Q I r h
  obtain ⟨v, vr, e1, h⟩ := h
  subst e1
  cases r with
  | cons r rr =>
    rw [hs]
    refine assignInOrder_cons (thn (h1 pins s σ H _ _ _ I r h) fun _ s1 ⟨σ1, H1, I1, q1⟩ => ?_)
    exact h2 pins s1 σ1 H1 _ _ Q I1 rr q1
def gTup (K : PySem.W.Frag) (n : Nat) (t : TGs) : TG := fun v σ H Q => ∃ a xs, v = .ref a ∧ SqT K H a xs ∧ xs.length = n ∧ t xs σ H Q
theorem pg_tup {es : List Expr} {k : Nat} {t : TGs} {n : Nat} (hc : X.calm = true) (h : PGs X es t)
    (hn : (assignEach es X.env).length = n := by rfl) (hst : (assignEach es X.env).findIdx? (·.1) = none := by rfl) : PG X (.Tuple es k pos) (gTup X.K n t) := by
  intro pins s σ H v u Q I r hw
  obtain ⟨a, xs, e1, hq, hl, hw⟩ := hw
  subst e1
  cases r
  obtain ⟨its, rv, ht, hz⟩ := I.tuple hq
  refine assign_Tuple_tuple (I.ok.hd hc) ht (by simp [hn, ← hl, rv.length]) hst fun h' hx => ?_
  have I1 : Inv X pins σ H { s with heap := h' } := I.kept (t' := s.toks) fun b o e => hx b o (Nat.ne_of_lt (Heap.lt_size e)) e
  exact h pins _ σ H xs _ Q I1 (by simpa using rv) hw
def gSub (to ti : TE) (t : TSet) : TG := fun v σ H Q => to σ H fun o H1 => ti σ H1 fun i H2 => t o i v H2 fun H3 => Q σ H3
theorem pg_sub {o i : Expr} {to ti : TE} {t : TSet} (ho : PE X o to) (hi : PE X i ti) (hs : PSet X t)
    (ha : ∀ v, assign (.Subscript o i pos) X.env v = (do
      let ov ← holding [v] (eval o X.env)
      let iv ← holding [v, ov] (eval i X.env)
      standAt pos
      holding [v, ov, iv] (setItem ov iv v)
      release [v, ov, iv] []) := by intro _; rfl) : PG X (.Subscript o i pos) (gSub to ti t) := by
  intro pins s σ H v u Q I r h
  rw [ha]
  refine wpAny_bind (wpAny_holding (thn (ho pins s σ H _ I h) fun ov s1 ⟨x, H1, I1, r1, q1⟩ => ?_))
  refine wpAny_bind (wpAny_holding (thn (hi pins s1 σ H1 _ I1 q1) fun iv s2 ⟨y, H2, I2, r2, q2⟩ => ?_))
  refine wpAny_bind (wpAny_standAt (wpAny_bind (wpAny_holding (thn (hs pins s2 σ H2 x y v ov iv u _ I2 r1 r2 r q2) fun _ s3 ⟨H3, I3, q3⟩ => ?_))))
  exact wpAny_release ⟨σ, H3, I3, q3⟩
def tAsg (te : TE) (g : TG) : TS := fun D σ H => te σ H fun x H1 => g x σ H1 D.nx
theorem ps_asg {tg e : Expr} {te : TE} {g : TG} (he : PE X e te) (hg : PG X tg g) (hs : swapsWithSole [tg] e pos.line X.env = pure false := by rfl) (hw : swappedStores [tg] e X.env = pure none := by rfl)
    (h1 : (assignEach [tg] X.env).map (·.2) = [assign tg X.env] := by rfl) : PS X (.Assign [tg] e pos) (tAsg te g) := by
  intro pins s σ H D I h
  refine wpAny_Assign_stores (thn (he pins s σ H _ I h) fun v s1 ⟨x, H1, I1, r1, q1⟩ => ?_) hs hw
  rw [h1]
  exact thn (hg pins s1 σ H1 x v _ I1 r1 q1) fun _ s2 q => q
theorem ps_set {i : Nat} {x : Str} {e : Expr} {te : TE} {pos' : Pos} (hN : X.N.Nodup) (hi : X.N[i]? = some x) (hx : Loc X.env.scope x) (he : PE X e te) (hs : swapsWith e (some (.Name x pos')) pos.line X.env = pure false := by rfl) (hf : X.fn x = true ∨ X.env.scope.names.lookup x = some .local := by first | exact .inl rfl | exact .inr rfl | assumption) :
    PS X (.Assign [.Name x pos'] e pos) (tAsg te (gName i)) := by
  intro pins s σ H D I h
  refine wpAny_Assign_Name (thn (he pins s σ H _ I h) fun v s1 ⟨y, H1, I1, r1, q1⟩ => ?_) hs
  exact store_ok I1 hN hi hx r1 (fun s2 I2 => ⟨_, H1, I2, q1⟩) hf
def tAug (i : Nat) (te : TE) (ti : TIp) : TS := fun D σ H => ∃ x, σ[i]? = some (some x) ∧ te σ H fun y H1 => ti x y H1 fun z H2 => D.nx (σ.set i (some z)) H2
theorem ps_aug {i : Nat} {x : Str} {e : Expr} {te : TE} {op : Operator} {ti : TIp} {pos' : Pos} (hN : X.N.Nodup) (hi : X.N[i]? = some x) (hx : Loc X.env.scope x) (he : PE X e te) (ho : PIp X op ti) (hf : X.fn x = true ∨ X.env.scope.names.lookup x = some .local := by first | exact .inl rfl | exact .inr rfl | assumption) :
    PS X (.AugAssign (.Name x pos') op e pos) (tAug i te ti) := by
  intro pins s σ H D I h
  obtain ⟨v, e1, h⟩ := h
  obtain ⟨m, hn, hl⟩ := I.loc
  have vis : Vis X.env.scope x := by rcases hx with k | k; exact .inl k; exact .inr (.inl k)
  obtain ⟨u, r, l⟩ := hl i x v hi e1 vis
  refine wpAny_AugAssign_Name ?_
  have go : wpAny (model X.prog X.w) X.A (eval e X.env) (fun w s₂ => wpAny (model X.prog X.w) X.A (inplaceOp op u w) (fun r s₃ => wpAny (model X.prog X.w) X.A (storeName X.env x r) (fun _ => SP X pins D .next) X.xe s₃) X.xe s₂) X.xe s := by
    refine thn (he pins s σ H _ I h) fun w s1 ⟨y, H1, I1, r1, q1⟩ => ?_
    refine thn (ho pins s1 σ H1 v y u w _ I1 r r1 q1) fun z s2 ⟨zv, H2, I2, r2, q2⟩ => ?_
    exact store_ok I2 hN hi hx r2 (fun s3 I3 => ⟨_, H2, I3, q2⟩) hf
  rcases l with ⟨hk, hm⟩ | ⟨hk, c, hc, hcell⟩
  · exact wpAny_loadName_local I.ok.kind hk hn hm go
  · rcases hk with hk | hk
    · exact wpAny_loadName_cell I.ok.kind hk hc hcell go
    · rcases hx with k | k
      · have : X.env.scope.names.lookup x = some .free := hk
        rw [k] at this; cases this
      · have : X.env.scope.names.lookup x = some .free := hk
        rw [k] at this; cases this
def tAugS (to ti te : TE) (tget : V → V → Hp → VK → Prop) (tip : TIp) (tset : TSet) : TS := fun D σ H => to σ H fun o H1 => ti σ H1 fun i H2 => tget o i H2 fun x H3 => te σ H3 fun y H4 => tip x y H4 fun z H5 => tset o i z H5 fun H6 => D.nx σ H6
def PGet (X : Cx) (t : V → V → Hp → VK → Prop) : Prop :=
  ∀ (pins : List (Addr × Obj)) (s : Shared) (σ : St) (H : Hp) (o i : V) (ov iv : Value) (Q : VK), Inv X pins σ H s → RelV o ov → RelV i iv → t o i H Q →
    wpAny (model X.prog X.w) X.A (getItem ov iv) (EP X pins σ Q) X.xe s
theorem ps_augS {o i e : Expr} {to ti te : TE} {tget : V → V → Hp → VK → Prop} {tip : TIp} {tset : TSet} {op : Operator} {tpos : Pos} (ho : PE X o to) (hi : PE X i ti) (hg : PGet X tget) (he : PE X e te) (hp : PIp X op tip) (hs : PSet X tset)
    (ha : ∀ ov iv new, augStore i ov iv new = (do holding [new, ov, iv] (setItem ov iv new); release [new, ov, iv] []; pure .next) := by intros; rfl) : PS X (.AugAssign (.Subscript o i tpos) op e pos) (tAugS to ti te tget tip tset) := by
  intro pins s σ H D I h
  refine wpAny_AugAssign_SubscriptAny (thn (ho pins s σ H _ I h) fun ov s1 ⟨x1, H1, I1, r1, q1⟩ => ?_) ha
  refine thn (hi pins s1 σ H1 _ I1 q1) fun iv s2 ⟨x2, H2, I2, r2, q2⟩ => ?_
  refine thn (hg pins s2 σ H2 x1 x2 ov iv _ I2 r1 r2 q2) fun old s3 ⟨x3, H3, I3, r3, q3⟩ => ?_
  refine thn (he pins s3 σ H3 _ I3 q3) fun v s4 ⟨x4, H4, I4, r4, q4⟩ => ?_
  refine thn (hp pins s4 σ H4 x3 x4 old v _ I4 r3 r4 q4) fun new s5 ⟨x5, H5, I5, r5, q5⟩ => ?_
  exact thn (hs pins s5 σ H5 x1 x2 x5 ov iv new _ I5 r1 r2 r5 q5) fun _ s6 ⟨H6, I6, q6⟩ => ⟨σ, H6, I6, q6⟩
def ipI (f : Int → Int → Int) : TIp := fun x y H Q => ∃ i j, x = .int i ∧ y = .int j ∧ Q (.int (f i j)) H
theorem ip_add : PIp X .Add (ipI fun i j => i + j) := by
  intro pins s σ H x y v u Q I r1 r2 h
  obtain ⟨i, j, e1, e2, q⟩ := h
  subst e1; subst e2
  obtain ⟨t, rfl⟩ := r1
  obtain ⟨t', rfl⟩ := r2
  exact iadd_int ⟨.int _, H, I.tok _, ⟨_, rfl⟩, q⟩
theorem ip_sub : PIp X .Sub (ipI fun i j => i - j) := by
  intro pins s σ H x y v u Q I r1 r2 h
  obtain ⟨i, j, e1, e2, q⟩ := h
  subst e1; subst e2
  obtain ⟨t, rfl⟩ := r1
  obtain ⟨t', rfl⟩ := r2
  exact isub_int ⟨.int _, H, I.tok _, ⟨_, rfl⟩, q⟩
end
section
variable {X : Cx} {pos : Pos}
def tWhile (c : TT) (tb : TS) : TS := fun D σ H => ∃ W : Nat → St → Hp → Prop, (∃ m, W m σ H) ∧ ∀ m σ H, W m σ H →
  c σ H fun b H1 => if b = true then ∃ N : St → Hp → Prop, (∀ σ' H', N σ' H' → ∃ m', m' < m ∧ W m' σ' H') ∧ tb { D with nx := N, ct := N, bk := D.nx } σ H1 else D.nx σ H1
theorem ps_while {c : Expr} {body : List Stmt} {tc : TT} {tb : TS} (hp : PassesOwn (model X.prog X.w) X.A X.env X.xe) (hc : PT X c tc) (hb : PSs X body tb) : PS X (.While c body [] pos) (tWhile tc tb) := by
  intro pins s σ H D I h
  obtain ⟨W, ⟨m0, w0⟩, turn⟩ := h
  refine wpAny_While (codeAny_whileLoop (fun n s' => ∃ σ' H', Inv X pins σ' H' s' ∧ W n σ' H') ?_ m0 ⟨σ, H, I, w0⟩)
  rintro n s1 ⟨σ1, H1, I1, w1⟩
  refine wpAny_passesOwn hp (thn (hc pins s1 σ1 H1 _ I1 (turn n σ1 H1 w1)) fun b s2 ⟨H2, I2, q2⟩ => ?_)
  cases b with
  | true =>
    obtain ⟨N, hN, q2⟩ := q2
    rw [if_pos rfl]
    refine wpAny_passesOwn hp (thn (hb pins s2 σ1 H2 _ I2 q2) fun f s3 q3 => ?_)
    cases f with
    | next =>
      obtain ⟨σ3, H3, I3, n3⟩ := q3
      obtain ⟨m', hm, w3⟩ := hN σ3 H3 n3
      exact ⟨m', hm, σ3, H3, I3, w3⟩
    | cont =>
      obtain ⟨σ3, H3, I3, n3⟩ := q3
      obtain ⟨m', hm, w3⟩ := hN σ3 H3 n3
      exact ⟨m', hm, σ3, H3, I3, w3⟩
    | brk => exact q3
    | ret v => exact q3
  | false =>
    rw [if_neg Bool.false_ne_true]
    exact wpAny_execs_nil ⟨σ1, H2, I2, q2⟩
end
structure It where
  go : Nat → Hp → Prop
  yld : Nat → Hp → V → Hp → Prop
  stop : Nat → Hp → Prop
def FpOk (X : Cx) (pins : List (Addr × Obj)) (H : Hp) (b : Addr) : Prop :=
  H b = none ∧ b ≠ X.env.locals ∧ b ∉ X.fs ∧ (b ∈ X.ex ∨ X.s_0.heap.objs.size ≤ b) ∧ (∀ x c, X.env.cells.lookup x = some c → c ≠ b) ∧ ∀ p ∈ X.pn ++ pins, p.1 ≠ b
theorem Inv.fpOk {X : Cx} {pins : List (Addr × Obj)} {σ : St} {H H' : Hp} {s : Shared} {b : Addr} (I : Inv X pins σ H s) (hb : s.heap.objs.size ≤ b) (hn : H' b = none) : FpOk X pins H' b := by
  refine ⟨hn, Nat.ne_of_gt (Nat.lt_of_lt_of_le I.lt hb), I.nofs hb, .inr (Nat.le_trans I.sz hb), fun x c e z => ?_, fun p hp z => ?_⟩
  · obtain ⟨v, q⟩ := I.cell x c e
    exact absurd (Nat.lt_of_lt_of_le q.lt (by rw [z]; exact hb)) (Nat.lt_irrefl _)
  · exact absurd (Nat.lt_of_lt_of_le (Heap.lt_size (I.pin p hp).1) (by rw [z]; exact hb)) (Nat.lt_irrefl _)
structure Turn (P : Program) (w : World) (K : PySem.W.Frag) (tg : Expr) (J : It) (fp : List Addr) (it : Addr) (tn : Nat → Heap → Prop) : Prop where
  mem : it ∈ fp
  obj : ∀ i h, tn i h → ∀ b ∈ fp, ∃ o, h.get? b = some o ∧ ∀ v, o.data ≠ .cell v
  keep : ∀ i h h', tn i h → (∀ b ∈ fp, ∀ o, h.get? b = some o → h'.get? b = some o) → tn i h'
  item : ∀ (X : Cx), X.prog = P → X.w = w → X.K = K → X.calm = true → ∀ (i : Nat) (pins : List (Addr × Obj)) (s : Shared) (σ : St) (H : Hp) (E : Value → Shared → Prop), Inv X pins σ H s → (∀ b ∈ fp, FpOk X pins H b) → tn i s.heap → J.go i H →
    wpAny (model P w) X.A (pyNext (.ref it)) (fun r s1 => ∃ u, r = some u ∧
      wpAny (model P w) X.A (letOwnedTupleGo tg (.ref it) u) (fun _ s2 => ∃ x H', Inv X pins σ H' s2 ∧ RelV x u ∧ J.yld i H x H' ∧ tn (i + 1) s2.heap ∧ ∀ b ∈ fp, H' b = none) E s1) E s
  done : ∀ (X : Cx), X.prog = P → X.w = w → X.K = K → X.calm = true → ∀ (i : Nat) (pins : List (Addr × Obj)) (s : Shared) (σ : St) (H : Hp) (E : Value → Shared → Prop), Inv X pins σ H s → (∀ b ∈ fp, FpOk X pins H b) → tn i s.heap → J.stop i H →
    wpAny (model P w) X.A (pyNext (.ref it)) (fun r s1 => r = none ∧ Inv X pins σ H s1) E s
  self : ∀ (A : Around) (i : Nat) (s : Shared) (Q : Value → Shared → Prop) (E : Value → Shared → Prop), tn i s.heap → Q (.ref it) s → wpAny (model P w) A (pyIter (.ref it)) Q E s
abbrev TI := St → Hp → (It → Hp → Prop) → Prop
def PIE (X : Cx) (pins : List (Addr × Obj)) (σ : St) (tg : Expr) (R : It → Hp → Prop) (itv : Value) (s2 : Shared) : Prop :=
  ∃ (it : Addr) (fp : List Addr) (tn : Nat → Heap → Prop) (J : It) (H' : Hp), itv = .ref it ∧ Inv X pins σ H' s2 ∧ Turn X.prog X.w X.K tg J fp it tn ∧ tn 0 s2.heap ∧ (∀ b ∈ fp, FpOk X pins H' b) ∧ R J H'
def PI (X : Cx) (tg iter : Expr) (wi : TI) : Prop :=
  ∀ (pins : List (Addr × Obj)) (s : Shared) (σ : St) (H : Hp) (R : It → Hp → Prop), Inv X pins σ H s → wi σ H R →
    wpAny (model X.prog X.w) X.A (eval iter X.env) (fun v s1 => wpAny (model X.prog X.w) X.A (pyIter v) (PIE X pins σ tg R) X.xe s1) X.xe s
theorem go_of {M : Model} {A : Around} {E : Value → Shared → Prop} {s : Shared} {tg : Expr} {it : Addr} {u : Value} {o : Obj} {n : String} {vs : Array Value} {Q : Unit → Shared → Prop} (ho : s.heap.get? it = some o) (hc : o.cls = .type n) (hd : o.data = .fields vs)
    (hn : ["enumerate", "zip", "dict_itemiterator", "dict_reverseitemiterator", "odict_iterator", "itertools.zip_longest", "itertools.pairwise"].contains n = false) (hQ : Q () s) : wpAny M A (letOwnedTupleGo tg (.ref it) u) Q E s := by
  unfold letOwnedTupleGo
  cases tg <;> first
    | exact wpAny_pure hQ
    | (cases u <;> first
        | exact wpAny_pure hQ
        | (refine wpAny_bind (wpAny_load ho ?_)
           rw [hc, hd]
           show wpAny M A (if (["enumerate", "zip", "dict_itemiterator", "dict_reverseitemiterator", "odict_iterator", "itertools.zip_longest", "itertools.pairwise"].contains n && vs[0]? == some (rawInt _)) = true then _ else _) Q E s
           rw [if_neg (by intro h; rw [hn, Bool.false_and] at h; cases h)]
           exact wpAny_pure hQ))
def Itl (K : PySem.W.Frag) (a : Addr) : It :=
  ⟨fun i H => ∃ xs x, SqL K H a xs ∧ xs[i]? = some x, fun i H x H' => H' = H ∧ ∀ xs, SqL K H a xs → xs[i]? = some x, fun i H => ∃ xs, SqL K H a xs ∧ xs.length ≤ i⟩
theorem turn_list {P : Program} {w : World} {K : PySem.W.Frag} {tg : Expr} (a it : Addr) : Turn P w K tg (Itl K a) [it] it (fun i h => h.IsListIter it a i) where
  mem := by simp
  obj := fun i h st b hb => by
    have e : b = it := by simpa using hb
    subst e
    obtain ⟨o, e, c, d⟩ := st
    exact ⟨o, e, fun v z => by rw [d] at z; cases z⟩
  keep := fun i h h' st k => st.at fun o e => k it (by simp) o e
  item := by
    intro X hP hw hK hc i pins s σ H E I hf st hg
    subst hP hw hK
    obtain ⟨xs, x, hq, hx⟩ := hg
    obtain ⟨its, rv, p, hz⟩ := I.list hq
    obtain ⟨u, hu, ru⟩ := rv.get hx
    obtain ⟨f0, f1, f2, f3, f4, f5⟩ := hf it (by simp)
    refine wpAny_pyNext_list_item st p.isList (x := u) (by simpa using hu) fun h' st' sb => ?_
    have I1 : Inv X pins σ H { s with heap := h' } := I.turned (t' := s.toks) (fun b o hb e => (sb.2 b hb).trans e) f0 f1 f3 f4 f5
    obtain ⟨o, e, c, d⟩ := id st'
    exact ⟨u, rfl, go_of (s := { s with heap := h' }) e c d (by decide) ⟨x, H, I1, ru, ⟨rfl, fun ys hy => by rw [I.list_inj hy hq]; exact hx⟩, st', fun b hb => (hf b hb).1⟩⟩
  done := by
    intro X hP hw hK hc i pins s σ H E I hf st hg
    subst hP hw hK
    obtain ⟨xs, hq, hx⟩ := hg
    obtain ⟨its, rv, p, hz⟩ := I.list hq
    obtain ⟨f0, f1, f2, f3, f4, f5⟩ := hf it (by simp)
    have hl := rv.length
    exact wpAny_pyNext_list_end (I.ok.hd hc) st p.isList (by simp; omega) fun h' eb => ⟨rfl, I.turned (t' := s.toks) (fun b o hb e => eb b o hb e) f0 f1 f3 f4 f5⟩
  self := fun _ _ _ _ _ st h => wpAny_pyIter_listiter st h
end L2
namespace L2
open PySem PySem.Spec PyProof.Rows
section
variable {X : Cx} {tg : Expr}
def iList (K : PySem.W.Frag) (tl : TE) : TI := fun σ H R => tl σ H fun x H1 => ∃ a, x = .ref a ∧ (∃ xs, SqL K H1 a xs) ∧ R (Itl K a) H1
theorem pi_list {l : Expr} {tl : TE} (hl : PE X l tl) : PI X tg l (iList X.K tl) := by
  intro pins s σ H R I h
  refine thn (hl pins s σ H _ I h) fun v s1 ⟨x, H1, I1, r1, q1⟩ => ?_
  obtain ⟨a, e, ⟨xs, hq⟩, q⟩ := q1
  subst e
  cases r1
  obtain ⟨its, rv, p, hz⟩ := I1.list hq
  refine wpAny_pyIter_list p.isList ?_
  refine ⟨s1.heap.objs.size, [s1.heap.objs.size], _, _, H1, rfl, I1.kept (t' := s1.toks) fun b o e => Heap.get?_push_of_some _ e, turn_list a _, ⟨_, Heap.get?_push_size _ rfl, rfl, rfl⟩, fun b hb => ?_, q⟩
  have e : b = s1.heap.objs.size := by simpa using hb
  subst e
  exact I1.fpOk (Nat.le_refl _) (I1.hok.fresh (Nat.le_refl _))
def tFor (wi : TI) (g : TG) (tb : TS) : TS := fun D σ H => wi σ H fun J H1 => ∃ W : Nat → Nat → St → Hp → Prop, (∃ m, W 0 m σ H1) ∧ ∀ i m σ H, W i m σ H →
  (J.stop i H ∧ D.nx σ H) ∨ (J.go i H ∧ ∃ N : St → Hp → Prop, (∀ σ' H', N σ' H' → ∃ m', m' < m ∧ W (i + 1) m' σ' H') ∧ ∀ x H', J.yld i H x H' → g x σ H' fun σ2 H2 => tb { D with nx := N, ct := N, bk := D.nx } σ2 H2)
def pinsAt (fp : List Addr) (h : Heap) : List (Addr × Obj) := fp.filterMap fun b => (h.get? b).map fun o => (b, o)
theorem mem_pinsAt {fp : List Addr} {h : Heap} {b : Addr} {o : Obj} (hb : b ∈ fp) (e : h.get? b = some o) : (b, o) ∈ pinsAt fp h := List.mem_filterMap.mpr ⟨b, hb, by rw [e]; rfl⟩
theorem of_pinsAt {fp : List Addr} {h : Heap} {p : Addr × Obj} (hp : p ∈ pinsAt fp h) : p.1 ∈ fp ∧ h.get? p.1 = some p.2 := by
  obtain ⟨b, hb, e⟩ := List.mem_filterMap.mp hp
  cases q : h.get? b with
  | none => rw [q] at e; cases e
  | some o =>
    rw [q] at e
    have e' : (b, o) = p := Option.some.inj e
    subst e'
    exact ⟨hb, q⟩
theorem Inv.pinned {pins : List (Addr × Obj)} {σ : St} {H : Hp} {s : Shared} {fp : List Addr} (I : Inv X pins σ H s) (hf : ∀ b ∈ fp, FpOk X pins H b) (ho : ∀ b ∈ fp, ∃ o, s.heap.get? b = some o ∧ ∀ v, o.data ≠ .cell v) : Inv X (pins ++ pinsAt fp s.heap) σ H s :=
  I.pins_of fun p hp => (List.mem_append.mp hp).elim (fun z => I.pin p (List.mem_append_right _ z)) fun z => by
    obtain ⟨hb, e⟩ := of_pinsAt z
    obtain ⟨f0, f1, f2, _⟩ := hf p.1 hb
    obtain ⟨o, e', d⟩ := ho p.1 hb
    rw [e] at e'; cases e'
    exact ⟨e, f0, f1, f2, d⟩
theorem Inv.unpinned {pins pl : List (Addr × Obj)} {σ : St} {H : Hp} {s : Shared} (I : Inv X (pins ++ pl) σ H s) : Inv X pins σ H s := I.pins_of fun p hp => I.pin p (List.mem_append_right _ (List.mem_append_left _ hp))
theorem ps_for {iter : Expr} {body : List Stmt} {wi : TI} {g : TG} {tb : TS} {pos : Pos} (hp : PassesOwn (model X.prog X.w) X.A X.env X.xe) (hc : X.calm = true) (hi : PI X tg iter wi) (hg : PG X tg g) (hb : PSs X body tb)
    (hs : ∀ x, foldedSetIterable iter X.env x = pure x := by intro _; rfl) : PS X (.For tg iter body [] pos) (tFor wi g tb) := by
  intro pins s σ H D I h
  refine wpAny_For (thn (hi pins s σ H _ I h) fun v s1 h1 => thn h1 fun itv s2 h2 => ?_) hs
  obtain ⟨it, fp, tn, J, H2, e, I2, T, st2, f2, W, ⟨m0, w0⟩, turn⟩ := h2
  subst e
  -- what stays true of the iterator's objects through the loop
  have stat : ∀ {H' : Hp}, (∀ b ∈ fp, H' b = none) → ∀ b ∈ fp, FpOk X pins H' b := fun hn b hb => ⟨hn b hb, (f2 b hb).2⟩
  refine codeAny_forLoop_any (fun n s' => ∃ i σ' H', Inv X pins σ' H' s' ∧ tn i s'.heap ∧ (∀ b ∈ fp, H' b = none) ∧ W i n σ' H') ?_ m0 ⟨0, σ, H2, I2, st2, fun b hb => (f2 b hb).1, w0⟩
  rintro n s3 ⟨i, σ3, H3, I3, st3, fr3, w3⟩
  rcases turn i n σ3 H3 w3 with ⟨stop, qn⟩ | ⟨go, N, hN, step⟩
  · refine wpAny_passesOwn hp (thn (T.done X rfl rfl rfl hc i pins s3 σ3 H3 X.xe I3 (stat fr3) st3 stop) fun r s4 ⟨hr, I4⟩ => ?_)
    subst hr
    exact wpAny_execs_nil ⟨σ3, H3, I4, qn⟩
  · refine wpAny_passesOwn hp (thn (T.item X rfl rfl rfl hc i pins s3 σ3 H3 X.xe I3 (stat fr3) st3 go) fun r s4 ⟨u, hr, h4⟩ => ?_)
    subst hr
    refine wpAny_passesOwn hp (thn h4 fun _ s5 ⟨x, H5, I5, r5, y5, st5, fr5⟩ => ?_)
    have I5' := I5.pinned (stat fr5) (T.obj _ _ st5)
    refine wpAny_passesOwn hp (thn (hg _ s5 σ3 H5 x u _ I5' r5 (step x H5 y5)) fun _ s6 ⟨σ6, H6, I6, q6⟩ => ?_)
    refine wpAny_passesOwn hp (thn (hb _ s6 σ6 H6 _ I6 q6) fun f s7 q7 => ?_)
    have again : ∀ {σ7 : St} {H7 : Hp}, Inv X (pins ++ pinsAt fp s5.heap) σ7 H7 s7 → N σ7 H7 → ∃ m, m < n ∧ ∃ i σ' H', Inv X pins σ' H' s7 ∧ tn i s7.heap ∧ (∀ b ∈ fp, H' b = none) ∧ W i m σ' H' := fun {σ7 H7} I7 n7 => by
      obtain ⟨m', hm, w7⟩ := hN σ7 H7 n7
      refine ⟨m', hm, i + 1, σ7, H7, I7.unpinned, T.keep _ _ _ st5 fun b hb o e => (I7.pin (b, o) (List.mem_append_right _ (List.mem_append_right _ (mem_pinsAt hb e)))).1, fun b hb => ?_, w7⟩
      obtain ⟨o, e, d⟩ := T.obj _ _ st5 b hb
      exact (I7.pin (b, o) (List.mem_append_right _ (List.mem_append_right _ (mem_pinsAt hb e)))).2.1
    cases f with
    | next => obtain ⟨σ7, H7, I7, n7⟩ := q7; exact again I7 n7
    | cont => obtain ⟨σ7, H7, I7, n7⟩ := q7; exact again I7 n7
    | brk => obtain ⟨σ7, H7, I7, q7⟩ := q7; exact ⟨σ7, H7, I7.unpinned, q7⟩
    | ret v => obtain ⟨x7, σ7, H7, I7, r7, q7⟩ := q7; exact ⟨x7, σ7, H7, I7.unpinned, r7, q7⟩
end
theorem for_list {K : PySem.W.Frag} {a : Addr} {xs : List V} {g : TG} {tb : TS} {D : Ends} {σ : St} {H : Hp} (Pv : Nat → St → Hp → Prop) (h0 : Pv 0 σ H) (hl : ∀ i σ H, i ≤ xs.length → Pv i σ H → SqL K H a xs)
    (hs : ∀ i x σ H, xs[i]? = some x → Pv i σ H → g x σ H fun σ2 H2 => tb { D with nx := Pv (i + 1), ct := Pv (i + 1), bk := D.nx } σ2 H2) (hd : ∀ σ H, Pv xs.length σ H → D.nx σ H) :
    ∃ W : Nat → Nat → St → Hp → Prop, (∃ m, W 0 m σ H) ∧ ∀ i m σ H, W i m σ H →
      ((Itl K a).stop i H ∧ D.nx σ H) ∨ ((Itl K a).go i H ∧ ∃ N : St → Hp → Prop, (∀ σ' H', N σ' H' → ∃ m', m' < m ∧ W (i + 1) m' σ' H') ∧ ∀ x H', (Itl K a).yld i H x H' → g x σ H' fun σ2 H2 => tb { D with nx := N, ct := N, bk := D.nx } σ2 H2) := by
  refine ⟨fun i m σ H => m = xs.length - i ∧ i ≤ xs.length ∧ Pv i σ H, ⟨xs.length, by simp, Nat.zero_le _, h0⟩, ?_⟩
  rintro i m σ H ⟨rfl, hi, p⟩
  have q := hl i σ H hi p
  by_cases hlt : i < xs.length
  · refine .inr ⟨⟨xs, xs[i], q, by simp [hlt]⟩, Pv (i + 1), fun σ' H' p' => ⟨xs.length - (i + 1), by omega, rfl, hlt, p'⟩, fun x H' y => ?_⟩
    obtain ⟨e, y⟩ := y
    subst e
    exact hs i x σ _ (y xs q) p
  · have e : i = xs.length := by omega
    subst e
    exact .inl ⟨⟨xs, q, Nat.le_refl _⟩, hd σ H p⟩
end L2
namespace L2
open PySem PySem.Spec PyProof.Rows
abbrev R2 := V → V → Hp → VK → Prop
def OpR (X : Cx) (f : Value → Value → Sem Value) (r : R2) : Prop :=
  ∀ (pins : List (Addr × Obj)) (s : Shared) (σ : St) (H : Hp) (x y : V) (v u : Value) (Q : VK), Inv X pins σ H s → RelV x v → RelV y u → r x y H Q →
    wpAny (model X.prog X.w) X.A (f v u) (EP X pins σ Q) X.xe s
def UnR (X : Cx) (f : Value → Sem Value) (r : V → Hp → VK → Prop) : Prop :=
  ∀ (pins : List (Addr × Obj)) (s : Shared) (σ : St) (H : Hp) (x : V) (v : Value) (Q : VK), Inv X pins σ H s → RelV x v → r x H Q →
    wpAny (model X.prog X.w) X.A (f v) (EP X pins σ Q) X.xe s
def CallR (X : Cx) (f : Value) (r : List V → Hp → VK → Prop) : Prop :=
  ∀ (pins : List (Addr × Obj)) (s : Shared) (σ : St) (H : Hp) (xs : List V) (us : List Value) (Q : VK), Inv X pins σ H s → Vals xs us → r xs H Q →
    wpAny (model X.prog X.w) X.A (call f us) (EP X pins σ Q) X.xe s
def TruR (X : Cx) (r : V → Hp → (Bool → Hp → Prop) → Prop) : Prop :=
  ∀ (pins : List (Addr × Obj)) (s : Shared) (σ : St) (H : Hp) (x : V) (v : Value) (Q : Bool → Hp → Prop), Inv X pins σ H s → RelV x v → r x H Q →
    wpAny (model X.prog X.w) X.A (truthy v) (TP X pins σ Q) X.xe s
def tOp (r : R2) (ta tb : TE) : TE := fun σ H Q => ta σ H fun x H1 => tb σ H1 fun y H2 => r x y H2 Q
def tUn (r : V → Hp → VK → Prop) (ta : TE) : TE := fun σ H Q => ta σ H fun x H1 => r x H1 Q
def rI (C : Int → Int → Prop) (g : Int → Int → V) : R2 := fun x y H Q => ∃ i j, x = .int i ∧ y = .int j ∧ C i j ∧ Q (g i j) H
def rI0 (g : Int → Int → V) : R2 := fun x y H Q => ∃ i j, x = .int i ∧ y = .int j ∧ Q (g i j) H
def rU (g : Int → V) : V → Hp → VK → Prop := fun x H Q => ∃ i, x = .int i ∧ Q (g i) H
section
variable {X : Cx} {a b c : Expr} {ta tb tc : TE} {pos : Pos}
theorem binT (ha : PE X a ta) (hb : PE X b tb) {pins : List (Addr × Obj)} {s : Shared} {σ : St} {H : Hp} {R : V → V → Hp → Prop} (I : Inv X pins σ H s)
    (h : ta σ H fun x H1 => tb σ H1 fun y H2 => R x y H2) {Q : Value → Shared → Prop} {f : Value → Value → Sem Value}
    (hf : ∀ v u s2 x y H2, Inv X pins σ H2 s2 → RelV x v → RelV y u → R x y H2 → wpAny (model X.prog X.w) X.A (f v u) Q X.xe s2) :
    wpAny (model X.prog X.w) X.A (eval a X.env) (fun v s₁ => wpAny (model X.prog X.w) X.A (eval b X.env) (fun u s₂ => wpAny (model X.prog X.w) X.A (f v u) Q X.xe s₂) X.xe s₁) X.xe s := by
  refine thn (ha pins s σ H _ I h) fun v s1 ⟨x, H1, I1, r1, q1⟩ => ?_
  refine thn (hb pins s1 σ H1 _ I1 q1) fun u s2 ⟨y, H2, I2, r2, q2⟩ => ?_
  exact hf v u s2 x y H2 I2 r1 r2 q2
theorem pe_op {op : Operator} {r : R2} (ho : OpR X (binaryOp op) r) (ha : PE X a ta) (hb : PE X b tb) : PE X (.BinOp a op b pos) (tOp r ta tb) := by
  intro pins s σ H Q I h
  exact wpAny_BinOp (binT ha hb I h fun v u s2 x y H2 I2 rx ry q => ho pins s2 σ H2 x y v u Q I2 rx ry q)
theorem pe_un {op : UnaryOp} {r : V → Hp → VK → Prop} (ho : UnR X (unaryOp op) r) (ha : PE X a ta) : PE X (.UnaryOp op a pos) (tUn r ta) := by
  intro pins s σ H Q I h
  exact UnaryOp_ (thn (ha pins s σ H _ I h) fun v s1 ⟨x, H1, I1, r1, q1⟩ => ho pins s1 σ H1 x v Q I1 r1 q1)
theorem opI {f : Value → Value → Sem Value} {C : Int → Int → Prop} {g : Int → Int → Int}
    (rule : ∀ (i j : Int) (t u : Tok) (s : Shared) (Q : Value → Shared → Prop) (E : Value → Shared → Prop), C i j → Q (.int (g i j) s.toks) { s with toks := s.toks + 1 } → wpAny (model X.prog X.w) X.A (f (.int i t) (.int j u)) Q E s) :
    OpR X f (rI C fun i j => .int (g i j)) := by
  intro pins s σ H x y v u Q I rx ry h
  obtain ⟨i, j, rfl, rfl, hc, q⟩ := h
  obtain ⟨t, rfl⟩ := rx
  obtain ⟨t', rfl⟩ := ry
  exact rule i j t t' s _ _ hc ⟨.int (g i j), H, I.tok _, ⟨_, rfl⟩, q⟩
theorem opI0 {f : Value → Value → Sem Value} {g : Int → Int → Int}
    (rule : ∀ (i j : Int) (t u : Tok) (s : Shared) (Q : Value → Shared → Prop) (E : Value → Shared → Prop), Q (.int (g i j) s.toks) { s with toks := s.toks + 1 } → wpAny (model X.prog X.w) X.A (f (.int i t) (.int j u)) Q E s) :
    OpR X f (rI0 fun i j => .int (g i j)) := by
  intro pins s σ H x y v u Q I rx ry h
  obtain ⟨i, j, rfl, rfl, q⟩ := h
  obtain ⟨t, rfl⟩ := rx
  obtain ⟨t', rfl⟩ := ry
  exact rule i j t t' s _ _ ⟨.int (g i j), H, I.tok _, ⟨_, rfl⟩, q⟩
theorem opB0 {f : Value → Value → Sem Value} {g : Int → Int → Bool}
    (rule : ∀ (i j : Int) (t u : Tok) (s : Shared) (Q : Value → Shared → Prop) (E : Value → Shared → Prop), Q (.bool (g i j)) s → wpAny (model X.prog X.w) X.A (f (.int i t) (.int j u)) Q E s) :
    OpR X f (rI0 fun i j => .bl (g i j)) := by
  intro pins s σ H x y v u Q I rx ry h
  obtain ⟨i, j, rfl, rfl, q⟩ := h
  obtain ⟨t, rfl⟩ := rx
  obtain ⟨t', rfl⟩ := ry
  exact rule i j t t' s _ _ ⟨.bl (g i j), H, I, rfl, q⟩
def CPow (i j : Int) : Prop := 0 ≤ j ∧ j ≤ 1000000 ∧ i.natAbs < 2 ^ 64
def CMul (i j : Int) : Prop := (-(2 ^ 64) < i ∧ i < 2 ^ 64) ∨ (-(2 ^ 64) < j ∧ j < 2 ^ 64)
theorem CMul.ok {i j : Int} (h : CMul i j) : IntMulOk i j := by
  rcases h with ⟨h1, h2⟩ | ⟨h1, h2⟩
  · exact .of_left (intBits_le_64 h1 h2)
  · exact .of_right (intBits_le_64 h1 h2)
theorem two_pow_nn (k : Nat) : (0 : Int) ≤ 2 ^ k := by
  rw [two_pow_cast]
  exact Int.natCast_nonneg _
theorem op_add : OpR X (binaryOp .Add) (rI0 fun i j => .int (i + j)) := opI0 fun _ _ _ _ _ _ _ q => add_int q
theorem op_sub : OpR X (binaryOp .Sub) (rI0 fun i j => .int (i - j)) := opI0 fun _ _ _ _ _ _ _ q => sub_int q
theorem op_mul : OpR X (binaryOp .Mult) (rI CMul fun i j => .int (i * j)) := opI fun _ _ _ _ _ _ _ hc q => mul_int q hc.ok
theorem op_mod : OpR X (binaryOp .Mod) (rI (fun _ j => 0 < j) fun i j => .int (i % j)) := opI fun i j _ _ _ _ _ hc q => by
  have h1 : (0 : Int) < j := hc
  exact mod_int' (by omega) (by rw [Int.fmod_eq_emod_of_nonneg i (by omega)]; exact q)
theorem op_shl : OpR X (binaryOp .LShift) (rI CPow fun i j => .int (i * 2 ^ j.toNat)) := opI fun _ _ _ _ _ _ _ hc q => lshift_int_small hc.1 hc.2.1 hc.2.2 q
theorem op_shr : OpR X (binaryOp .RShift) (rI (fun _ j => 0 ≤ j) fun i j => .int (i / 2 ^ j.toNat)) := opI fun i j _ _ _ _ _ hc q =>
  rshift_int hc (by rw [Int.fdiv_eq_ediv_of_nonneg i (two_pow_nn _)]; exact q)
theorem op_and : OpR X (binaryOp .BitAnd) (rI0 fun i j => .int (Builtin.bitAnd i j)) := opI0 fun _ _ _ _ _ _ _ q => and_int q
theorem op_or : OpR X (binaryOp .BitOr) (rI0 fun i j => .int (Builtin.bitOr i j)) := opI0 fun _ _ _ _ _ _ _ q => or_int q
theorem op_xor : OpR X (binaryOp .BitXor) (rI0 fun i j => .int (Builtin.bitXor i j)) := opI0 fun _ _ _ _ _ _ _ q => xor_int q
theorem unI {f : Value → Sem Value} {g : Int → Int}
    (rule : ∀ (i : Int) (t : Tok) (s : Shared) (Q : Value → Shared → Prop) (E : Value → Shared → Prop), Q (.int (g i) s.toks) { s with toks := s.toks + 1 } → wpAny (model X.prog X.w) X.A (f (.int i t)) Q E s) :
    UnR X f (rU fun i => .int (g i)) := by
  intro pins s σ H x v Q I rx h
  obtain ⟨i, rfl, q⟩ := h
  obtain ⟨t, rfl⟩ := rx
  exact rule i t s _ _ ⟨.int (g i), H, I.tok _, ⟨_, rfl⟩, q⟩
theorem un_neg : UnR X (unaryOp .USub) (rU fun i => .int (-i)) := unI fun _ _ _ _ _ q => neg_int q
end
def scal : V → V → Bool
  | .non, .non => true | .non, .int _ => true | .int _, .non => true | .non, .bl _ => true | .bl _, .non => true | .non, .str _ => true | .str _, .non => true
  | .int _, .int _ => true | .bl _, .bl _ => true | .str _, .str _ => true | .byt _, .byt _ => true
  | .int _, .str _ => true | .str _, .int _ => true | .bl _, .str _ => true | .str _, .bl _ => true
  | _, _ => false
def rEq : R2 := fun x y H Q => scal x y = true ∧ Q (.bl (decide (x = y))) H
def rNe : R2 := fun x y H Q => scal x y = true ∧ Q (.bl (!decide (x = y))) H
theorem dec_int {i j : Int} : decide (V.int i = V.int j) = (i == j) := by
  rw [Bool.eq_iff_iff]
  simp
theorem dec_bl {i j : Bool} : decide (V.bl i = V.bl j) = (i == j) := by
  rw [Bool.eq_iff_iff]
  simp
theorem dec_str {i j : Str} : decide (V.str i = V.str j) = (i == j) := by
  rw [Bool.eq_iff_iff]
  simp
theorem dec_byt {i j : Array UInt8} : decide (V.byt i = V.byt j) = (i.toList == j.toList) := by
  rw [Bool.eq_iff_iff]
  cases i
  cases j
  simp
section
variable {X : Cx} {a b c : Expr} {ta tb tc : TE} {pos : Pos}
theorem fin_bl {pins : List (Addr × Obj)} {σ : St} {H : Hp} {s : Shared} {Q : VK} {k k' : Bool} (I : Inv X pins σ H s) (q : Q (.bl k) H) (e : k = k') : EP X pins σ Q (.bool k') s := by
  subst e
  exact ⟨.bl k, H, I, rfl, q⟩
theorem op_eq : OpR X (compareOp .Eq) rEq := by
  intro pins s σ H x y v u Q I rx ry h
  obtain ⟨hs, q⟩ := h
  cases x with
  | non =>
    cases rx
    cases y with
    | non => cases ry; exact PySem.EqNone.eq_none_none (fin_bl I q (by simp))
    | bl j => cases ry; exact PySem.EqNone.eq_none_bool (fin_bl I q (by simp))
    | int j => obtain ⟨t', rfl⟩ := ry; exact PySem.EqNone.eq_none_int (fin_bl I q (by simp))
    | str j => obtain ⟨t', rfl⟩ := ry; exact PySem.EqNone.eq_none_str (fin_bl I q (by simp))
    | _ => exact absurd (show false = true from hs) Bool.false_ne_true
  | bl i =>
    cases rx
    cases y with
    | non => cases ry; exact PySem.EqNone.eq_bool_none (fin_bl I q (by simp))
    | bl j => cases ry; exact eq_bool (fin_bl I q dec_bl)
    | str j => obtain ⟨t', rfl⟩ := ry; exact PySem.EqMixed.eq_bool_str (fin_bl I q (by simp))
    | _ => exact absurd (show false = true from hs) Bool.false_ne_true
  | int i =>
    obtain ⟨t, rfl⟩ := rx
    cases y with
    | non => cases ry; exact PySem.EqNone.eq_int_none (fin_bl I q (by simp))
    | int j => obtain ⟨t', rfl⟩ := ry; exact eq_int (fin_bl I q dec_int)
    | str j => obtain ⟨t', rfl⟩ := ry; exact PySem.EqMixed.eq_int_str (fin_bl I q (by simp))
    | _ => exact absurd (show false = true from hs) Bool.false_ne_true
  | str i =>
    obtain ⟨t, rfl⟩ := rx
    cases y with
    | non => cases ry; exact PySem.EqNone.eq_str_none (fin_bl I q (by simp))
    | bl j => cases ry; exact PySem.EqMixed.eq_str_bool (fin_bl I q (by simp))
    | int j => obtain ⟨t', rfl⟩ := ry; exact PySem.EqMixed.eq_str_int (fin_bl I q (by simp))
    | str j => obtain ⟨t', rfl⟩ := ry; exact eq_str (fin_bl I q dec_str)
    | _ => exact absurd (show false = true from hs) Bool.false_ne_true
  | byt i =>
    obtain ⟨t, rfl⟩ := rx
    cases y with
    | byt j => obtain ⟨t', rfl⟩ := ry; exact PySem.W.eq_bytes (fin_bl I q dec_byt)
    | _ => exact absurd (show false = true from hs) Bool.false_ne_true
  | _ => cases y <;> exact absurd (show false = true from hs) Bool.false_ne_true
theorem op_ne : OpR X (compareOp .NotEq) rNe := by
  intro pins s σ H x y v u Q I rx ry h
  obtain ⟨hs, q⟩ := h
  cases x with
  | non =>
    cases rx
    cases y with
    | non => cases ry; exact PySem.EqNone.ne_none_none (fin_bl I q (by simp))
    | bl j => cases ry; exact PySem.EqNone.ne_none_bool (fin_bl I q (by simp))
    | int j => obtain ⟨t', rfl⟩ := ry; exact PySem.EqNone.ne_none_int (fin_bl I q (by simp))
    | str j => obtain ⟨t', rfl⟩ := ry; exact PySem.EqNone.ne_none_str (fin_bl I q (by simp))
    | _ => exact absurd (show false = true from hs) Bool.false_ne_true
  | bl i =>
    cases rx
    cases y with
    | non => cases ry; exact PySem.EqNone.ne_bool_none (fin_bl I q (by simp))
    | bl j => cases ry; exact ne_bool (fin_bl I q (congrArg not dec_bl))
    | str j => obtain ⟨t', rfl⟩ := ry; exact PySem.EqMixed.ne_bool_str (fin_bl I q (by simp))
    | _ => exact absurd (show false = true from hs) Bool.false_ne_true
  | int i =>
    obtain ⟨t, rfl⟩ := rx
    cases y with
    | non => cases ry; exact PySem.EqNone.ne_int_none (fin_bl I q (by simp))
    | int j => obtain ⟨t', rfl⟩ := ry; exact ne_int (fin_bl I q (congrArg not dec_int))
    | str j => obtain ⟨t', rfl⟩ := ry; exact PySem.EqMixed.ne_int_str (fin_bl I q (by simp))
    | _ => exact absurd (show false = true from hs) Bool.false_ne_true
  | str i =>
    obtain ⟨t, rfl⟩ := rx
    cases y with
    | non => cases ry; exact PySem.EqNone.ne_str_none (fin_bl I q (by simp))
    | bl j => cases ry; exact PySem.EqMixed.ne_str_bool (fin_bl I q (by simp))
    | int j => obtain ⟨t', rfl⟩ := ry; exact PySem.EqMixed.ne_str_int (fin_bl I q (by simp))
    | str j => obtain ⟨t', rfl⟩ := ry; exact ne_str (fin_bl I q (congrArg not dec_str))
    | _ => exact absurd (show false = true from hs) Bool.false_ne_true
  | byt i =>
    obtain ⟨t, rfl⟩ := rx
    cases y with
    | byt j => obtain ⟨t', rfl⟩ := ry; exact PySem.W.ne_bytes (fin_bl I q (congrArg not dec_byt))
    | _ => exact absurd (show false = true from hs) Bool.false_ne_true
  | _ => cases y <;> exact absurd (show false = true from hs) Bool.false_ne_true
theorem op_lt : OpR X (compareOp .Lt) (rI0 fun i j => .bl (decide (i < j))) := opB0 fun _ _ _ _ _ _ _ q => lt_int q
theorem op_le : OpR X (compareOp .LtE) (rI0 fun i j => .bl (decide (i ≤ j))) := opB0 fun _ _ _ _ _ _ _ q => le_int q
theorem op_gt : OpR X (compareOp .Gt) (rI0 fun i j => .bl (decide (j < i))) := opB0 fun _ _ _ _ _ _ _ q => gt_int q
theorem op_ge : OpR X (compareOp .GtE) (rI0 fun i j => .bl (decide (j ≤ i))) := opB0 fun _ _ _ _ _ _ _ q => ge_int q
theorem op_isN : OpR X (compareOp .Is) (fun x y H Q => y = .non ∧ Q (.bl (decide (x = .non))) H) := by
  intro pins s σ H x y v u Q I rx ry h
  obtain ⟨rfl, q⟩ := h
  cases ry
  refine is_none_gen (fin_bl I q ?_)
  cases x <;> first
    | (cases rx; rfl)
    | (obtain ⟨t, rfl⟩ := rx; rfl)
theorem nomark (b : Expr) {op : CmpOp} (h : op ≠ .In := by decide) (h2 : op ≠ .NotIn := by decide) : behindInMarks op b = false := by
  have e1 : (op == CmpOp.In) = false := by cases op <;> first | rfl | exact absurd rfl h
  have e2 : (op == CmpOp.NotIn) = false := by cases op <;> first | rfl | exact absurd rfl h2
  cases b <;> simp [behindInMarks, e1, e2]
theorem pe_cmpR {op : CmpOp} {r : R2} (ho : OpR X (compareOp op) r) (ha : PE X a ta) (hb : PE X b tb) (hm : behindInMarks op b = false) : PE X (.Compare a [op] [b] pos) (tOp r ta tb) := by
  intro pins s σ H Q I h
  exact wpAny_Compare1 (binT ha hb I h fun v u s2 x y H2 I2 rx ry q => ho pins s2 σ H2 x y v u Q I2 rx ry q) hm
def tTest (t : TE) : TT := fun σ H Q => t σ H fun x H' => ∃ k, x = .bl k ∧ Q k H'
theorem pt_cmpR {op : CmpOp} {r : R2} (ho : OpR X (compareOp op) r) (ha : PE X a ta) (hb : PE X b tb) (hm : behindInMarks op b = false) : PT X (.Compare a [op] [b] pos) (tTest (tOp r ta tb)) := by
  intro pins s σ H Q I h
  refine wpAny_isTrue_Compare1 (thn (ha pins s σ H _ I h) fun v s1 ⟨x, H1, I1, r1, q1⟩ => thn (hb pins s1 σ H1 _ I1 q1) fun u s2 ⟨y, H2, I2, r2, q2⟩ =>
    thn (ho pins s2 σ H2 x y v u _ I2 r1 r2 q2) fun c s3 ⟨z, H3, I3, r3, k, e, q3⟩ => ?_) hm
  subst e
  cases r3
  exact wpAny_truthy_bool ⟨H3, I3, q3⟩
def tChain (r r' : R2) (ta tb tc : TE) : TE := fun σ H Q => ta σ H fun x H1 => tb σ H1 fun y H2 => r x y H2 fun z H3 => ∃ k, z = .bl k ∧
  (if k = true then tc σ H3 fun w' H4 => r' y w' H4 Q else Q (.bl false) H3)
theorem pe_chain {op op' : CmpOp} {r r' : R2} (ho : OpR X (compareOp op) r) (ho' : OpR X (compareOp op') r') (ha : PE X a ta) (hb : PE X b tb) (hc : PE X c tc)
    (hm : lastMarks [op, op'] [b, c] = false := by with_unfolding_all rfl) : PE X (.Compare a [op, op'] [b, c] pos) (tChain r r' ta tb tc) := by
  intro pins s σ H Q I h
  refine Compare_chain (thn (ha pins s σ H _ I h) fun v s1 ⟨x, H1, I1, r1, q1⟩ => chain_link (thn (hb pins s1 σ H1 _ I1 q1) fun u s2 ⟨y, H2, I2, r2, q2⟩ =>
    thn (ho pins s2 σ H2 x y v u _ I2 r1 r2 q2) fun d s3 ⟨z, H3, I3, r3, k, e, q3⟩ => ?_)) hm
  subst e
  cases r3
  refine wpAny_truthy_bool ?_
  cases k with
  | false => exact ite_ff ⟨.bl false, H3, I3, rfl, q3⟩
  | true => exact ite_tt (chain_last (thn (hc pins s3 σ H3 _ I3 q3) fun w' s4 ⟨z', H4, I4, r4, q4⟩ => ho' pins s4 σ H4 y z' u w' Q I4 r2 r4 q4))
theorem pt_chain {op op' : CmpOp} {r r' : R2} (ho : OpR X (compareOp op) r) (ho' : OpR X (compareOp op') r') (ha : PE X a ta) (hb : PE X b tb) (hc : PE X c tc)
    (hm : lastMarks [op, op'] [b, c] = false := by with_unfolding_all rfl) : PT X (.Compare a [op, op'] [b, c] pos) (tTest (tChain r r' ta tb tc)) := by
  intro pins s σ H Q I h
  refine isTrue_chain (thn (ha pins s σ H _ I h) fun v s1 ⟨x, H1, I1, r1, q1⟩ => test_link (thn (hb pins s1 σ H1 _ I1 q1) fun u s2 ⟨y, H2, I2, r2, q2⟩ =>
    thn (ho pins s2 σ H2 x y v u _ I2 r1 r2 q2) fun d s3 ⟨z, H3, I3, r3, k, e, q3⟩ => ?_)) hm
  subst e
  cases r3
  refine wpAny_truthy_bool ?_
  cases k with
  | false =>
    obtain ⟨k', e', q'⟩ := q3
    cases e'
    exact ite_ff ⟨H3, I3, q'⟩
  | true =>
    refine ite_tt (test_last (thn (hc pins s3 σ H3 _ I3 q3) fun w' s4 ⟨z', H4, I4, r4, q4⟩ => thn (ho' pins s4 σ H4 y z' u w' _ I4 r2 r4 q4) fun d' s5 ⟨z2, H5, I5, r5, k2, e2, q5⟩ => ?_))
    subst e2
    cases r5
    exact wpAny_truthy_bool ⟨H5, I5, q5⟩
def TruV (K : PySem.W.Frag) (x : V) (H : Hp) (k : Bool) : Prop :=
  match x with
  | .non => k = false
  | .bl b => k = b
  | .int i => k = (i != 0)
  | .str y => y.length ≤ sizeLine ∧ k = ((y.length : Int) != 0)
  | .byt y => y.size ≤ sizeLine ∧ k = ((y.size : Int) != 0)
  | .ref p => (∃ xs, SqL K H p xs ∧ k = !xs.isEmpty) ∨ (∃ xs, SqT K H p xs ∧ k = !xs.isEmpty) ∨ ∃ kvs, H p = some (.dK kvs) ∧ k = !kvs.isEmpty
  | _ => False
theorem isEmpty_kv {κ : Type} {kvs : List (κ × V)} {vs : List (κ × Value)} (r : KV kvs vs) : (!vs.isEmpty) = !kvs.isEmpty := by
  cases r <;> rfl
theorem isEmpty_of {xs : List V} {its : List Value} (r : Vals xs its) : (!its.toArray.isEmpty) = !xs.isEmpty := by
  cases r <;> simp
theorem line63 : (sizeLine : Nat) < 2 ^ 63 := by rw [sizeLine_eq]; decide
theorem tru_ok : TruR X (fun x H Q => ∃ k, TruV X.K x H k ∧ Q k H) := by
  intro pins s σ H x v Q I rx h
  obtain ⟨k, e, q⟩ := h
  have hl := line63
  have hs : sizeLine = 16777216 := sizeLine_eq
  cases x with
  | non =>
    cases rx
    have e' : k = false := e
    subst e'
    exact truthy_none ⟨H, I, q⟩
  | bl b =>
    cases rx
    have e' : k = b := e
    subst e'
    exact wpAny_truthy_bool ⟨H, I, q⟩
  | int i =>
    obtain ⟨t, rfl⟩ := rx
    have e' : k = (i != 0) := e
    subst e'
    exact PySem.P.truthy_int ⟨H, I, q⟩
  | str y =>
    obtain ⟨t, rfl⟩ := rx
    obtain ⟨hy, e'⟩ : y.length ≤ sizeLine ∧ k = ((y.length : Int) != 0) := e
    subst e'
    exact PySem.P.truthy_str (by omega) ⟨H, I.tok _, q⟩
  | byt y =>
    obtain ⟨t, rfl⟩ := rx
    obtain ⟨hy, e'⟩ : y.size ≤ sizeLine ∧ k = ((y.size : Int) != 0) := e
    subst e'
    exact PySem.W.truthy_bytes (by omega) ⟨H, I.tok _, q⟩
  | ref p =>
    cases rx
    have e' : (∃ xs, SqL X.K H p xs ∧ k = !xs.isEmpty) ∨ (∃ xs, SqT X.K H p xs ∧ k = !xs.isEmpty) ∨ ∃ kvs, H p = some (.dK kvs) ∧ k = !kvs.isEmpty := e
    rcases e' with ⟨xs, hx, e'⟩ | ⟨xs, hx, e'⟩ | ⟨kvs, hx, e'⟩
    · subst e'
      obtain ⟨its, r, pl, hz⟩ := I.list hx
      have hlen := r.length
      exact wpAny_truthy_list pl.isList (by simp only [List.size_toArray]; omega) ⟨H, I.tok _, by rw [isEmpty_of r]; exact q⟩
    · subst e'
      obtain ⟨its, r, pl, hz⟩ := I.tuple hx
      have hlen := r.length
      exact truthy_tuple pl (by simp only [List.size_toArray]; omega) ⟨H, I.tok _, by rw [isEmpty_of r]; exact q⟩
    · subst e'
      obtain ⟨hz, hS, vs, r, m⟩ : kvs.length ≤ sizeLine ∧ (p == sysModules) = false ∧ ∃ vs, KV kvs vs ∧ s.heap.DictOf (mixKind X.prog X.w) p vs := I.hok p _ hx
      have hlen : kvs.length = vs.length := Paired.length r
      exact wpAny_truthy_dict hS m (by omega) ⟨H, I.tok _, by rw [isEmpty_kv r]; exact q⟩
  | _ => exact (show False from e).elim
theorem vals1 {x : V} {us : List Value} (r : Vals [x] us) : ∃ u, us = [u] ∧ RelV x u := by
  cases r with
  | cons r1 r2 => cases r2; exact ⟨_, rfl, r1⟩
theorem vals2 {x y : V} {us : List Value} (r : Vals [x, y] us) : ∃ u w', us = [u, w'] ∧ RelV x u ∧ RelV y w' := by
  cases r with
  | cons r1 r2 =>
    cases r2 with
    | cons r3 r4 => cases r4; exact ⟨_, _, rfl, r1, r3⟩
theorem call_max2 (hc : X.calm = true) : CallR X (.builtin "max") (fun xs H Q => ∃ i j, xs = [.int i, .int j] ∧ Q (.int (if j > i then j else i)) H) := by
  intro pins s σ H xs us Q I r h
  obtain ⟨i, j, rfl, q⟩ := h
  obtain ⟨u, w', rfl, ⟨t, rfl⟩, ⟨t', rfl⟩⟩ := vals2 r
  refine max_two_ints (I.ok.hd hc) fun h' tk k => ⟨_, H, I.kept k, ?_, q⟩
  by_cases hj : j > i
  · rw [if_pos hj, if_pos hj]; exact ⟨_, rfl⟩
  · rw [if_neg hj, if_neg hj]; exact ⟨_, rfl⟩
theorem call_min2 (hc : X.calm = true) : CallR X (.builtin "min") (fun xs H Q => ∃ i j, xs = [.int i, .int j] ∧ Q (.int (if j < i then j else i)) H) := by
  intro pins s σ H xs us Q I r h
  obtain ⟨i, j, rfl, q⟩ := h
  obtain ⟨u, w', rfl, ⟨t, rfl⟩, ⟨t', rfl⟩⟩ := vals2 r
  refine min_two_ints (I.ok.hd hc) fun h' tk k => ⟨_, H, I.kept k, ?_, q⟩
  by_cases hj : j < i
  · rw [if_pos hj, if_pos hj]; exact ⟨_, rfl⟩
  · rw [if_neg hj, if_neg hj]; exact ⟨_, rfl⟩
end
end L2
namespace L2
open PySem PySem.Spec PyProof.Rows
structure ObjM (h : Heap) (x dx C : Addr) (mA : Str → Option Value) : Prop where
  obj : h.get? x = some (PySem.W.instObj C dx)
  ns : h.Ns1 dx mA
  ne : dx ≠ x
theorem lookIn_ns {h : Heap} {dx : Addr} {mA : Str → Option Value} (n : h.Ns1 dx mA) : ∃ od, h.get? dx = some od ∧ ∀ name, PySem.W.lookIn name od = some (mA name) := by
  obtain ⟨o, es, ep, ho, hd, hk, _, hm⟩ := n
  refine ⟨o, ho, fun name => ?_⟩
  have e := hm name
  unfold nsFind findBy at e
  rw [← Array.find?_toList] at e
  unfold PySem.W.lookIn
  rw [hd]
  dsimp only
  split
  · rename_i y q
    rw [q] at e
    exact congrArg some e
  · rename_i q
    rw [q] at e
    have a : es.toList.any (·.refKey) = false := by
      rw [List.any_eq_false]
      intro y hy
      obtain ⟨z, t, hkey⟩ := hk y (Array.mem_toList_iff.mp hy)
      simp [DictEntry.refKey, hkey]
    have a' : ¬ es.toList.any (·.refKey) = true := by rw [a]; exact Bool.false_ne_true
    rw [if_neg a']
    exact congrArg some e
theorem ObjM.look {h : Heap} {x dx C : Addr} {mA : Str → Option Value} (I : ObjM h x dx C mA) : ∃ od, PySem.W.InstAt h x (PySem.W.instObj C dx) C (some od) ∧ ∀ name, PySem.W.lookIn name od = some (mA name) :=
  let ⟨od, ho, hl⟩ := lookIn_ns I.ns
  ⟨od, ⟨I.obj, rfl, rfl, ho⟩, hl⟩
section
variable {prog : Program} {w : World} {A : Around} {E : Value → Shared → Prop} {s : Shared} {K : PySem.W.Frag} {x dx C f : Addr} {mA : Str → Option Value} {name : Str} {v : Value}
theorem get_map {expr : Bool} {Q : Value → Shared → Prop} (X : K.In s.heap) (I : ObjM s.heap x dx C mA) (hg : PySem.W.plainGet K C name = true) (hh : PySem.W.hasDictIn K C = true)
    (ha : PySem.W.findIn K (.ref C) name = some none) (hv : mA name = some v) (hv' : PySem.W.handedIn v = true) (h : Q v { s with toks := s.toks + 1 }) :
    wpAny (model prog w) A (getAttr (.ref x) name expr) Q E s := by
  obtain ⟨od, J, hl⟩ := I.look
  exact PySem.W.get_value X J (PySem.W.plainGet_of hg).1 (PySem.W.findObj_own hh ha rfl (by rw [hl, hv])) hv' h
theorem get_meth {pl : Sem Bool} {Q : Value × List Value → Shared → Prop} (X : K.In s.heap) (I : ObjM s.heap x dx C mA) (hg : PySem.W.plainGet K C name = true)
    (hf : PySem.W.findIn K (.ref C) name = some (some (.ref f))) (ht : PySem.W.isFn K (.ref f) = true) (hv : mA name = none) (h : Q (.ref f, [.ref x]) s) :
    wpAny (model prog w) A (getMethod (.ref x) name pl) Q E s := by
  obtain ⟨od, J, hl⟩ := I.look
  exact PySem.W.method_fn X J (PySem.W.plainGet_of hg).1 (PySem.W.plainGet_of hg).2 hf (beq_iff_eq.mp ht) (by show (PySem.W.lookIn name od).map (·.isSome) = some false; rw [hl, hv]; rfl) h
theorem set_map {ns : List Str} {Q : Unit → Shared → Prop} (X : K.In s.heap) (I : ObjM s.heap x dx C mA)
    (hs : PySem.W.findIn K (.ref C) "__setattr__" = some (some (.builtin "object.__setattr__"))) (hp : PySem.W.plainOver K C = true) (ht : PySem.W.takerIn K C name = some none) (hh : PySem.W.hasDictIn K C = true)
    (hw : PySem.Within mA ns) (hsz : ns.length ≤ sizeLine)
    (h : ∀ h', ObjM h' x dx C (fun y => if y = name then some v else mA y) → Heap.SameBut dx s.heap h' → Q () { s with heap := h', toks := s.toks + 2 }) :
    wpAny (model prog w) A (setAttr (.ref x) name v) Q E s := by
  obtain ⟨od, J, hl⟩ := I.look
  refine PySem.W.set_plain X J hs (PySem.W.osa_open (s := { s with toks := s.toks + 1 }) (r := none) X J hp ht fun b => ?_)
  obtain ⟨cd, hc, hd'⟩ := PySem.W.any_some hh
  have hx : s.heap.get? x = some ⟨.ref C, some dx, .plain, #[]⟩ := I.obj
  refine wpAny_bind (wpAny_pure (wpAny_bind (wpAny_bind (wpAny_loadPart hx (wpAny_bind (PySem.W.Looks.here (s := { s with toks := s.toks + 1 }) (PySem.W.looks_clsIn X hc) ?_))))))
  rw [hd']
  refine wpAny_pure (a := some dx) (wpAny_bind (wpAny_pure (wpAny_bind ?_)))
  refine wpAny_nsSet1 (s := { s with toks := s.toks + 1 }) I.ns fun h' hn2 hs2 => ?_
  obtain ⟨oD, esD, epD, hoD, hdD, hcD⟩ := hn2.count (PySem.Within.cons name v hw)
  refine wpAny_bind (wpAny_lookBehind hoD (by rw [hdD]; exact pastItsLine_dict (Nat.le_trans hcD (by rw [List.length_cons]; omega))) ?_)
  exact wpAny_pure (h _ ⟨(hs2.2 _ (Ne.symm I.ne)).trans I.obj, hn2, I.ne⟩ hs2)
theorem make_map {R : Result → Shared → Prop} {vs : List Value} {kw : List (Str × Value)} (X : K.In s.heap) (hm : PySem.W.makesIn K C = true)
    (hi : PySem.W.findIn K (.ref C) "__init__" = some (some (.ref f))) (hf : PySem.W.typeIn K (.ref f) = some (.type "function"))
    (h : codeAny (model prog w) (A.under (.builtin "type.__call__" ⟨.ref C :: vs, kw⟩)) (.call (.ref f) ⟨.ref (s.heap.objs.size + 1) :: vs, kw⟩) (PySem.W.InitBack (s.heap.objs.size + 1) R)
      { s with heap := (s.heap.push PySem.W.emptyDict).push (PySem.W.instObj C s.heap.objs.size) }) :
    codeAny (model prog w) A (.call (.ref C) ⟨vs, kw⟩) R s := by
  obtain ⟨hh, g, d, t, os⟩ := s
  exact PySem.W.make_core (PySem.W.makes_of X hm) (PySem.W.looks_findIn X hi) (fun self => PySem.W.bind_fn X self hf) (.inl rfl) h
end
def putF (f : Str) (v : V) : List (Str × V) → List (Str × V)
  | [] => [(f, v)]
  | (g, x) :: r => if g = f then (g, v) :: r else (g, x) :: putF f v r
theorem lookup_putF (f g : Str) (v : V) : ∀ fs : List (Str × V), (putF f v fs).lookup g = if g = f then some v else fs.lookup g
  | [] => by
    show List.lookup g [(f, v)] = _
    by_cases h : g = f
    · have hb : (g == f) = true := beq_iff_eq.mpr h
      simp only [List.lookup, hb, if_pos h]
    · have hb : (g == f) = false := beq_eq_false_iff_ne.mpr h
      simp only [List.lookup, hb, if_neg h]
  | (k, x) :: r => by
    have ih := lookup_putF f g v r
    rw [show putF f v ((k, x) :: r) = (if k = f then (k, v) :: r else (k, x) :: putF f v r) from rfl]
    by_cases hk : k = f
    · rw [if_pos hk]
      by_cases h : g = k
      · have hb : (g == k) = true := beq_iff_eq.mpr h
        simp only [List.lookup, hb, if_pos (h.trans hk)]
      · have hb : (g == k) = false := beq_eq_false_iff_ne.mpr h
        simp only [List.lookup, hb, if_neg (fun e : g = f => h (e.trans hk.symm))]
    · rw [if_neg hk]
      by_cases h : g = k
      · have hb : (g == k) = true := beq_iff_eq.mpr h
        simp only [List.lookup, hb, if_neg (fun e : g = f => hk (h.symm.trans e))]
      · have hb : (g == k) = false := beq_eq_false_iff_ne.mpr h
        simp only [List.lookup, hb]
        exact ih
theorem keys_putF (f : Str) (v : V) : ∀ fs : List (Str × V), f ∈ (putF f v fs).map (·.1) ∧ ∀ g, g ∈ fs.map (·.1) → g ∈ (putF f v fs).map (·.1)
  | [] => ⟨by simp [putF], fun g h => by simp at h⟩
  | (k, x) :: r => by
    obtain ⟨i1, i2⟩ := keys_putF f v r
    rw [show putF f v ((k, x) :: r) = (if k = f then (k, v) :: r else (k, x) :: putF f v r) from rfl]
    by_cases hk : k = f
    · rw [if_pos hk]
      subst hk
      exact ⟨by simp, fun g h => by simpa using h⟩
    · rw [if_neg hk]
      refine ⟨?_, fun g h => ?_⟩
      · rw [List.map_cons]
        exact List.mem_cons_of_mem _ i1
      · rw [List.map_cons] at h ⊢
        rcases List.mem_cons.mp h with e | e
        · exact List.mem_cons.mpr (.inl e)
        · exact List.mem_cons_of_mem _ (i2 g e)
theorem length_putF (f : Str) (v : V) : ∀ fs : List (Str × V), (putF f v fs).length ≤ fs.length + 1
  | [] => by simp [putF]
  | (k, x) :: r => by
    have ih := length_putF f v r
    rw [show putF f v ((k, x) :: r) = (if k = f then (k, v) :: r else (k, x) :: putF f v r) from rfl]
    by_cases hk : k = f
    · rw [if_pos hk, List.length_cons, List.length_cons]; omega
    · rw [if_neg hk, List.length_cons, List.length_cons]; omega
theorem RelO.some_of {v : V} {o : Option Value} (r : RelO (some v) o) : ∃ u, o = some u ∧ RelV v u := by
  cases o with
  | none => exact (show False from r).elim
  | some u => exact ⟨u, rfl, r⟩
theorem RelO.none_of {o : Option Value} (r : RelO none o) : o = none := by
  cases o with
  | none => rfl
  | some u => exact (show False from r).elim
theorem handed_of {v : V} {u : Value} (r : RelV v u) : PySem.W.handedIn u = true := by
  cases v with
  | non => cases (show u = Value.none from r); rfl
  | bl b => cases (show u = Value.bool b from r); rfl
  | int i => obtain ⟨t, e⟩ := (show ∃ t, u = Value.int i t from r); cases e; rfl
  | str x => obtain ⟨t, e⟩ := (show ∃ t, u = Value.str x t from r); cases e; rfl
  | byt b => obtain ⟨t, e⟩ := (show ∃ t, u = Value.bytes b t from r); cases e; rfl
  | flt b => obtain ⟨t, e⟩ := (show ∃ t, u = Value.float b t from r); cases e; rfl
  | ref a => cases (show u = Value.ref a from r); rfl
  | ty n => cases (show u = Value.type n from r); rfl
section
variable {P : Program} {w : World} {H H' : Hp} {h h' : Heap} {a C dx : Addr} {fs fs' : List (Str × V)}
theorem ins_get (hok : HOk P w H h) (e : H a = some (.ins C dx fs)) : ∃ mA, ObjM h a dx C mA ∧ (∀ f, RelO (fs.lookup f) (mA f)) ∧ PySem.Within mA (fs.map (·.1)) ∧ fs.length ≤ 1000 ∧ H dx = some (.own a) := by
  obtain ⟨d, z, ne, ob, mA, n, r, q⟩ := (show ObjOk P w H h a (.ins C dx fs) from hok a _ e)
  exact ⟨mA, ⟨ob, n, ne⟩, r, q, z, d⟩
end
structure Cls (K : PySem.W.Frag) (C : Addr) : Prop where
  pg : PySem.W.plainGet K C Str.empty = true
  hd : PySem.W.hasDictIn K C = true
  po : PySem.W.plainOver K C = true
  sa : PySem.W.findIn K (.ref C) "__setattr__" = some (some (.builtin "object.__setattr__"))
theorem Cls.get {K : PySem.W.Frag} {C : Addr} (c : Cls K C) (f : Str) : PySem.W.plainGet K C f = true := c.pg
def NoAttr (K : PySem.W.Frag) (C : Addr) (f : Str) : Prop := PySem.W.findIn K (.ref C) f = some none
theorem NoAttr.taker {K : PySem.W.Frag} {C : Addr} {f : Str} (n : NoAttr K C f) : PySem.W.takerIn K C f = some none := by
  unfold PySem.W.takerIn
  rw [show PySem.W.findIn K (.ref C) f = some none from n]
  rfl
structure Meth (K : PySem.W.Frag) (C : Addr) (m : Str) (f : Addr) : Prop where
  at_ : PySem.W.findIn K (.ref C) m = some (some (.ref f))
  fn : PySem.W.isFn K (.ref f) = true
  kp : PySem.W.keepIn K (.ref f) = true
section
variable {X : Cx} {pins : List (Addr × Obj)} {σ : St} {H : Hp} {s : Shared} {a C dx : Addr} {fs : List (Str × V)} {f : Str} {v : V} {A : Around} {E : Value → Shared → Prop}
theorem getattr_ok {b : Bool} {Q : Value → Shared → Prop} (I : Inv X pins σ H s) (e : H a = some (.ins C dx fs)) (c : Cls X.K C) (n : NoAttr X.K C f) (l : fs.lookup f = some v)
    (h : ∀ u s', Inv X pins σ H s' → RelV v u → Q u s') : wpAny (model X.prog X.w) A (getAttr (.ref a) f b) Q E s := by
  obtain ⟨mA, O, r, _, _, _⟩ := ins_get I.hok e
  obtain ⟨u, hu, ru⟩ := RelO.some_of (v := v) (o := mA f) (by rw [← l]; exact r f)
  exact get_map I.kIn O (c.get f) c.hd n hu (handed_of ru) (h u _ (I.tok _) ru)
theorem getmeth_ok {m : Str} {g : Addr} {pl : Sem Bool} {Q : Value × List Value → Shared → Prop} (I : Inv X pins σ H s) (e : H a = some (.ins C dx fs)) (c : Cls X.K C) (k : Meth X.K C m g) (l : fs.lookup m = none)
    (h : Q (.ref g, [.ref a]) s) : wpAny (model X.prog X.w) A (getMethod (.ref a) m pl) Q E s := by
  obtain ⟨mA, O, r, _, _, _⟩ := ins_get I.hok e
  have hn : mA m = none := RelO.none_of (by rw [← l]; exact r m)
  exact get_meth I.kIn O (c.get m) k.at_ k.fn hn h
theorem setattr_ok {y : V} {u : Value} {Q : Unit → Shared → Prop} (I : Inv X pins σ H s) (e : H a = some (.ins C dx fs)) (c : Cls X.K C) (n : NoAttr X.K C f) (hl : fs.length < 1000) (ry : RelV y u)
    (h : ∀ s', Inv X pins σ (upd H a (.ins C dx (putF f y fs))) s' → Q () s') : wpAny (model X.prog X.w) A (setAttr (.ref a) f u) Q E s := by
  obtain ⟨mA, O, r, wi, _, ho⟩ := ins_get I.hok e
  have hz : (fs.map (·.1)).length ≤ sizeLine := by rw [List.length_map, sizeLine_eq]; omega
  refine set_map I.kIn O c.sa c.po n.taker c.hd wi hz fun h' O' sb => h _ ?_
  have hd : ∃ o, h'.get? dx = some o := let ⟨o, _, _, e', _⟩ := O'.ns; ⟨o, e'⟩
  refine I.write (x := a) (e := dx) (by rw [e]; exact True.intro) (.inr ho) (fun b q hb z => (sb.2 b hb).trans z) hd ?_
  refine ⟨by rw [upd_ne O.ne]; exact ho, ?_, O.ne, O'.obj, _, O'.ns, fun g => ?_, fun g hg => ?_⟩
  · have := length_putF f y fs; omega
  · show RelO ((putF f y fs).lookup g) (if g = f then some u else mA g)
    rw [lookup_putF]
    by_cases q : g = f
    · rw [if_pos q, if_pos q]; exact ry
    · rw [if_neg q, if_neg q]; exact r g
  · by_cases q : g = f
    · rw [q]; exact (keys_putF f y fs).1
    · refine (keys_putF f y fs).2 g (wi g fun z => hg ?_)
      show (if g = f then some u else mA g) = none
      rw [if_neg q]; exact z
theorem Inv.made (I : Inv X pins σ H s) : Inv X pins σ (upd (upd H s.heap.objs.size (.own (s.heap.objs.size + 1))) (s.heap.objs.size + 1) (.ins C s.heap.objs.size []))
    { s with heap := (s.heap.push PySem.W.emptyDict).push (PySem.W.instObj C s.heap.objs.size) } := by
  have e1 : (s.heap.push PySem.W.emptyDict).get? s.heap.objs.size = some PySem.W.emptyDict := Heap.get?_push_size s.heap rfl
  have e2 : ((s.heap.push PySem.W.emptyDict).push (PySem.W.instObj C s.heap.objs.size)).get? (s.heap.objs.size + 1) = some (PySem.W.instObj C s.heap.objs.size) := by
    have := Heap.get?_push_size (s.heap.push PySem.W.emptyDict) (o := PySem.W.instObj C s.heap.objs.size) rfl
    rwa [Heap.size_push] at this
  have e3 : (s.heap.push PySem.W.emptyDict).Ns s.heap.objs.size (fun _ => none) := ⟨PySem.W.emptyDict, #[], _, e1, rfl, (fun e he => absurd he (by simp)), fun _ => rfl⟩
  have I1 := I.laid (a := s.heap.objs.size) (o := .own (s.heap.objs.size + 1)) (h' := s.heap.push PySem.W.emptyDict) (t' := s.toks) (fun b u q => Heap.get?_push_of_some _ q) (Nat.le_refl _) ⟨_, e1⟩
  refine I1.laid (a := s.heap.objs.size + 1) (o := .ins C s.heap.objs.size []) (t' := s.toks) (fun b u q => Heap.get?_push_of_some _ q) (Nat.le_of_eq (Heap.size_push _ _)) ?_
  have ne : s.heap.objs.size ≠ s.heap.objs.size + 1 := Nat.ne_of_lt (Nat.lt_succ_self _)
  refine ⟨by rw [upd_ne ne, upd_same], Nat.zero_le _, ne, e2, fun _ => none, (Heap.Ns1.of_empty e3).at fun o q => Heap.get?_push_of_some _ q, fun _ => True.intro, fun y hy => absurd rfl hy⟩
theorem attr_of {prog : Program} {w : World} {env : Env} {e : Expr} {f : Str} {pos : Pos} {s : Shared} {Q : Value → Shared → Prop} (hb : attributeBase e f env (eval e env) = eval e env)
    (h : wpAny (model prog w) A (eval e env) (fun o s₁ => wpAny (model prog w) A (getAttr o f true) Q E s₁) E s) : wpAny (model prog w) A (eval (.Attribute e f pos) env) Q E s :=
  Attribute_any_ h (by rw [arm_eval_Attribute, hb])
end
def tFld (K : PySem.W.Frag) (ta : TE) (f : Str) : TE := fun σ H Q => ta σ H fun x H1 => ∃ a C dx fs v, x = .ref a ∧ H1 a = some (.ins C dx fs) ∧ Cls K C ∧ NoAttr K C f ∧ fs.lookup f = some v ∧ Q v H1
def sFld (K : PySem.W.Frag) (ta tv : TE) (f : Str) : TS := fun D σ H => tv σ H fun y H1 => ta σ H1 fun x H2 => ∃ a C dx fs, x = .ref a ∧ H2 a = some (.ins C dx fs) ∧ Cls K C ∧ NoAttr K C f ∧ fs.length < 1000 ∧
  D.nx σ (upd H2 a (.ins C dx (putF f y fs)))
def InOp (X : Cx) (op : Operator) (rd : V → V → Hp → VK → Prop) : Prop :=
  ∀ (pins : List (Addr × Obj)) (s : Shared) (σ : St) (H : Hp) (x y : V) (u v : Value) (Q : VK), Inv X pins σ H s → RelV x u → RelV y v → rd x y H Q → wpAny (model X.prog X.w) X.A (inplaceOp op u v) (EP X pins σ Q) X.xe s
def sFldAug (K : PySem.W.Frag) (ta tv : TE) (rd : V → V → Hp → VK → Prop) (f : Str) : TS := fun D σ H => ta σ H fun x H1 => ∃ a C dx fs v, x = .ref a ∧ H1 a = some (.ins C dx fs) ∧ Cls K C ∧ NoAttr K C f ∧ fs.lookup f = some v ∧
  tv σ H1 fun y H2 => rd v y H2 fun z H3 => ∃ dx' fs', H3 a = some (.ins C dx' fs') ∧ fs'.length < 1000 ∧ D.nx σ (upd H3 a (.ins C dx' (putF f z fs')))
section
variable {X : Cx} {o e value : Expr} {f : Str} {pos pos' tpos : Pos} {ta tv : TE}
theorem pe_fld (he : PE X e ta) (hb : attributeBase e f X.env (eval e X.env) = eval e X.env) : PE X (.Attribute e f pos) (tFld X.K ta f) := by
  intro pins s σ H Q I h
  refine attr_of hb (thn (he pins s σ H _ I h) fun u s1 ⟨x, H1, I1, rx, a, C, dx, fs, v, ex, ea, c, n, l, q⟩ => ?_)
  subst ex
  obtain rfl : u = Value.ref a := rx
  exact getattr_ok I1 ea c n l fun u' s2 I2 ru => ⟨v, H1, I2, ru, q⟩
theorem ps_fld (ha : PE X o ta) (hv : PE X value tv) (hs : swapsWith value (some (.Attribute o f pos')) pos.line X.env = pure false) : PS X (.Assign [.Attribute o f pos'] value pos) (sFld X.K ta tv f) := by
  intro pins s σ H D I h
  refine plainObj_wpAny_Assign_Attribute (thn (hv pins s σ H _ I h) fun u s1 ⟨y, H1, I1, ry, q⟩ => thn (ha pins s1 σ H1 _ I1 q) fun ov s2 ⟨x, H2, I2, rx, a, C, dx, fs, ex, ea, c, n, l, q2⟩ => ?_) hs
  subst ex
  obtain rfl : ov = Value.ref a := rx
  exact setattr_ok I2 ea c n l ry fun s3 I3 => ⟨σ, _, I3, q2⟩
theorem ps_fldaug {op : Operator} {rd : V → V → Hp → VK → Prop} (ha : PE X o ta) (hv : PE X value tv) (hop : InOp X op rd) : PS X (.AugAssign (.Attribute o f tpos) op value pos) (sFldAug X.K ta tv rd f) := by
  intro pins s σ H D I h
  refine wpAny_AugAssign_AttributeAny (thn (ha pins s σ H _ I h) fun ov s1 ⟨x, H1, I1, rx, a, C, dx, fs, v, ex, ea, c, n, l, q⟩ => ?_)
  subst ex
  obtain rfl : ov = Value.ref a := rx
  refine getattr_ok I1 ea c n l fun u s2 I2 ru => thn (hv pins s2 σ H1 _ I2 q) fun w3 s3 ⟨y, H2, I3, ry, q3⟩ => thn (hop pins s3 σ H2 v y u w3 _ I3 ru ry q3) fun w4 s4 ⟨z, H3, I4, rz, dx', fs', ea', l', q4⟩ => ?_
  exact setattr_ok I4 ea' c n l' rz fun s5 I5 => ⟨σ, _, I5, q4⟩
def rAdd : V → V → Hp → VK → Prop := fun x y H Q => ∃ i j, x = .int i ∧ y = .int j ∧ Q (.int (i + j)) H
def rSub : V → V → Hp → VK → Prop := fun x y H Q => ∃ i j, x = .int i ∧ y = .int j ∧ Q (.int (i - j)) H
theorem in_add : InOp X .Add rAdd := by
  rintro pins s σ H x y u v Q I rx ry ⟨i, j, rfl, rfl, q⟩
  obtain ⟨t, rfl⟩ := (show ∃ t, u = Value.int i t from rx)
  obtain ⟨t', rfl⟩ := (show ∃ t', v = Value.int j t' from ry)
  exact PyProof.Rows.iadd_int ⟨.int (i + j), H, I.tok _, ⟨_, rfl⟩, q⟩
theorem in_sub : InOp X .Sub rSub := by
  rintro pins s σ H x y u v Q I rx ry ⟨i, j, rfl, rfl, q⟩
  obtain ⟨t, rfl⟩ := (show ∃ t, u = Value.int i t from rx)
  obtain ⟨t', rfl⟩ := (show ∃ t', v = Value.int j t' from ry)
  exact PyProof.Rows.isub_int ⟨.int (i - j), H, I.tok _, ⟨_, rfl⟩, q⟩
theorem methcall_of {pl : Sem Bool} {m : Str} {apos : Pos} {args : List Expr} {pins : List (Addr × Obj)} {s : Shared} {σ : St} {H : Hp} {Q : Value → Shared → Prop} {te : TE} (he : PE X e te) (I : Inv X pins σ H s)
    (h : te σ H fun x H1 => ∃ a C dx fs g, x = .ref a ∧ H1 a = some (.ins C dx fs) ∧ Cls X.K C ∧ Meth X.K C m g ∧ fs.lookup m = none ∧
      ∀ s1, Inv X pins σ H1 s1 → wpAny (model X.prog X.w) X.A (callWith pos (.ref g) [.ref a] (backTo pos (starEach args X.env)) (backToKw pos (keywordEach [] X.env))) Q X.xe s1)
    (ht : eval (.Call (.Attribute e m apos) args [] pos) X.env = (do
      let ov ← eval e X.env
      standAt apos.atName
      let (f, first) ← holding [ov] (getMethod ov m pl)
      callWith pos f first (backTo pos (starEach args X.env)) (backToKw pos (keywordEach [] X.env)))) :
    wpAny (model X.prog X.w) X.A (eval (.Call (.Attribute e m apos) args [] pos) X.env) Q X.xe s := by
  refine PySem.W.methodCall_KW (pl := pl) (thn (he pins s σ H _ I h) fun u s1 ⟨x, H1, I1, rx, a, C, dx, fs, g, ex, ea, c, k, l, q⟩ => ?_) ht
  subst ex
  obtain rfl : u = Value.ref a := rx
  exact getmeth_ok I1 ea c k l (q s1 I1)
end
end L2
namespace L2
open PySem PySem.Spec PyProof.Rows
structure Room (k : Nat) (A : Around) : Prop where
  hd : A.handled = none
  dp : A.depth + 3 * k + 5 < recursionLimit
  un : A.units + 16 * k + 200 < cLine
theorem Room.mono {j k : Nat} {A : Around} (r : Room k A) (h : j ≤ k) : Room j A := ⟨r.hd, by have := r.dp; omega, by have := r.un; omega⟩
theorem Room.deeper {k : Nat} {A : Around} (r : Room (k + 1) A) (env : Env) : Room k (A.deeper env) :=
  ⟨r.hd, by have := r.dp; show A.depth + 1 + 3 * k + 5 < _; omega, by have := r.un; show A.units + 3 + 16 * k + 200 < _; omega⟩
theorem make_depth {A : Around} {C : Addr} {us : List Value} {kw : List (Str × Value)} : (A.under (.builtin "type.__call__" ⟨.ref C :: us, kw⟩)).depth = A.depth + 1 := by
  first | rfl | simp [Around.under, Code.weight, Code.isCreation, Code.isGuard, Code.isCaller, Code.frames, Code.isFrame, guardIds]
theorem make_units {A : Around} {C : Addr} {us : List Value} {kw : List (Str × Value)} : (A.under (.builtin "type.__call__" ⟨.ref C :: us, kw⟩)).units = A.units + 1 := by
  first | rfl | simp [Around.under, Code.cUnits, Code.frames, Code.isFrame]
theorem Room.make {k : Nat} {A : Around} (r : Room (k + 1) A) (C : Addr) (us : List Value) (kw : List (Str × Value)) : Room k (A.under (.builtin "type.__call__" ⟨.ref C :: us, kw⟩)) :=
  ⟨r.hd, by have := r.dp; rw [make_depth]; omega, by have := r.un; rw [make_units]; omega⟩
theorem Room.depth {k : Nat} {A : Around} (r : Room k A) : A.depth < recursionLimit := by have := r.dp; omega
theorem Room.units {k : Nat} {A : Around} (r : Room k A) : A.units + 64 < cLine := by have := r.un; omega
def tNil : TA := fun _ H Q => Q [] H
def tCons (ta : TE) (tr : TA) : TA := fun σ H Q => ta σ H fun x H1 => tr σ H1 fun xs H2 => Q (x :: xs) H2
section
variable {X : Cx} {e : Expr} {es : List Expr} {te : TE} {t : TA} {pos : Pos}
theorem pa_nil : PA X [] tNil := fun _ _ _ _ H Q I h => Calls.spliced_nil ⟨[], H, I, .nil, h⟩
theorem pa_cons (ha : PE X e te) (hr : PA X es t) (hs : starEach (e :: es) X.env = (false, eval e X.env) :: starEach es X.env := by rfl) : PA X (e :: es) (tCons te t) := by
  intro pos pins s σ H Q I h
  rw [hs]
  show wpAny _ _ (spliced ((false, eval e X.env) :: backTo pos (starEach es X.env))) _ _ s
  refine Calls.spliced_cons (thn (ha pins s σ H _ I h) fun u s1 ⟨x, H1, I1, r1, q1⟩ => ?_)
  exact thn (hr pos pins s1 σ H1 _ I1 q1) fun us s2 ⟨xs, H2, I2, r2, q2⟩ => ⟨x :: xs, H2, I2, .cons r1 r2, q2⟩
def tTup (t : TA) : TE := fun σ H Q => t σ H fun xs H1 => xs.length ≤ sizeLine ∧ ∀ p, H1 p = none → Q (.ref p) (upd H1 p (.tup xs))
def tLst (t : TA) : TE := fun σ H Q => t σ H fun xs H1 => xs.length ≤ sizeLine ∧ ∀ p, H1 p = none → Q (.ref p) (upd H1 p (.lst xs))
theorem pe_tup {x1} (h : PA X es t) : PE X (.Tuple es x1 pos) (tTup t) := by
  intro pins s σ H Q I hq
  refine wpAny_Tuple_spliced (thn (h pos pins s σ H _ I hq) fun us s1 ⟨xs, H1, I1, r, z, q⟩ => ⟨by rw [← r.length]; exact z, ?_⟩)
  have hf : H1 s1.heap.objs.size = none := I1.hok.fresh (Nat.le_refl _)
  refine ⟨.ref s1.heap.objs.size, upd H1 s1.heap.objs.size (.tup xs), I1.laid (t' := s1.toks) (fun b u e => Heap.get?_push_of_some _ e) (Nat.le_refl _) ?_, rfl, q _ hf⟩
  exact ⟨z, us, r, ⟨_, Heap.get?_push_size _ rfl, rfl, _, rfl⟩⟩
theorem pe_lst (h : PA X es t) : PE X (.List es pos) (tLst t) := by
  intro pins s σ H Q I hq
  refine wpAny_List_spliced (thn (h pos pins s σ H _ I hq) fun us s1 ⟨xs, H1, I1, r, z, q⟩ => ⟨by rw [← r.length]; exact z, ?_⟩)
  have hf : H1 s1.heap.objs.size = none := I1.hok.fresh (Nat.le_refl _)
  refine ⟨.ref s1.heap.objs.size, upd H1 s1.heap.objs.size (.lst xs), I1.laid (t' := s1.toks) (fun b u e => Heap.get?_push_of_some _ e) (Nat.le_refl _) ?_, rfl, q _ hf⟩
  exact ⟨z, us, 0, r, Heap.get?_push_size _ rfl⟩
end
abbrev Sp := List V → Hp → VK → XK → Prop
abbrev CXT := List Env → Hp → Shared → XK → Value → Shared → Prop
structure Env0 (P : Program) (w : World) (K : PySem.W.Frag) (mg : Str → Option Value) (base : Heap) (A : Around) (outer : List Env) (s : Shared) (H : Hp) : Prop where
  frames : A.frames = some outer
  mod : Mod K mg base
  bs : ∀ b o, base.get? b = some o → s.heap.get? b = some o ∧ H b = none
  bsz : base.objs.size ≤ s.heap.objs.size
  funs : s.heap.FunFrames base outer
  frf : ∀ b ∈ frs outer, H b = none
  hok : HOk P w H s.heap
  bare : AllBare s.gens
def CE (outer : List Env) (P : Program) (w : World) (H : Hp) (s : Shared) (Q : VK) (u : Value) (s' : Shared) : Prop :=
  ∃ v H', s'.os = s.os ∧ AllBare s'.gens ∧ Un (frs outer) [] H H' s.heap s'.heap ∧ HOk P w H' s'.heap ∧ RelV v u ∧ Q v H'
def CR (CX : CXT) (outer : List Env) (P : Program) (w : World) (H : Hp) (s : Shared) (Q : VK) (E : XK) (r : Result) (s' : Shared) : Prop :=
  match r with
  | .ok (.ret u) => CE outer P w H s Q u s'
  | .ok _ => False
  | .error e => CX outer H s E e s'
structure FnOk (P : Program) (w : World) (K : PySem.W.Frag) (mg : Str → Option Value) (base : Heap) (CX : CXT) (k : Nat) (f : Addr) (fd : FuncData) (ps : List Str) (sp : Sp) : Prop where
  len : ∀ vs H Q E, sp vs H Q E → vs.length = ps.length
  run : ∀ (A : Around) (outer : List Env) (s : Shared) (H : Hp) (args : Args) (us : List Value) (vs : List V) (Q : VK) (E : XK), Room k A → Env0 P w K mg base A outer s H → BindsTo s fd args (ps.zip us) → Vals vs us → sp vs H Q E →
    codeAny (model P w) A (.call (.ref f) args) (CR CX outer P w H s Q E) s
theorem Env0.make {P : Program} {w : World} {K : PySem.W.Frag} {mg : Str → Option Value} {base : Heap} {A : Around} {outer : List Env} {s : Shared} {H : Hp} (e : Env0 P w K mg base A outer s H) (C : Addr) (us : List Value) (kw : List (Str × Value)) :
    Env0 P w K mg base (A.under (.builtin "type.__call__" ⟨.ref C :: us, kw⟩)) outer s H := ⟨by first | exact e.frames | (simpa [Around.under, Code.envs, Code.isFrame, pushEnvs] using e.frames), e.mod, e.bs, e.bsz, e.funs, e.frf, e.hok, e.bare⟩
section
variable {X : Cx} {pins : List (Addr × Obj)} {σ : St} {H : Hp} {s s' : Shared}
theorem Inv.env0 (I : Inv X pins σ H s) : Env0 X.prog X.w X.K X.mg X.base X.A X.stack s H :=
  ⟨I.ok.frames, I.ok.mod, I.bs, Nat.le_trans I.ok.bsz I.sz, I.stack, I.stkFree, I.hok, I.bare⟩
theorem Inv.after {Q : VK} {u : Value} (I : Inv X pins σ H s) (h : CE X.stack X.prog X.w H s Q u s') : EP X pins σ Q u s' := by
  obtain ⟨v, H', os, bare, un, hok, r, q⟩ := h
  obtain ⟨hh, g, d, t, os'⟩ := s'
  obtain rfl : os' = s.os := os
  exact ⟨v, H', I.call (h' := hh) (g' := g) (d' := d) (t' := t) (ch := []) un hok bare (fun b z => absurd z (by simp)), r, q⟩
end
def tCall (sp : Sp) (dvs : List V) (E : XK) (t : TA) : TE := fun σ H Q => t σ H fun vs H1 => sp (vs ++ dvs) H1 Q E
def tMeth (C : Addr) (m : Str) (sp : Sp) (dvs : List V) (E : XK) (ta : TE) (t : TA) : TE := fun σ H Q => ta σ H fun x H1 => ∃ a dx fs, x = .ref a ∧ H1 a = some (.ins C dx fs) ∧ fs.lookup m = none ∧
  t σ H1 fun vs H2 => sp (x :: (vs ++ dvs)) H2 Q E
def tMake (C : Addr) (sp : Sp) (dvs : List V) (E : XK) (t : TA) : TE := fun σ H Q => t σ H fun vs H1 => ∀ x dx, H1 x = none → H1 dx = none → dx ≠ x →
  sp (.ref x :: (vs ++ dvs)) (upd (upd H1 dx (.own x)) x (.ins C dx [])) (fun v H2 => v = .non ∧ Q (.ref x) H2) E
def Binds (K : PySem.W.Frag) (fd : FuncData) (ps : List Str) (ds : List Value) : Prop :=
  ∀ (s : Shared) (us : List Value), K.In s.heap → (us ++ ds).length = ps.length → BindsTo s fd ⟨us, []⟩ (ps.zip (us ++ ds))
theorem Binds.all {K : PySem.W.Frag} {fd : FuncData} {ps : List Str} (h : ∀ us : List Value, us.length = ps.length → bindArgs fd ⟨us, []⟩ = pure (ps.zip us)) : Binds K fd ps [] := fun s us _ hl => by
  rw [List.append_nil] at hl ⊢
  exact .of_eq (h us hl)
def Passes (CX : CXT) (X : Cx) (E : XK) : Prop := ∀ (pins : List (Addr × Obj)) (σ : St) (H : Hp) (s : Shared) (e : Value) (s' : Shared), Inv X pins σ H s → CX X.stack H s E e s' → X.xe e s'
section
variable {X : Cx} {CX : CXT} {k : Nat} {f C : Addr} {fd : FuncData} {ps : List Str} {sp : Sp} {dvs : List V} {ds : List Value} {E : XK} {x m : Str} {p pos apos : Pos} {e o : Expr} {es : List Expr} {ta : TE} {t : TA}
theorem run_fn {pins : List (Addr × Obj)} {σ : St} {H : Hp} {s : Shared} {Q : VK} {us : List Value} {vs : List V} (F : FnOk X.prog X.w X.K X.mg X.base CX k f fd ps sp) (hr : Room k X.A) (hb : Binds X.K fd ps ds) (hd : Vals dvs ds) (hx : Passes CX X E)
    (I : Inv X pins σ H s) (r : Vals vs us) (h : sp (vs ++ dvs) H Q E) : wpAny (model X.prog X.w) X.A (call (.ref f) us) (EP X pins σ Q) X.xe s := by
  have r2 : Vals (vs ++ dvs) (us ++ ds) := r.append hd
  have hl : (us ++ ds).length = ps.length := by rw [← r2.length]; exact F.len _ _ _ _ h
  refine wpAny_call (codeAny_mono (F.run X.A X.stack s H ⟨us, []⟩ (us ++ ds) (vs ++ dvs) Q E hr I.env0 (hb s us I.kIn hl) r2 h) fun r s' hq => ?_)
  cases r with
  | error e => exact hx pins σ H s e s' I hq
  | ok fl =>
    cases fl with
    | ret u => exact I.after hq
    | next => exact False.elim hq
    | brk => exact False.elim hq
    | cont => exact False.elim hq
theorem pe_call (F : FnOk X.prog X.w X.K X.mg X.base CX k f fd ps sp) (hr : Room k X.A) (hg : Gl X x) (hm : X.mg x = some (.ref f)) (hk : PySem.W.keepIn X.K (.ref f) = true) (hb : Binds X.K fd ps ds) (hd : Vals dvs ds) (hx : Passes CX X E)
    (ha : PA X (e :: es) t) (hdb : (x == ("__debug__" : Str)) = false := by decide) (he : starEach (e :: es) X.env = (false, eval e X.env) :: starEach es X.env := by rfl) (hpl : (backTo pos (starEach es X.env)).any (·.1) = false := by rfl) :
    PE X (.Call (.Name x p) (e :: es) [] pos) (tCall sp dvs E t) := by
  intro pins s σ H Q I h
  refine wpAny_Call_Name_kw (ld_glob I hg hm ?_ hdb)
  refine PySem.W.callWith_K (h₀ := X.base) I.ok.mod.kin hk (thn (ha pos pins s σ H _ I h) fun us s1 ⟨vs, H1, I1, r, q⟩ => ⟨I1.kIn, ?_⟩) he hpl
  exact run_fn F hr hb hd hx I1 r q
theorem pe_meth {pl : Sem Bool} (he : PE X o ta) (c : Cls X.K C) (hm : Meth X.K C m f) (F : FnOk X.prog X.w X.K X.mg X.base CX k f fd ps sp) (hr : Room k X.A) (hb : Binds X.K fd ps ds) (hd : Vals dvs ds) (hx : Passes CX X E) (ha : PA X (e :: es) t)
    (hst : starEach (e :: es) X.env = (false, eval e X.env) :: starEach es X.env := by rfl) (hpl : (backTo pos (starEach es X.env)).any (·.1) = false := by rfl)
    (ht : eval (.Call (.Attribute o m apos) (e :: es) [] pos) X.env = (do
      let ov ← eval o X.env
      standAt apos.atName
      let (f, first) ← holding [ov] (getMethod ov m pl)
      callWith pos f first (backTo pos (starEach (e :: es) X.env)) (backToKw pos (keywordEach [] X.env))) := by rfl) :
    PE X (.Call (.Attribute o m apos) (e :: es) [] pos) (tMeth C m sp dvs E ta t) := by
  intro pins s σ H Q I h
  refine PySem.W.methodCall_KW (pl := pl) (thn (he pins s σ H _ I h) fun u s1 ⟨x, H1, I1, rx, a, dx, fs, ex, ea, l, q⟩ => ?_) ht
  subst ex
  obtain rfl : u = Value.ref a := rx
  refine getmeth_ok I1 ea c hm l ?_
  refine PySem.W.callWith_K (first := [.ref a]) (h₀ := X.base) I.ok.mod.kin hm.kp (thn (ha pos pins s1 σ H1 _ I1 q) fun us s2 ⟨vs, H2, I2, r, q2⟩ => ⟨I2.kIn, ?_⟩) hst hpl
  exact run_fn (us := .ref a :: us) (vs := .ref a :: vs) F hr hb hd hx I2 (.cons rfl r) q2
theorem pe_meth0 {pl : Sem Bool} (he : PE X o ta) (c : Cls X.K C) (hm : Meth X.K C m f) (F : FnOk X.prog X.w X.K X.mg X.base CX k f fd ps sp) (hr : Room k X.A) (hb : Binds X.K fd ps ds) (hd : Vals dvs ds) (hx : Passes CX X E)
    (ht : eval (.Call (.Attribute o m apos) [] [] pos) X.env = (do
      let ov ← eval o X.env
      standAt apos.atName
      let (f, first) ← holding [ov] (getMethod ov m pl)
      callWith pos f first (backTo pos (starEach [] X.env)) (backToKw pos (keywordEach [] X.env))) := by rfl) :
    PE X (.Call (.Attribute o m apos) [] [] pos) (tMeth C m sp dvs E ta tNil) := by
  intro pins s σ H Q I h
  refine PySem.W.methodCall_KW (pl := pl) (thn (he pins s σ H _ I h) fun u s1 ⟨x, H1, I1, rx, a, dx, fs, ex, ea, l, q⟩ => ?_) ht
  subst ex
  obtain rfl : u = Value.ref a := rx
  refine getmeth_ok I1 ea c hm l ?_
  exact PySem.W.callWith_K0 (first := [.ref a]) I1.kIn hm.kp (run_fn (us := [.ref a]) (vs := [.ref a]) F hr hb hd hx I1 (.cons rfl .nil) q)
structure Mk (K : PySem.W.Frag) (C f : Addr) : Prop where
  makes : PySem.W.makesIn K C = true
  init : PySem.W.findIn K (.ref C) "__init__" = some (some (.ref f))
  fn : PySem.W.isFn K (.ref f) = true
  kp : PySem.W.keepIn K (.ref C) = true
theorem run_make {pins : List (Addr × Obj)} {σ : St} {H : Hp} {s : Shared} {Q : VK} {us : List Value} {vs : List V} (M : Mk X.K C f) (F : FnOk X.prog X.w X.K X.mg X.base CX k f fd ps sp) (hr : Room (k + 1) X.A) (hb : Binds X.K fd ps ds) (hd : Vals dvs ds)
    (hx : Passes CX X E) (I : Inv X pins σ H s) (r : Vals vs us)
    (h : ∀ x dx, H x = none → H dx = none → dx ≠ x → sp (.ref x :: (vs ++ dvs)) (upd (upd H dx (.own x)) x (.ins C dx [])) (fun v H2 => v = .non ∧ Q (.ref x) H2) E) :
    wpAny (model X.prog X.w) X.A (call (.ref C) us) (EP X pins σ Q) X.xe s := by
  have hq := h (s.heap.objs.size + 1) s.heap.objs.size (I.hok.fresh (Nat.le_succ _)) (I.hok.fresh (Nat.le_refl _)) (Nat.ne_of_lt (Nat.lt_succ_self _))
  have I2 := Inv.made (C := C) I
  have r2 : Vals (V.ref (s.heap.objs.size + 1) :: (vs ++ dvs)) (Value.ref (s.heap.objs.size + 1) :: (us ++ ds)) := .cons rfl (r.append hd)
  have hl : (Value.ref (s.heap.objs.size + 1) :: us ++ ds).length = ps.length := by
    have e := r2.length
    rw [F.len _ _ _ _ hq] at e
    exact e.symm
  refine wpAny_call (make_map (f := f) I.kIn M.makes M.init (beq_iff_eq.mp M.fn) (codeAny_mono (F.run _ X.stack _ _ ⟨Value.ref (s.heap.objs.size + 1) :: us, []⟩ (Value.ref (s.heap.objs.size + 1) :: (us ++ ds)) _ _ E (hr.make C us [])
    (I2.env0.make C us []) (hb _ (Value.ref (s.heap.objs.size + 1) :: us) I2.kIn hl) r2 hq) fun r s' hq' => ?_))
  cases r with
  | error e => exact hx pins σ _ _ e s' I2 hq'
  | ok fl =>
    cases fl with
    | ret u =>
      obtain ⟨v, H', I3, rv, ev, q3⟩ := I2.after hq'
      subst ev
      exact ⟨rv, ⟨V.ref (s.heap.objs.size + 1), H', I3, rfl, q3⟩⟩
    | next => exact False.elim hq'
    | brk => exact False.elim hq'
    | cont => exact False.elim hq'
theorem pe_make (M : Mk X.K C f) (F : FnOk X.prog X.w X.K X.mg X.base CX k f fd ps sp) (hr : Room (k + 1) X.A) (hg : Gl X x) (hm : X.mg x = some (.ref C)) (hb : Binds X.K fd ps ds) (hd : Vals dvs ds) (hx : Passes CX X E)
    (ha : PA X (e :: es) t) (hdb : (x == ("__debug__" : Str)) = false := by decide) (he : starEach (e :: es) X.env = (false, eval e X.env) :: starEach es X.env := by rfl) (hpl : (backTo pos (starEach es X.env)).any (·.1) = false := by rfl) :
    PE X (.Call (.Name x p) (e :: es) [] pos) (tMake C sp dvs E t) := by
  intro pins s σ H Q I h
  refine wpAny_Call_Name_kw (ld_glob I hg hm ?_ hdb)
  refine PySem.W.callWith_K (h₀ := X.base) I.ok.mod.kin M.kp (thn (ha pos pins s σ H _ I h) fun us s1 ⟨vs, H1, I1, r, q⟩ => ⟨I1.kIn, ?_⟩) he hpl
  exact run_make M F hr hb hd hx I1 r q
end
structure FnScope (N P : List Str) (sc : Scope) : Prop where
  kind : sc.kind = .function
  co : sc.isCoroutine = false
  gen : sc.isGenerator = false
  nd : N.Nodup
  pre : N.take P.length = P
  par : ∀ x ∈ P, sc.names.lookup x = some .local ∨ sc.names.lookup x = some .cell
  nofree : ∀ y ∈ sc.names, y.2 ≠ .free
theorem bindL_out {kindOf : Str → Option NameKind} {x : Str} : ∀ {binds : List (Str × Value)} {m : Str → Option Value}, (∀ v, (x, v) ∉ binds) → bindL kindOf binds m x = m x
  | [], _, _ => rfl
  | (n, v) :: r, m, h => by
    unfold bindL
    rw [bindL_out fun w hw => h w (List.mem_cons_of_mem _ hw)]
    split
    · have : x ≠ n := by rintro rfl; exact h v List.mem_cons_self
      simp [this]
    · rfl
theorem bindC_out {kindOf : Str → Option NameKind} {x : Str} : ∀ {binds : List (Str × Value)} {m : Str → Option Value}, (∀ v, (x, v) ∉ binds) → bindC kindOf binds m x = m x
  | [], _, _ => rfl
  | (n, v) :: r, m, h => by
    unfold bindC
    rw [bindC_out fun w hw => h w (List.mem_cons_of_mem _ hw)]
    split
    · rfl
    · have : x ≠ n := by rintro rfl; exact h v List.mem_cons_self
      simp [this]
theorem bindL_get {kindOf : Str → Option NameKind} {x : Str} {v : Value} : ∀ {P : List Str} {vs : List Value} {i : Nat} {m : Str → Option Value}, P.Nodup → P[i]? = some x → vs[i]? = some v → kindOf x = some .local →
    bindL kindOf (P.zip vs) m x = some v
  | [], _, _, _, _, h, _, _ => by simp at h
  | _ :: _, [], _, _, _, _, h, _ => by simp at h
  | p :: P, w :: vs, 0, m, nd, h1, h2, hk => by
    simp at h1 h2; subst h1; subst h2
    show bindL kindOf ((p, w) :: P.zip vs) m p = _
    unfold bindL
    rw [bindL_out fun v hv => (List.nodup_cons.mp nd).1 (List.of_mem_zip hv).1, if_pos hk]
    simp
  | p :: P, w :: vs, i + 1, m, nd, h1, h2, hk => by
    show bindL kindOf ((p, w) :: P.zip vs) m x = _
    unfold bindL
    exact bindL_get (i := i) (List.nodup_cons.mp nd).2 (by simpa using h1) (by simpa using h2) hk
theorem bindC_get {kindOf : Str → Option NameKind} {x : Str} {v : Value} : ∀ {P : List Str} {vs : List Value} {i : Nat} {m : Str → Option Value}, P.Nodup → P[i]? = some x → vs[i]? = some v → kindOf x ≠ some .local →
    bindC kindOf (P.zip vs) m x = some v
  | [], _, _, _, _, h, _, _ => by simp at h
  | _ :: _, [], _, _, _, _, h, _ => by simp at h
  | p :: P, w :: vs, 0, m, nd, h1, h2, hk => by
    simp at h1 h2; subst h1; subst h2
    show bindC kindOf ((p, w) :: P.zip vs) m p = _
    unfold bindC
    rw [bindC_out fun v hv => (List.nodup_cons.mp nd).1 (List.of_mem_zip hv).1, if_neg hk]
    simp
  | p :: P, w :: vs, i + 1, m, nd, h1, h2, hk => by
    show bindC kindOf ((p, w) :: P.zip vs) m x = _
    unfold bindC
    exact bindC_get (i := i) (List.nodup_cons.mp nd).2 (by simpa using h1) (by simpa using h2) hk
def start (N : List Str) (vs : List V) : St := vs.map some ++ List.replicate (N.length - vs.length) none
def cxOf (CX : CXT) (P : Program) (w : World) (K : PySem.W.Frag) (mg : Str → Option Value) (base : Heap) (N : List Str) (qual : Str) (scope : Scope) (f : Addr) (cd : Value) (A : Around) (outer : List Env) (s : Shared) (H : Hp) (E : XK) : Cx where
  prog := P
  w := w
  K := K
  mg := mg
  base := base
  A := A.deeper (envOfC qual scope s.heap.objs.size f cd)
  N := N
  s_0 := s
  H_0 := H
  env := envOfC qual scope s.heap.objs.size f cd
  outer := outer
  stack := envOfC qual scope s.heap.objs.size f cd :: outer
  ex := []
  calm := true
  fn := fun _ => true
  pn := []
  xe := fun e s' => wpAny (model P w) (A.deeper (envOfC qual scope s.heap.objs.size f cd)) (leaving (envOfC qual scope s.heap.objs.size f cd) e) (fun _ s'' => CX outer H s E e s'') (fun e' s'' => CX outer H s E e' s'') s'
theorem cell_has {sc : Scope} {n : Nat} {x : Str} (h : sc.names.lookup x = some .cell) : ∃ c, (cellsFrom n sc.names []).lookup x = some c := by
  have q := PySem.W.cellsFrom_some sc.names n [] (.inl h)
  exact Option.isSome_iff_exists.mp q
theorem inv_start {CX : CXT} {P : Program} {w : World} {K : PySem.W.Frag} {mg : Str → Option Value} {base : Heap} {N ps : List Str} {qual : Str} {scope : Scope} {f : Addr} {cd : Value} {A : Around} {outer : List Env} {s s1 : Shared} {H : Hp} {E : XK} {us : List Value} {vs : List V}
    (S : FnScope N ps scope) (hd : A.handled = none) (e0 : Env0 P w K mg base A outer s H) (hl : vs.length = ps.length) (r : Vals vs us)
    (x : InCallC s s.heap.objs.size (bindL (envOfC qual scope s.heap.objs.size f cd).kindOf (ps.zip us) fun _ => none) (cellsFrom (s.heap.objs.size + 1) scope.names []) (bindC (envOfC qual scope s.heap.objs.size f cd).kindOf (ps.zip us) fun _ => none) s1) :
    Inv (cxOf CX P w K mg base N qual scope f cd A outer s H E) [] (start N vs) H s1 := by
  have hpl : ps.length ≤ N.length := by have := congrArg List.length S.pre; rw [List.length_take] at this; omega
  obtain ⟨h1, tk, rfl, hk⟩ := x.done
  have noA : ∀ b : Addr, b ∉ (cxOf CX P w K mg base N qual scope f cd A outer s H E).ex := fun b z => absurd (show b ∈ ([] : List Addr) from z) (by simp)
  refine ⟨⟨e0.mod, S.kind, rfl, rfl, Nat.le_refl _, fun y z c h1 h2 => ?_, fun y hy => ?_, fun y c _ h => ?_, fun _ => hd, Around.frames_deeper e0.frames, .inr ⟨rfl, rfl⟩, fun b z => absurd z (noA b), e0.bs, e0.bsz, fun b _ _ => noA b, fun b z => absurd z (noA b), e0.funs, e0.frf⟩,
    rfl, e0.bare, Un.kept hk, ⟨_, x.toInCall.ns, fun i y v h1 h2 h3 => ?_⟩, fun y c h => ⟨_, x.cell y c h⟩, e0.hok.fresh (Nat.le_refl _), fun y c h => ?_, fun p hp => absurd (show p ∈ ([] : List (Addr × Obj)) from hp) (by simp), e0.hok.kept hk, ?_⟩
  · exact name_of_addr x.apart (PySem.mem_of_lookup h1) (PySem.mem_of_lookup h2)
  · have hy : scope.names.lookup y = some .cell ∨ scope.names.lookup y = some .free := hy
    rcases hy with hy | hy
    · exact cell_has hy
    · exact absurd rfl (S.nofree _ (PySem.mem_of_lookup hy))
  · exact Nat.le_of_lt (x.above y c (PySem.mem_of_lookup h))
  · have hi : i < vs.length := by
      unfold start at h2
      by_cases hi : i < vs.length
      · exact hi
      · rw [List.getElem?_append_right (by simpa using hi)] at h2
        rw [List.getElem?_replicate] at h2
        split at h2 <;> cases h2
    have ha : vs[i]? = some v := by
      unfold start at h2
      rw [List.getElem?_append_left (by simpa using hi), List.getElem?_map] at h2
      cases e : vs[i]? with
      | none => rw [e] at h2; cases h2
      | some a => rw [e] at h2; cases h2; rfl
    obtain ⟨u, hu, rv⟩ := r.get ha
    have hp : ps[i]? = some y := by
      rw [← S.pre, List.getElem?_take_of_lt (by omega)]; exact h1
    have ndP : ps.Nodup := by rw [← S.pre]; exact S.nd.sublist (List.take_sublist _ _)
    refine ⟨u, rv, ?_⟩
    rcases S.par y (List.mem_of_getElem? hp) with k | k
    · exact .inl ⟨k, bindL_get ndP hp hu k⟩
    · obtain ⟨c, e⟩ := cell_has (n := s.heap.objs.size + 1) k
      refine .inr ⟨.inl k, c, e, ?_⟩
      have q := x.cell y c e
      rw [bindC_get ndP hp hu (by show scope.names.lookup y ≠ _; rw [k]; decide)] at q
      exact q
  · exact e0.hok.fresh (Nat.le_of_lt (x.above y c (PySem.mem_of_lookup h)))
  · unfold start
    show _ = N.length
    rw [List.length_append, List.length_map, List.length_replicate]
    omega
theorem fn_of {CX : CXT} {P : Program} {w : World} {K : PySem.W.Frag} {mg : Str → Option Value} {base : Heap} {k : Nat} {f : Addr} {name qual : Str} {params : Arguments} {body : List Stmt} {scope : Scope} {dV kV doc pm cdv ct oc : Value} {an od : Option Addr}
    {osl : Array (Option Value)} {N ps : List Str} {sp : Sp} (lk : K.lookup f = some ⟨oc, od, .func (PySem.W.fnOf name qual params body scope dV kV doc pm an cdv ct), osl⟩) (hcd : PySem.W.codeIn K cdv qual = true) (S : FnScope N ps scope)
    (len : ∀ vs H Q E, sp vs H Q E → vs.length = ps.length)
    (hbody : ∀ (A : Around) (outer : List Env) (s : Shared) (H : Hp) (vs : List V) (Q : VK) (E : XK), Room k (A.deeper (envOfC qual scope s.heap.objs.size f cdv)) → sp vs H Q E →
      ∃ t, PSs (cxOf CX P w K mg base N qual scope f cdv A outer s H E) body t ∧ t { nx := fun _ H' => Q .non H', rt := Q } (start N vs) H) :
    FnOk P w K mg base CX (k + 1) f (PySem.W.fnOf name qual params body scope dV kV doc pm an cdv ct) ps sp := by
  refine ⟨len, fun A outer s H args us vs Q E hr e0 hb r hsp => ?_⟩
  have hl := len _ _ _ _ hsp
  have KX : K.In s.heap := e0.mod.kin.keeps fun b o e => (e0.bs b o e).1
  have lim : s.heap.NoLimit := e0.mod.nolimit.keeps fun b o e => (e0.bs b o e).1
  have hkind : ∀ y ∈ ps.zip us, scope.names.lookup y.1 = some .local ∨ (scope.names.lookup y.1 = some .cell ∧ ((cellsFrom (s.heap.objs.size + 1) scope.names []).lookup y.1).isSome = true) := fun ⟨n, v⟩ hy => by
    rcases S.par n (List.of_mem_zip hy).1 with q | q
    · exact .inl q
    · exact .inr ⟨q, PySem.W.cellsFrom_some _ _ _ (.inl q)⟩
  refine codeAny_call_function hr.depth (KX _ _ lk) rfl S.co S.gen rfl (PySem.W.codeRec_of KX hcd) (hb _ _ _ _ ?_)
  refine wpAny_newFunctionEnv_cells S.kind hkind fun env he s1 x => ?_
  subst he
  refine ⟨lim.keeps x.toInCall.keep, codeAny_func ?_⟩
  obtain ⟨t, ht, hq⟩ := hbody A outer s H vs Q E (hr.deeper _) hsp
  have I : Inv (cxOf CX P w K mg base N qual scope f cdv A outer s H E) [] (start N vs) H s1 := inv_start S hr.hd e0 hl r x
  refine wpAny_mono (ht [] s1 (start N vs) H _ I hq) (fun fl s' hs => ?_) fun e s' hs => hs
  have fin : ∀ {σ' : St} {H' : Hp} {v : V} {u : Value}, Inv (cxOf CX P w K mg base N qual scope f cdv A outer s H E) [] σ' H' s' → RelV v u → Q v H' → CE outer P w H s Q u s' :=
    fun {σ' H' v u} J rv q => ⟨v, H', J.os, J.bare, J.base, J.hok, rv, q⟩
  cases fl with
  | ret u =>
    obtain ⟨v, σ', H', J, rv, q⟩ := hs
    exact fin J rv q
  | next =>
    obtain ⟨σ', H', J, q⟩ := hs
    exact fin (v := V.non) (u := Value.none) J rfl q
  | brk =>
    obtain ⟨_, _, _, q⟩ := hs
    exact False.elim q
  | cont =>
    obtain ⟨_, _, _, q⟩ := hs
    exact False.elim q
end L2
namespace L2
open PySem PySem.Spec PyProof.Rows
section
variable {X : Cx} {x : Str} {p pos : Pos} {e : Expr} {es : List Expr} {t : TA} {id T : String} {r : List V → Hp → VK → Prop}
def tCB (r : List V → Hp → VK → Prop) (t : TA) : TE := fun σ H Q => t σ H fun vs H1 => r vs H1 Q
theorem pe_callB (hc : CallR X (.builtin id) r) (hg : Gl X x) (hm : X.mg x = none) (hv : bootBuiltins x = some (.builtin id)) (ha : PA X (e :: es) t) (hn : x ≠ "__name__" := by decide) (hdb : (x == ("__debug__" : Str)) = false := by decide)
    (he : starEach (e :: es) X.env = (false, eval e X.env) :: starEach es X.env := by rfl) (hpl : (backTo pos (starEach es X.env)).any (·.1) = false := by rfl) : PE X (.Call (.Name x p) (e :: es) [] pos) (tCB r t) := by
  intro pins s σ H Q I h
  refine wpAny_Call_Name_kw (ld_blt I hg hm hv ?_ hn hdb)
  exact PyProof.Rows.callWith_builtin1 (thn (ha pos pins s σ H _ I h) fun us s1 ⟨vs, H1, I1, r1, q1⟩ => hc pins s1 σ H1 vs us Q I1 r1 q1) he hpl
theorem pe_callTy (hc : CallR X (.type T) r) (hg : Gl X x) (hm : X.mg x = none) (hv : bootBuiltins x = some (.type T)) (ha : PA X (e :: es) t) (hn : x ≠ "__name__" := by decide) (hdb : (x == ("__debug__" : Str)) = false := by decide)
    (he : starEach (e :: es) X.env = (false, eval e X.env) :: starEach es X.env := by rfl) (hpl : (backTo pos (starEach es X.env)).any (·.1) = false := by rfl) : PE X (.Call (.Name x p) (e :: es) [] pos) (tCB r t) := by
  intro pins s σ H Q I h
  refine wpAny_Call_Name_kw (ld_blt I hg hm hv ?_ hn hdb)
  exact PyProof.Rows.callWith_type1 (thn (ha pos pins s σ H _ I h) fun us s1 ⟨vs, H1, I1, r1, q1⟩ => hc pins s1 σ H1 vs us Q I1 r1 q1) he hpl
end
end L2
namespace HT
open PySem PyProof.Rows
section
variable {prog : Program} {w : World} {A : Around} {E : Value → Shared → Prop} {s : Shared}
def sIx (n d : Nat) : Option Int → Nat
  | none => d
  | some v => if v < 0 then (v + (n : Int)).toNat else min v.toNat n
theorem sIx_none (n d : Nat) : sIx n d none = d := rfl
theorem sIx_nat (n d k : Nat) : sIx n d (some (k : Int)) = min k n := by
  show (if (k : Int) < 0 then ((k : Int) + (n : Int)).toNat else min (k : Int).toNat n) = min k n
  rw [if_neg (by omega), Int.toNat_natCast]
end
end HT
namespace L2
open PySem PySem.Spec PyProof.Rows
abbrev TO := St → Hp → (Option Int → Hp → Prop) → Prop
def PO (X : Cx) (e : Option Expr) (t : TO) : Prop :=
  ∀ (pins : List (Addr × Obj)) (s : Shared) (σ : St) (H : Hp) (Q : Option Int → Hp → Prop), Inv X pins σ H s → t σ H Q →
    wpAny (model X.prog X.w) X.A (evalPart e X.env) (fun u s' => ∃ o H', Inv X pins σ H' s' ∧ IsPart u o ∧ Q o H') X.xe s
def tNoPart : TO := fun _ H Q => Q none H
def tPart (t : TE) : TO := fun σ H Q => t σ H fun x H1 => ∃ i, x = .int i ∧ Q (some i) H1
section
variable {X : Cx} {e : Expr} {te : TE} {lo hi : Option Expr} {tl th : TO} {pos p2 : Pos}
theorem po_none : PO X none tNoPart := by
  intro pins s σ H Q I h
  rw [evalPart_none]
  exact wpAny_pure ⟨none, H, I, .none, h⟩
theorem po_some (h : PE X e te) : PO X (some e) (tPart te) := by
  intro pins s σ H Q I hw
  rw [evalPart_some]
  refine thn (h pins s σ H _ I hw) fun u s1 ⟨x, H1, I1, r1, q1⟩ => ?_
  obtain ⟨i, rfl, q⟩ := q1
  obtain ⟨t, rfl⟩ := r1
  exact ⟨some i, H1, I1, .int i t, q⟩
def SlR (X : Cx) (r : V → Option Int → Option Int → Hp → VK → Prop) : Prop :=
  ∀ (pins : List (Addr × Obj)) (s : Shared) (σ : St) (H : Hp) (x : V) (v vl vu : Value) (lo hi : Option Int) (sl : Addr) (Q : VK), Inv X pins σ H s → RelV x v → s.heap.IsSliceOf sl vl vu .none → IsPart vl lo → IsPart vu hi → r x lo hi H Q →
    ∃ T id, typeLookup (.type T) "__getitem__" = pure (some (.builtin id)) ∧ s.TypeIs v T ∧ wpAny (model X.prog X.w) X.A (getItem v (.ref sl)) (EP X pins σ Q) X.xe s
def tSl (r : V → Option Int → Option Int → Hp → VK → Prop) (te : TE) (tl th : TO) : TE := fun σ H Q => te σ H fun x H1 => tl σ H1 fun l H2 => th σ H2 fun u H3 => r x l u H3 Q
theorem pe_slice {r : V → Option Int → Option Int → Hp → VK → Prop} (hr : SlR X r) (he : PE X e te) (hl : PO X lo tl) (hu : PO X hi th) : PE X (.Subscript e (.Slice lo hi none p2) pos) (tSl r te tl th) := by
  intro pins s σ H Q I h
  refine Subscript_ (thn (he pins s σ H _ I h) fun v s1 ⟨x, H1, I1, r1, q1⟩ => ?_)
  refine wpAny_Slice (thn (hl pins s1 σ H1 _ I1 q1) fun vl s2 ⟨l, H2, I2, pl, q2⟩ => thn (hu pins s2 σ H2 _ I2 q2) fun vu s3 ⟨u, H3, I3, pu, q3⟩ => ?_)
  rw [evalPart_none]
  refine wpAny_pure ?_
  have I4 : Inv X pins σ H3 { s3 with heap := s3.heap.push { cls := .type "slice", data := .fields #[vl, vu, .none] } } := I3.kept (t' := s3.toks) fun b ob q => Heap.get?_push_of_some _ q
  obtain ⟨T, id, hT, ht, hg⟩ := hr pins { s3 with heap := s3.heap.push { cls := .type "slice", data := .fields #[vl, vu, .none] } } σ H3 x v vl vu l u s3.heap.objs.size Q I4 r1 (Heap.IsSliceOf.new ..) pl pu q3
  show wpAny (model X.prog X.w) X.A (subscriptTail e (.Slice lo hi none p2) v (.ref s3.heap.objs.size)) (EP X pins σ Q) X.xe { s3 with heap := s3.heap.push { cls := .type "slice", data := .fields #[vl, vu, .none] } }
  exact tail_any (ops := [.ref s3.heap.objs.size, v]) ht hT hg (by with_unfolding_all rfl)
def cutV (xs : List V) (lo hi : Option Int) : List V := (xs.drop (HT.sIx xs.length 0 lo)).take (HT.sIx xs.length xs.length hi - HT.sIx xs.length 0 lo)
theorem cutV_length (xs : List V) (lo hi : Option Int) : (cutV xs lo hi).length ≤ xs.length := by
  unfold cutV
  rw [List.length_take, List.length_drop]
  omega
end
end L2
namespace L2
open PySem PySem.Spec PyProof.Rows
def ixN (n : Nat) (i : Int) : Option Nat := if 0 ≤ i then (if i < n then some i.toNat else none) else if -(n : Int) ≤ i then some (i + n).toNat else none
def atI {α : Type} (xs : List α) (i : Int) : Option α := (ixN xs.length i).bind fun j => xs[j]?
theorem ixN_seq {n : Nat} {i : Int} {j : Nat} (h : ixN n i = some j) : seqIndex? i n = some j ∧ j < n ∧ -(n : Int) ≤ i ∧ i < n := by
  unfold ixN at h
  by_cases h0 : 0 ≤ i
  · rw [if_pos h0] at h
    by_cases h1 : i < n
    · rw [if_pos h1] at h
      have e : i.toNat = j := Option.some.inj h
      exact ⟨by rw [seqIndex_of h0 h1, e], by omega, by omega, h1⟩
    · rw [if_neg h1] at h; cases h
  · rw [if_neg h0] at h
    by_cases h1 : -(n : Int) ≤ i
    · rw [if_pos h1] at h
      have e : (i + n).toNat = j := Option.some.inj h
      exact ⟨by rw [seqIndex_neg (by omega) h1, e], by omega, h1, by omega⟩
    · rw [if_neg h1] at h; cases h
theorem atI_get {α : Type} {xs : List α} {i : Int} {v : α} (h : atI xs i = some v) : ∃ j, seqIndex? i xs.length = some j ∧ xs[j]? = some v ∧ j < xs.length ∧ -(xs.length : Int) ≤ i ∧ i < xs.length := by
  unfold atI at h
  cases e : ixN xs.length i with
  | none => rw [e] at h; cases h
  | some j =>
    rw [e] at h
    obtain ⟨h1, h2, h3, h4⟩ := ixN_seq e
    exact ⟨j, h1, h, h2, h3, h4⟩
theorem atI_nat {α : Type} {xs : List α} {j : Nat} {v : α} (h : xs[j]? = some v) : atI xs (j : Int) = some v := by
  have hj : j < xs.length := (List.getElem?_eq_some_iff.mp h).1
  have e : ixN xs.length (j : Int) = some j := by
    unfold ixN
    rw [if_pos (by omega), if_pos (by omega)]; simp
  unfold atI; rw [e]; exact h
theorem atI_last {α : Type} (xs : List α) (v : α) : atI (xs ++ [v]) (-1) = some v := by
  have hl : (xs ++ [v]).length = xs.length + 1 := by simp
  have e : ixN (xs ++ [v]).length (-1) = some xs.length := by
    unfold ixN
    rw [hl, if_neg (by decide), if_pos (by omega)]
    congr 1
    omega
  unfold atI
  rw [e]
  show (xs ++ [v])[xs.length]? = some v
  simp
def PlainIx (b : Expr) : Prop := ∀ o i, subscripted b false o i = operate [o, i] (getItem o i)
def IxR (X : Cx) (r : R2) : Prop :=
  ∀ (value slice : Expr) (pins : List (Addr × Obj)) (s : Shared) (σ : St) (H : Hp) (x y : V) (v u : Value) (Q : VK), Inv X pins σ H s → RelV x v → RelV y u → r x y H Q →
    subscripted slice false v u = operate [v, u] (getItem v u) → wpAny (model X.prog X.w) X.A (subscriptTail value slice v u) (EP X pins σ Q) X.xe s
def MtR (X : Cx) (id : String) (r : V → List V → Hp → VK → Prop) : Prop :=
  ∀ (pins : List (Addr × Obj)) (s : Shared) (σ : St) (H : Hp) (x : V) (xs : List V) (v : Value) (us : List Value) (Q : VK), Inv X pins σ H s → RelV x v → Vals xs us → r x xs H Q →
    wpAny (model X.prog X.w) X.A (call (.builtin id) (v :: us)) (EP X pins σ Q) X.xe s
section
variable {X : Cx} {a b : Expr} {ta tb : TE} {pos : Pos}
theorem pe_ix {r : R2} (hr : IxR X r) (ha : PE X a ta) (hb : PE X b tb) (hs : PlainIx b) : PE X (.Subscript a b pos) (tOp r ta tb) := by
  intro pins s σ H Q I h
  exact Subscript_ (binT ha hb I h fun v u s2 x y H2 I2 rx ry q => hr a b pins s2 σ H2 x y v u Q I2 rx ry q (hs _ _))
def rIxL (K : PySem.W.Frag) : R2 := fun x y H Q => ∃ p xs i v, x = .ref p ∧ y = .int i ∧ SqL K H p xs ∧ atI xs i = some v ∧ Q v H
def rIxT (K : PySem.W.Frag) : R2 := fun x y H Q => ∃ p xs i v, x = .ref p ∧ y = .int i ∧ SqT K H p xs ∧ atI xs i = some v ∧ Q v H
theorem ix_list : IxR X (rIxL X.K) := by
  intro value slice pins s σ H x y v u Q I rx ry h hs
  obtain ⟨p, xs, i, z, rfl, rfl, hq, he, q⟩ := h
  cases rx
  obtain ⟨t, rfl⟩ := ry
  obtain ⟨its, r, pl, hz⟩ := I.list hq
  obtain ⟨j, h1, h2, h3, h4, h5⟩ := atI_get he
  obtain ⟨w, ew, rw'⟩ := r.get h2
  have hl := r.length
  have hn := line63
  have fin : EP X pins σ Q w s := ⟨z, H, I, rw', q⟩
  by_cases h0 : 0 ≤ i
  · have hj : i.toNat = j := by
      rw [seqIndex_of h0 h5] at h1
      exact Option.some.inj h1
    exact item_listR pl.isList h0 (by omega) (by rw [hj]; simpa using ew) fin hs
  · have hj : (i + (its.toArray.size : Int)).toNat = j := by
      rw [seqIndex_neg (by omega) h4] at h1
      rw [List.size_toArray, ← hl]
      exact Option.some.inj h1
    exact subscriptTail_builtinR (x := w) pl.isList.typeIs slot_list_getitem.lookup
      (wpAny_getItem_list_neg (Q := fun r s' => r = w ∧ EP X pins σ Q r s') pl.isList (by omega) (by rw [List.size_toArray] <;> omega) (by omega) (by rw [hj]; simpa using ew) ⟨rfl, fin⟩) hs
theorem ix_tup : IxR X (rIxT X.K) := by
  intro value slice pins s σ H x y v u Q I rx ry h hs
  obtain ⟨p, xs, i, z, rfl, rfl, hq, he, q⟩ := h
  cases rx
  obtain ⟨t, rfl⟩ := ry
  obtain ⟨its, r, pl, hz⟩ := I.tuple hq
  obtain ⟨j, h1, h2, h3, h4, h5⟩ := atI_get he
  obtain ⟨w, ew, rw'⟩ := r.get h2
  have hl := r.length
  have hn := line63
  have fin : EP X pins σ Q w s := ⟨z, H, I, rw', q⟩
  exact subscriptTail_builtinR (x := w) pl.typeIs slot_tuple_getitem.lookup
    (getItem_tuple (j := j) (Q := fun r s' => r = w ∧ EP X pins σ Q r s') pl (by omega) (by omega) (by rw [List.size_toArray, ← hl]; exact h1) (by simpa using ew) ⟨rfl, fin⟩) hs
theorem mapSeq_set (its : List Value) (n j : Nat) (u : Value) : Obj.mapSeq (·.setIfInBounds j u) { cls := .type "list", data := .seq its.toArray n } = { cls := .type "list", data := .seq (its.set j u).toArray n } := by
  simp [Obj.mapSeq]
theorem Inv.lst {pins : List (Addr × Obj)} {σ : St} {H : Hp} {s : Shared} {p : Addr} {xs : List V} (I : Inv X pins σ H s) (h : H p = some (.lst xs)) :
    ∃ (its : List Value) (n : Nat), Vals xs its ∧ s.heap.get? p = some { cls := .type "list", data := .seq its.toArray n } ∧ xs.length ≤ sizeLine := by
  obtain ⟨z, its, n, r, e⟩ := I.hok p _ h
  exact ⟨its, n, r, e, z⟩
theorem Inv.lstUpd {pins : List (Addr × Obj)} {σ : St} {H : Hp} {s : Shared} {p : Addr} {xs ys : List V} {its its' : List Value} {n n' : Nat} {f : Obj → Obj} (I : Inv X pins σ H s) (h : H p = some (.lst xs))
    (ho : s.heap.get? p = some { cls := .type "list", data := .seq its.toArray n }) (hf : f { cls := .type "list", data := .seq its.toArray n } = { cls := .type "list", data := .seq its'.toArray n' }) (r : Vals ys its') (hz : ys.length ≤ sizeLine) (t : Nat) :
    Inv X pins σ (upd H p (.lst ys)) { s with heap := s.heap.update p f, toks := t } := by
  have e : (s.heap.update p f).get? p = some { cls := .type "list", data := .seq its'.toArray n' } := by
    rw [Heap.get?_update_self f ho (by rw [hf] <;> rfl), hf]
  refine I.write (x := p) (e := p) (by rw [h]; trivial) (.inl rfl) (fun b u hb q => (Heap.get?_update_other _ _ (Ne.symm hb)).trans q) ⟨_, e⟩ ?_
  exact ⟨hz, its', n', r, e⟩
def rSetL : V → V → V → Hp → (Hp → Prop) → Prop := fun o i v H Q => ∃ p xs k j, o = .ref p ∧ i = .int k ∧ H p = some (.lst xs) ∧ ixN xs.length k = some j ∧ Q (upd H p (.lst (xs.set j v)))
theorem set_list : PSet X rSetL := by
  intro pins s σ H o i v ov iv u Q I ro ri rv h
  obtain ⟨p, xs, k, j, rfl, rfl, hp, hj, q⟩ := h
  cases ro
  obtain ⟨t, rfl⟩ := ri
  obtain ⟨its, n, r, ho, hz⟩ := I.lst hp
  obtain ⟨h1, h2, h3, h4⟩ := ixN_seq hj
  have hl := r.length
  have hn := line63
  have I' : Inv X pins σ (upd H p (.lst (xs.set j v))) { s with heap := s.heap.update p (Obj.mapSeq (·.setIfInBounds j u)) } :=
    I.lstUpd hp ho (mapSeq_set its n j u) (r.set rv j) (by rw [List.length_set]; exact hz) s.toks
  by_cases h0 : 0 ≤ k
  · have hk : k.toNat = j := by
      rw [seqIndex_of h0 h4] at h1
      exact Option.some.inj h1
    exact PySem.W.ki_setAt ho h0 (by omega) (by rw [List.size_toArray, ← hl]; exact h4) (by rw [hk]; exact ⟨_, I', q⟩)
  · have hk : (k + (its.toArray.size : Int)).toNat = j := by
      rw [seqIndex_neg (by omega) h3] at h1
      rw [List.size_toArray, ← hl]
      exact Option.some.inj h1
    exact PySem.W.ki_setBack ho (by omega) (by rw [List.size_toArray, ← hl]; exact h3) (by omega) (by rw [hk]; exact ⟨_, I', q⟩)
theorem slice_bounds (lo hi : Option Int) (n : Nat) : (sliceBounds lo hi none n).1 = ((HT.sIx n 0 lo : Nat) : Int) ∧ (sliceBounds lo hi none n).2.1 = ((HT.sIx n n hi : Nat) : Int) ∧ (sliceBounds lo hi none n).2.2 = 1 := by
  refine ⟨?_, ?_, rfl⟩
  · cases lo with
    | none => simp [sliceBounds, HT.sIx]
    | some i =>
      simp only [sliceBounds, HT.sIx, Option.getD_none, show (1 : Int) > 0 by decide, if_true]
      by_cases h : i < 0
      · simp only [h, if_true] <;> omega
      · simp only [h, if_false] <;> omega
  · cases hi with
    | none => simp [sliceBounds, HT.sIx]
    | some i =>
      simp only [sliceBounds, HT.sIx, Option.getD_none, show (1 : Int) > 0 by decide, if_true]
      by_cases h : i < 0
      · simp only [h, if_true] <;> omega
      · simp only [h, if_false] <;> omega
theorem slicePick_cut (its : List Value) (lo hi : Option Int) : slicePick its.toArray lo hi none = ((its.drop (HT.sIx its.length 0 lo)).take (HT.sIx its.length its.length hi - HT.sIx its.length 0 lo)).toArray := by
  obtain ⟨h1, h2, h3⟩ := slice_bounds lo hi its.toArray.size
  unfold slicePick
  rw [h1, h2, h3]
  simp only [sliceRange_one, pick_run, List.size_toArray] <;> rfl
def rSlL (K : PySem.W.Frag) : V → Option Int → Option Int → Hp → VK → Prop := fun x lo hi H Q => ∃ a xs, x = .ref a ∧ SqL K H a xs ∧ ∀ p, H p = none → Q (.ref p) (upd H p (.lst (cutV xs lo hi)))
theorem sl_list : SlR X (rSlL X.K) := by
  intro pins s σ H x v vl vu lo hi sl Q I rx hs pl pu h
  obtain ⟨a, xs, rfl, hx, q⟩ := h
  cases rx
  obtain ⟨its, r, ht, hz⟩ := I.list hx
  have hlen := r.length
  refine ⟨"list", _, slot_list_getitem.lookup, ht.isList.typeIs, ?_⟩
  refine wpAny_getItem_list_slice ht.isList hs pl pu .none (by simp) ?_ (by rw [List.size_toArray] <;> omega)
  rw [slicePick_cut, ← hlen]
  refine ⟨.ref s.heap.objs.size, _, I.laid (t' := s.toks) (o := .lst (cutV xs lo hi)) (fun b ob q => Heap.get?_push_of_some _ q) (Nat.le_refl _) ?_, rfl, q _ (I.hok.fresh (Nat.le_refl _))⟩
  exact ⟨Nat.le_trans (cutV_length xs lo hi) hz, _, 0, (r.drop (HT.sIx xs.length 0 lo)).take (HT.sIx xs.length xs.length hi - HT.sIx xs.length 0 lo), Heap.get?_push_size _ rfl⟩
theorem call_len_seq : CallR X (.builtin "len") (fun xs H Q => ∃ p ys, xs = [.ref p] ∧ (SqL X.K H p ys ∨ SqT X.K H p ys) ∧ Q (.int ys.length) H) := by
  intro pins s σ H xs us Q I r h
  obtain ⟨p, ys, rfl, hq, q⟩ := h
  obtain ⟨u, rfl, rx⟩ := vals1 r
  cases rx
  have hn := line63
  rcases hq with hq | hq
  · obtain ⟨its, r', pl, hz⟩ := I.list hq
    have hlen := r'.length
    exact Calls.call_len_list pl.isList (by simp only [List.size_toArray] <;> omega) ⟨.int ys.length, H, I.tok _, ⟨s.toks + 1, by rw [List.size_toArray, hlen]⟩, q⟩
  · obtain ⟨its, r', pl, hz⟩ := I.tuple hq
    have hlen := r'.length
    exact len_tuple pl (by simp only [List.size_toArray] <;> omega) ⟨.int ys.length, H, I.tok _, ⟨s.toks + 1, by rw [List.size_toArray, hlen]⟩, q⟩
theorem call_list_of : CallR X (.type "list") (fun xs H Q => ∃ p ys, xs = [.ref p] ∧ (SqL X.K H p ys ∨ SqT X.K H p ys) ∧ ∀ l, H l = none → Q (.ref l) (upd H l (.lst ys))) := by
  intro pins s σ H xs us Q I r h
  obtain ⟨p, ys, rfl, hq, q⟩ := h
  obtain ⟨u, rfl, rx⟩ := vals1 r
  cases rx
  have fin : ∀ (its : List Value), Vals ys its → ys.length ≤ sizeLine → ∀ (h' : Heap) (c' : Nat), (∀ b o', s.heap.get? b = some o' → h'.get? b = some o') →
      h'.get? s.heap.objs.size = some { cls := .type "list", dict := none, data := .seq its.toArray c', slots := #[] } → EP X pins σ Q (.ref s.heap.objs.size) { s with heap := h' } := fun its r' hz h' c' kp e =>
    ⟨.ref s.heap.objs.size, _, I.laid (t' := s.toks) kp (Nat.le_refl _) (show ObjOk X.prog X.w _ h' _ (.lst ys) from ⟨hz, its, c', r', e⟩), rfl, q _ (I.hok.fresh (Nat.le_refl _))⟩
  rcases hq with hq | hq
  · obtain ⟨its, r', pl, hz⟩ := I.list hq
    have hlen := r'.length
    obtain ⟨o, ho, hc, n, hd⟩ := pl.isList
    exact call_list_seq p (.inl rfl) ho hc hd (fun h' c' kp e => fin its r' hz h' c' kp e) (by simp only [List.size_toArray] <;> omega)
  · obtain ⟨its, r', pl, hz⟩ := I.tuple hq
    have hlen := r'.length
    obtain ⟨o, ho, hc, n, hd⟩ := pl
    exact call_list_seq p (.inr rfl) ho hc hd (fun h' c' kp e => fin its r' hz h' c' kp e) (by simp only [List.size_toArray] <;> omega)
def tyV (K : PySem.W.Frag) (T : String) (x : V) (H : Hp) : Prop := match x with
  | .str _ => T = "str"
  | .int _ => T = "int"
  | .ref p => (T = "list" ∧ ∃ xs, SqL K H p xs) ∨ (T = "tuple" ∧ ∃ o, K.lookup p = some o ∧ o.cls = .type "tuple" ∧ o.dict = none) ∨
      (T = "dict" ∧ ((∃ kvs, H p = some (.dK kvs)) ∨ ∃ kvs, H p = some (.dT kvs))) ∨ (T = "set" ∧ ∃ S n, H p = some (.set S n))
  | _ => False
theorem tyV_is {pins : List (Addr × Obj)} {σ : St} {H : Hp} {s : Shared} {T : String} {x : V} {v : Value} (I : Inv X pins σ H s) (r : RelV x v) (ty : tyV X.K T x H) :
    s.TypeIs v T ∧ ∀ a, v = .ref a → ∃ ob, s.heap.get? a = some ob ∧ ob.dict = none := by
  cases x with
  | str z =>
    obtain ⟨t, rfl⟩ := r
    cases (show T = "str" from ty)
    exact ⟨typeIs_str s z t, fun _ e => nomatch e⟩
  | int i =>
    obtain ⟨t, rfl⟩ := r
    cases (show T = "int" from ty)
    exact ⟨typeIs_int s i t, fun _ e => nomatch e⟩
  | ref p =>
    cases r
    rcases ty with ⟨rfl, xs, hq⟩ | ⟨rfl, o, hk, hc, hd⟩ | ⟨rfl, hk⟩ | ⟨rfl, S, n, hk⟩
    · obtain ⟨its, _, pl, _⟩ := I.list hq
      refine ⟨pl.isList.typeIs, fun a e => ?_⟩
      cases e
      obtain ⟨o, n, e, c, hd, _⟩ := pl
      exact ⟨o, e, hd⟩
    · refine ⟨⟨o, I.kIn p o hk, hc⟩, fun a e => ?_⟩
      cases e
      exact ⟨o, I.kIn _ o hk, hd⟩
    · have z : ∃ o, s.heap.get? p = some o ∧ o.ExactDict := by
        rcases hk with ⟨kvs, hk⟩ | ⟨kvs, hk⟩
        · obtain ⟨_, _, _, _, o, _, _, e, ex, _⟩ := I.hok p _ hk
          exact ⟨o, e, ex⟩
        · obtain ⟨_, _, _, _, o, _, _, e, ex, _⟩ := I.hok p _ hk
          exact ⟨o, e, ex⟩
      obtain ⟨o, e, ex⟩ := z
      refine ⟨⟨o, e, ex.1⟩, fun a e2 => ?_⟩
      cases e2
      exact ⟨o, e, ex.2.1⟩
    · obtain ⟨o, _, _, _, e, ex, _⟩ := I.hok p _ hk
      refine ⟨⟨o, e, ex.1⟩, fun a e2 => ?_⟩
      cases e2
      exact ⟨o, e, ex.2.1⟩
  | _ => exact False.elim ty
def tBM (K : PySem.W.Frag) (T : String) (r : V → List V → Hp → VK → Prop) (to : TE) (t : TA) : TE := fun σ H Q => to σ H fun x H1 => tyV K T x H1 ∧ t σ H1 fun xs H2 => r x xs H2 Q
variable {o e : Expr} {es : List Expr} {to : TE} {t : TA} {name : Str} {apos cpos : Pos} {T id : String} {r : V → List V → Hp → VK → Prop}
theorem pe_bm (pa : PlainAttrs T) (slot : Slot T name id) (hty : typeOf (.builtin id) = pure (.type "method_descriptor")) (hm : MtR X id r) (ho : PE X o to) (ha : PA X (e :: es) t)
    (hbase : attributeBase o name X.env (eval o X.env) = eval o X.env := by rfl)
    (hfew : ((backTo cpos (starEach (e :: es) X.env)).all (fun x => !x.1) && (backToKw cpos (keywordEach [] X.env)).all (fun x => x.1.isSome)
      && decide ((e :: es).length + ([] : List Keyword).length + (if ([] : List Keyword).isEmpty then 0 else 1) < 30)) = true := by rfl)
    (hline : (apos.endLine == cpos.line) = true := by rfl) (hs : starEach (e :: es) X.env = (false, eval e X.env) :: starEach es X.env := by rfl) (hplain : (backTo cpos (starEach es X.env)).any (·.1) = false := by rfl) :
    PE X (.Call (.Attribute o name apos) (e :: es) [] cpos) (tBM X.K T r to t) := by
  intro pins s σ H Q I h
  refine wpAny_Call_method_late hbase hfew hline rfl (thn (ho pins s σ H _ I h) fun v s1 ⟨x, H1, I1, r1, ty, q1⟩ => ?_)
  obtain ⟨h1, h2⟩ := tyV_is I1 r1 ty
  refine ⟨T, id, pa, slot, hty, h1, h2, ?_⟩
  have hA := ha cpos pins s1 σ H1 _ I1 q1
  rw [hs] at hA ⊢
  refine Calls.callWith_builtin (by show (false || (backTo cpos (starEach es X.env)).any (·.1)) = false; rw [hplain] <;> rfl) (Calls.evalArgs_plain ?_)
  exact thn hA fun us s2 ⟨vs, H2, I2, r2, q2⟩ => hm pins s2 σ H2 x vs v us Q I2 r1 r2 q2
end
end L2
namespace L2
open PySem PySem.Spec PyProof.Rows
def MtM (X : Cx) (id : String) (r : V → List V → Hp → VK → Prop) : Prop :=
  ∀ (pins : List (Addr × Obj)) (s : Shared) (σ : St) (H : Hp) (x : V) (xs : List V) (v : Value) (us : List Value) (Q : VK), Inv X pins σ H s → RelV x v → Vals xs us → r x xs H Q →
    wpAny (model X.prog X.w) X.A (call (.builtin id) (v :: us)) (EP X pins σ Q) X.xe s
theorem Vals.one : ∀ {x : V} {us : List Value}, Vals [x] us → ∃ u, us = [u] ∧ RelV x u
  | _, _, .cons r .nil => ⟨_, rfl, r⟩
theorem Vals.eraseIdx : ∀ {xs : List V} {us : List Value} (i : Nat), Vals xs us → Vals (xs.eraseIdx i) (us.eraseIdx i)
  | _, _, _, .nil => .nil
  | _, _, 0, .cons _ t => t
  | _, _, i + 1, .cons r t => .cons r (Vals.eraseIdx i t)
theorem Vals.rep {xs : List V} {us : List Value} (h : Vals xs us) : ∀ k : Nat, Vals (List.replicate k xs).flatten (List.replicate k us).flatten
  | 0 => .nil
  | k + 1 => by
    rw [List.replicate_succ, List.replicate_succ, List.flatten_cons, List.flatten_cons]
    exact Vals.append h (Vals.rep h k)
theorem len_erase {α : Type} : ∀ (l : List α) (i : Nat), (l.eraseIdx i).length ≤ l.length
  | [], _ => Nat.le_refl _
  | _ :: _, 0 => Nat.le_succ _
  | _ :: r, i + 1 => Nat.succ_le_succ (len_erase r i)
theorem foldl_rep (its : List Value) : ∀ (k : Nat) (acc : List Value),
    List.foldl (fun x1 x2 => x1 ++ x2) acc.toArray (List.replicate k its.toArray) = (acc ++ (List.replicate k its).flatten).toArray
  | 0, acc => by simp
  | k + 1, acc => by
    have e : acc.toArray ++ its.toArray = (acc ++ its).toArray := by simp
    have e2 : (acc ++ its) ++ (List.replicate k its).flatten = acc ++ (List.replicate (k + 1) its).flatten := by
      rw [List.replicate_succ, List.flatten_cons, List.append_assoc]
    rw [← e2, ← foldl_rep its k (acc ++ its), ← e, List.replicate_succ, List.foldl_cons]
section
variable {X : Cx} {pins : List (Addr × Obj)} {σ : St} {H : Hp} {s : Shared} {l b : Addr} {xs ys zs : List V}
theorem Inv.lset {its its' : List Value} {n : Nat} {f : Array Value → Array Value} {t' : Nat} (I : Inv X pins σ H s) (hH : H l = some (.lst xs))
    (e : s.heap.get? l = some { cls := .type "list", data := .seq its.toArray n }) (hf : f its.toArray = its'.toArray) (hv : Vals ys its') (hz : ys.length ≤ sizeLine) :
    Inv X pins σ (upd H l (.lst ys)) { s with heap := s.heap.update l (Obj.mapSeq f), toks := t' } := by
  have q := PySem.IsL.update e f
  rw [hf] at q
  refine I.write (x := l) (e := l) (by rw [hH]; exact trivial) (.inl rfl) (fun b' u hb hu => (Heap.get?_update_other s.heap (Obj.mapSeq f) (Ne.symm hb)).trans hu) ⟨_, q⟩ ?_
  exact ⟨hz, its', _, hv, q⟩
theorem Inv.lnew {its : List Value} {t' : Nat} (I : Inv X pins σ H s) (hv : Vals ys its) (hz : ys.length ≤ sizeLine) :
    Inv X pins σ (upd H s.heap.objs.size (.lst ys)) { s with heap := s.heap.push { cls := .type "list", data := .seq its.toArray }, toks := t' } :=
  I.laid (fun _ _ q => Heap.get?_push_of_some _ q) (Nat.le_refl _) ⟨hz, its, 0, hv, Heap.get?_push_size _ rfl⟩
theorem Inv.fresh (I : Inv X pins σ H s) : H s.heap.objs.size = none := I.hok.fresh (Nat.le_refl _)
theorem Inv.lstM (I : Inv X pins σ H s) (hH : H l = some (.lst xs)) : xs.length ≤ sizeLine ∧ ∃ (its : List Value) (n : Nat), Vals xs its ∧ xs.length = its.length ∧ s.heap.get? l = some { cls := .type "list", data := .seq its.toArray n } := by
  obtain ⟨z, its, n, r, e⟩ := I.hok l _ hH
  exact ⟨z, its, n, r, r.length, e⟩
theorem notLongL {n : Nat} (h : n ≤ sizeLine) : Builtin.List.listTooLong n = false := by
  unfold Builtin.List.listTooLong
  exact decide_eq_false (by omega)
end
section
variable {X : Cx}
def rAppend : V → List V → Hp → VK → Prop := fun x vs H Q => ∃ l xs y, x = .ref l ∧ vs = [y] ∧ H l = some (.lst xs) ∧ xs.length < sizeLine ∧ Q .non (upd H l (.lst (xs ++ [y])))
theorem mt_append : MtM X "list.append" rAppend := by
  intro pins s σ H x vs v us Q I rx rv h
  obtain ⟨l, xs, y, rfl, rfl, hH, hz, q⟩ := h
  cases rx
  obtain ⟨u, rfl, ru⟩ := rv.one
  obtain ⟨z, its, n, r, hl, e⟩ := I.lstM hH
  refine call_meets F.slot_list_append ⟨_, e, rfl⟩ F.entry_list_append (F.args_list_append_2 _ _) (PySem.list_append l its.toArray n u (by rw [List.size_toArray]; omega)) ⟨e, ?_⟩
  refine ⟨.non, _, I.lset (its' := its ++ [u]) hH e (by simp) (r.append (.cons ru .nil)) ?_, rfl, q⟩
  rw [List.length_append, List.length_singleton]
  omega
def rExtend : V → List V → Hp → VK → Prop := fun x vs H Q => ∃ l b xs zs, x = .ref l ∧ vs = [.ref b] ∧ H l = some (.lst xs) ∧ H b = some (.lst zs) ∧ xs.length + zs.length ≤ sizeLine ∧ Q .non (upd H l (.lst (xs ++ zs)))
theorem mt_extend : MtM X "list.extend" rExtend := by
  intro pins s σ H x vs v us Q I rx rv h
  obtain ⟨l, b, xs, zs, rfl, rfl, hH, hB, hz, q⟩ := h
  cases rx
  obtain ⟨u, rfl, ru⟩ := rv.one
  cases ru
  obtain ⟨z, its, n, r, hl, e⟩ := I.lstM hH
  obtain ⟨z2, its2, n2, r2, hl2, e2⟩ := I.lstM hB
  have hsz : its.toArray.size + its2.toArray.size ≤ sizeLine := by rw [List.size_toArray, List.size_toArray]; omega
  have hlong : ¬ (!its.toArray.isEmpty && Builtin.List.listTooLong (its.toArray.size + its2.toArray.size)) = true := by
    rw [notLongL hsz, Bool.and_false]
    exact Bool.false_ne_true
  refine call_meets F.slot_list_extend ⟨_, e, rfl⟩ F.entry_list_extend (F.args_list_extend_2 _ _)
    (AutoSeq1.list_extend_list_list_0 l its.toArray n b its2.toArray n2 hlong (by rw [List.size_toArray]; omega) (by omega)) ⟨e, e2, ?_⟩
  refine ⟨.non, _, I.lset (its' := its ++ its2) hH e (by simp) (r.append r2) ?_, rfl, q⟩
  rw [List.length_append]
  omega
def rPopAt : V → List V → Hp → VK → Prop := fun x vs H Q => ∃ l xs i k y, x = .ref l ∧ vs = [.int i] ∧ H l = some (.lst xs) ∧ -(2 ^ 63) ≤ i ∧ i < 2 ^ 63 ∧ seqIndex? i xs.length = some k ∧ xs[k]? = some y ∧ Q y (upd H l (.lst (xs.eraseIdx k)))
theorem mt_popAt : MtM X "list.pop" rPopAt := by
  intro pins s σ H x vs v us Q I rx rv h
  obtain ⟨l, xs, i, k, y, rfl, rfl, hH, h1, h2, hk, hy, q⟩ := h
  cases rx
  obtain ⟨u, rfl, ru⟩ := rv.one
  obtain ⟨t, rfl⟩ := ru
  obtain ⟨z, its, n, r, hl, e⟩ := I.lstM hH
  obtain ⟨w, hw, rw'⟩ := r.get hy
  refine call_meets F.slot_list_pop ⟨_, e, rfl⟩ F.entry_list_pop (F.args_list_pop_2 _ _)
    (MeetsSeq.list_pop_at l its.toArray n i t k w (fitsIndex_both h1 h2) (by rw [List.size_toArray, ← hl]; exact hk) (by rw [← Array.getElem?_toList]; exact hw) (by rw [List.size_toArray]; omega)) ⟨e, ?_⟩
  refine ⟨y, _, I.lset (its' := its.eraseIdx k) hH e ?_ (r.eraseIdx k) ?_, rw', q⟩
  · show its.toArray.eraseIdxIfInBounds k = (its.eraseIdx k).toArray
    rw [List.eraseIdxIfInBounds_toArray]
  · have := len_erase xs k
    omega
def rCat : R2 := fun x y H Q => ∃ l b xs zs, x = .ref l ∧ y = .ref b ∧ H l = some (.lst xs) ∧ H b = some (.lst zs) ∧ xs.length + zs.length ≤ sizeLine ∧ ∀ p, H p = none → Q (.ref p) (upd H p (.lst (xs ++ zs)))
theorem op_cat : OpR X (binaryOp .Add) rCat := by
  intro pins s σ H x y v u Q I rx ry h
  obtain ⟨l, b, xs, zs, rfl, rfl, hH, hB, hz, q⟩ := h
  cases rx
  cases ry
  obtain ⟨z, its, n, r, hl, e⟩ := I.lstM hH
  obtain ⟨z2, its2, n2, r2, hl2, e2⟩ := I.lstM hB
  refine PySem.P.add_list e e2 ?_ (by rw [List.size_toArray, List.size_toArray]; omega)
  have ea : its.toArray ++ its2.toArray = (its ++ its2).toArray := by simp
  rw [ea]
  exact ⟨.ref _, _, I.lnew (t' := s.toks) (r.append r2) (by rw [List.length_append]; omega), rfl, q _ I.fresh⟩
def rRep : R2 := fun x y H Q => ∃ l k xs, x = .ref l ∧ y = .int k ∧ H l = some (.lst xs) ∧ -(2 ^ 63) ≤ k ∧ k < 2 ^ 63 ∧ xs.length * k.toNat ≤ sizeLine ∧
  ∀ p, H p = none → Q (.ref p) (upd H p (.lst (List.replicate k.toNat xs).flatten))
theorem len_rep {α : Type} (xs : List α) (k : Nat) : (List.replicate k xs).flatten.length = k * xs.length := by
  induction k with
  | zero => simp
  | succ k ih => rw [List.replicate_succ, List.flatten_cons, List.length_append, ih, Nat.succ_mul, Nat.add_comm]
theorem op_rep : OpR X (binaryOp .Mult) rRep := by
  intro pins s σ H x y v u Q I rx ry h
  obtain ⟨l, k, xs, rfl, rfl, hH, h1, h2, hz, q⟩ := h
  cases rx
  obtain ⟨t, rfl⟩ := ry
  obtain ⟨z, its, n, r, hl, e⟩ := I.lstM hH
  have hlen : its.toArray.size * k.toNat ≤ sizeLine := by rw [List.size_toArray, ← hl]; exact hz
  have hcap : ¬ its.toArray.size * k.toNat > (2 ^ 63 - 1) / 8 := by
    have : (sizeLine : Nat) ≤ (2 ^ 63 - 1) / 8 := by decide
    omega
  have hfit : ¬ (!Builtin.List.listFitsIndex k) = true := by
    rw [fitsIndex_both h1 h2]
    exact Bool.false_ne_true
  have hlong : ¬ Builtin.List.listTooLong (its.toArray.size * k.toNat) = true := by
    rw [notLongL hlen]
    exact Bool.false_ne_true
  have hnew : List.foldl (fun x1 x2 => x1 ++ x2) #[] (List.replicate (if its.toArray.isEmpty = true then 0 else k.toNat) its.toArray) = (List.replicate k.toNat its).flatten.toArray := by
    have f0 : ∀ m : Nat, List.foldl (fun x1 x2 => x1 ++ x2) #[] (List.replicate m its.toArray) = (List.replicate m its).flatten.toArray := fun m => by
      have := foldl_rep its m []
      rw [List.nil_append] at this
      exact this
    rw [f0]
    cases its with
    | nil => simp
    | cons a r' => rw [if_neg (by simp)]
  refine wpAny_binaryOp_repeat_ref (T := "list") (U := "int") (by decide) ⟨_, e, rfl⟩ (fun s' => typeIs_int s' k t) noFill_list_mul F.fills_int_mul F.slot_int_rmul repeat_list F.slot_int_index.lookup
    (call_meets F.slot_int_rmul (typeIs_int s k t) F.entry_int_rmul (F.args_int_rmul_2 _ _) (int___rmul___int_list k t l its.toArray n)
      ⟨e, rfl, ⟨_, e, rfl⟩, call_meets F.slot_list_mul ⟨_, e, rfl⟩ F.entry_list_mul (F.args_list_mul_2 _ _) (AutoListH.list___mul___list_int_3 l its.toArray n k t hfit hcap hlong) ⟨e, ?_⟩⟩)
  rw [hnew]
  exact ⟨.ref _, _, I.lnew (t' := s.toks) (r.rep k.toNat) (by rw [len_rep, Nat.mul_comm]; exact hz), rfl, q _ I.fresh⟩
end
end L2
namespace L2
open PySem PySem.Spec PyProof.Rows
theorem vals_of_ints : ∀ {us : List Value} {ns : List Int}, IntsAre us ns → Vals (ns.map V.int) us
  | _, _, .nil => by rw [List.map_nil]; exact Paired.nil
  | _, _, .cons n t h => by rw [List.map_cons]; exact Paired.cons (show RelV (V.int n) (Value.int n t) from ⟨t, rfl⟩) (vals_of_ints h)
end L2
namespace L2
open PySem PySem.Spec PyProof.Rows
abbrev CellAt (h : Heap) (c : Addr) (v : Option Value) : Prop := h.IsCell c v
def relS (scope sc : Scope) : Scope :=
  { scope with names := scope.names.map fun (n, k) => if (k == .free && sc.kind == .function && sc.names.lookup n == some .cell) then (n, .cell) else (n, k) }
def cloFrom (cells : List (Str × Addr)) : List (Str × NameKind) → List (Str × Addr) → List (Str × Addr)
  | [], acc => acc
  | (n, k) :: r, acc => if k == .free then cloFrom cells r ((n, (cells.lookup n).getD 0) :: acc) else cloFrom cells r acc
theorem closure_loop (env : Env) (f : Str × NameKind → List (Str × Addr) → Sem (ForInStep (List (Str × Addr))))
    (hf : ∀ n k c, f (n, k) c = if k == .free then (do let a ← cellOf env n; pure (.yield ((n, a) :: c))) else pure (.yield c)) :
    ∀ (names : List (Str × NameKind)) (acc : List (Str × Addr)), (∀ y ∈ names, y.2 = .free → ∃ c, env.cells.lookup y.1 = some c) → forIn names acc f = pure (cloFrom env.cells names acc)
  | [], acc, _ => by rw [List.forIn_nil]; rfl
  | (n, k) :: r, acc, h => by
    rw [List.forIn_cons, hf]
    have ih := fun acc => closure_loop env f hf r acc fun y hy => h y (List.mem_cons_of_mem _ hy)
    unfold cloFrom
    by_cases hk : (k == NameKind.free) = true
    · rw [if_pos hk, if_pos hk]
      obtain ⟨c, hc⟩ := h (n, k) List.mem_cons_self (by simpa using hk)
      have e : cellOf env n = pure c := by unfold cellOf; rw [hc]
      rw [e]
      have e2 : (env.cells.lookup n).getD 0 = c := by rw [hc]; rfl
      rw [e2]
      exact ih _
    · rw [if_neg hk, if_neg hk]
      exact ih _
theorem closure_ok {scope : Scope} {env : Env} (h : ∀ y ∈ scope.names, y.2 = .free → ∃ c, env.cells.lookup y.1 = some c) : closureFor scope env = pure (cloFrom env.cells scope.names []) := by
  simp only [closureFor]
  rw [closure_loop env _ (fun n k c => rfl) scope.names [] h]
  rfl
theorem mem_lookup {α : Type} : ∀ {l : List (Str × α)} {n : Str} {c : α}, (n, c) ∈ l → ∃ c', l.lookup n = some c'
  | (k, v) :: r, n, c, h => by
    rw [List.lookup_cons]
    cases hb : n == k with
    | true => exact ⟨_, rfl⟩
    | false =>
      rcases List.mem_cons.mp h with e | h
      · cases e; simp at hb
      · exact mem_lookup h
theorem cloFrom_mem {cells : List (Str × Addr)} : ∀ {names : List (Str × NameKind)} {acc : List (Str × Addr)} {n : Str} {c : Addr}, (n, c) ∈ cloFrom cells names acc → (n, c) ∈ acc ∨ ((n, .free) ∈ names ∧ c = (cells.lookup n).getD 0)
  | [], _, _, _, h => .inl h
  | (m, k) :: r, acc, n, c, h => by
    unfold cloFrom at h
    split at h
    · rename_i hk
      have hk : k = .free := by simpa using hk
      rcases cloFrom_mem h with h | ⟨h1, h2⟩
      · rcases List.mem_cons.mp h with e | h
        · cases e; exact .inr ⟨hk ▸ List.mem_cons_self, rfl⟩
        · exact .inl h
      · exact .inr ⟨List.mem_cons_of_mem _ h1, h2⟩
    · rcases cloFrom_mem h with h | ⟨h1, h2⟩
      · exact .inl h
      · exact .inr ⟨List.mem_cons_of_mem _ h1, h2⟩
theorem cloFrom_acc {cells : List (Str × Addr)} : ∀ {names : List (Str × NameKind)} {acc : List (Str × Addr)} {p : Str × Addr}, p ∈ acc → p ∈ cloFrom cells names acc
  | [], _, _, h => h
  | (m, k) :: r, acc, p, h => by
    unfold cloFrom
    split
    · exact cloFrom_acc (List.mem_cons_of_mem _ h)
    · exact cloFrom_acc h
theorem cloFrom_has {cells : List (Str × Addr)} : ∀ {names : List (Str × NameKind)} {acc : List (Str × Addr)} {n : Str}, (n, .free) ∈ names → (n, (cells.lookup n).getD 0) ∈ cloFrom cells names acc
  | (m, k) :: r, acc, n, h => by
    unfold cloFrom
    rcases List.mem_cons.mp h with e | h
    · cases e
      exact cloFrom_acc List.mem_cons_self
    · split
      · exact cloFrom_has h
      · exact cloFrom_has h
theorem cells_mem : ∀ {names : List (Str × NameKind)} {h : Heap} {acc : List (Str × Addr)} {x : Str} {c : Addr}, (x, c) ∈ cellsFrom h.objs.size names acc →
    (x, c) ∈ acc ∨ ((x, .cell) ∈ names ∧ h.objs.size ≤ c ∧ CellAt (pushCells h names) c none)
  | [], _, _, _, _, h => .inl h
  | (n, k) :: r, h, acc, x, c, hm => by
    unfold cellsFrom at hm
    unfold pushCells
    split at hm
    · rename_i hk
      rw [if_pos hk]
      have hk : k = .cell := by simpa using hk
      rw [← Heap.size_push h { cls := .type "cell", data := .cell none }] at hm
      rcases cells_mem hm with hm | ⟨h1, h2, h3⟩
      · rcases List.mem_cons.mp hm with e | hm
        · cases e
          exact .inr ⟨hk ▸ List.mem_cons_self, Nat.le_refl _, _, pushCells_keeps r _ _ _ (Heap.get?_push_size _ rfl), rfl⟩
        · exact .inl hm
      · rw [Heap.size_push] at h2
        exact .inr ⟨List.mem_cons_of_mem _ h1, Nat.le_of_succ_le h2, h3⟩
    · rename_i hk
      rw [if_neg hk]
      rcases cells_mem hm with hm | ⟨h1, h2, h3⟩
      · exact .inl hm
      · exact .inr ⟨List.mem_cons_of_mem _ h1, h2, h3⟩
theorem cells_acc : ∀ {names : List (Str × NameKind)} {n : Nat} {acc : List (Str × Addr)} {p : Str × Addr}, p ∈ acc → p ∈ cellsFrom n names acc
  | [], _, _, _, h => h
  | (m, k) :: r, n, acc, p, h => by
    unfold cellsFrom
    split
    · exact cells_acc (List.mem_cons_of_mem _ h)
    · exact cells_acc h
theorem cells_has : ∀ {names : List (Str × NameKind)} {n : Nat} {acc : List (Str × Addr)} {x : Str}, (x, .cell) ∈ names → ∃ c, (x, c) ∈ cellsFrom n names acc
  | (m, k) :: r, n, acc, x, h => by
    unfold cellsFrom
    rcases List.mem_cons.mp h with e | h
    · cases e
      exact ⟨n, cells_acc List.mem_cons_self⟩
    · split
      · exact cells_has h
      · exact cells_has h
theorem cells_inj : ∀ {names : List (Str × NameKind)} {h : Heap} {acc : List (Str × Addr)} {x y : Str} {c : Addr}, (∀ p ∈ acc, p.2 < h.objs.size) → (∀ x y c, (x, c) ∈ acc → (y, c) ∈ acc → x = y) →
    (x, c) ∈ cellsFrom h.objs.size names acc → (y, c) ∈ cellsFrom h.objs.size names acc → x = y
  | [], _, _, _, _, _, _, hi, h1, h2 => hi _ _ _ h1 h2
  | (n, k) :: r, h, acc, x, y, c, hl, hi, h1, h2 => by
    unfold cellsFrom at h1 h2
    split at h1
    · rename_i hk
      rw [if_pos hk] at h2
      rw [← Heap.size_push h { cls := .type "cell", data := .cell none }] at h1 h2
      refine cells_inj (h := h.push _) (fun p hp => ?_) (fun x y c a b => ?_) h1 h2
      · rw [Heap.size_push]
        rcases List.mem_cons.mp hp with rfl | hp
        · exact Nat.lt_succ_self _
        · exact Nat.lt_succ_of_lt (hl p hp)
      · rcases List.mem_cons.mp a with e | a <;> rcases List.mem_cons.mp b with e' | b
        · cases e; cases e'; rfl
        · cases e; exact absurd (hl _ b) (Nat.lt_irrefl _)
        · cases e'; exact absurd (hl _ a) (Nat.lt_irrefl _)
        · exact hi _ _ _ a b
    · rename_i hk
      rw [if_neg hk] at h2
      exact cells_inj hl hi h1 h2
theorem newEnv_comp {M : Model} {A : Around} {E : Value → Shared → Prop} {s : Shared} {scope : Scope} {globals : Addr} {closure : List (Str × Addr)} {qual : Str} {func : Option Addr} {code : Value} {around : Env} {builtins : Addr} {Q : Env → Shared → Prop}
    (h : Q (newEnv scope s.heap.objs.size globals (cellsFrom (s.heap.objs.size + 1) scope.names closure) qual func code (some around) builtins)
      { s with heap := pushCells (s.heap.push { cls := .type "dict", data := .dict #[] }) scope.names }) :
    wpAny M A (newFunctionEnv scope globals closure [] qual func code (some around) builtins) Q E s := by
  simp only [newFunctionEnv, Option.isSome_some, if_true]
  refine wpAny_bind (wpAny_alloc ?_)
  refine wpAny_bind (wpAny_layCells _ (fun n k c => rfl) scope.names closure _ _ ?_)
  rw [show ({ s with heap := s.heap.push { cls := .type "dict", data := .dict #[] } } : Shared).heap.objs.size = s.heap.objs.size + 1 from Heap.size_push ..]
  rw [List.forIn_nil]
  exact wpAny_bind (wpAny_pure (wpAny_pure h))
theorem lookup_relS {sc : Scope} : ∀ {names : List (Str × NameKind)} {x : Str} {k : NameKind},
    (names.map fun (n, k) => if (k == NameKind.free && sc.kind == .function && sc.names.lookup n == some .cell) then (n, NameKind.cell) else (n, k)).lookup x = some k →
    ∃ k', names.lookup x = some k' ∧ (k = k' ∨ (k' = .free ∧ k = .cell))
  | [], _, _, h => by simp at h
  | (n, k₀) :: r, x, k, h => by
    have ih := @lookup_relS sc r x k
    have h' : List.lookup x ((if (k₀ == NameKind.free && sc.kind == .function && sc.names.lookup n == some .cell) = true then (n, NameKind.cell) else (n, k₀)) :: (r.map _)) = some k := h
    cases hx : x == n with
    | true =>
      simp only [List.lookup_cons, hx]
      by_cases hc : (k₀ == NameKind.free && sc.kind == .function && sc.names.lookup n == some .cell) = true
      · rw [if_pos hc] at h'
        simp only [List.lookup_cons, hx] at h'
        cases h'
        simp only [Bool.and_eq_true, beq_iff_eq] at hc
        exact ⟨k₀, rfl, .inr ⟨hc.1.1, rfl⟩⟩
      · rw [if_neg hc] at h'
        simp only [List.lookup_cons, hx] at h'
        cases h'
        exact ⟨_, rfl, .inl rfl⟩
    | false =>
      simp only [List.lookup_cons, hx]
      by_cases hc : (k₀ == NameKind.free && sc.kind == .function && sc.names.lookup n == some .cell) = true
      · rw [if_pos hc] at h'
        simp only [List.lookup_cons, hx] at h'
        exact ih h'
      · rw [if_neg hc] at h'
        simp only [List.lookup_cons, hx] at h'
        exact ih h'
structure BlkOk (N : List Str) (sc scope : Scope) (own : List (Str × Nat)) : Prop where
  kind : scope.kind = .function
  uniq : ∀ y ∈ scope.names, scope.names.lookup y.1 = some y.2
  ix : ∀ p ∈ own, N[p.2]? = some p.1
  free : ∀ y ∈ scope.names, y.2 = .free → sc.names.lookup y.1 = some .cell ∨ sc.names.lookup y.1 = some .free
  own : ∀ y ∈ scope.names, y.2 = .local ∨ y.2 = .cell → y.1 ∈ own.map (·.1) ∨ y.1 ∉ N
def wipe (σ : St) : List Nat → St
  | [] => σ
  | v :: vs => (wipe σ vs).set v none
theorem wipe_length (σ : St) : ∀ vs : List Nat, (wipe σ vs).length = σ.length
  | [] => rfl
  | v :: vs => by unfold wipe; rw [List.length_set, wipe_length σ vs]
theorem wipe_some {σ : St} {i : Nat} {x : V} : ∀ {vs : List Nat}, (wipe σ vs)[i]? = some (some x) → σ[i]? = some (some x) ∧ i ∉ vs
  | [], h => ⟨h, by simp⟩
  | v :: vs, h => by
    unfold wipe at h
    by_cases hi : v = i
    · subst hi
      by_cases hv : v < (wipe σ vs).length
      · rw [List.getElem?_set_self hv] at h; cases h
      · rw [List.getElem?_eq_none (by simpa using hv)] at h; cases h
    · rw [List.getElem?_set_ne hi] at h
      obtain ⟨h1, h2⟩ := wipe_some h
      exact ⟨h1, by simp only [List.mem_cons, not_or]; exact ⟨fun e => hi e.symm, h2⟩⟩
abbrev Cx.blk (X : Cx) (s : Shared) (H : Hp) (scope : Scope) (cenv : Env) (fp : List Addr) : Cx := { X with s_0 := s, H_0 := H, env := cenv, outer := X.stack, ex := fp, fn := fun x => scope.names.lookup x == some .cell, pn := [], xe := fun _ _ => False }
section
variable {X : Cx} {pins : List (Addr × Obj)} {σ : St} {H : Hp} {s : Shared}
theorem block_start {scope : Scope} {own : List (Str × Nat)} {fp : List Addr} (I : Inv X pins σ H s) (ok : BlkOk X.N X.env.scope scope own) (hN : X.N.Nodup) (hfp : ∀ b ∈ fp, FpOk X pins H b ∧ b < s.heap.objs.size) :
    Inv (X.blk s H scope (compEnvC scope (cellsFrom (s.heap.objs.size + 1) scope.names (cloFrom X.env.cells scope.names [])) s.heap.objs.size X.env) fp) [] (wipe σ (own.map (·.2))) H { s with heap := pushCells (s.heap.push { cls := .type "dict", data := .dict #[] }) scope.names } := by
  have hfree : ∀ y ∈ scope.names, y.2 = .free → ∃ c, X.env.cells.lookup y.1 = some c := fun y hy e => by
    rcases ok.free y hy e with k | k
    · exact I.ok.has _ (.inl k)
    · exact I.ok.has _ (.inr k)
  generalize hcenv : compEnvC scope (cellsFrom (s.heap.objs.size + 1) scope.names (cloFrom X.env.cells scope.names [])) s.heap.objs.size X.env = cenv
  have kp : ∀ b o, s.heap.get? b = some o → (pushCells (s.heap.push { cls := .type "dict", data := .dict #[] }) scope.names).get? b = some o := fun b o e => pushCells_keeps _ _ _ _ (Heap.get?_push_of_some _ e)
  have hL : cenv.locals = s.heap.objs.size := by rw [← hcenv]; rfl
  have hcl : cenv.cells = cellsFrom (s.heap.objs.size + 1) scope.names (cloFrom X.env.cells scope.names []) := by rw [← hcenv]; rfl
  have hsc : cenv.scope = relS scope X.env.scope := by rw [← hcenv]; rfl
  rw [← Heap.size_push s.heap { cls := .type "dict", data := .dict #[] }] at hcl
  have cm : ∀ {y c}, (y, c) ∈ cloFrom X.env.cells scope.names [] → X.env.cells.lookup y = some c ∧ c < s.heap.objs.size := fun {y c} hm => by
    rcases cloFrom_mem hm with hm | ⟨h1, rfl⟩
    · cases hm
    · obtain ⟨c, hc⟩ := hfree _ h1 rfl
      rw [hc]
      obtain ⟨w, z⟩ := I.cell _ _ hc
      exact ⟨rfl, z.lt⟩
  have mem : ∀ {y c}, cenv.cells.lookup y = some c → (X.env.cells.lookup y = some c ∧ c < s.heap.objs.size) ∨ (s.heap.objs.size + 1 ≤ c ∧ CellAt (pushCells (s.heap.push { cls := .type "dict", data := .dict #[] }) scope.names) c none) := fun {y c} e => by
    rw [hcl] at e
    rcases cells_mem (PySem.mem_of_lookup e) with hm | ⟨_, h2, h3⟩
    · exact .inl (cm hm)
    · rw [Heap.size_push] at h2; exact .inr ⟨h2, h3⟩
  have look : ∀ {y}, scope.names.lookup y = some .free → ∃ c, cenv.cells.lookup y = some c ∧ X.env.cells.lookup y = some c := fun {y} hl => by
    have hy : (y, NameKind.free) ∈ scope.names := PySem.mem_of_lookup hl
    obtain ⟨c', e'⟩ := mem_lookup (cells_acc (names := scope.names) (n := (s.heap.push { cls := .type "dict", data := .dict #[] }).objs.size) (cloFrom_has (cells := X.env.cells) (acc := []) hy))
    rw [← hcl] at e'
    refine ⟨c', e', ?_⟩
    rw [hcl] at e'
    rcases cells_mem (PySem.mem_of_lookup e') with hm | ⟨h1, _, _⟩
    · exact (cm hm).1
    · have := ok.uniq _ h1
      rw [hl] at this; cases this
  have okB : (X.blk s H scope cenv fp).Ok := by
    refine ⟨I.ok.mod, by show cenv.scope.kind = _; rw [hsc]; exact ok.kind, by show cenv.globals = _; rw [← hcenv]; exact I.ok.glob, by show cenv.builtins = _; rw [← hcenv]; exact I.ok.blt, by show s.heap.objs.size ≤ cenv.locals; rw [hL]; exact Nat.le_refl _,
      fun y z c e1 e2 => ?_, fun y hy => ?_, fun y c z e => ?_, I.ok.hd, I.ok.frames, .inl rfl, fun b hb => ⟨?_, fun y c e z => ?_⟩, I.bs, Nat.le_trans I.ok.bsz I.sz, fun b o e hb => ?_, fun b hb z => ?_, I.stack, I.stkFree⟩
    · have e1 : cenv.cells.lookup y = some c := e1
      have e2 : cenv.cells.lookup z = some c := e2
      rw [hcl] at e1 e2
      refine cells_inj (fun p hp => ?_) (fun y z c a b => I.ok.inj y z c (cm a).1 (cm b).1) (PySem.mem_of_lookup e1) (PySem.mem_of_lookup e2)
      rw [Heap.size_push]
      exact Nat.lt_succ_of_lt (cm (y := p.1) (c := p.2) hp).2
    · show ∃ c, cenv.cells.lookup y = some c
      have key : ∀ k, cenv.kindOf y = some k → (k = .cell ∨ k = .free) → ∃ c, cenv.cells.lookup y = some c := fun k hk hk' => by
        unfold Env.kindOf at hk
        rw [hsc] at hk
        obtain ⟨k', e, r⟩ := lookup_relS hk
        have : k' = .cell ∨ k' = .free := by
          rcases r with rfl | ⟨rfl, _⟩
          · exact hk'
          · exact .inr rfl
        rcases this with rfl | rfl
        · obtain ⟨c, hm⟩ := cells_has (n := (s.heap.push { cls := .type "dict", data := .dict #[] }).objs.size) (acc := cloFrom X.env.cells scope.names []) (PySem.mem_of_lookup e)
          obtain ⟨c', e'⟩ := mem_lookup hm
          exact ⟨c', by rw [hcl]; exact e'⟩
        · obtain ⟨c, h1, _⟩ := look e
          exact ⟨c, h1⟩
      rcases hy with hy | hy
      · exact key _ hy (.inl rfl)
      · exact key _ hy (.inr rfl)
    · have z : (scope.names.lookup y == some NameKind.cell) = true := z
      have z : scope.names.lookup y = some .cell := by simpa using z
      have e : cenv.cells.lookup y = some c := e
      rw [hcl] at e
      rcases cells_mem (PySem.mem_of_lookup e) with hm | ⟨_, h2, _⟩
      · rcases cloFrom_mem hm with hm | ⟨h1, _⟩
        · cases hm
        · have q := ok.uniq _ h1
          rw [z] at q; cases q
      · rw [Heap.size_push] at h2
        exact Nat.le_of_succ_le h2
    · show b ≠ cenv.locals
      rw [hL]; exact Nat.ne_of_lt (hfp b hb).2
    · have e : cenv.cells.lookup y = some c := e
      rcases mem e with ⟨h1, _⟩ | ⟨h1, _⟩
      · exact (hfp b hb).1.2.2.2.2.1 y c h1 z
      · have h2 : s.heap.objs.size + 1 ≤ b := by rw [← z]; exact h1
        exact absurd (Nat.lt_of_lt_of_le (hfp b hb).2 (Nat.le_of_succ_le h2)) (Nat.lt_irrefl _)
    · rcases (hfp b hb).1.2.2.2.1 with z | z
      · exact I.ok.noex b o e z
      · exact absurd (Nat.lt_of_lt_of_le (Heap.lt_size e) (Nat.le_trans I.ok.bsz z)) (Nat.lt_irrefl _)
    · rcases List.mem_cons.mp (I.stkSub b z) with z | z
      · exact (hfp b hb).1.2.1 z
      · exact (hfp b hb).1.2.2.1 z
  refine ⟨okB, rfl, I.bare, Un.kept kp, ⟨fun _ => none, ?_, fun i y av e1 e2 e3 => ?_⟩, fun y c e => ?_, ?_, fun y c e => ?_, fun p hp => ?_, I.hok.kept kp, by rw [wipe_length]; exact I.len⟩
  · show Heap.Ns _ cenv.locals _
    rw [hL]
    exact Heap.Ns.keeps (Heap.Ns.new ..) fun b o e => pushCells_keeps _ _ _ _ e
  · obtain ⟨e2, hne⟩ := wipe_some e2
    have hfr : scope.names.lookup y = some .free ∧ (cenv.kindOf y = some .cell ∨ cenv.kindOf y = some .free) := by
      have key : ∀ k, cenv.scope.names.lookup y = some k → k = .local ∨ k = .cell ∨ k = .free → scope.names.lookup y = some .free ∧ (cenv.kindOf y = some .cell ∨ cenv.kindOf y = some .free) := fun k hk hk' => by
        have hk0 := hk
        rw [hsc] at hk
        obtain ⟨k', e, r⟩ := lookup_relS hk
        have no : ¬ (k' = .local ∨ k' = .cell) := fun hh => by
          rcases ok.own _ (PySem.mem_of_lookup e) hh with e' | e'
          · obtain ⟨p, hp, hpy⟩ := List.mem_map.mp e'
            have e3 := ok.ix p hp
            have : p.1 = y := hpy
            rw [this] at e3
            exact hne (List.mem_map.mpr ⟨p, hp, nodup_ix hN e3 e1⟩)
          · exact e' (List.mem_of_getElem? e1)
        rcases r with rfl | ⟨rfl, rfl⟩
        · rcases hk' with rfl | rfl | rfl
          · exact absurd (.inl rfl) no
          · exact absurd (.inr rfl) no
          · exact ⟨e, .inr hk0⟩
        · exact ⟨e, .inl hk0⟩
      have e3 : Vis cenv.scope y := e3
      rcases e3 with e3 | e3 | e3
      · exact key _ e3 (.inl rfl)
      · exact key _ e3 (.inr (.inl rfl))
      · exact key _ e3 (.inr (.inr rfl))
    obtain ⟨m, hn, hl⟩ := I.loc
    have hvis : Vis X.env.scope y := (ok.free _ (PySem.mem_of_lookup hfr.1) rfl).elim (fun k => .inr (.inl k)) (fun k => .inr (.inr k))
    obtain ⟨w, r, q⟩ := hl i y av e1 e2 hvis
    refine ⟨w, r, .inr ⟨hfr.2, ?_⟩⟩
    obtain ⟨c, h1, h2⟩ := look hfr.1
    rcases q with ⟨k, _⟩ | ⟨_, c', e', z⟩
    · have k : X.env.scope.names.lookup y = some .local := k
      rcases ok.free _ (PySem.mem_of_lookup hfr.1) rfl with k' | k' <;> rw [show X.env.scope.names.lookup y = _ from k'] at k <;> cases k
    · rw [h2] at e'; cases e'
      exact ⟨c, h1, z.keeps kp⟩
  · have e : cenv.cells.lookup y = some c := e
    rcases mem e with ⟨h1, _⟩ | ⟨_, z⟩
    · obtain ⟨w, z⟩ := I.cell y c h1
      exact ⟨w, z.keeps kp⟩
    · exact ⟨_, z⟩
  · show H cenv.locals = none
    rw [hL]; exact I.hok.fresh (Nat.le_refl _)
  · have e : cenv.cells.lookup y = some c := e
    rcases mem e with ⟨h1, _⟩ | ⟨h1, _⟩
    · exact I.freeC y c h1
    · exact I.hok.fresh (Nat.le_of_succ_le h1)
  · exact absurd (show p ∈ ([] : List (Addr × Obj)) ++ [] from hp) (by simp)
theorem app_ok {E : Value → Shared → Prop} {D : Addr} {xs : List V} {y : V} {v : Value} {Q : Value → Shared → Prop} (I : Inv X pins σ H s) (hD : H D = some (.lst xs)) (hz : xs.length < sizeLine) (r : RelV y v)
    (h : ∀ s', Inv X pins σ (upd H D (.lst (xs ++ [y]))) s' → Q .none s') : wpAny (model X.prog X.w) X.A (call (.builtin "list.append") [.ref D, v]) Q E s := by
  obtain ⟨hz', its, n, ri, e⟩ := I.hok D _ hD
  have hl := ri.length
  refine append_at (hsz := by rw [List.size_toArray]; omega) e fun h' sb ho' => ?_
  refine h { s with heap := h' } (I.write (t' := s.toks) (by rw [hD]; trivial) (.inl rfl) (fun b u hb q => (sb.2 b hb).trans q) ⟨_, ho'⟩ ⟨by rw [List.length_append]; exact hz, its ++ [v], n + 1, ri.append (.cons r .nil), ?_⟩)
  rw [ho']
  simp
def PTs (X : Cx) (ifs : List Expr) (t : TT) : Prop :=
  ∀ (pins : List (Addr × Obj)) (s : Shared) (σ : St) (H : Hp) (Q : Bool → Hp → Prop), Inv X pins σ H s → t σ H Q →
    wpAny (model X.prog X.w) X.A (forIn ifs true fun c r => if r = true then do let ok ← isTrue c X.env (eval c X.env); pure (ForInStep.yield ok) else pure (ForInStep.yield r)) (TP X pins σ Q) X.xe s
def tYes : TT := fun _ H Q => Q true H
theorem pts_nil : PTs X [] tYes := fun _ _ _ H _ I h => wpAny_tests_nil ⟨H, I, h⟩
end
theorem thnF {α : Type} {t : Sem α} {Q Q' : α → Shared → Prop} {M : Model} {A : Around} {E : Value → Shared → Prop} {s : Shared} (h : wpAny M A t Q (fun _ _ => False) s) (hQ : ∀ a s, Q a s → Q' a s) : wpAny M A t Q' E s := wpAny_mono h hQ fun _ _ z => False.elim z
theorem compLoop_any {prog : Program} {w : World} {A : Around} {R : Result → Shared → Prop} {s : Shared} {elt target iter : Expr} {ifs : List Expr} {scope : Scope} {pos : Pos} {it acc : Value} {env : Env} (I : Nat → Shared → Prop)
    (turn : ∀ n s, I n s → wpAny (model prog w) A (pyNext it) (fun r s₁ => match r with
      | none => R (.ok .next) s₁
      | some v => wpAny (model prog w) A (letOwnedTupleGo target it v) (fun _ s₁' => wpAny (model prog w) A (assign target env v) (fun _ s₂ =>
          wpAny (model prog w) A (forIn ifs true fun c r => if r = true then do let ok ← isTrue c env (eval c env); pure (ForInStep.yield ok) else pure (ForInStep.yield r)) (fun ok s₃ =>
            if ok = true then wpAny (model prog w) A (eval elt env) (fun x s₄ =>
              wpAny (model prog w) A (call (.builtin "list.append") [acc, x]) (fun _ s₅ => ∃ m, m < n ∧ I m s₅) (notedBy (model prog w) A env fun e s' => R (.error e) s') s₄) (notedBy (model prog w) A env fun e s' => R (.error e) s') s₃
            else ∃ m, m < n ∧ I m s₃) (notedBy (model prog w) A env fun e s' => R (.error e) s') s₂) (notedBy (model prog w) A env fun e s' => R (.error e) s') s₁') (notedBy (model prog w) A env fun e s' => R (.error e) s') s₁) (notedBy (model prog w) A env fun e s' => R (.error e) s') s)
    (n : Nat) (h : I n s) :
    codeAny (model prog w) A (.compLoop (.ListComp elt [⟨target, iter, ifs, 0⟩] scope pos) 0 it acc env) R s := by
  refine codeAny_loop rfl I (fun n s hI => ?_) n h
  show wpAny _ A ((compTurn (.ListComp elt [⟨target, iter, ifs, 0⟩] scope pos) 0 it acc env).onRaise (fun x => do noteFrame x env; theTreesLotGoes x)) _ _ s
  refine wpAny_noted ?_
  rw [compTurn_list]
  refine wpAny_bind (wpAny_standAt (wpAny_bind (wpAny_mono (turn n s hI) (fun r s₁ h₁ => ?_) fun _ _ h' => h')))
  cases r with
  | none => exact wpAny_pure h₁
  | some v =>
    refine wpAny_bind (wpAny_mono h₁ (fun _ s₁' h₁' => ?_) fun _ _ h' => h')
    refine wpAny_bind (wpAny_mono h₁' (fun _ s₂ h₂ => wpAny_bind (wpAny_mono h₂ (fun ok s₃ h₃ => ?_) fun _ _ h' => h')) fun _ _ h' => h')
    cases ok with
    | false => exact wpAny_pure ⟨rfl, h₃⟩
    | true =>
      exact wpAny_bind (wpAny_bind (wpAny_mono h₃ (fun x s₄ h₄ => wpAny_bind (wpAny_mono h₄ (fun _ s₅ h₅ => wpAny_pure (wpAny_pure ⟨rfl, h₅⟩)) fun _ _ h' => h')) fun _ _ h' => h'))
section
variable {X : Cx}
def tLc (wi : TI) (g : TG) (tt : TT) (te : TE) (vs : List Nat) : TE := fun σ H Q => wi σ H fun J H1 => ∀ D, H1 D = none → ∃ W : Nat → Nat → Hp → Prop, (∃ m, W 0 m (upd H1 D (.lst []))) ∧ ∀ i m H, W i m H →
  (J.stop i H ∧ Q (.ref D) H) ∨ (J.go i H ∧ ∃ Nx : Hp → Prop, (∀ H', Nx H' → ∃ m', m' < m ∧ W (i + 1) m' H') ∧ ∀ x H', J.yld i H x H' → g x (wipe σ vs) H' fun σ2 H2 => wipe σ2 vs = wipe σ vs ∧ tt σ2 H2 fun b H3 =>
    if b = true then te σ2 H3 fun y H4 => ∃ acc, H4 D = some (.lst acc) ∧ acc.length < sizeLine ∧ Nx (upd H4 D (.lst (acc ++ [y]))) else Nx H3)
theorem lc_core {pins : List (Addr × Obj)} {s : Shared} {σ : St} {H : Hp} {Q : VK} {elt tg iter : Expr} {ifs : List Expr} {scope : Scope} {own : List (Str × Nat)} {pos pos' : Pos} {wi : TI} {g : TG} {tt : TT} {te : TE} {use : Option (Value → Sem Unit)} {Qf : Value → Shared → Prop}
    (hc : X.calm = true) (hN : X.N.Nodup) (I : Inv X pins σ H s) (hi : PI X tg iter wi) (ok : BlkOk X.N X.env.scope scope own)
    (hg : ∀ (s : Shared) (H : Hp) (C : Addr) (cl : List (Str × Addr)) (fp : List Addr), PG (X.blk s H scope (compEnvC scope cl C X.env) fp) tg g) (ht : ∀ (s : Shared) (H : Hp) (C : Addr) (cl : List (Str × Addr)) (fp : List Addr), PTs (X.blk s H scope (compEnvC scope cl C X.env) fp) ifs tt)
    (he : ∀ (s : Shared) (H : Hp) (C : Addr) (cl : List (Str × Addr)) (fp : List Addr), PE (X.blk s H scope (compEnvC scope cl C X.env) fp) elt te) (hs : ∀ x, foldedSetIterable iter X.env x = pure x)
    (h : tLc wi g tt te (own.map (·.2)) σ H Q)
    (hRR : ∀ D C s' m H', Inv X pins σ H' s' → Q (.ref D) H' → s'.heap.Ns C m → FpOk X pins H' C → compPost (model X.prog X.w) X.A X.xe use Qf (.ref D) C (.ok .next) s') :
    wpAny (model X.prog X.w) X.A (comprehension (.ListComp elt [⟨tg, iter, ifs, 0⟩] scope pos) scope X.env pos' (newList []) false (eval iter X.env) use) Qf X.xe s := by
  have hfree : ∀ y ∈ scope.names, y.2 = .free → ∃ c, X.env.cells.lookup y.1 = some c := fun y hy e => by
    rcases ok.free y hy e with k | k
    · exact I.ok.has _ (.inl k)
    · exact I.ok.has _ (.inr k)
  refine wpAny_comprehension_free (use := use) rfl hs (closure_ok hfree) ok.kind (fun y hy e => by rw [ok.uniq y hy, e])
    (thn (hi pins s σ H _ I h) fun xv s1 hx => thn hx fun itv s2 h2 => ?_)
  obtain ⟨it, fp, tn, J, H2, e, I2, T, st2, f2, q⟩ := h2
  subst e
  refine wpAny_newObj_type (newEnv_comp ?_) (by show 0 ≤ sizeLine; decide)
  generalize hD : s2.heap.objs.size = D
  have hDn : H2 D = none := I2.hok.fresh (Nat.le_of_eq hD)
  obtain ⟨W, ⟨m0, w0⟩, turn⟩ := q D hDn
  -- the new list
  generalize hs3 : ({ s2 with heap := s2.heap.push { cls := .type "list", data := .seq ([] : List Value).toArray } } : Shared) = s3
  have I3 : Inv X pins σ (upd H2 D (.lst [])) s3 := by
    rw [← hs3]
    refine I2.laid (t' := s2.toks) (fun b o e => Heap.get?_push_of_some _ e) (Nat.le_of_eq hD) ⟨Nat.zero_le _, [], 0, .nil, ?_⟩
    rw [← hD]
    exact Heap.get?_push_size _ rfl
  have h3 : s3.heap = s2.heap.push { cls := .type "list", data := .seq ([] : List Value).toArray } := by rw [← hs3]
  have sz : ∀ b ∈ fp, b < s2.heap.objs.size := fun b hb => by
    obtain ⟨o, e, _⟩ := T.obj _ _ st2 b hb
    exact Heap.lt_size e
  have f3 : ∀ b ∈ fp, FpOk X pins (upd H2 D (.lst [])) b ∧ b < s3.heap.objs.size := fun b hb => by
    have hlt := sz b hb
    refine ⟨⟨?_, (f2 b hb).2⟩, by rw [h3, Heap.size_push]; exact Nat.lt_succ_of_lt hlt⟩
    rw [upd_ne (by rw [← hD]; exact Nat.ne_of_lt hlt)]
    exact (f2 b hb).1
  have st3 : tn 0 s3.heap := T.keep _ _ _ st2 fun b _ o e => by rw [h3]; exact Heap.get?_push_of_some _ e
  have I4 := block_start I3 ok hN f3
  have pg := hg s3 (upd H2 D (.lst [])) s3.heap.objs.size (cellsFrom (s3.heap.objs.size + 1) scope.names (cloFrom X.env.cells scope.names [])) fp
  have pt := ht s3 (upd H2 D (.lst [])) s3.heap.objs.size (cellsFrom (s3.heap.objs.size + 1) scope.names (cloFrom X.env.cells scope.names [])) fp
  have pe := he s3 (upd H2 D (.lst [])) s3.heap.objs.size (cellsFrom (s3.heap.objs.size + 1) scope.names (cloFrom X.env.cells scope.names [])) fp
  show codeAny _ _ (.compStart (.ListComp elt [⟨tg, iter, ifs, 0⟩] scope pos) 0 (.ref it) (.ref D) (compEnvC scope (cellsFrom (s3.heap.objs.size + 1) scope.names (cloFrom X.env.cells scope.names [])) s3.heap.objs.size X.env)) (compPost (model X.prog X.w) X.A X.xe use Qf (.ref D) s3.heap.objs.size) { s3 with heap := pushCells (s3.heap.push { cls := .type "dict", data := .dict #[] }) scope.names }
  have nfp : ∀ b ∈ fp, (upd H2 D (.lst [])) b = none := fun b hb => (f3 b hb).1.1
  generalize hce : compEnvC scope (cellsFrom (s3.heap.objs.size + 1) scope.names (cloFrom X.env.cells scope.names [])) s3.heap.objs.size X.env = ce at I4 pg pt pe ⊢
  have cL : ce.locals = s3.heap.objs.size := by subst hce; rfl
  generalize hH3 : upd H2 D (.lst []) = H3 at I3 I4 pg pt pe w0 nfp f3
  generalize hs4 : ({ s3 with heap := pushCells (s3.heap.push { cls := .type "dict", data := .dict #[] }) scope.names } : Shared) = s4 at I4 ⊢
  have st4 : tn 0 s4.heap := T.keep _ _ _ st3 fun b _ o e => by rw [← hs4]; exact pushCells_keeps _ _ _ _ (Heap.get?_push_of_some _ e)
  have stat : ∀ {σ' : St} {H' : Hp} {s' : Shared}, Inv (X.blk s3 H3 scope ce fp) [] σ' H' s' → (∀ b ∈ fp, H' b = none) → ∀ b ∈ fp, FpOk (X.blk s3 H3 scope ce fp) [] H' b := fun {σ' H' s'} I' hn b hb =>
    ⟨hn b hb, (I'.ok.exf b hb).1, I'.ok.exfs b hb, .inl hb, fun x c e => (I'.ok.exf b hb).2 x c e, fun p hp => absurd (show p ∈ ([] : List (Addr × Obj)) ++ [] from hp) (by simp)⟩
  have loop : codeAny (model X.prog X.w) X.A (.compLoop (.ListComp elt [⟨tg, iter, ifs, 0⟩] scope pos) 0 (.ref it) (.ref D) ce) (compPost (model X.prog X.w) X.A X.xe use Qf (.ref D) s3.heap.objs.size) s4 := by
    refine compLoop_any (fun n s' => ∃ i H', Inv (X.blk s3 H3 scope ce fp) [] (wipe σ (own.map (·.2))) H' s' ∧ tn i s'.heap ∧ (∀ b ∈ fp, H' b = none) ∧ W i n H') ?_ m0 ⟨0, H3, I4, st4, nfp, w0⟩
    rintro n s5 ⟨i, H5, I5, st5, n5, w5⟩
    rcases turn i n H5 w5 with ⟨stop, qq⟩ | ⟨go, Nx, hNx, step⟩
    · have td := T.done (X.blk s3 H3 scope ce fp) rfl rfl rfl hc i [] s5 _ H5 (fun _ _ => False) I5 (stat I5 n5) st5 stop
      refine thnF td fun r s6 ⟨hr, I6⟩ => ?_
      subst hr
      -- back in the def's context
      have I7 : Inv X pins σ H5 s6 := I3.call' (ch := fp) I6.os I6.base I6.hok I6.bare fun b hb => ⟨(f3 b hb).1.2.2.2.1, (f3 b hb).1.2.1, (f3 b hb).1.2.2.2.2.1, (f3 b hb).1.2.2.2.2.2⟩
      have nC : H5 s3.heap.objs.size = none := by
        have z : H5 ce.locals = none := I6.free
        rw [cL] at z
        exact z
      obtain ⟨m, hn, _⟩ := I6.loc
      have hn : s6.heap.Ns ce.locals m := hn
      rw [cL] at hn
      exact hRR D s3.heap.objs.size s6 m H5 I7 qq hn (I3.fpOk (Nat.le_refl _) nC)
    · have ti := T.item (X.blk s3 H3 scope ce fp) rfl rfl rfl hc i [] s5 _ H5 (fun _ _ => False) I5 (stat I5 n5) st5 go
      refine thnF ti fun r s6 ⟨u, hr, h6⟩ => ?_
      subst hr
      refine thnF h6 fun _ s7 ⟨x, H7, I7, r7, y7, st7, n7⟩ => ?_
      have I7' := I7.pinned (stat I7 n7) (T.obj _ _ st7)
      refine thnF (pg _ s7 _ H7 x u _ I7' r7 (step x H7 y7)) fun _ s8 ⟨σ8, H8, I8, hw8, q8⟩ => ?_
      refine thnF (pt _ s8 σ8 H8 _ I8 q8) fun b s9 ⟨H9, I9, q9⟩ => ?_
      -- the turn's end
      have fin : ∀ {s' : Shared} {H' : Hp}, Inv (X.blk s3 H3 scope ce fp) ([] ++ pinsAt fp s7.heap) σ8 H' s' → Nx H' → ∃ m, m < n ∧ ∃ i H', Inv (X.blk s3 H3 scope ce fp) [] (wipe σ (own.map (·.2))) H' s' ∧ tn i s'.heap ∧ (∀ b ∈ fp, H' b = none) ∧ W i m H' := fun {s' H'} I' nx => by
        obtain ⟨m', hm, w'⟩ := hNx H' nx
        have pin' : ∀ b ∈ fp, ∀ o, s7.heap.get? b = some o → s'.heap.get? b = some o ∧ H' b = none := fun b hb o e =>
          let z := I'.pin (b, o) (List.mem_append_right _ (List.mem_append_right _ (mem_pinsAt hb e)))
          ⟨z.1, z.2.1⟩
        have hl : (wipe σ (own.map (·.2))).length = σ8.length := by rw [← hw8, wipe_length]
        refine ⟨m', hm, i + 1, H', (I'.unpinned (pins := [])).weak hl (fun j v e => ?_), T.keep _ _ _ st7 fun b hb o e => (pin' b hb o e).1, fun b hb => ?_, w'⟩
        · rw [← hw8] at e
          exact (wipe_some e).1
        · obtain ⟨o, e, _⟩ := T.obj _ _ st7 b hb
          exact (pin' b hb o e).2
      cases b with
      | false =>
        simp only [Bool.false_eq_true, if_false] at q9 ⊢
        exact fin I9 q9
      | true =>
        simp only [if_true] at q9 ⊢
        refine thnF (pe _ s9 σ8 H9 _ I9 q9) fun z s10 ⟨yv, H10, I10, r10, acc, hD10, hz10, nx⟩ => ?_
        exact app_ok (X := X.blk s3 H3 scope ce fp) I10 hD10 hz10 r10 fun s11 I11 => fin I11 nx
  exact codeAny_compStart_list loop (T.self X.A 0 _ _ _ st4 loop)
theorem pe_lc {elt tg iter : Expr} {ifs : List Expr} {scope : Scope} {own : List (Str × Nat)} {pos : Pos} {wi : TI} {g : TG} {tt : TT} {te : TE} (hc : X.calm = true) (hN : X.N.Nodup) (hi : PI X tg iter wi) (ok : BlkOk X.N X.env.scope scope own)
    (hg : ∀ (s : Shared) (H : Hp) (C : Addr) (cl : List (Str × Addr)) (fp : List Addr), PG (X.blk s H scope (compEnvC scope cl C X.env) fp) tg g) (ht : ∀ (s : Shared) (H : Hp) (C : Addr) (cl : List (Str × Addr)) (fp : List Addr), PTs (X.blk s H scope (compEnvC scope cl C X.env) fp) ifs tt)
    (he : ∀ (s : Shared) (H : Hp) (C : Addr) (cl : List (Str × Addr)) (fp : List Addr), PE (X.blk s H scope (compEnvC scope cl C X.env) fp) elt te) (hs : ∀ x, foldedSetIterable iter X.env x = pure x := by intro _; rfl) :
    PE X (.ListComp elt [⟨tg, iter, ifs, 0⟩] scope pos) (tLc wi g tt te (own.map (·.2))) := by
  intro pins s σ H Q I h
  rw [eval_ListComp]
  refine lc_core hc hN I hi ok hg ht he hs h fun D C s' m H' I' q hn f => ⟨m, hn, fun h'' sb => ?_⟩
  obtain ⟨f0, f1, f2, f3, f4, f5⟩ := f
  exact ⟨.ref D, H', I'.turned (t' := s'.toks) (fun b o hb e => (sb.2 b hb).trans e) f0 f1 f3 f4 f5, rfl, q⟩
end
def blkC (N : List Str) (sc scope : Scope) (own : List (Str × Nat)) : Bool :=
  (match scope.kind with | .function => true | _ => false) && (scope.names.all fun y => decide (scope.names.lookup y.1 = some y.2)) && (own.all fun p => decide (N[p.2]? = some p.1)) &&
    (scope.names.all fun y => match y.2 with
      | .free => (match sc.names.lookup y.1 with | some .cell => true | some .free => true | _ => false)
      | .local => decide (y.1 ∈ own.map (·.1)) || decide (y.1 ∉ N)
      | .cell => decide (y.1 ∈ own.map (·.1)) || decide (y.1 ∉ N)
      | _ => true)
theorem blkOk_by {N : List Str} {sc scope : Scope} {own : List (Str × Nat)} (h : blkC N sc scope own = true) : BlkOk N sc scope own := by
  unfold blkC at h
  simp only [Bool.and_eq_true, List.all_eq_true, decide_eq_true_eq] at h
  obtain ⟨⟨⟨h1, h2⟩, h3⟩, h4⟩ := h
  refine ⟨?_, h2, h3, fun y hy e => ?_, fun y hy e => ?_⟩
  · split at h1
    · assumption
    · cases h1
  · have q := h4 y hy
    simp only [e] at q
    split at q <;> first | exact .inl (by assumption) | exact .inr (by assumption) | cases q
  · have q := h4 y hy
    rcases e with e | e <;> (simp only [e, Bool.or_eq_true, decide_eq_true_eq] at q; exact q)
end L2
namespace L2
open PySem PySem.Spec PyProof.Rows
section
variable {κ : Type} [DecidableEq κ]
def valV (kvs : List (κ × V)) (k : κ) : Option V := (kvs.find? fun kv => decide (kv.1 = k)).map (·.2)
theorem valV_pos {p : κ × V} {r : List (κ × V)} {k : κ} (e : p.1 = k) : valV (p :: r) k = some p.2 := by simp [valV, List.find?_cons, e]
theorem valV_neg {p : κ × V} {r : List (κ × V)} {k : κ} (e : ¬ p.1 = k) : valV (p :: r) k = valV r k := by simp [valV, List.find?_cons, e]
theorem RelO.getD {o : Option V} {u : Option Value} {d : V} {d' : Value} (r : RelO o u) (rd : RelV d d') : RelV (o.getD d) (u.getD d') := by
  cases o with
  | none => cases u with
    | none => exact rd
    | some _ => exact (show False from r).elim
  | some _ => cases u with
    | none => exact (show False from r).elim
    | some _ => exact r
theorem KV.val {kvs : List (κ × V)} {vs : List (κ × Value)} (r : KV kvs vs) (k : κ) : RelO (valV kvs k) (valueAt vs k) := by
  unfold KV at r
  induction r with
  | nil => exact True.intro
  | @cons p q ps qs h t ih =>
    obtain ⟨h1, h2⟩ := h
    by_cases e : p.1 = k
    · have e' : q.1 = k := h1.symm.trans e
      have b : valueAt (q :: qs) k = some q.2 := by simp [valueAt, List.find?_cons, e']
      rw [valV_pos e, b]; exact h2
    · have e' : ¬ q.1 = k := fun z => e (h1.trans z)
      have b : valueAt (q :: qs) k = valueAt qs k := by simp [valueAt, List.find?_cons, e']
      rw [valV_neg e, b]; exact ih
end
theorem kV_is {P : Program} {w : World} {k : Key} {u : Value} (r : RelV (kV k) u) : (mixKind P w).is k u = true := by
  cases k with
  | inl i => obtain ⟨t, e⟩ := (show ∃ t, u = Value.int i t from r); subst e; exact mixKind_int P w i t
  | inr x => obtain ⟨t, e⟩ := (show ∃ t, u = Value.str x t from r); subst e; exact mixKind_str P w x t
structure M2 (X : Cx) (o : Expr) (m : Str) (apos : Pos) (e f : Expr) (cpos : Pos) : Prop where
  base : attributeBase o m X.env (eval o X.env) = eval o X.env
  few : ((backTo cpos (starEach [e, f] X.env)).all (fun x => !x.1) && (backToKw cpos (keywordEach [] X.env)).all (fun x => x.1.isSome)
    && decide (([e, f] : List Expr).length + ([] : List Keyword).length + (if ([] : List Keyword).isEmpty then 0 else 1) < 30)) = true
  line : (apos.endLine == cpos.line) = true
  trees : backTo cpos (starEach [e, f] X.env) = [(false, eval e X.env), (false, eval f X.env)]
end L2
namespace L2
open PySem PySem.Spec PyProof.Rows
theorem boot_reversed5 : bootBuiltins "reversed" = some (.type "reversed") := by decide +kernel
section
variable {X : Cx} {pins : List (Addr × Obj)} {σ : St} {H : Hp} {s : Shared} {h' : Heap}
theorem Inv.turnedL {t' : Nat} {ch : List Addr} (I : Inv X pins σ H s) (k : ∀ b o, b ∉ ch → s.heap.get? b = some o → h'.get? b = some o) (hf : ∀ b ∈ ch, FpOk X pins H b) : Inv X pins σ H { s with heap := h', toks := t' } := by
  have nit : ∀ b u, H b = some u → b ∉ ch := fun b u e z => by
    have q := (hf b z).1
    rw [q] at e; cases e
  refine I.step (g' := s.gens) (d' := s.drawn) (ch := ch) (fun b hb => ⟨(hf b hb).2.2.2.1, (hf b hb).2.1, (hf b hb).2.2.2.2.1, (hf b hb).2.2.2.2.2⟩) (fun b o _ _ hc e _ => k b o hc e) (fun b o _ _ hc e _ => ⟨o.slots, k b o hc e⟩)
    (fun _ _ _ _ n => n) (fun b o hc e => ⟨o, k b o hc e⟩) (fun _ _ e => e) (fun _ _ _ e => e) (fun b ps e => ⟨#[], by rw [e]; simp⟩) (fun m hm => ?_) (fun b u e => ?_) I.bare
  · obtain ⟨o, es, ep, ho, r⟩ := hm
    exact ⟨o, es, ep, k _ o (fun z => (hf _ z).2.1 rfl) ho, r⟩
  · refine (I.hok b u e).stay (fun c v hc q => k c v ?_ q) (fun _ q => q) fun _ _ q => q
    rcases hc with z | z
    · rw [z]; exact nit b u e
    · exact nit c _ z
theorem Inv.turnedNew {t' : Nat} {ch : List Addr} {T : Addr} {ob : HO} (I : Inv X pins σ H s) (k : ∀ b o, b ∉ ch → s.heap.get? b = some o → h'.get? b = some o) (hf : ∀ b ∈ ch, FpOk X pins H b) (hT : s.heap.objs.size ≤ T)
    (new : ObjOk X.prog X.w (upd H T ob) h' T ob) : Inv X pins σ (upd H T ob) { s with heap := h', toks := t' } := by
  have hn : H T = none := I.hok.fresh hT
  have nit : ∀ b u, H b = some u → b ∉ ch := fun b u e z => by
    have q := (hf b z).1
    rw [q] at e; cases e
  refine I.step (g' := s.gens) (d' := s.drawn) (ch := ch) (fun b hb => ⟨(hf b hb).2.2.2.1, (hf b hb).2.1, (hf b hb).2.2.2.2.1, (hf b hb).2.2.2.2.2⟩) (fun b o _ _ hc e _ => k b o hc e) (fun b o _ _ hc e _ => ⟨o.slots, k b o hc e⟩)
    (fun b o _ e n => ?_) (fun b o hc e => ⟨o, k b o hc e⟩) (fun b xs e => ?_) (fun b o u e => ?_) (fun b ps e => ⟨#[], ?_⟩) (fun m hm => ?_) (fun b u e => ?_) I.bare
  · rw [upd_ne (Nat.ne_of_lt (Nat.lt_of_lt_of_le (Heap.lt_size e) hT))]; exact n
  · rw [upd_ne (ne_of_none e hn)]; exact e
  · rw [upd_ne (ne_of_none e hn)]; exact e
  · rw [upd_ne (ne_of_none e hn), e]; simp
  · obtain ⟨o, es, ep, ho, r⟩ := hm
    exact ⟨o, es, ep, k _ o (fun z => (hf _ z).2.1 rfl) ho, r⟩
  · by_cases hb : b = T
    · subst hb
      rw [upd_same] at e
      cases e
      exact new
    · rw [upd_ne hb] at e
      refine (I.hok b u e).stay (fun c v hc q => k c v ?_ q) (fun c q => by rw [upd_ne (ne_of_none q hn)]; exact q) fun c xs q => by rw [upd_ne (ne_of_none q hn)]; exact q
      rcases hc with z | z
      · rw [z]; exact nit b u e
      · exact nit c _ z
end
section
variable {X : Cx}
theorem pi_one {tg : Expr} {pins : List (Addr × Obj)} {σ : St} {H : Hp} {s : Shared} {R : It → Hp → Prop} {J : It} {tn : Nat → Heap → Prop} {tk : Nat} (I : Inv X pins σ H s) (o : Obj)
    (T : Turn X.prog X.w X.K tg J [s.heap.objs.size] s.heap.objs.size tn) (st : tn 0 (s.heap.push o)) (q : R J H) : PIE X pins σ tg R (.ref s.heap.objs.size) { s with heap := s.heap.push o, toks := tk } := by
  refine ⟨s.heap.objs.size, [s.heap.objs.size], tn, J, H, rfl, I.kept fun b ob e => Heap.get?_push_of_some _ e, T, st, fun b hb => ?_, q⟩
  have e : b = s.heap.objs.size := by simpa using hb
  subst e
  exact I.fpOk (Nat.le_refl _) (I.hok.fresh (Nat.le_refl _))
end
def Itv (K : PySem.W.Frag) (a : Addr) (n : Nat) : It :=
  ⟨fun i H => i < n ∧ ∃ (xs : List V) (x : V), SqL K H a xs ∧ xs[n - 1 - i]? = some x, fun i H x H' => H' = H ∧ ∀ xs, SqL K H a xs → xs[n - 1 - i]? = some x, fun i _ => n ≤ i⟩
theorem turn_rev {P : Program} {w : World} {K : PySem.W.Frag} {tg : Expr} (a it : Addr) (n : Nat) : Turn P w K tg (Itv K a n) [it] it (fun i h => i ≤ n ∧ h.IsRevIter it a ((n : Int) - 1 - (i : Nat))) where
  mem := by simp
  obj := fun i h st b hb => by
    have e : b = it := by simpa using hb
    subst e
    obtain ⟨_, o, e, c, d⟩ := st
    exact ⟨o, e, fun v z => by rw [d] at z; cases z⟩
  keep := fun i h h' st k => ⟨st.1, st.2.at fun o e => k it (by simp) o e⟩
  item := by
    intro X hP hw hK hc i pins s σ H E I hf st hg
    subst hP hw hK
    obtain ⟨hin, xs, x, hq, hx⟩ := hg
    obtain ⟨its, rv, p, hz⟩ := I.list hq
    obtain ⟨u, hu, ru⟩ := rv.get hx
    obtain ⟨f0, f1, f2, f3, f4, f5⟩ := hf it (by simp)
    obtain ⟨_, hit⟩ := st
    have e1 : (n : Int) - 1 - ((i : Nat) : Int) = ((n - 1 - i : Nat) : Int) := by omega
    rw [e1] at hit
    refine wpAny_pyNext_rev_item hit p.isList (x := u) (by simpa using hu) fun h' st' sb => ?_
    have e2 : ((n - 1 - i : Nat) : Int) - 1 = (n : Int) - 1 - ((i + 1 : Nat) : Int) := by omega
    rw [e2] at st'
    have I1 : Inv X pins σ H { s with heap := h' } := I.turned (t' := s.toks) (fun b o hb e => (sb.2 b hb).trans e) f0 f1 f3 f4 f5
    obtain ⟨o, e, c, d⟩ := id st'
    exact ⟨u, rfl, go_of (s := { s with heap := h' }) e c d (by decide) ⟨x, H, I1, ru, ⟨rfl, fun ys hy => by rw [I.list_inj hy hq]; exact hx⟩, ⟨hin, st'⟩, fun b hb => (hf b hb).1⟩⟩
  done := by
    intro X hP hw hK hc i pins s σ H E I hf st hg
    subst hP hw hK
    obtain ⟨f0, f1, f2, f3, f4, f5⟩ := hf it (by simp)
    obtain ⟨hin, hit⟩ := st
    have hge : n ≤ i := hg
    have e1 : (n : Int) - 1 - ((i : Nat) : Int) = -1 := by omega
    rw [e1] at hit
    exact wpAny_pyNext_rev_end (I.ok.hd hc) hit fun h' eb => ⟨rfl, I.turned (t' := s.toks) (fun b o hb e => eb b o hb e) f0 f1 f3 f4 f5⟩
  self := fun A i s Q E st h => wpAny_pyIter_revIter st.2 h
def iRev (K : PySem.W.Frag) (ta : TA) : TI := fun σ H R => ta σ H fun vs H1 => ∃ (a : Addr) (xs : List V), vs = [.ref a] ∧ SqL K H1 a xs ∧ R (Itv K a xs.length) H1
section
variable {X : Cx} {tg : Expr}
theorem pi_reversed {e : Expr} {ta : TA} {p pos : Pos} (hg : Gl X "reversed") (hm : X.mg "reversed" = none) (ha : PA X [e] ta) (hs : starEach [e] X.env = [(false, eval e X.env)] := by rfl) : PI X tg (.Call (.Name "reversed" p) [e] [] pos) (iRev X.K ta) := by
  intro pins s σ H R I h
  refine Call_ (ld_blt I hg hm boot_reversed5 (PyProof.Rows.callWith_type1 (thn (ha pos pins s σ H _ I h) fun us s1 ⟨vs, H1, I1, r1, q1⟩ => ?_) hs rfl))
  obtain ⟨a, xs, e, hq, q⟩ := q1
  subst e
  cases r1 with
  | cons r rr =>
    cases rr
    cases r
    obtain ⟨its, rv, p', hz⟩ := I1.list hq
    have hl := rv.length
    have e1 : ((its.toArray.size : Nat) : Int) - 1 = (xs.length : Int) - 1 - ((0 : Nat) : Int) := by simp only [List.size_toArray]; omega
    refine call_reversed_list p'.isList (wpAny_pyIter_revIter (l := a) (i := ((its.toArray.size : Nat) : Int) - 1) ⟨_, Heap.get?_push_size _ rfl, rfl, rfl⟩ ?_)
    refine pi_one (tk := s1.toks) I1 _ (turn_rev a _ xs.length) ⟨Nat.zero_le _, ?_⟩ q
    rw [← e1]
    exact ⟨_, Heap.get?_push_size _ rfl, rfl, rfl⟩
end
def Ite (K : PySem.W.Frag) (a : Addr) : It :=
  ⟨fun i H => ∃ (xs : List V) (x : V), SqL K H a xs ∧ xs[i]? = some x, fun i H v H' => ∃ T x, v = .ref T ∧ H T = none ∧ H' = upd H T (.tup [.int (i : Nat), x]) ∧ ∀ xs, SqL K H a xs → xs[i]? = some x, fun i H => ∃ xs : List V, SqL K H a xs ∧ xs.length ≤ i⟩
theorem turn_enum {P : Program} {w : World} {K : PySem.W.Frag} {elts : List Expr} {kk : Nat} {tpos : Pos} (a e it : Addr) :
    Turn P w K (.Tuple elts kk tpos) (Ite K a) [e, it] e (fun i h => (∃ old, IsEnum h e it ((i : Nat) : Int) old) ∧ h.IsListIter it a i ∧ e ≠ it) where
  mem := by simp
  obj := fun i h st b hb => by
    obtain ⟨⟨old, he⟩, ⟨o, ho, hc, hd⟩, _⟩ := st
    have e' : b = e ∨ b = it := by simpa using hb
    rcases e' with z | z
    · rw [z]; exact ⟨_, he, fun v q => nomatch q⟩
    · rw [z]; exact ⟨o, ho, fun v q => by rw [hd] at q; cases q⟩
  keep := fun i h h' st k => let ⟨⟨old, he⟩, hi, hne⟩ := st; ⟨⟨old, k e (by simp) _ he⟩, hi.at fun o q => k it (by simp) o q, hne⟩
  item := by
    intro X hP hw hK hc i pins s σ H E I hf st hg
    subst hP hw hK
    obtain ⟨⟨old, he⟩, hit, hne⟩ := st
    obtain ⟨xs, x, hq, hx⟩ := hg
    obtain ⟨its, rv, p, hz⟩ := I.list hq
    obtain ⟨u, hu, ru⟩ := rv.get hx
    have hel : e < s.heap.objs.size := Heap.lt_size he
    have hil : it < s.heap.objs.size := by obtain ⟨_, q, _⟩ := hit; exact Heap.lt_size q
    refine wpAny_pyNext_enum_item he hit p.isList (x := u) (by simpa using hu) hne fun h' ho hit' hT hsz hk => ?_
    refine ⟨_, rfl, wpAny_letOwnedTupleGo_enum (s := { s with heap := h', toks := s.toks + 1 }) ho fun h'' he' sb => ?_⟩
    have hT2 : h''.get? s.heap.objs.size = some { cls := .type "tuple", data := .seq #[.int i s.toks, u] } := (sb.2 _ (Nat.ne_of_gt hel)).trans hT
    have new : ObjOk X.prog X.w (upd H s.heap.objs.size (.tup [.int (i : Nat), x])) h'' s.heap.objs.size (.tup [.int (i : Nat), x]) :=
      ⟨by show 2 ≤ sizeLine; decide, [.int i s.toks, u], .cons ⟨_, rfl⟩ (.cons ru .nil), ⟨_, hT2, rfl, _, rfl⟩⟩
    have I1 : Inv X pins σ (upd H s.heap.objs.size (.tup [.int (i : Nat), x])) { s with heap := h'', toks := s.toks + 1 } :=
      I.turnedNew (ch := [e, it]) (fun b ob hb q => (sb.2 b (fun z => hb (by simp [z]))).trans (hk b ob (fun z => hb (by simp [z])) (fun z => hb (by simp [z])) q)) hf (Nat.le_refl _) new
    refine ⟨.ref s.heap.objs.size, _, I1, rfl, ⟨_, x, rfl, I.hok.fresh (Nat.le_refl _), rfl, fun ys hy => by rw [I.list_inj hy hq]; exact hx⟩, ⟨⟨u, ?_⟩, hit'.at fun o q => (sb.2 it (Ne.symm hne)).trans q, hne⟩, fun b hb => ?_⟩
    · have e1 : ((i + 1 : Nat) : Int) = (i : Int) + 1 := by omega
      rw [e1]; exact he'
    · have hb' : b < s.heap.objs.size := by
        have e' : b = e ∨ b = it := by simpa using hb
        rcases e' with z | z
        · rw [z]; exact hel
        · rw [z]; exact hil
      rw [upd_ne (Nat.ne_of_lt hb')]
      exact (hf b hb).1
  done := by
    intro X hP hw hK hc i pins s σ H E I hf st hg
    subst hP hw hK
    obtain ⟨⟨old, he⟩, hit, hne⟩ := st
    obtain ⟨xs, hq, hx⟩ := hg
    obtain ⟨its, rv, p, hz⟩ := I.list hq
    obtain ⟨f0, f1, f2, f3, f4, f5⟩ := hf it (by simp)
    have hl := rv.length
    exact wpAny_pyNext_enum_end (I.ok.hd hc) he hit p.isList (by simp; omega) fun h' eb => ⟨rfl, I.turned (t' := s.toks) (fun b o hb q => eb b o hb q) f0 f1 f3 f4 f5⟩
  self := fun A i s Q E st h => let ⟨⟨_, he⟩, _⟩ := st; wpAny_pyIter_enum he h
def iEnum (K : PySem.W.Frag) (ta : TA) : TI := fun σ H R => ta σ H fun vs H1 => ∃ a xs, vs = [.ref a] ∧ SqL K H1 a xs ∧ R (Ite K a) H1
theorem pi_enum {X : Cx} {e : Expr} {ta : TA} {p pos tpos : Pos} {elts : List Expr} {kk : Nat} (hg : Gl X "enumerate") (hm : X.mg "enumerate" = none) (ha : PA X [e] ta) (hs : starEach [e] X.env = [(false, eval e X.env)] := by rfl) :
    PI X (.Tuple elts kk tpos) (.Call (.Name "enumerate" p) [e] [] pos) (iEnum X.K ta) := by
  intro pins s σ H R I h
  refine Call_ (ld_blt I hg hm boot_enumerate (PyProof.Rows.callWith_type1 (thn (ha pos pins s σ H _ I h) fun us s1 ⟨vs, H1, I1, r1, q1⟩ => ?_) hs rfl))
  obtain ⟨a, xs, ex, hq, q⟩ := q1
  subst ex
  cases r1 with
  | cons r rr =>
    cases rr
    cases r
    obtain ⟨its, rv, p', hz⟩ := I1.list hq
    refine call_enumerate_list p'.isList fun h' he hit hsz hk => wpAny_pyIter_enum he ?_
    have I2 : Inv X pins σ H1 { s1 with heap := h' } := I1.kept (t' := s1.toks) hk
    refine ⟨s1.heap.objs.size + 1, [s1.heap.objs.size + 1, s1.heap.objs.size], _, _, H1, rfl, I2, turn_enum a (s1.heap.objs.size + 1) s1.heap.objs.size, ⟨⟨.none, he⟩, hit, Nat.succ_ne_self _⟩, fun b hb => ?_, q⟩
    have e' : b = s1.heap.objs.size + 1 ∨ b = s1.heap.objs.size := by simpa using hb
    have hle : s1.heap.objs.size ≤ b := by
      rcases e' with z | z
      · rw [z]; exact Nat.le_add_right _ _
      · rw [z]; exact Nat.le_refl _
    exact I1.fpOk hle (I1.hok.fresh hle)
theorem boot_zip5 : bootBuiltins "zip" = some (.type "zip") := by decide +kernel
end L2
namespace Att
open PySem PySem.W PySem.Calls PyProof.Rows
theorem ints_of_wellAll {P : Params} {h : Heap} : ∀ (ns : List Int) (vs : List Value), WellAll P h vs (ns.map WData.int) → IntsAre vs ns := by
  intro ns
  induction ns with
  | nil =>
    intro vs w
    rw [List.map_nil] at w
    cases w
    exact .nil
  | cons n ns ih =>
    intro vs w
    rw [List.map_cons] at w
    cases w with
    | cons a b =>
      cases a
      exact .cons _ _ (ih _ b)
end Att
namespace L2
open PySem PySem.Spec PyProof.Rows
theorem vals_ints : ∀ {vs : List Value} {ns : List Int}, IntsAre vs ns → Vals (ns.map V.int) vs
  | _, _, .nil => .nil
  | _, _, .cons n t h => .cons ⟨t, rfl⟩ (vals_ints h)
def Only (H : Hp) : Prop := ∀ b, H b = none ∨ ∃ o xs, H b = some (.frz o (.lst xs))
end L2
namespace L2
open PySem PySem.Spec PyProof.Rows
def inClass (s : Stmt) (j : Nat) : Stmt := match s with
  | .ClassDef _ _ _ body _ _ _ _ _ _ _ => body.getD j (.Pass ⟨0, 0, 0, 0⟩)
  | _ => .Pass ⟨0, 0, 0, 0⟩
def defArgs (s : Stmt) : Arguments := match s with
  | .FunctionDef _ a _ _ _ _ _ _ _ _ => a
  | _ => { posonlyargs := [], args := [], vararg := none, kwonlyargs := [], kw_defaults := [], kwarg := none, defaults := [] }
def defBody (s : Stmt) : List Stmt := match s with
  | .FunctionDef _ _ b _ _ _ _ _ _ _ => b
  | _ => []
def defScope (s : Stmt) : Scope := match s with
  | .FunctionDef _ _ _ _ _ _ sc _ _ _ => sc
  | _ => { kind := .function, names := [], isGenerator := false, isCoroutine := false }
abbrev CX0 : CXT := fun _ _ _ _ _ _ => False
abbrev E0 : XK := fun _ _ _ => False
theorem pass0 {X : Cx} : Passes CX0 X E0 := fun _ _ _ _ _ _ _ h => h.elim
structure Fun (K : PySem.W.Frag) (x qual : Str) (st : Stmt) (f : Addr) (fd : FuncData) : Prop where
  ex : ∃ (oc : Value) (od : Option Addr) (kV doc pm : Value) (an : Option Addr) (cdv ct : Value) (osl : Array (Option Value)),
    fd = PySem.W.fnOf x qual (defArgs st) (defBody st) (defScope st) .none kV doc pm an cdv ct ∧ K.lookup f = some ⟨oc, od, .func fd, osl⟩ ∧ PySem.W.codeIn K cdv qual = true
  kp : PySem.W.keepIn K (.ref f) = true
section
variable {P : Program} {w : World} {K : PySem.W.Frag} {mg : Str → Option Value} {base : Heap}
theorem Fun.ok {x qual : Str} {st : Stmt} {f : Addr} {fd : FuncData} {N ps : List Str} {k : Nat} {sp : Sp} (F : Fun K x qual st f fd) (S : FnScope N ps (defScope st)) (len : ∀ vs H Q E, sp vs H Q E → vs.length = ps.length)
    (hbody : ∀ (cdv : Value) (A : Around) (outer : List Env) (s : Shared) (H : Hp) (vs : List V) (Q : VK) (E : XK), Room k (A.deeper (envOfC qual (defScope st) s.heap.objs.size f cdv)) → sp vs H Q E →
      ∃ t, PSs (cxOf CX0 P w K mg base N qual (defScope st) f cdv A outer s H E).nox (defBody st) t ∧ t { nx := fun _ H' => Q .non H', rt := Q } (start N vs) H) : FnOk P w K mg base CX0 (k + 1) f fd ps sp := by
  obtain ⟨oc, od, kV, doc, pm, an, cdv, ct, osl, rfl, lk, hcd⟩ := F.ex
  refine fn_of lk hcd S len fun A outer s H vs Q E hr hsp => ?_
  obtain ⟨t, h, q⟩ := hbody cdv A outer s H vs Q E hr hsp
  exact ⟨t, h.nox, q⟩
theorem Fun.binds {x qual : Str} {st : Stmt} {f : Addr} {fd : FuncData} {ps : List Str} (F : Fun K x qual st f fd)
    (h : ∀ (kV doc pm : Value) (an : Option Addr) (cdv ct : Value) (us : List Value), us.length = ps.length → bindArgs (PySem.W.fnOf x qual (defArgs st) (defBody st) (defScope st) .none kV doc pm an cdv ct) ⟨us, []⟩ = pure (ps.zip us)) : Binds K fd ps [] := by
  obtain ⟨oc, od, kV, doc, pm, an, cdv, ct, osl, rfl, lk, hcd⟩ := F.ex
  exact .all (h kV doc pm an cdv ct)
theorem fun_mk {x qual : Str} {st : Stmt} {f : Addr} {oc : Value} {od an : Option Addr} {osl : Array (Option Value)} {kV doc pm cdv ct : Value} (l : K.lookup f = some ⟨oc, od, .func (PySem.W.fnOf x qual (defArgs st) (defBody st) (defScope st) .none kV doc pm an cdv ct), osl⟩)
    (c : PySem.W.codeIn K cdv qual = true) (k : PySem.W.keepIn K (.ref f) = true) : Fun K x qual st f (PySem.W.fnOf x qual (defArgs st) (defBody st) (defScope st) .none kV doc pm an cdv ct) := ⟨⟨oc, od, kV, doc, pm, an, cdv, ct, osl, rfl, l, c⟩, k⟩
end
theorem hu_of {A : Around} {k : Nat} (hr : Room k A) : A.units + 1 < cLine := Nat.lt_of_le_of_lt (Nat.add_le_add_left (by decide : 1 ≤ 64) _) hr.units
section
variable {X : Cx}
theorem pv (i : Nat) {x : Str} {pos : Pos} (hN : X.N[i]? = some x := by rfl) (hv : Vis X.env.scope x := by first | exact Or.inl rfl | exact Or.inr (Or.inl rfl) | exact Or.inr (Or.inr rfl)) (hd : (x == ("__debug__" : Str)) = false := by decide)
    (hcd : (x == ("__classdict__" : Str)) = false := by decide) : PE X (.Name x pos) (tVar i) := pe_var hN hv hd hcd
end
def Same (H H' : Hp) : Prop := ∀ b o, H b = some o → H' b = some o
theorem Same.refl (H : Hp) : Same H H := fun _ _ h => h
theorem Same.seq {K : PySem.W.Frag} {H H' : Hp} {a : Addr} {xs : List V} (e : Same H H') (h : SqL K H a xs) : SqL K H' a xs := by
  rcases h with (h | ⟨o, h⟩) | h
  · exact .inl (.inl (e _ _ h))
  · exact .inl (.inr ⟨o, e _ _ h⟩)
  · exact .inr h
theorem at_of {xs : List V} {z : Int} {j : Nat} {v : V} (e : z = (j : Int)) (h : xs[j]? = some v) : atI xs z = some v := by
  rw [e]
  exact atI_nat h
end L2
/-! The head of a spec row by hand: one argument, a list of whole numbers; the answer a list of whole numbers. -/
namespace Osp
open PySem PySem.W PySem.Calls PyProof.Rows L2
theorem ints_of_vals : ∀ {ns : List Int} {vs : List Value}, Vals (ns.map V.int) vs → IntsAre vs ns
  | [], _, h => by
    cases h
    exact .nil
  | n :: ns, _, h => by
    cases h with
    | cons r t =>
      obtain ⟨tk, rfl⟩ := (show ∃ tk, _ = Value.int n tk from r)
      exact .cons n tk (ints_of_vals t)
/-- what the def's promise must say: it hands back a new list with just these numbers -/
abbrev Ends (out : List Int) : VK := fun v H' => ∃ l, v = .ref l ∧ H' l = some (.lst (out.map V.int))
theorem spec_call {P : Program} {w : World} {K : PySem.W.Frag} {mg mb : Str → Option Value} {CX : CXT} {k : Nat} {fa a : Addr} {fd : FuncData} {x : Str} {sp : Sp} {s₁ : Shared} {vs : List Value} {ns out : List Int}
    (KX : K.In s₁.heap) (hns : s₁.heap.Ns mainGlobals mg) (hb : s₁.heap.Ns builtinsNs mb) (hbb : ∀ x : Str, x ≠ "__name__" → mb x = bootBuiltins x) (hlim : s₁.heap.NoLimit) (hg : s₁.gens = #[])
    (ha : s₁.heap.get? a = some { cls := .type "list", data := .seq vs.toArray }) (hi : IntsAre vs ns) (hl : ns.length ≤ sizeLine) (hr : Room k callerA)
    (F : ∀ base : Heap, K.In base → base.Ns mainGlobals mg → FnOk P w K mg base CX k fa fd [x] sp) (hbind : ∀ (s : Shared) (u : Value), BindsTo s fd ⟨[u], []⟩ [(x, u)])
    (hsp : ∀ H : Hp, Only H → SqL K H a (ns.map V.int) → sp [.ref a] H (Ends out) fun _ _ _ => False)
    (hCX : ∀ H e s', CX [] H s₁ (fun _ _ _ => False) e s' → False) :
    codeAny (model P w) callerA (.call (.ref fa) ⟨[.ref a], []⟩) (fun r s' => (∃ (b : Addr) (us : List Value) (n : Nat), r = .ok (.ret (.ref b)) ∧ s'.heap.get? b = some { cls := .type "list", data := .seq us.toArray n } ∧ IntsAre us out) ∧ OldK s₁.heap s'.heap ∧ s'.os = s₁.os ∧ AllBare s'.gens) s₁ := by
  have rv := vals_ints hi
  have lenV := hi.length
  have core : ∀ H : Hp, Only H → SqL K H a (ns.map V.int) → HOk P w H s₁.heap → (∀ b, H b ≠ none → b = a) → (H a ≠ none → K.lookup a = none) →
      codeAny (model P w) callerA (.call (.ref fa) ⟨[.ref a], []⟩) (fun r s' => (∃ (b : Addr) (us : List Value) (n : Nat), r = .ok (.ret (.ref b)) ∧ s'.heap.get? b = some { cls := .type "list", data := .seq us.toArray n } ∧ IntsAre us out) ∧ OldK s₁.heap s'.heap ∧ s'.os = s₁.os ∧ AllBare s'.gens) s₁ := by
    intro H hO hS hok hA hK
    have base_of : ∀ {b : Addr} {o : Obj}, s₁.heap.get? b = some o → H b = none → (hidT s₁.heap H).get? b = some o := fun e n => hidT_get e n
    have noA : ∀ {b : Addr} {o : Obj} {es : Array DictEntry} {ep : Nat}, s₁.heap.get? b = some o → o.data = .dict es ep → H b = none := fun {b o es ep} e d => by
      cases q : H b with
      | none => rfl
      | some u =>
        have e' : b = a := hA b (by rw [q]; simp)
        subst e'
        rw [ha] at e; cases e
        have d' : Data.seq vs.toArray _ = Data.dict es ep := d
        cases d'
    have nsK : ∀ {b : Addr} {m : Str → Option Value}, s₁.heap.Ns b m → (hidT s₁.heap H).Ns b m := fun {b m} ⟨o, es, ep, e, d, r⟩ => ⟨o, es, ep, base_of e (noA e d), d, r⟩
    have hKb : K.In (hidT s₁.heap H) := fun b o e => base_of (KX b o e) (by
      cases q : H b with
      | none => rfl
      | some u =>
        have e' : b = a := hA b (by rw [q]; simp)
        subst e'
        rw [hK (by rw [q]; simp)] at e; cases e)
    have hM : Mod K mg (hidT s₁.heap H) := ⟨hKb, nsK hns, ⟨mb, nsK hb, hbb⟩, let ⟨mc, h1, h2⟩ := hlim; ⟨mc, nsK h1, h2⟩⟩
    have e0 : Env0 P w K mg (hidT s₁.heap H) callerA [] s₁ H := ⟨rfl, hM, fun b o e => of_hidT e, Nat.le_of_eq (hidT_size _ _), trivial, fun b hb => absurd (show b ∈ ([] : List Addr) from hb) (by simp), hok, .of_eq hg⟩
    refine codeAny_mono ((F _ hKb (nsK hns)).run callerA [] s₁ H ⟨[.ref a], []⟩ [.ref a] [.ref a] _ _ hr e0 (hbind s₁ (.ref a)) (.cons rfl .nil) (hsp H hO hS)) fun r s' h => ?_
    cases r with
    | error e => exact (hCX H e s' h).elim
    | ok fl =>
      cases fl with
      | next => exact False.elim h
      | brk => exact False.elim h
      | cont => exact False.elim h
      | ret u =>
        obtain ⟨v, H', os, bare, un, hok', r', l, q, ql⟩ := h
        subst q
        obtain rfl : u = Value.ref l := r'
        obtain ⟨_, its, n, hv, hget⟩ := (show ObjOk P w H' s'.heap l (.lst (out.map V.int)) from hok' l _ ql)
        refine ⟨⟨l, its, n, rfl, hget, ints_of_vals hv⟩, OldK.of_keep fun b o e => ?_, os, bare⟩
        cases q : H b with
        | none => exact un.keep b o e q (by intro z; exact absurd (show b ∈ ([] : List Addr) from z) (by simp)) (by simp)
        | some u =>
          rcases hO b with z | ⟨ob, xs, z⟩
          · rw [q] at z; cases z
          · have z2 := un.frzs b ob _ z
            obtain ⟨e1, _⟩ := hok b _ z
            obtain ⟨e2, _⟩ := hok' b _ z2
            rw [e] at e1; cases e1
            exact e2
  cases hk : K.lookup a with
  | some o =>
    have e := KX a o hk
    rw [ha] at e
    cases e
    refine core (fun _ => none) (fun _ => .inl rfl) (.inr ⟨_, vs.toArray, _, hk, rfl, rfl, rfl, by rw [List.size_toArray, lenV]; exact hl, by simpa using rv⟩) (fun b u z => by have z' : (none : Option HO) = some u := z; cases z') (fun b z => absurd rfl z) fun z => absurd rfl z
  | none =>
    refine core (fun b => if b = a then some (.frz { cls := .type "list", data := .seq vs.toArray } (.lst (ns.map V.int))) else none) (fun b => ?_) (.inl (.inr ⟨{ cls := .type "list", data := .seq vs.toArray }, if_pos rfl⟩)) (fun b u z => ?_) (fun b z => ?_) fun _ => hk
    · by_cases hb : b = a
      · exact .inr ⟨_, _, if_pos hb⟩
      · exact .inl (if_neg hb)
    · by_cases hb : b = a
      · have z' := (if_pos hb).symm.trans z
        cases z'
        subst hb
        exact ⟨ha, by rw [List.length_map]; exact hl, vs, _, rv, ha⟩
      · have z' := (if_neg hb).symm.trans z
        cases z'
    · by_cases hb : b = a
      · exact hb
      · exact absurd (if_neg hb) z
theorem reads_ints {R : WRecords} {cl : Str → Option Addr} {h : Heap} : ∀ {us : List Value} {out : List Int}, IntsAre us out → ReadsAllW R cl h us (out.map WData.int) []
  | _, _, .nil => .nil
  | _, _, .cons n t r => ReadsAllW.cons (as := []) (bs := []) (ReadsW.int n t) (reads_ints r)
/-- the request, read -/
theorem request {r : OpenSpec} {least most : Nat} {lo hi : Int} {args : List WData} (ha : r.args = [.list least most (.int lo hi)]) (k : r.wellSaid = true) (h : r.pre args = true) :
    ∃ ns : List Int, args = [WData.list (ns.map WData.int)] ∧ ns.length ≤ most ∧ ∀ x ∈ ns, lo ≤ x ∧ x ≤ hi := by
  obtain ⟨a, h1, _, e⟩ := (OpenSpec.pre_iff k args).mp h
  clear h
  obtain ⟨p, n, as, rt, ask, f⟩ := r
  cases ha
  obtain ⟨ns, u⟩ := a
  have h2 : Codec.within (.list least most (.int lo hi)) ns = true := by
    have h3 : (Codec.within (.list least most (.int lo hi)) ns && true) = true := h1
    simpa using h3
  have h4 : (Codec.inNat least most ns.length && ns.all (Codec.inInt lo hi)) = true := h2
  simp only [Bool.and_eq_true, Codec.inNat, Codec.inInt, decide_eq_true_eq, List.all_eq_true] at h4
  exact ⟨ns, e, h4.1.2, fun x hx => h4.2 x hx⟩
theorem walk {r : OpenSpec} {least most k : Nat} {lo hi : Int} {q : Program} {loose : List Str} {XP : (Str → Option Value) → Heap → Prop} {YP : World → Heap → Prop} {d : DefRec} {K : Params → PySem.W.Frag} {sp : World → Sp} {x : Str} {out : List Int → List Int} {ok : List Int → Prop}
    (ha : r.args = [.list least most (.int lo hi)]) (said : r.wellSaid = true) (hm : most ≤ sizeLine) (hdf : d.params.defaults = []) (hr : Room k callerA)
    (hY : ∀ (w : World) (h : Heap), YP w h → (K w.params).In h)
    (F : ∀ (w : World) (mg : Str → Option Value) (fa : Addr) (h : Heap), (K w.params).In h → h.Ns mainGlobals mg → mg d.name = some (.ref fa) →
      ∃ fd : FuncData, (∀ (s : Shared) (u : Value), BindsTo s fd ⟨[u], []⟩ [(x, u)]) ∧
        ∀ base : Heap, (K w.params).In base → base.Ns mainGlobals mg → FnOk r.prog w (K w.params) mg base CX0 k fa fd [x] (sp w))
    (hok : ∀ ns : List Int, r.pre [WData.list (ns.map WData.int)] = true → ok ns)
    (hpost : ∀ ns : List Int, r.pre [WData.list (ns.map WData.int)] = true → r.post [WData.list (ns.map WData.int)] (WData.list ((out ns).map WData.int)) = true)
    (hsp : ∀ (w : World) (H : Hp) (a : Addr) (ns : List Int), ns.length ≤ most → (∀ x ∈ ns, lo ≤ x ∧ x ≤ hi) → ok ns → Only H → SqL (K w.params) H a (ns.map V.int) → sp w [.ref a] H (Ends (out ns)) fun _ _ _ => False) :
    WalkOS q loose XP YP r d [] (fun f vs => PySem.call f vs) := by
  intro w s₀ s₁ mg mb G Y fa o pm cd doc dV kV ho hd hcd hD hmg hg args vals as hpre hlay hrd hwl hlo
  obtain rfl : dV = .none := Dflts.none hD hdf
  obtain rfl : kV = .none := Dflts.noKw hD
  obtain ⟨ns, rfl, hlen, hit⟩ := request ha said hpre
  cases hwl with
  | cons w1 w2 =>
    cases w2
    cases w1 with
    | list hobj hall =>
      have hints := Att.ints_of_wellAll ns _ hall
      have KX := hY w _ Y
      obtain ⟨fd, hb, hF⟩ := F w mg fa _ KX G.T.g hmg
      refine enter_call (codeAny_mono (spec_call KX G.T.g G.T.b G.T.builtins G.T.nolimit hg hobj hints (Nat.le_trans hlen hm) hr hF hb (fun H hO hS => hsp w H _ ns hlen hit (hok ns hpre) hO hS) fun H e s' z => z) fun r' s' hq => ?_)
      obtain ⟨⟨b, us, n, rfl, hget, hi⟩, h2, h3, h4⟩ := hq
      exact ⟨.inl ⟨.ref b, _, _, rfl, fun _ => rfl, .list hget rfl rfl (by simpa using reads_ints hi), hpost ns hpre, fun h => absurd (show false = true from h) (by simp)⟩, h2, h3, h4⟩
end Osp
/-! The program's own bookkeeping beside the machine of the specification, and what holds between them. -/
namespace Ooo
open Sd48
/-- a slot's object: where its parts stand, the slot that it is, what it holds beside -/
structure SD where
  ia : Nat
  idx : Nat
  dx : Nat
  oa : Nat
  ra : Nat
  x : Slot
  sure : Nat
  guess : Int
  goes : Int
  ops : Bool → Int
  missing : Int
  rds : List (Nat × Nat × Bool)
/-- the machine's lists -/
inductive LN where
  | prog | cells | regs | units | counters | slots | setters | free
  deriving DecidableEq
structure CS where
  m : M
  dx : Nat
  la : LN → Nat
  q : List Nat
  T : Nat → Option SD
  set : List (Option Nat)
  free : List Int
  fp : Int
  pa : List Nat
/-- the same with other slots -/
def CS.wT (C : CS) (T : Nat → Option SD) : CS := { C with T := T }
@[simp] theorem CS.wT_wT {C : CS} {T T' : Nat → Option SD} : (C.wT T).wT T' = C.wT T' := rfl
@[simp] theorem CS.wT_T {C : CS} {T : Nat → Option SD} : (C.wT T).T = T := rfl
def updT (T : Nat → Option SD) (a : Nat) (d : SD) : Nat → Option SD := fun b => if b = a then some d else T b
@[simp] theorem updT_same {T : Nat → Option SD} {a : Nat} {d : SD} : updT T a d a = some d := if_pos rfl
theorem updT_ne {T : Nat → Option SD} {a b : Nat} {d : SD} (h : b ≠ a) : updT T a d b = T b := if_neg h
@[simp] theorem updT_updT {T : Nat → Option SD} {a : Nat} {d e : SD} : updT (updT T a d) a e = updT T a e := by
  funext b; unfold updT; split <;> rfl
def rd (i : Ins) (w : Bool) : Nat := if w then second i else first i
/-- the last of the first k slots that sets r -/
def Src (l : List Slot) (k r j : Nat) : Prop := r ≠ 0 ∧ j < k ∧ (∃ y, l[j]? = some y ∧ dest (ins y.word) = r) ∧ ∀ i y, j < i → i < k → l[i]? = some y → dest (ins y.word) ≠ r
theorem Src.uniq {l : List Slot} {k r i j : Nat} (h : Src l k r i) (h' : Src l k r j) : i = j := by
  obtain ⟨_, h1, ⟨y, hy, ey⟩, h2⟩ := h
  obtain ⟨_, h3, ⟨z, hz, ez⟩, h4⟩ := h'
  rcases Nat.lt_trichotomy i j with c | c | c
  · exact absurd ez (h2 j z c h3 hz)
  · exact c
  · exact absurd ey (h4 i y c h1 hy)
theorem avail_zero (s : Arch) (l : List Slot) : avail s l 0 = some 0 := by simp [avail]
theorem avail_snoc (s : Arch) (l : List Slot) (y : Slot) {r : Nat} (h : r ≠ 0) : avail s (l ++ [y]) r = if dest (ins y.word) = r then (if y.phase = 3 then some y.out.value else none) else avail s l r := by
  unfold avail
  rw [if_neg h, if_neg h, List.reverse_append, List.reverse_singleton, List.singleton_append, List.find?_cons]
  by_cases e : dest (ins y.word) = r
  · simp [e]
  · have e' : (dest (ins y.word) == r) = false := by simpa using e
    simp [e']
    intro z
    exact absurd z e
theorem avail_take (s : Arch) (l : List Slot) {r : Nat} (h : r ≠ 0) : ∀ k, (∃ j y, Src l k r j ∧ l[j]? = some y ∧ avail s (l.take k) r = if y.phase = 3 then some y.out.value else none) ∨ ((∀ j, ¬ Src l k r j) ∧ avail s (l.take k) r = some (reg s r))
  | 0 => .inr ⟨fun j z => absurd z.2.1 (by omega), by simp [avail, h]⟩
  | k + 1 => by
    cases e : l[k]? with
    | none =>
      have hl : l.length ≤ k := List.getElem?_eq_none_iff.mp e
      have e1 : l.take (k + 1) = l.take k := by rw [List.take_of_length_le hl, List.take_of_length_le (by omega)]
      rw [e1]
      have step : ∀ j, Src l (k + 1) r j ↔ Src l k r j := by
        intro j
        constructor
        · rintro ⟨_, h1, ⟨y, hy, ey⟩, h2⟩
          have : j < l.length := (List.getElem?_eq_some_iff.mp hy).1
          exact ⟨h, by omega, ⟨y, hy, ey⟩, fun i z a b => h2 i z a (by omega)⟩
        · rintro ⟨_, h1, ⟨y, hy, ey⟩, h2⟩
          refine ⟨h, by omega, ⟨y, hy, ey⟩, fun i z a b hz => h2 i z a ?_ hz⟩
          have : i < l.length := (List.getElem?_eq_some_iff.mp hz).1
          omega
      rcases avail_take s l h k with ⟨j, y, a, b⟩ | ⟨a, b⟩
      · exact .inl ⟨j, y, (step j).mpr a, b⟩
      · exact .inr ⟨fun j z => a j ((step j).mp z), b⟩
    | some x =>
      obtain ⟨hk, ex⟩ := List.getElem?_eq_some_iff.mp e
      have e1 : l.take (k + 1) = l.take k ++ [x] := by rw [List.take_succ, e]; rfl
      rw [e1, avail_snoc s _ x h]
      by_cases c : dest (ins x.word) = r
      · rw [if_pos c]
        exact .inl ⟨k, x, ⟨h, by omega, ⟨x, e, c⟩, fun i y a b => by omega⟩, e, rfl⟩
      · rw [if_neg c]
        have step : ∀ j, Src l (k + 1) r j ↔ Src l k r j := by
          intro j
          constructor
          · rintro ⟨_, h1, ⟨y, hy, ey⟩, h2⟩
            refine ⟨h, ?_, ⟨y, hy, ey⟩, fun i z a b => h2 i z a (by omega)⟩
            rcases Nat.lt_or_ge j k with z | z
            · exact z
            · have : j = k := by omega
              subst this
              rw [e] at hy; cases hy
              exact absurd ey c
          · rintro ⟨_, h1, ⟨y, hy, ey⟩, h2⟩
            refine ⟨h, by omega, ⟨y, hy, ey⟩, fun i z a b hz => ?_⟩
            rcases Nat.lt_or_ge i k with q | q
            · exact h2 i z a q hz
            · have : i = k := by omega
              subst this
              rw [e] at hz; cases hz
              exact c
        rcases avail_take s l h k with ⟨j, y, a, b⟩ | ⟨a, b⟩
        · exact .inl ⟨j, y, (step j).mpr a, b⟩
        · exact .inr ⟨fun j z => a j ((step j).mp z), b⟩
theorem avail_src {s : Arch} {l : List Slot} {k r j : Nat} {y : Slot} (h : Src l k r j) (hy : l[j]? = some y) : avail s (l.take k) r = if y.phase = 3 then some y.out.value else none := by
  rcases avail_take s l h.1 k with ⟨j', y', a, b, c⟩ | ⟨a, _⟩
  · have := a.uniq h
    subst this
    rw [b] at hy; cases hy
    exact c
  · exact absurd h (a j)
theorem avail_reg {s : Arch} {l : List Slot} {k r : Nat} (h0 : r ≠ 0) (h : ∀ j, ¬ Src l k r j) : avail s (l.take k) r = some (reg s r) := by
  rcases avail_take s l h0 k with ⟨j', y', a, _⟩ | ⟨_, c⟩
  · exact absurd a (h j')
  · exact c
theorem avail_none {s : Arch} {l : List Slot} {k r : Nat} (h : avail s (l.take k) r = none) : ∃ j y, Src l k r j ∧ l[j]? = some y ∧ y.phase ≠ 3 := by
  by_cases h0 : r = 0
  · subst h0
    rw [avail_zero] at h; cases h
  · rcases avail_take s l h0 k with ⟨j, y, a, b, c⟩ | ⟨_, c⟩
    · refine ⟨j, y, a, b, fun e => ?_⟩
      rw [c, if_pos e] at h; cases h
    · rw [c] at h; cases h
/-- words alone say who sets a register -/
theorem Src.congr {l l' : List Slot} (hw : l.map (·.word) = l'.map (·.word)) {k r j : Nat} : Src l k r j → Src l' k r j := by
  have get : ∀ (i : Nat) (y : Slot), l'[i]? = some y → ∃ z : Slot, l[i]? = some z ∧ z.word = y.word := by
    intro i y hy
    have e := congrArg (·[i]?) hw
    simp only [List.getElem?_map, hy] at e
    cases c : l[i]? with
    | none => rw [c] at e; cases e
    | some z => rw [c] at e; exact ⟨z, rfl, Option.some.inj e⟩
  have get' : ∀ (i : Nat) (y : Slot), l[i]? = some y → ∃ z : Slot, l'[i]? = some z ∧ z.word = y.word := by
    intro i y hy
    have e := congrArg (·[i]?) hw
    simp only [List.getElem?_map, hy] at e
    cases c : l'[i]? with
    | none => rw [c] at e; cases e
    | some z => rw [c] at e; exact ⟨z, rfl, (Option.some.inj e).symm⟩
  rintro ⟨h0, h1, ⟨y, hy, ey⟩, h2⟩
  obtain ⟨z, hz, ez⟩ := get' j y hy
  refine ⟨h0, h1, ⟨z, hz, by rw [ez]; exact ey⟩, fun i u a b hu => ?_⟩
  obtain ⟨v, hv, ev⟩ := get i u hu
  rw [← ev]
  exact h2 i v a b hv
end Ooo
namespace Ooo
open Sd48
theorem ins_op (w : Nat) : (ins w).op = w / 2 ^ 24 := rfl
theorem dest_lt (w : Nat) : dest (ins w) < 16 := by
  unfold dest ins
  simp only
  split <;> omega
theorem rd_lt (w : Nat) (b : Bool) : rd (ins w) b < 16 := by
  unfold rd first second ins
  cases b <;> simp only [Bool.false_eq_true, ↓reduceIte] <;> (repeat' split) <;> omega
/-- how it stops whatever the registers hold: told of an instruction at a place -/
def sureOf (prog : List Nat) (pc word : Nat) : Nat := if prog.length ≤ pc then 5 else if (ins word).op = 0 then 1 else if 18 < (ins word).op then 4 else 0
structure WF (prog : List Nat) (x : Slot) : Prop where
  word : x.word < W
  pc : x.pc < W
  val : x.out.value < W
  next : x.out.next < W
  cell : x.out.cell < 1024
  guess : x.last = false → x.guess < W
  gone : x.last = true → x.guess = W
  phase : x.phase ≤ 3
  left : x.phase = 1 → 1 ≤ x.left
  last : x.last = (sureOf prog x.pc x.word != 0 || (ins x.word).op == 18)
  sure : sureOf prog x.pc x.word ≠ 0 → x.phase = 3 ∧ x.out.halt_ = sureOf prog x.pc x.word
  blank : x.phase = 0 → x.out = blankOut ∧ x.left = 0
  beh : prog.length ≤ x.pc → x.word = 0
/-- 1 where the value isn't there yet -/
def pn (s : Arch) (l : List Slot) (r : Nat) : Int := if avail s l r = none then 1 else 0
structure SlotR (m : M) (k : Nat) (x : Slot) (d : SD) : Prop where
  dx : d.x = x
  sure : d.sure = sureOf m.prog x.pc x.word
  ops : ∀ w v, avail m.arch (m.slots.take k) (rd (ins x.word) w) = some v → d.ops w = (v : Int)
  mis : d.missing = pn m.arch (m.slots.take k) (rd (ins x.word) false) + pn m.arch (m.slots.take k) (rd (ins x.word) true)
  guess : x.last = false → d.guess = (x.guess : Int)
  gone : x.last = true → d.sure = 0 → d.guess = -1
  goes0 : x.phase = 0 → d.goes = (((x.pc + 1) % W : Nat) : Int)
  goes : x.phase ≠ 0 → d.sure = 0 → d.goes = (x.out.next : Int)
def freeOf (c : Cfg) (l : List Slot) : List Int := [(units c 1 : Int) - busy 1 l, (units c 2 : Int) - busy 2 l, (units c 3 : Int) - busy 3 l, (units c 4 : Int) - busy 4 l]
structure ArchOk (s : Arch) : Prop where
  regs : s.regs.length = 16
  reg0 : s.regs[0]? = some 0
  regW : ∀ x ∈ s.regs, x < W
  cells : s.cells.length = 1024
  cellW : ∀ x ∈ s.cells, x < W
/-- where it goes on: each slot's guess is the next one's place -/
structure Chain (m : M) (fp : Int) : Prop where
  nx : ∀ k x y, m.slots[k]? = some x → m.slots[k + 1]? = some y → x.last = false ∧ y.pc = x.guess
  hd : ∀ x, m.slots[0]? = some x → m.arch.pc = x.pc
  hd0 : m.slots = [] → m.arch.pc = m.fetchPc
  tl : ∀ x, m.slots.getLast? = some x → x.last = false → m.fetchPc = x.guess
  fp : (∀ x, m.slots.getLast? = some x → x.last = false) → fp = (m.fetchPc : Int) ∧ m.fetchPc < W
structure R (C : CS) : Prop where
  len : C.q.length = C.m.slots.length
  nd : C.q.Nodup
  at_ : ∀ (k a : Nat) (x : Slot), C.q[k]? = some a → C.m.slots[k]? = some x → ∃ d, C.T a = some d ∧ SlotR C.m k x d
  wf : ∀ x ∈ C.m.slots, WF C.m.prog x
  rds : ∀ (j a : Nat) (x : Slot) (d : SD), C.q[j]? = some a → C.m.slots[j]? = some x → x.phase ≠ 3 → C.T a = some d → (d.rds.map Prod.snd).Nodup ∧ ∀ b w, (b, w) ∈ d.rds.map Prod.snd ↔ ∃ (k : Nat) (y : Slot), C.q[k]? = some b ∧ C.m.slots[k]? = some y ∧ Src C.m.slots k (rd (ins y.word) w) j
  setL : C.set.length = 16
  set0 : C.set[0]? = some none
  set1 : ∀ r j : Nat, Src C.m.slots C.m.slots.length r j → ∃ a, C.q[j]? = some a ∧ C.set[r]? = some (some a)
  set2 : ∀ r a : Nat, (∀ j, ¬ Src C.m.slots C.m.slots.length r j) → C.set[r]? = some (some a) → ∃ d, C.T a = some d ∧ d.x.phase = 3 ∧ d.x.out.value = reg C.m.arch r
  free : C.free = freeOf C.m.cfg C.m.slots
  arch : ArchOk C.m.arch
  table : C.m.table.length = C.m.cfg.table
  tableW : ∀ x ∈ C.m.table, x ≤ 3
  progW : ∀ x ∈ C.m.prog, x < W
  progL : C.m.prog.length ≤ 1024
  room : C.m.slots.length ≤ 64
  roomS : C.m.cfg.slots ≤ 64
  chain : Chain C.m C.fp
theorem words_set {l : List Slot} {k : Nat} {x x' : Slot} (hx : l[k]? = some x) (hw : x'.word = x.word) : (l.set k x').map (·.word) = l.map (·.word) := by
  rw [List.map_set, hw]
  apply List.ext_getElem?
  intro i
  rw [List.getElem?_set]
  split
  · rename_i e
    subst e
    simp [hx]
    exact (List.getElem?_eq_some_iff.mp hx).1
  · rfl
theorem Src.iff {l l' : List Slot} (hw : l.map (·.word) = l'.map (·.word)) {k r j : Nat} : Src l k r j ↔ Src l' k r j := ⟨Src.congr hw, Src.congr hw.symm⟩
/-- what is there hangs on words, on who is done, and on the values of those -/
theorem avail_congr {s : Arch} {l l' : List Slot} (hw : l.map (·.word) = l'.map (·.word)) {k r : Nat} (hp : ∀ (j : Nat) (y y' : Slot), Src l k r j → l[j]? = some y → l'[j]? = some y' → (y.phase = 3 ↔ y'.phase = 3) ∧ (y.phase = 3 → y.out.value = y'.out.value)) :
    avail s (l.take k) r = avail s (l'.take k) r := by
  by_cases h0 : r = 0
  · subst h0
    rw [avail_zero, avail_zero]
  rcases avail_take s l h0 k with ⟨j, y, a, b, c⟩ | ⟨a, c⟩
  · have a' := (Src.iff hw).mp a
    obtain ⟨y', hy', _⟩ := a'.2.2.1
    rw [c, avail_src a' hy']
    obtain ⟨p1, p2⟩ := hp j y y' a b hy'
    by_cases e : y.phase = 3
    · rw [if_pos e, if_pos (p1.mp e), p2 e]
    · rw [if_neg e, if_neg fun z => e (p1.mpr z)]
  · rw [c, avail_reg h0 fun j z => a j ((Src.iff hw).mpr z)]
theorem q_ix {q : List Nat} (h : q.Nodup) {i j a : Nat} (h1 : q[i]? = some a) (h2 : q[j]? = some a) : i = j := by
  obtain ⟨hi, ei⟩ := List.getElem?_eq_some_iff.mp h1
  obtain ⟨hj, ej⟩ := List.getElem?_eq_some_iff.mp h2
  have p := List.pairwise_iff_getElem.mp h
  rcases Nat.lt_trichotomy i j with c | c | c
  · exact absurd (ei.trans ej.symm) (p i j hi hj c)
  · exact c
  · exact absurd (ej.trans ei.symm) (p j i hj hi c)
theorem get_set {l : List Slot} {k j : Nat} {x x' y : Slot} (hx : l[k]? = some x) (h : (l.set k x')[j]? = some y) : (j = k ∧ y = x') ∨ (j ≠ k ∧ l[j]? = some y) := by
  rw [List.getElem?_set] at h
  split at h
  · rename_i e
    subst e
    split at h
    · exact .inl ⟨rfl, (Option.some.inj h).symm⟩
    · cases h
  · rename_i e
    exact .inr ⟨fun z => e z.symm, h⟩
theorem Chain.set {m : M} {fp : Int} (h : Chain m fp) {k : Nat} {x x' : Slot} (hx : m.slots[k]? = some x) (hp : x'.pc = x.pc) (hg : x'.guess = x.guess) (hl : x'.last = x.last) : Chain { m with slots := m.slots.set k x' } fp := by
  have up : ∀ (j : Nat) (y : Slot), (m.slots.set k x')[j]? = some y → ∃ z, m.slots[j]? = some z ∧ y.pc = z.pc ∧ y.guess = z.guess ∧ y.last = z.last := by
    intro j y hy
    rcases get_set hx hy with ⟨rfl, rfl⟩ | ⟨_, e⟩
    · exact ⟨x, hx, hp, hg, hl⟩
    · exact ⟨y, e, rfl, rfl, rfl⟩
  have lst : ∀ y, (m.slots.set k x').getLast? = some y → ∃ z, m.slots.getLast? = some z ∧ y.guess = z.guess ∧ y.last = z.last := by
    intro y hy
    rw [List.getLast?_eq_getElem?] at hy ⊢
    rw [List.length_set] at hy
    obtain ⟨z, a, b, c, d⟩ := up _ _ hy
    exact ⟨z, a, c, d⟩
  constructor
  · intro j y z hy hz
    obtain ⟨y', a1, a2, a3, a4⟩ := up _ _ hy
    obtain ⟨z', b1, b2, b3, b4⟩ := up _ _ hz
    rw [a4, a3, b2]
    exact h.nx j y' z' a1 b1
  · intro y hy
    obtain ⟨y', a1, a2, a3, a4⟩ := up _ _ hy
    rw [a2]
    exact h.hd y' a1
  · intro e
    have : m.slots = [] := by
      have z := congrArg List.length e
      simp at z
      exact z
    exact h.hd0 this
  · intro y hy e
    obtain ⟨z, a, b, c⟩ := lst y hy
    rw [b]
    exact h.tl z a (by rw [← c]; exact e)
  · intro hh
    refine h.fp fun z hz => ?_
    have : ∃ y, (m.slots.set k x').getLast? = some y := by
      rw [List.getLast?_eq_getElem?] at hz ⊢
      rw [List.length_set]
      obtain ⟨q1, q2⟩ := List.getElem?_eq_some_iff.mp hz
      exact ⟨_, List.getElem?_eq_getElem (by rw [List.length_set]; exact q1)⟩
    obtain ⟨y, hy⟩ := this
    obtain ⟨z', a, b, c⟩ := lst y hy
    rw [a] at hz; cases hz
    rw [← c]
    exact hh y hy
/-- a slot that isn't done turns, and isn't done yet -/
theorem R.soft {C : CS} (h : R C) {k a : Nat} {x x' : Slot} {d d' : SD} {fr : List Int} (hq : C.q[k]? = some a) (hx : C.m.slots[k]? = some x) (hd : C.T a = some d)
    (e0 : d'.x = x') (e1 : d'.sure = d.sure) (e2 : d'.ops = d.ops) (e3 : d'.missing = d.missing) (e4 : d'.rds = d.rds) (e5 : d'.guess = d.guess)
    (hw : x'.word = x.word) (hp : x'.pc = x.pc) (hg : x'.guess = x.guess) (hl : x'.last = x.last) (n : x.phase ≠ 3) (n' : x'.phase ≠ 3) (wf : WF C.m.prog x')
    (g0 : x'.phase = 0 → d'.goes = (((x'.pc + 1) % W : Nat) : Int)) (g1 : x'.phase ≠ 0 → d'.sure = 0 → d'.goes = (x'.out.next : Int)) (hf : fr = freeOf C.m.cfg (C.m.slots.set k x')) :
    R { C with m := { C.m with slots := C.m.slots.set k x' }, T := updT C.T a d', free := fr } := by
  have W1 := words_set hx hw
  have av : ∀ (j : Nat) (r : Nat), avail C.m.arch ((C.m.slots.set k x').take j) r = avail C.m.arch (C.m.slots.take j) r := by
    intro j r
    refine avail_congr W1 fun i y y' _ hy hy' => ?_
    rcases get_set hx hy with ⟨rfl, rfl⟩ | ⟨_, e⟩
    · rw [hx] at hy'; cases hy'
      exact ⟨⟨fun z => absurd z n', fun z => absurd z n⟩, fun z => absurd z n'⟩
    · rw [e] at hy'; cases hy'
      exact ⟨Iff.rfl, fun _ => rfl⟩
  have src : ∀ {j r i : Nat}, Src (C.m.slots.set k x') j r i ↔ Src C.m.slots j r i := Src.iff W1
  have L : (C.m.slots.set k x').length = C.m.slots.length := List.length_set
  constructor
  · simpa using h.len
  · exact h.nd
  · intro j b y hb hy
    rcases get_set hx hy with ⟨rfl, rfl⟩ | ⟨hjk, hy'⟩
    · have : b = a := Option.some.inj (hb.symm.trans hq)
      subst this
      refine ⟨d', updT_same, ?_⟩
      obtain ⟨d0, hd0, S⟩ := h.at_ j b x hq hx
      rw [hd] at hd0; cases hd0
      refine ⟨e0, by rw [e1, S.sure, hp, hw], ?_, ?_, ?_, ?_, g0, g1⟩
      · intro w v hv
        have hv' : avail C.m.arch ((C.m.slots.set j y).take j) (rd (ins y.word) w) = some v := hv
        rw [av, hw] at hv'
        rw [e2]
        exact S.ops w v hv'
      · show d'.missing = pn C.m.arch ((C.m.slots.set j y).take j) (rd (ins y.word) false) + pn C.m.arch ((C.m.slots.set j y).take j) (rd (ins y.word) true)
        unfold pn
        rw [av, av, hw, e3]
        exact S.mis
      · intro z
        rw [e5, hg]
        exact S.guess (by rw [← hl]; exact z)
      · intro z1 z2
        rw [e5]
        exact S.gone (by rw [← hl]; exact z1) (by rw [← e1]; exact z2)
    · have hba : b ≠ a := fun z => hjk (q_ix h.nd hb (by rw [z]; exact hq))
      obtain ⟨d0, hd0, S⟩ := h.at_ j b y hb hy'
      refine ⟨d0, (updT_ne hba).trans hd0, S.dx, S.sure, ?_, ?_, S.guess, S.gone, S.goes0, S.goes⟩
      · intro w v hv
        have hv' : avail C.m.arch ((C.m.slots.set k x').take j) (rd (ins y.word) w) = some v := hv
        rw [av] at hv'
        exact S.ops w v hv'
      · show d0.missing = pn C.m.arch ((C.m.slots.set k x').take j) (rd (ins y.word) false) + pn C.m.arch ((C.m.slots.set k x').take j) (rd (ins y.word) true)
        unfold pn
        rw [av, av]
        exact S.mis
  · intro y hy
    have hy2 : y ∈ C.m.slots.set k x' := hy
    rcases List.mem_or_eq_of_mem_set hy2 with z | z
    · exact h.wf y z
    · subst z
      exact wf
  · intro j b y e hb hy n3 he
    have key : ∀ (d1 : SD) (y1 : Slot), C.m.slots[j]? = some y1 → y1.phase ≠ 3 → C.T b = some d1 → (d1.rds.map Prod.snd).Nodup ∧ ∀ b' w, (b', w) ∈ d1.rds.map Prod.snd ↔ ∃ (i : Nat) (z : Slot), C.q[i]? = some b' ∧ (C.m.slots.set k x')[i]? = some z ∧ Src (C.m.slots.set k x') i (rd (ins z.word) w) j := by
      intro d1 y1 hy1 n1 hd1
      obtain ⟨u1, u2⟩ := h.rds j b y1 d1 hb hy1 n1 hd1
      refine ⟨u1, fun b' w => (u2 b' w).trans ?_⟩
      constructor
      · rintro ⟨i, z, q1, q2, q3⟩
        by_cases c : i = k
        · subst c
          rw [hx] at q2; cases q2
          refine ⟨i, x', q1, ?_, src.mpr (by rw [hw]; exact q3)⟩
          rw [List.getElem?_set_self]
          exact (List.getElem?_eq_some_iff.mp hx).1
        · exact ⟨i, z, q1, by rw [List.getElem?_set_ne fun z => c z.symm]; exact q2, src.mpr q3⟩
      · rintro ⟨i, z, q1, q2, q3⟩
        rcases get_set hx q2 with ⟨rfl, rfl⟩ | ⟨c, q2⟩
        · exact ⟨i, x, q1, hx, by rw [← hw]; exact src.mp q3⟩
        · exact ⟨i, z, q1, q2, src.mp q3⟩
    have he' : updT C.T a d' b = some e := he
    rcases get_set hx hy with ⟨rfl, rfl⟩ | ⟨hjk, hy'⟩
    · have : b = a := Option.some.inj (hb.symm.trans hq)
      subst this
      rw [updT_same] at he'; cases he'
      rw [e4]
      exact key d x hx n hd
    · have hba : b ≠ a := fun z => hjk (q_ix h.nd hb (by rw [z]; exact hq))
      rw [updT_ne hba] at he'
      exact key e y hy' n3 he'
  · exact h.setL
  · exact h.set0
  · intro r j hs
    have hs' : Src (C.m.slots.set k x') (C.m.slots.set k x').length r j := hs
    rw [L] at hs'
    exact h.set1 r j (src.mp hs')
  · intro r b hs hb
    have hs' : ∀ j, ¬ Src (C.m.slots.set k x') (C.m.slots.set k x').length r j := hs
    obtain ⟨e, he, h3, hv⟩ := h.set2 r b (fun j z => hs' j (by rw [L]; exact src.mpr z)) hb
    have hba : b ≠ a := by
      intro z
      subst z
      rw [hd] at he; cases he
      obtain ⟨d0, hd0, S⟩ := h.at_ k b x hq hx
      rw [hd] at hd0; cases hd0
      rw [S.dx] at h3
      exact n h3
    exact ⟨e, (updT_ne hba).trans he, h3, hv⟩
  · exact hf
  · exact h.arch
  · exact h.table
  · exact h.tableW
  · exact h.progW
  · exact h.progL
  · show (C.m.slots.set k x').length ≤ 64
    rw [L]; exact h.room
  · exact h.roomS
  · exact h.chain.set hx hp hg hl
end Ooo
namespace Ooo
open Sd48
/-- what a slot is handed: the value, at the places that L names -/
def passE (val : Int) (L : List (Nat × Bool)) (b : Nat) (e : SD) : SD := { e with ops := fun w => if (b, w) ∈ L then val else e.ops w, missing := e.missing - (L.count (b, false) : Nat) - (L.count (b, true) : Nat) }
theorem count_nd {α : Type} [BEq α] [LawfulBEq α] [DecidableEq α] {l : List α} (h : l.Nodup) (a : α) : l.count a = if a ∈ l then 1 else 0 := by
  rw [List.Nodup.count h]
theorem R.done {C : CS} (h : R C) {k a : Nat} {x : Slot} {d : SD} {T' : Nat → Option SD} {fr : List Int} {ra' : Nat} (hq : C.q[k]? = some a) (hx : C.m.slots[k]? = some x) (hd : C.T a = some d) (ph : x.phase = 2)
    (hT : ∀ b e, b ≠ a → C.T b = some e → T' b = some (passE x.out.value (d.rds.map Prod.snd) b e))
    (hTa : T' a = some { d with ra := ra', x := { x with phase := 3 }, rds := [] }) (hf : fr = freeOf C.m.cfg (C.m.slots.set k { x with phase := 3 })) :
    R { C with m := { C.m with slots := C.m.slots.set k { x with phase := 3 } }, T := T', free := fr } := by
  have W1 : (C.m.slots.set k { x with phase := 3 }).map (·.word) = C.m.slots.map (·.word) := words_set hx rfl
  have src : ∀ {j r i : Nat}, Src (C.m.slots.set k { x with phase := 3 }) j r i ↔ Src C.m.slots j r i := Src.iff W1
  have L : (C.m.slots.set k { x with phase := 3 }).length = C.m.slots.length := List.length_set
  have hk : k < C.m.slots.length := (List.getElem?_eq_some_iff.mp hx).1
  have at_k : (C.m.slots.set k { x with phase := 3 })[k]? = some { x with phase := 3 } := by rw [List.getElem?_set_self hk]
  obtain ⟨nL, mL⟩ := h.rds k a x d hq hx (by omega) hd
  -- what is there now
  have avN : ∀ (j r : Nat), Src C.m.slots j r k → avail C.m.arch ((C.m.slots.set k { x with phase := 3 }).take j) r = some x.out.value := by
    intro j r s
    rw [avail_src (src.mpr s) at_k]
    exact if_pos rfl
  have avO : ∀ (j r : Nat), ¬ Src C.m.slots j r k → avail C.m.arch ((C.m.slots.set k { x with phase := 3 }).take j) r = avail C.m.arch (C.m.slots.take j) r := by
    intro j r s
    refine avail_congr W1 fun i y y' si hy hy' => ?_
    rcases get_set hx hy with ⟨rfl, rfl⟩ | ⟨_, e⟩
    · exact absurd (src.mp si) s
    · rw [e] at hy'; cases hy'
      exact ⟨Iff.rfl, fun _ => rfl⟩
  have avB : ∀ (j r : Nat), Src C.m.slots j r k → avail C.m.arch (C.m.slots.take j) r = none := by
    intro j r s
    rw [avail_src s hx]
    exact if_neg (by omega)
  have memL : ∀ (j b : Nat) (y : Slot) (w : Bool), C.q[j]? = some b → C.m.slots[j]? = some y → ((b, w) ∈ d.rds.map Prod.snd ↔ Src C.m.slots j (rd (ins y.word) w) k) := by
    intro j b y w hb hy
    rw [mL b w]
    constructor
    · rintro ⟨i, z, q1, q2, q3⟩
      have : i = j := q_ix h.nd q1 hb
      subst this
      rw [hy] at q2; cases q2
      exact q3
    · intro s
      exact ⟨j, y, hb, hy, s⟩
  constructor
  · simpa using h.len
  · exact h.nd
  · intro j b y hb hy
    rcases get_set hx hy with ⟨rfl, rfl⟩ | ⟨hjk, hy'⟩
    · have : b = a := Option.some.inj (hb.symm.trans hq)
      subst this
      obtain ⟨d0, hd0, S⟩ := h.at_ j b x hq hx
      rw [hd] at hd0; cases hd0
      have no : ∀ r, ¬ Src C.m.slots j r j := fun r z => by have := z.2.1; omega
      refine ⟨_, hTa, rfl, S.sure, ?_, ?_, S.guess, S.gone, fun z => absurd (show (3 : Nat) = 0 from z) (by decide), fun _ z => S.goes (by omega) z⟩
      · intro w v hv
        have hv' : avail C.m.arch ((C.m.slots.set j { x with phase := 3 }).take j) (rd (ins x.word) w) = some v := hv
        rw [avO _ _ (no _)] at hv'
        exact S.ops w v hv'
      · show d.missing = pn C.m.arch ((C.m.slots.set j { x with phase := 3 }).take j) (rd (ins x.word) false) + pn C.m.arch ((C.m.slots.set j { x with phase := 3 }).take j) (rd (ins x.word) true)
        unfold pn
        rw [avO _ _ (no _), avO _ _ (no _)]
        exact S.mis
    · have hba : b ≠ a := fun z => hjk (q_ix h.nd hb (by rw [z]; exact hq))
      obtain ⟨d0, hd0, S⟩ := h.at_ j b y hb hy'
      have one : ∀ w, pn C.m.arch ((C.m.slots.set k { x with phase := 3 }).take j) (rd (ins y.word) w) = pn C.m.arch (C.m.slots.take j) (rd (ins y.word) w) - ((d.rds.map Prod.snd).count (b, w) : Nat) := by
        intro w
        rw [count_nd nL]
        unfold pn
        by_cases s : Src C.m.slots j (rd (ins y.word) w) k
        · rw [avN _ _ s, avB _ _ s, if_pos ((memL j b y w hb hy').mpr s)]
          simp
        · rw [avO _ _ s, if_neg fun z => s ((memL j b y w hb hy').mp z)]
          simp
      refine ⟨_, hT b d0 hba hd0, S.dx, S.sure, ?_, ?_, S.guess, S.gone, S.goes0, S.goes⟩
      · intro w v hv
        have hv' : avail C.m.arch ((C.m.slots.set k { x with phase := 3 }).take j) (rd (ins y.word) w) = some v := hv
        show (if (b, w) ∈ d.rds.map Prod.snd then ((x.out.value : Nat) : Int) else d0.ops w) = _
        by_cases s : Src C.m.slots j (rd (ins y.word) w) k
        · rw [avN _ _ s] at hv'; cases hv'
          rw [if_pos ((memL j b y w hb hy').mpr s)]
        · rw [avO _ _ s] at hv'
          rw [if_neg fun z => s ((memL j b y w hb hy').mp z)]
          exact S.ops w v hv'
      · show d0.missing - ((d.rds.map Prod.snd).count (b, false) : Nat) - ((d.rds.map Prod.snd).count (b, true) : Nat) = pn C.m.arch ((C.m.slots.set k { x with phase := 3 }).take j) (rd (ins y.word) false) + pn C.m.arch ((C.m.slots.set k { x with phase := 3 }).take j) (rd (ins y.word) true)
        rw [one false, one true, S.mis]
        omega
  · intro y hy
    have hy2 : y ∈ C.m.slots.set k { x with phase := 3 } := hy
    rcases List.mem_or_eq_of_mem_set hy2 with z | z
    · exact h.wf y z
    · subst z
      have w := h.wf x (List.mem_of_getElem? hx)
      exact ⟨w.word, w.pc, w.val, w.next, w.cell, w.guess, w.gone, Nat.le_refl _, fun z => absurd (show (3 : Nat) = 1 from z) (by decide), w.last, fun z => ⟨rfl, (w.sure z).2⟩, fun z => absurd (show (3 : Nat) = 0 from z) (by decide), w.beh⟩
  · intro j b y e hb hy n3 he
    have he' : T' b = some e := he
    rcases get_set hx hy with ⟨rfl, rfl⟩ | ⟨hjk, hy'⟩
    · exact absurd rfl n3
    · have hba : b ≠ a := fun z => hjk (q_ix h.nd hb (by rw [z]; exact hq))
      obtain ⟨d0, hd0, S⟩ := h.at_ j b y hb hy'
      rw [hT b d0 hba hd0] at he'; cases he'
      obtain ⟨u1, u2⟩ := h.rds j b y d0 hb hy' n3 hd0
      refine ⟨u1, fun b' w => (u2 b' w).trans ?_⟩
      constructor
      · rintro ⟨i, z, q1, q2, q3⟩
        by_cases c : i = k
        · subst c
          rw [hx] at q2; cases q2
          exact ⟨i, _, q1, at_k, src.mpr q3⟩
        · exact ⟨i, z, q1, (by show (C.m.slots.set k { x with phase := 3 })[i]? = some z; rw [List.getElem?_set_ne fun z => c z.symm]; exact q2), src.mpr q3⟩
      · rintro ⟨i, z, q1, q2, q3⟩
        rcases get_set hx q2 with ⟨rfl, rfl⟩ | ⟨c, q2⟩
        · exact ⟨i, x, q1, hx, src.mp q3⟩
        · exact ⟨i, z, q1, q2, src.mp q3⟩
  · exact h.setL
  · exact h.set0
  · intro r j hs
    have hs' : Src (C.m.slots.set k { x with phase := 3 }) (C.m.slots.set k { x with phase := 3 }).length r j := hs
    rw [L] at hs'
    exact h.set1 r j (src.mp hs')
  · intro r b hs hb
    have hs' : ∀ j, ¬ Src (C.m.slots.set k { x with phase := 3 }) (C.m.slots.set k { x with phase := 3 }).length r j := hs
    obtain ⟨e, he, h3, hv⟩ := h.set2 r b (fun j z => hs' j (by rw [L]; exact src.mpr z)) hb
    have hba : b ≠ a := by
      intro z
      subst z
      rw [hd] at he; cases he
      obtain ⟨d0, hd0, S⟩ := h.at_ k b x hq hx
      rw [hd] at hd0; cases hd0
      rw [S.dx] at h3
      omega
    exact ⟨_, hT b e hba he, h3, hv⟩
  · exact hf
  · exact h.arch
  · exact h.table
  · exact h.tableW
  · exact h.progW
  · exact h.progL
  · show (C.m.slots.set k { x with phase := 3 }).length ≤ 64
    rw [L]; exact h.room
  · exact h.roomS
  · exact h.chain.set hx rfl rfl rfl
theorem reg_done {x : Slot} {s : Arch} (ok : ArchOk s) {r : Nat} (h0 : r ≠ 0) : reg (Sd48.done (ins x.word) x.out s) r = if dest (ins x.word) = r then x.out.value else reg s r := by
  unfold reg
  rw [if_neg h0, if_neg h0]
  unfold Sd48.done
  simp only
  have l := dest_lt x.word
  have r16 := ok.regs
  by_cases c : dest (ins x.word) = r
  · rw [if_pos c, if_neg (by omega), c, List.getD_eq_getElem?_getD, List.getElem?_set_self (by omega)]
    rfl
  · rw [if_neg c]
    split
    · rfl
    · rw [List.getD_eq_getElem?_getD, List.getElem?_set_ne c, List.getD_eq_getElem?_getD]
theorem ArchOk.done {x : Slot} {s : Arch} {prog : List Nat} (ok : ArchOk s) (wf : WF prog x) : ArchOk (Sd48.done (ins x.word) x.out s) := by
  unfold Sd48.done
  constructor
  · show (if dest (ins x.word) = 0 then s.regs else s.regs.set (dest (ins x.word)) x.out.value).length = 16
    split
    · exact ok.regs
    · rw [List.length_set]; exact ok.regs
  · show (if dest (ins x.word) = 0 then s.regs else s.regs.set (dest (ins x.word)) x.out.value)[0]? = some 0
    split
    · exact ok.reg0
    · rename_i c
      rw [List.getElem?_set_ne c]; exact ok.reg0
  · intro y hy
    have hy' : y ∈ (if dest (ins x.word) = 0 then s.regs else s.regs.set (dest (ins x.word)) x.out.value) := hy
    split at hy'
    · exact ok.regW y hy'
    · rcases List.mem_or_eq_of_mem_set hy' with z | z
      · exact ok.regW y z
      · rw [z]; exact wf.val
  · show (if (ins x.word).op = 13 then s.cells.set x.out.cell x.out.value else s.cells).length = 1024
    split
    · rw [List.length_set]; exact ok.cells
    · exact ok.cells
  · intro y hy
    have hy' : y ∈ (if (ins x.word).op = 13 then s.cells.set x.out.cell x.out.value else s.cells) := hy
    split at hy'
    · rcases List.mem_or_eq_of_mem_set hy' with z | z
      · exact ok.cellW y z
      · rw [z]; exact wf.val
    · exact ok.cellW y hy'
theorem src_cons {x : Slot} {l : List Slot} {k r j : Nat} : Src (x :: l) (k + 1) r (j + 1) ↔ Src l k r j := by
  unfold Src
  constructor
  · rintro ⟨h0, h1, ⟨y, hy, ey⟩, h2⟩
    exact ⟨h0, by omega, ⟨y, by simpa using hy, ey⟩, fun i z a b hz => h2 (i + 1) z (by omega) (by omega) (by simpa using hz)⟩
  · rintro ⟨h0, h1, ⟨y, hy, ey⟩, h2⟩
    refine ⟨h0, by omega, ⟨y, by simpa using hy, ey⟩, fun i z a b hz => ?_⟩
    match i, hz with
    | 0, _ => omega
    | i + 1, hz => exact h2 i z (by omega) (by omega) (by simpa using hz)
/-- the first leaves, and what it set is in the registers: all values stay -/
theorem avail_leave {x : Slot} {s : Arch} (ok : ArchOk s) (ph : x.phase = 3) (l : List Slot) (k r : Nat) : avail (Sd48.done (ins x.word) x.out s) (l.take k) r = avail s ((x :: l).take (k + 1)) r := by
  by_cases h0 : r = 0
  · subst h0
    rw [avail_zero, avail_zero]
  rcases avail_take (Sd48.done (ins x.word) x.out s) l h0 k with ⟨j, y, a, b, c⟩ | ⟨a, c⟩
  · rw [c, avail_src (src_cons.mpr a) (y := y) (by simpa using b)]
  · rw [c, reg_done ok h0]
    by_cases e : dest (ins x.word) = r
    · have sr : Src (x :: l) (k + 1) r 0 := by
        refine ⟨h0, by omega, ⟨x, rfl, e⟩, fun i z p q hz ez => ?_⟩
        -- some later one sets it: then there is a last one
        have : ∃ j, Src l k r j := by
          rcases avail_take s l h0 k with ⟨j, _, sj, _⟩ | ⟨no, _⟩
          · exact ⟨j, sj⟩
          · exfalso
            have key : ∀ n i, i < k → k - i ≤ n → ∀ z, l[i]? = some z → dest (ins z.word) = r → False := by
              intro n
              induction n with
              | zero => intro i hi hn; omega
              | succ n ih =>
                intro i hi hn z hz ez
                refine no i ⟨h0, hi, ⟨z, hz, ez⟩, fun i' z' p' q' hz' ez' => ih i' q' (by omega) z' hz' ez'⟩
            match i, p, q, hz with
            | i + 1, p, q, hz => exact key k i (by omega) (by omega) z (by simpa using hz) ez
        obtain ⟨j, sj⟩ := this
        exact a j sj
      rw [if_pos e, avail_src sr (y := x) rfl, if_pos ph]
    · rw [if_neg e]
      refine (avail_reg h0 fun j sj => ?_).symm
      match j, sj with
      | 0, sj =>
        obtain ⟨y, hy, ey⟩ := sj.2.2.1
        have : x = y := by simpa using hy
        subst this
        exact e ey
      | j + 1, sj => exact a j (src_cons.mp sj)
end Ooo
namespace Ooo
open Sd48
theorem busy_cons3 {x : Slot} {l : List Slot} (ph : x.phase = 3 ∨ x.phase = 0) (k : Nat) : busy k (x :: l) = busy k l := by
  unfold busy
  rw [List.filter_cons]
  rcases ph with ph | ph <;> simp [ph]
theorem busy_append (k : Nat) (l l' : List Slot) : busy k (l ++ l') = busy k l + busy k l' := by
  unfold busy
  rw [List.filter_append, List.length_append]
theorem busy_nil (k : Nat) : busy k [] = 0 := rfl
theorem freeOf_cons3 {c : Cfg} {x : Slot} {l : List Slot} (ph : x.phase = 3 ∨ x.phase = 0) : freeOf c (x :: l) = freeOf c l := by
  unfold freeOf
  rw [busy_cons3 ph, busy_cons3 ph, busy_cons3 ph, busy_cons3 ph]
theorem R.leave {C : CS} (h : R C) {a : Nat} {q' : List Nat} {x : Slot} {r : List Slot} (hq : C.q = a :: q') (hs : C.m.slots = x :: r) (ph : x.phase = 3) (hg : x.guess = x.out.next) {t' : List Nat} (ht : t'.length = C.m.cfg.table) (htW : ∀ y ∈ t', y ≤ 3) (n : Nat) :
    R { C with m := { C.m with arch := Sd48.done (ins x.word) x.out C.m.arch, slots := r, retired := n, table := t' }, q := q' } := by
  have wx := h.wf x (by rw [hs]; exact List.mem_cons_self)
  have lst : x.last = false := by
    cases e : x.last with
    | false => rfl
    | true =>
      have := wx.gone e
      have := wx.next
      omega
  have ndq := h.nd
  rw [hq] at ndq
  have nd' := (List.nodup_cons.mp ndq).2
  have gq : ∀ (k b : Nat), q'[k]? = some b → C.q[k + 1]? = some b := fun k b e => by rw [hq]; simpa using e
  have gs : ∀ (k : Nat) (y : Slot), r[k]? = some y → C.m.slots[k + 1]? = some y := fun k y e => by rw [hs]; simpa using e
  have av : ∀ k r', avail (Sd48.done (ins x.word) x.out C.m.arch) (r.take k) r' = avail C.m.arch (C.m.slots.take (k + 1)) r' := fun k r' => by rw [hs]; exact avail_leave h.arch ph r k r'
  have sr : ∀ {k r' j : Nat}, Src r k r' j ↔ Src C.m.slots (k + 1) r' (j + 1) := by
    intro k r' j
    rw [hs]
    exact src_cons.symm
  have L : C.m.slots.length = r.length + 1 := by rw [hs]; rfl
  constructor
  · have := h.len
    rw [hq, hs] at this
    simpa using this
  · exact nd'
  · intro k b y hb hy
    obtain ⟨d, hd, S⟩ := h.at_ (k + 1) b y (gq k b hb) (gs k y hy)
    refine ⟨d, hd, S.dx, S.sure, ?_, ?_, S.guess, S.gone, S.goes0, S.goes⟩
    · intro w v hv
      have hv' : avail (Sd48.done (ins x.word) x.out C.m.arch) (r.take k) (rd (ins y.word) w) = some v := hv
      rw [av] at hv'
      exact S.ops w v hv'
    · show d.missing = pn (Sd48.done (ins x.word) x.out C.m.arch) (r.take k) (rd (ins y.word) false) + pn (Sd48.done (ins x.word) x.out C.m.arch) (r.take k) (rd (ins y.word) true)
      unfold pn
      rw [av, av]
      exact S.mis
  · intro y hy
    exact h.wf y (by rw [hs]; exact List.mem_cons_of_mem _ hy)
  · intro j b y d hb hy n3 hd
    obtain ⟨u1, u2⟩ := h.rds (j + 1) b y d (gq j b hb) (gs j y hy) n3 hd
    refine ⟨u1, fun b' w => (u2 b' w).trans ?_⟩
    constructor
    · rintro ⟨i, z, q1, q2, q3⟩
      match i, q1, q2, q3 with
      | 0, _, _, q3 => have := q3.2.1; omega
      | i + 1, q1, q2, q3 => exact ⟨i, z, by rw [hq] at q1; simpa using q1, (by rw [hs] at q2; simpa using q2), sr.mpr q3⟩
    · rintro ⟨i, z, q1, q2, q3⟩
      exact ⟨i + 1, z, gq i b' q1, gs i z q2, sr.mp q3⟩
  · exact h.setL
  · exact h.set0
  · intro r' j s
    have s' : Src r r.length r' j := s
    have := sr.mp s'
    rw [← L] at this
    obtain ⟨b, q1, q2⟩ := h.set1 r' (j + 1) this
    refine ⟨b, ?_, q2⟩
    rw [hq] at q1
    simpa using q1
  · intro r' b no hb
    have no' : ∀ j, ¬ Src r r.length r' j := no
    have hb' : C.set[r']? = some (some b) := hb
    have r0 : r' ≠ 0 := by
      intro e
      subst e
      rw [h.set0] at hb'; cases hb'
    show ∃ d, C.T b = some d ∧ d.x.phase = 3 ∧ d.x.out.value = reg (Sd48.done (ins x.word) x.out C.m.arch) r'
    rw [reg_done h.arch r0]
    by_cases e : dest (ins x.word) = r'
    · have s0 : Src C.m.slots C.m.slots.length r' 0 := by
        rcases avail_take C.m.arch C.m.slots r0 C.m.slots.length with ⟨j, y, s, _⟩ | ⟨nn, c⟩
        · match j, s with
          | 0, s => exact s
          | j + 1, s => exact absurd (sr.mpr (by rw [← L]; exact s)) (no' j)
        · exfalso
          have := av r.length r'
          rw [← L, c] at this
          rw [avail_reg r0 no', reg_done h.arch r0, if_pos e] at this
          -- a place is the last of those that set it
          have key : ∀ n i, i < C.m.slots.length → C.m.slots.length - i ≤ n → ∀ z, C.m.slots[i]? = some z → dest (ins z.word) = r' → False := by
            intro n
            induction n with
            | zero => intro i hi hn; omega
            | succ n ih =>
              intro i hi hn z hz ez
              exact nn i ⟨r0, hi, ⟨z, hz, ez⟩, fun i' z' p' q' hz' ez' => ih i' q' (by omega) z' hz' ez'⟩
          exact key C.m.slots.length 0 (by omega) (by omega) x (by rw [hs]; rfl) e
      obtain ⟨b', q1, q2⟩ := h.set1 r' 0 s0
      rw [q2] at hb'; cases hb'
      obtain ⟨d, hd, S⟩ := h.at_ 0 b x q1 (by rw [hs]; rfl)
      rw [if_pos e]
      exact ⟨d, hd, by rw [S.dx]; exact ph, by rw [S.dx]⟩
    · rw [if_neg e]
      refine h.set2 r' b (fun j s => ?_) hb'
      match j, s with
      | 0, s =>
        obtain ⟨y, hy, ey⟩ := s.2.2.1
        rw [hs] at hy
        have : x = y := by simpa using hy
        subst this
        exact e ey
      | j + 1, s => exact no' j (sr.mpr (by rw [← L]; exact s))
  · show C.free = freeOf C.m.cfg r
    rw [h.free, hs, freeOf_cons3 (.inl ph)]
  · exact h.arch.done wx
  · exact ht
  · exact htW
  · exact h.progW
  · exact h.progL
  · have := h.room
    show r.length ≤ 64
    omega
  · exact h.roomS
  · have ch := h.chain
    constructor
    · intro k y z hy hz
      exact ch.nx (k + 1) y z (gs k y hy) (gs (k + 1) z hz)
    · intro y hy
      show x.out.next = y.pc
      rw [(ch.nx 0 x y (by rw [hs]; rfl) (gs 0 y hy)).2]
      exact hg.symm
    · intro e
      have e' : r = [] := e
      show x.out.next = C.m.fetchPc
      rw [ch.tl x (by rw [hs, e']; rfl) lst]
      exact hg.symm
    · intro y hy e
      have hy' : r.getLast? = some y := hy
      refine ch.tl y ?_ e
      rw [hs, List.getLast?_cons, hy']
      rfl
    · intro hh
      refine ch.fp fun y hy => ?_
      rw [hs, List.getLast?_cons] at hy
      cases c : r.getLast? with
      | none =>
        rw [c] at hy
        have : x = y := by simpa using hy
        subst this
        exact lst
      | some z =>
        rw [c] at hy
        have : z = y := by simpa using hy
        subst this
        exact hh z c
theorem R.empty {C : CS} (hq : C.q = []) (hs : C.m.slots = []) (hset : C.set = List.replicate 16 none) (hfree : C.free = freeOf C.m.cfg []) (arch : ArchOk C.m.arch) (table : C.m.table.length = C.m.cfg.table) (tableW : ∀ x ∈ C.m.table, x ≤ 3) (progW : ∀ x ∈ C.m.prog, x < W) (progL : C.m.prog.length ≤ 1024) (roomS : C.m.cfg.slots ≤ 64)
    (hpc : C.m.arch.pc = C.m.fetchPc) (hfp : C.fp = (C.m.fetchPc : Int)) (hW : C.m.fetchPc < W) : R C := by
  have no : ∀ k r j, ¬ Src C.m.slots k r j := by
    rintro k r j ⟨_, _, ⟨y, hy, _⟩, _⟩
    rw [hs] at hy
    simp at hy
  constructor
  · rw [hq, hs]; rfl
  · rw [hq]; simp
  · intro k a x h
    rw [hq] at h
    simp at h
  · intro x h
    rw [hs] at h
    simp at h
  · intro k a x d h
    rw [hq] at h
    simp at h
  · rw [hset]; simp
  · rw [hset]; rfl
  · intro r j s
    exact absurd s (no _ _ _)
  · intro r a _ h
    rw [hset, List.getElem?_replicate] at h
    split at h <;> cases h
  · rw [hs]; exact hfree
  · exact arch
  · exact table
  · exact tableW
  · exact progW
  · exact progL
  · rw [hs]; simp
  · exact roomS
  · constructor
    · intro k x y h
      rw [hs] at h
      simp at h
    · intro x h
      rw [hs] at h
      simp at h
    · intro _
      exact hpc
    · intro x h
      rw [hs] at h
      simp at h
    · intro _
      exact ⟨hfp, hW⟩
theorem src_append {l : List Slot} {x : Slot} {k r j : Nat} (hk : k ≤ l.length) : Src (l ++ [x]) k r j ↔ Src l k r j := by
  have g : ∀ i, i < k → (l ++ [x])[i]? = l[i]? := fun i hi => List.getElem?_append_left (by omega)
  unfold Src
  constructor
  · rintro ⟨h0, h1, ⟨y, hy, ey⟩, h2⟩
    exact ⟨h0, h1, ⟨y, by rw [← g j h1]; exact hy, ey⟩, fun i z a b hz => h2 i z a b (by rw [g i b]; exact hz)⟩
  · rintro ⟨h0, h1, ⟨y, hy, ey⟩, h2⟩
    exact ⟨h0, h1, ⟨y, by rw [g j h1]; exact hy, ey⟩, fun i z a b hz => h2 i z a b (by rw [← g i b]; exact hz)⟩
theorem src_last {l : List Slot} {x : Slot} {r j : Nat} : Src (l ++ [x]) (l.length + 1) r j ↔ (r ≠ 0 ∧ dest (ins x.word) = r ∧ j = l.length) ∨ (dest (ins x.word) ≠ r ∧ Src l l.length r j) := by
  have gx : (l ++ [x])[l.length]? = some x := by simp
  have g : ∀ i, i < l.length → (l ++ [x])[i]? = l[i]? := fun i hi => List.getElem?_append_left hi
  constructor
  · rintro ⟨h0, h1, ⟨y, hy, ey⟩, h2⟩
    by_cases c : j = l.length
    · subst c
      rw [gx] at hy; cases hy
      exact .inl ⟨h0, ey, rfl⟩
    · refine .inr ⟨h2 l.length x (by omega) (by omega) gx, h0, by omega, ⟨y, by rw [← g j (by omega)]; exact hy, ey⟩, fun i z a b hz => h2 i z a (by omega) (by rw [g i b]; exact hz)⟩
  · rintro (⟨h0, e, rfl⟩ | ⟨ne, h0, h1, ⟨y, hy, ey⟩, h2⟩)
    · exact ⟨h0, by omega, ⟨x, gx, e⟩, fun i z a b => by omega⟩
    · refine ⟨h0, by omega, ⟨y, by rw [g j h1]; exact hy, ey⟩, fun i z a b hz => ?_⟩
      by_cases c : i = l.length
      · subst c
        rw [gx] at hz; cases hz
        exact ne
      · exact h2 i z a (by omega) (by rw [← g i (by omega)]; exact hz)
/-- the entries that a new slot at a makes with b -/
def nw (C : CS) (x : Slot) (a b : Nat) (w : Bool) : List (Nat × Bool) := if C.set[rd (ins x.word) w]? = some (some b) ∧ avail C.m.arch C.m.slots (rd (ins x.word) w) = none then [(a, w)] else []
theorem R.fetch {C : CS} (h : R C) {a : Nat} {x : Slot} {d : SD} {T' : Nat → Option SD} {st : List (Option Nat)} {fp' : Int} {pc' : Nat} (ha : C.T a = none) (no : ∀ y ∈ C.m.slots, y.last = false) (hroom : C.m.slots.length < 64) (hpc : x.pc = C.m.fetchPc) (wf : WF C.m.prog x) (ph : x.phase = 3 ∨ x.phase = 0)
    (hd : T' a = some d) (S : SlotR C.m C.m.slots.length x d) (hr : d.rds = [])
    (hT : ∀ b e, C.T b = some e → ∃ e', T' b = some e' ∧ e'.x = e.x ∧ e'.sure = e.sure ∧ e'.ops = e.ops ∧ e'.missing = e.missing ∧ e'.guess = e.guess ∧ e'.goes = e.goes ∧ e'.rds.map Prod.snd = e.rds.map Prod.snd ++ (nw C x a b false ++ nw C x a b true))
    (hst : st = if dest (ins x.word) = 0 then C.set else C.set.set (dest (ins x.word)) (some a)) (hpc' : x.last = false → pc' = x.guess ∧ fp' = (x.guess : Int)) :
    R { C with m := { C.m with slots := C.m.slots ++ [x], fetchPc := pc' }, q := C.q ++ [a], T := T', set := st, fp := fp' } := by
  have len := h.len
  have aq : ∀ k : Nat, C.q[k]? ≠ some a := by
    intro k e
    have hk : k < C.m.slots.length := by
      have := (List.getElem?_eq_some_iff.mp e).1
      omega
    obtain ⟨d0, hd0, _⟩ := h.at_ k a _ e (List.getElem?_eq_getElem hk)
    rw [ha] at hd0; cases hd0
  have take_le : ∀ k, k ≤ C.m.slots.length → (C.m.slots ++ [x]).take k = C.m.slots.take k := fun k hk => by rw [List.take_append_of_le_length hk]
  have gq : ∀ (k b : Nat), (C.q ++ [a])[k]? = some b → (k < C.m.slots.length ∧ C.q[k]? = some b) ∨ (k = C.m.slots.length ∧ b = a) := by
    intro k b e
    rw [List.getElem?_append] at e
    split at e
    · exact .inl ⟨by omega, e⟩
    · rename_i c
      have : k - C.q.length = 0 := by
        have := (List.getElem?_eq_some_iff.mp e).1
        simp at this
        omega
      rw [this] at e
      simp at e
      exact .inr ⟨by omega, e.symm⟩
  have gs : ∀ (k : Nat) (y : Slot), (C.m.slots ++ [x])[k]? = some y → (k < C.m.slots.length ∧ C.m.slots[k]? = some y) ∨ (k = C.m.slots.length ∧ y = x) := by
    intro k b e
    rw [List.getElem?_append] at e
    split at e
    · rename_i c
      exact .inl ⟨c, e⟩
    · rename_i c
      have : k - C.m.slots.length = 0 := by
        have := (List.getElem?_eq_some_iff.mp e).1
        simp at this
        omega
      rw [this] at e
      simp at e
      exact .inr ⟨by omega, e.symm⟩
  have bq : ∀ (k b : Nat), C.q[k]? = some b → (C.q ++ [a])[k]? = some b := fun k b e => by
    rw [List.getElem?_append_left (List.getElem?_eq_some_iff.mp e).1]; exact e
  have bs : ∀ (k : Nat) (y : Slot), C.m.slots[k]? = some y → (C.m.slots ++ [x])[k]? = some y := fun k b e => by
    rw [List.getElem?_append_left (List.getElem?_eq_some_iff.mp e).1]; exact e
  have dl := dest_lt x.word
  have sl := h.setL
  have chlast : ∀ y, C.m.slots.getLast? = some y → y.last = false := fun y hy => no y (List.mem_of_getLast? hy)
  constructor
  · show (C.q ++ [a]).length = (C.m.slots ++ [x]).length
    simp [len]
  · show (C.q ++ [a]).Nodup
    rw [List.nodup_append]
    refine ⟨h.nd, by simp, fun y hy z hz => ?_⟩
    obtain ⟨k, hk⟩ := List.getElem?_of_mem hy
    intro e
    rw [List.mem_singleton] at hz
    rw [e, hz] at hk
    exact aq k hk
  · intro k b y hb hy
    rcases gq k b hb with ⟨lk, hb⟩ | ⟨ek, rfl⟩
    · rcases gs k y hy with ⟨_, hy⟩ | ⟨c, _⟩
      · obtain ⟨e, he, S'⟩ := h.at_ k b y hb hy
        obtain ⟨e', t1, t2, t3, t4, t5, t6, t7, _⟩ := hT b e he
        refine ⟨e', t1, t2.trans S'.dx, t3.trans S'.sure, ?_, ?_, fun z => t6.trans (S'.guess z), fun z z2 => t6.trans (S'.gone z (by rw [← t3]; exact z2)), fun z => t7.trans (S'.goes0 z), fun z z2 => t7.trans (S'.goes z (by rw [← t3]; exact z2))⟩
        · intro w v hv
          have hv' : avail C.m.arch ((C.m.slots ++ [x]).take k) (rd (ins y.word) w) = some v := hv
          rw [take_le k (by omega)] at hv'
          rw [t4]
          exact S'.ops w v hv'
        · show e'.missing = pn C.m.arch ((C.m.slots ++ [x]).take k) (rd (ins y.word) false) + pn C.m.arch ((C.m.slots ++ [x]).take k) (rd (ins y.word) true)
          rw [take_le k (by omega), t5]
          exact S'.mis
      · omega
    · rcases gs k y hy with ⟨c, _⟩ | ⟨_, rfl⟩
      · omega
      · subst ek
        refine ⟨d, hd, S.dx, S.sure, ?_, ?_, S.guess, S.gone, S.goes0, S.goes⟩
        · intro w v hv
          have hv' : avail C.m.arch ((C.m.slots ++ [y]).take C.m.slots.length) (rd (ins y.word) w) = some v := hv
          rw [take_le _ (Nat.le_refl _)] at hv'
          exact S.ops w v hv'
        · show d.missing = pn C.m.arch ((C.m.slots ++ [y]).take C.m.slots.length) (rd (ins y.word) false) + pn C.m.arch ((C.m.slots ++ [y]).take C.m.slots.length) (rd (ins y.word) true)
          rw [take_le _ (Nat.le_refl _)]
          exact S.mis
  · intro y hy
    have hy' : y ∈ C.m.slots ++ [x] := hy
    rcases List.mem_append.mp hy' with z | z
    · exact h.wf y z
    · rw [List.mem_singleton] at z
      subst z
      exact wf
  · intro j b y e hb hy n3 he
    rcases gq j b hb with ⟨lk, hb0⟩ | ⟨ek, rfl⟩
    · rcases gs j y hy with ⟨_, hy0⟩ | ⟨c, _⟩
      · obtain ⟨e0, he0, S'⟩ := h.at_ j b y hb0 hy0
        obtain ⟨e', t1, _, _, _, _, _, _, t8⟩ := hT b e0 he0
        have : e' = e := Option.some.inj (t1.symm.trans he)
        subst this
        obtain ⟨u1, u2⟩ := h.rds j b y e0 hb0 hy0 n3 he0
        rw [t8]
        have mem_nw : ∀ b' w w', (b', w) ∈ nw C x a b w' ↔ b' = a ∧ w = w' ∧ Src C.m.slots C.m.slots.length (rd (ins x.word) w) j := by
          intro b' w w'
          unfold nw
          constructor
          · intro hm
            split at hm
            · rename_i c
              rw [List.mem_singleton] at hm
              cases hm
              refine ⟨rfl, rfl, ?_⟩
              have c2 := c.2
              rw [← List.take_length (l := C.m.slots)] at c2
              obtain ⟨i, z, s1, s2, s3⟩ := avail_none c2
              obtain ⟨b2, v1, v2⟩ := h.set1 _ i s1
              rw [c.1] at v2
              cases v2
              have : i = j := q_ix h.nd v1 hb0
              subst this
              exact s1
            · simp at hm
          · rintro ⟨rfl, rfl, s⟩
            obtain ⟨b2, v1, v2⟩ := h.set1 _ j s
            have : b2 = b := Option.some.inj (v1.symm.trans hb0)
            subst this
            have av : avail C.m.arch C.m.slots (rd (ins x.word) w) = none := by
              have z := avail_src (s := C.m.arch) s hy0
              rw [List.take_length] at z
              rw [z, if_neg n3]
            rw [if_pos ⟨v2, av⟩]
            exact List.mem_singleton.mpr rfl
        have old : ∀ b' w, (b', w) ∈ e0.rds.map Prod.snd → b' ≠ a := by
          intro b' w hm e
          obtain ⟨k, _, q1, _⟩ := (u2 b' w).mp hm
          rw [e] at q1
          exact aq k q1
        have nwN : ∀ w, (nw C x a b w).Nodup := by
          intro w
          unfold nw
          split <;> simp
        refine ⟨?_, fun b' w => ?_⟩
        · rw [List.nodup_append]
          refine ⟨u1, ?_, ?_⟩
          · rw [List.nodup_append]
            refine ⟨nwN _, nwN _, ?_⟩
            rintro ⟨b1, w1⟩ m1 ⟨b2, w2⟩ m2 e
            have z1 := ((mem_nw _ _ _).mp m1).2.1
            have z2 := ((mem_nw _ _ _).mp m2).2.1
            cases e
            rw [z1] at z2
            cases z2
          · rintro ⟨b1, w1⟩ m1 ⟨b2, w2⟩ m2 e
            have z1 := old _ _ m1
            have z2 : b2 = a := by
              rcases List.mem_append.mp m2 with z | z
              · exact ((mem_nw _ _ _).mp z).1
              · exact ((mem_nw _ _ _).mp z).1
            cases e
            exact z1 z2
        · rw [List.mem_append, List.mem_append, u2 b' w, mem_nw, mem_nw]
          constructor
          · rintro (⟨k, z, q1, q2, q3⟩ | ⟨rfl, rfl, s⟩ | ⟨rfl, rfl, s⟩)
            · have lk : k < C.m.slots.length := (List.getElem?_eq_some_iff.mp q2).1
              exact ⟨k, z, bq k b' q1, bs k z q2, (src_append (by omega)).mpr q3⟩
            · exact ⟨C.m.slots.length, x, by rw [← len]; simp, by simp, (src_append (Nat.le_refl _)).mpr s⟩
            · exact ⟨C.m.slots.length, x, by rw [← len]; simp, by simp, (src_append (Nat.le_refl _)).mpr s⟩
          · rintro ⟨k, z, q1, q2, q3⟩
            rcases gq k b' q1 with ⟨lk, q1⟩ | ⟨ek, rfl⟩
            · rcases gs k z q2 with ⟨_, q2⟩ | ⟨c, _⟩
              · exact .inl ⟨k, z, q1, q2, (src_append (by omega)).mp q3⟩
              · omega
            · rcases gs k z q2 with ⟨c, _⟩ | ⟨_, rfl⟩
              · omega
              · subst ek
                have s := (src_append (Nat.le_refl _)).mp q3
                cases w
                · exact .inr (.inl ⟨rfl, rfl, s⟩)
                · exact .inr (.inr ⟨rfl, rfl, s⟩)
      · omega
    · rcases gs j y hy with ⟨c, _⟩ | ⟨_, rfl⟩
      · omega
      · have : d = e := Option.some.inj (hd.symm.trans he)
        subst this
        rw [hr]
        refine ⟨by simp, fun b' w => ⟨fun z => by simp at z, ?_⟩⟩
        rintro ⟨k, z, q1, q2, q3⟩
        have lk : k < C.m.slots.length + 1 := by
          have := (List.getElem?_eq_some_iff.mp q2).1
          simpa using this
        have := q3.2.1
        omega
  · show st.length = 16
    rw [hst]
    split
    · exact sl
    · rw [List.length_set]; exact sl
  · show st[0]? = some none
    rw [hst]
    split
    · exact h.set0
    · rename_i c
      rw [List.getElem?_set_ne c]; exact h.set0
  · intro r j s
    have s' : Src (C.m.slots ++ [x]) (C.m.slots.length + 1) r j := by simpa using s
    show ∃ b, (C.q ++ [a])[j]? = some b ∧ st[r]? = some (some b)
    rcases src_last.mp s' with ⟨r0, e, rfl⟩ | ⟨ne, s2⟩
    · refine ⟨a, by rw [← len]; simp, ?_⟩
      rw [hst, if_neg (by omega), e, List.getElem?_set_self (by omega)]
    · obtain ⟨b, v1, v2⟩ := h.set1 r j s2
      refine ⟨b, bq j b v1, ?_⟩
      rw [hst]
      split
      · exact v2
      · rw [List.getElem?_set_ne ne]; exact v2
  · intro r b hs hb
    have hs' : ∀ j, ¬ Src (C.m.slots ++ [x]) (C.m.slots.length + 1) r j := fun j z => hs j (by simpa using z)
    have hb' : st[r]? = some (some b) := hb
    rw [hst] at hb'
    have r0 : r ≠ 0 := by
      intro e
      subst e
      split at hb'
      · rw [h.set0] at hb'; cases hb'
      · rename_i c
        rw [List.getElem?_set_ne c, h.set0] at hb'; cases hb'
    have ne : dest (ins x.word) ≠ r := fun e => hs' C.m.slots.length (src_last.mpr (.inl ⟨r0, e, rfl⟩))
    have hb2 : C.set[r]? = some (some b) := by
      split at hb'
      · exact hb'
      · rw [List.getElem?_set_ne ne] at hb'; exact hb'
    obtain ⟨e, he, p3, hv⟩ := h.set2 r b (fun j z => hs' j (src_last.mpr (.inr ⟨ne, z⟩))) hb2
    obtain ⟨e', t1, t2, _⟩ := hT b e he
    exact ⟨e', t1, by rw [t2]; exact p3, by rw [t2]; exact hv⟩
  · show C.free = freeOf C.m.cfg (C.m.slots ++ [x])
    rw [h.free]
    unfold freeOf
    simp only [busy_append]
    have z : ∀ k, busy k [x] = 0 := fun k => by rw [busy_cons3 ph, busy_nil]
    rw [z, z, z, z]
    rfl
  · exact h.arch
  · exact h.table
  · exact h.tableW
  · exact h.progW
  · exact h.progL
  · show (C.m.slots ++ [x]).length ≤ 64
    simp
    omega
  · exact h.roomS
  · have ch := h.chain
    constructor
    · intro k y z hy hz
      rcases gs k y hy with ⟨c1, hy0⟩ | ⟨c1, rfl⟩
      · rcases gs (k + 1) z hz with ⟨c2, hz0⟩ | ⟨c2, rfl⟩
        · exact ch.nx k y z hy0 hz0
        · have hl : C.m.slots.getLast? = some y := by
            rw [List.getLast?_eq_getElem?, ← c2]
            simpa using hy0
          exact ⟨chlast y hl, by rw [hpc]; exact ch.tl y hl (chlast y hl)⟩
      · rcases gs (k + 1) z hz with ⟨c2, _⟩ | ⟨c2, _⟩ <;> omega
    · intro y hy
      show C.m.arch.pc = y.pc
      rcases gs 0 y hy with ⟨c1, hy⟩ | ⟨c1, rfl⟩
      · exact ch.hd y hy
      · have : C.m.slots = [] := List.eq_nil_of_length_eq_zero c1.symm
        rw [hpc]
        exact ch.hd0 this
    · intro e
      have e' : C.m.slots ++ [x] = [] := e
      simp at e'
    · intro y hy
      have hy' : (C.m.slots ++ [x]).getLast? = some y := hy
      have : x = y := by simpa using hy'
      subst this
      intro l
      exact (hpc' l).1
    · intro hh
      have l : x.last = false := hh x (by simp)
      refine ⟨?_, ?_⟩
      · show fp' = (pc' : Int)
        rw [(hpc' l).1, (hpc' l).2]
      · show pc' < W
        rw [(hpc' l).1]
        exact wf.guess l
end Ooo
namespace Ooo
open Sd48
/-- those that run run on, and the first n that have run are done: in one walk -/
def runOn : Nat → List Slot → List Slot
  | _, [] => []
  | n, x :: r => if (ticked x).phase = 2 ∧ 0 < n then { ticked x with phase := 3 } :: runOn (n - 1) r else ticked x :: runOn n r
theorem sent_zero : ∀ l, sent 0 l = l
  | [] => rfl
  | _ :: _ => rfl
theorem runOn_eq : ∀ (l : List Slot) (n : Nat), sent n (l.map ticked) = runOn n l
  | [], n => by cases n <;> rfl
  | x :: r, 0 => by
    rw [sent_zero]
    unfold runOn
    rw [if_neg (by omega), ← runOn_eq r 0, sent_zero]
    rfl
  | x :: r, n + 1 => by
    rw [List.map_cons]
    unfold sent runOn
    by_cases c : (ticked x).phase = 2
    · rw [if_pos c, if_pos ⟨c, by omega⟩, runOn_eq r n]
      rfl
    · rw [if_neg c, if_neg fun z => c z.1, runOn_eq r (n + 1)]
theorem runOn_length : ∀ (l : List Slot) (n : Nat), (runOn n l).length = l.length
  | [], n => rfl
  | x :: r, n => by
    unfold runOn
    split <;> simp [runOn_length r]
def isB (k : Nat) (x : Slot) : Bool := (x.phase == 1 || x.phase == 2) && kind (ins x.word) == k
theorem busy_eq (k : Nat) (l : List Slot) : busy k l = (l.filter (isB k)).length := rfl
theorem busy_cons (k : Nat) (x : Slot) (l : List Slot) : busy k (x :: l) = (if isB k x = true then 1 else 0) + busy k l := by
  rw [busy_eq, busy_eq, List.filter_cons]
  split <;> simp <;> omega
theorem split_at {l : List Slot} {i : Nat} {x : Slot} (h : l[i]? = some x) : l = l.take i ++ x :: l.drop (i + 1) := by
  obtain ⟨hi, e⟩ := List.getElem?_eq_some_iff.mp h
  rw [← e, List.getElem_cons_drop, List.take_append_drop]
theorem set_at {l : List Slot} {i : Nat} {x x' : Slot} (h : l[i]? = some x) : l.set i x' = l.take i ++ x' :: l.drop (i + 1) := by
  obtain ⟨hi, e⟩ := List.getElem?_eq_some_iff.mp h
  rw [List.set_eq_take_append_cons_drop, if_pos hi]
theorem busy_set {l : List Slot} {i k : Nat} {x x' : Slot} (h : l[i]? = some x) : busy k (l.set i x') + (if isB k x = true then 1 else 0) = busy k l + (if isB k x' = true then 1 else 0) := by
  rw [set_at h, busy_append, busy_cons]
  conv => rhs; rw [split_at h]
  rw [busy_append, busy_cons]
  omega
theorem kind_cases (i : Ins) : kind i = 1 ∨ kind i = 2 ∨ kind i = 3 ∨ kind i = 4 := by
  unfold kind
  repeat' split
  all_goals omega
/-- a slot comes to be busy (δ = -1), or not to be (δ = 1) -/
theorem freeOf_set {c : Cfg} {l : List Slot} {i : Nat} {x x' : Slot} {δ : Int} (h : l[i]? = some x) (hw : x'.word = x.word) (hb : ∀ k, kind (ins x.word) = k → ((if isB k x = true then 1 else 0 : Nat) : Int) = (if isB k x' = true then 1 else 0 : Nat) + δ) :
    ∃ z, (freeOf c l)[kind (ins x.word) - 1]? = some z ∧ freeOf c (l.set i x') = (freeOf c l).set (kind (ins x.word) - 1) (z + δ) := by
  have key : ∀ k, (busy k (l.set i x') : Int) = busy k l - if kind (ins x.word) = k then δ else 0 := by
    intro k
    have b := busy_set (k := k) (x' := x') h
    by_cases e : kind (ins x.word) = k
    · rw [if_pos e]
      have := hb k e
      omega
    · rw [if_neg e]
      have e1 : isB k x = false := by
        unfold isB
        have : (kind (ins x.word) == k) = false := by simpa using e
        rw [this, Bool.and_false]
      have e2 : isB k x' = false := by
        unfold isB
        have : (kind (ins x'.word) == k) = false := by rw [hw]; simpa using e
        rw [this, Bool.and_false]
      rw [e1, e2] at b
      simp at b
      omega
  unfold freeOf
  rw [key 1, key 2, key 3, key 4]
  rcases kind_cases (ins x.word) with e | e | e | e <;> rw [e]
  · exact ⟨_, rfl, by simp; omega⟩
  · exact ⟨_, rfl, by simp; omega⟩
  · exact ⟨_, rfl, by simp; omega⟩
  · exact ⟨_, rfl, by simp; omega⟩
theorem freeOf_same {c : Cfg} {l : List Slot} {i : Nat} {x x' : Slot} (h : l[i]? = some x) (hb : ∀ k, isB k x' = isB k x) : freeOf c (l.set i x') = freeOf c l := by
  have key : ∀ k, busy k (l.set i x') = busy k l := by
    intro k
    have b := busy_set (k := k) (x' := x') h
    rw [hb k] at b
    omega
  unfold freeOf
  rw [key, key, key, key]
theorem ticked_wf {prog : List Nat} {x : Slot} (h : WF prog x) : WF prog (ticked x) ∧ (ticked x).word = x.word ∧ (ticked x).pc = x.pc ∧ (ticked x).guess = x.guess ∧ (ticked x).last = x.last ∧ (ticked x).out = x.out := by
  unfold ticked
  split
  · exact ⟨h, rfl, rfl, rfl, rfl, rfl⟩
  · rename_i c
    have c : x.phase = 1 := by omega
    have no : sureOf prog x.pc x.word = 0 := by
      rcases Nat.eq_zero_or_pos (sureOf prog x.pc x.word) with z | z
      · exact z
      · have := (h.sure (by omega)).1
        omega
    split
    · exact ⟨⟨h.word, h.pc, h.val, h.next, h.cell, h.guess, h.gone, by show 2 ≤ 3; decide, fun z => absurd (show 2 = 1 from z) (by decide), h.last, fun z => absurd no z, fun z => absurd (show 2 = 0 from z) (by decide), h.beh⟩, rfl, rfl, rfl, rfl, rfl⟩
    · exact ⟨⟨h.word, h.pc, h.val, h.next, h.cell, h.guess, h.gone, h.phase, fun z => by show 1 ≤ x.left - 1; omega, h.last, fun z => absurd no z, fun z => absurd (show x.phase = 0 from z) (by omega), h.beh⟩, rfl, rfl, rfl, rfl, rfl⟩
end Ooo
namespace Ooo
open Sd48
def outOf (s : Arch) (l : List Slot) (i : Ins) (pc u v : Nat) : Out :=
  if i.op = 12 ∧ (exec i pc u v).halt_ = 0 then { exec i pc u v with value := cellOf s l (exec i pc u v).cell } else exec i pc u v
theorem wrap_lt (z : Int) : wrap z < W := by
  unfold wrap
  have e : ((W : Nat) : Int) = 4294967296 := by decide
  have eW : W = 4294967296 := by decide
  rw [e, eW]
  have := Int.emod_lt_of_pos z (show (0 : Int) < 4294967296 by decide)
  have := Int.emod_nonneg z (show (4294967296 : Int) ≠ 0 by decide)
  omega
theorem on_lt (pc : Nat) : (pc + 1) % W < W := Nat.mod_lt _ (by decide)
theorem arith_lt {op u v : Nat} (hu : u < W) (hv : v < W) : arith op u v < W := by
  have hW : 0 < W := by decide
  have e : W = 2 ^ 32 := rfl
  unfold arith
  split
  · exact Nat.mod_lt _ hW
  split
  · exact Nat.mod_lt _ hW
  split
  · exact Nat.lt_of_le_of_lt Nat.and_le_left hu
  split
  · rw [e] at *; exact Nat.or_lt_two_pow hu hv
  split
  · rw [e] at *; exact Nat.xor_lt_two_pow hu hv
  split
  · exact Nat.mod_lt _ hW
  split
  · exact Nat.lt_of_le_of_lt (Nat.div_le_self _ _) hu
  split
  · exact Nat.mod_lt _ hW
  · exact Nat.lt_of_le_of_lt (Nat.div_le_self _ _) hu
structure OutOk (o : Out) : Prop where
  val : o.value < W
  next : o.next < W
  cell : o.cell < 1024
theorem exec_ok {i : Ins} {pc u v : Nat} (hu : u < W) (hv : v < W) : OutOk (exec i pc u v) := by
  have h0 : (0 : Nat) < W := by decide
  have hk : (0 : Nat) < 1024 := by decide
  have hon := on_lt pc
  unfold exec
  simp only
  split
  · exact ⟨h0, hon, hk⟩
  split
  · exact ⟨h0, hon, hk⟩
  split
  · exact ⟨h0, hon, hk⟩
  split
  · exact ⟨arith_lt hu hv, hon, hk⟩
  split
  · exact ⟨wrap_lt _, hon, hk⟩
  split
  · refine ⟨?_, hon, hk⟩
    have := Nat.mod_lt (wrap i.imm) (show 0 < 2 ^ 16 by decide)
    show wrap i.imm % 2 ^ 16 * 2 ^ 16 < W
    have e : W = 2 ^ 32 := rfl
    omega
  split
  · split
    · exact ⟨h0, hon, hk⟩
    · rename_i c
      refine ⟨?_, hon, ?_⟩
      · show (if i.op = 13 then v else 0) < W
        split
        · exact hv
        · exact h0
      · unfold CELLS at c
        show wrap _ < 1024
        omega
  split
  · refine ⟨h0, ?_, hk⟩
    show (if taken i.op u v = true then _ else _) < W
    split
    · exact wrap_lt _
    · exact hon
  split
  · exact ⟨hon, wrap_lt _, hk⟩
  · exact ⟨h0, hu, hk⟩
theorem cellOf_lt {s : Arch} (ok : ArchOk s) {l : List Slot} (hl : ∀ x ∈ l, x.out.value < W) (c : Nat) : cellOf s l c < W := by
  unfold cellOf
  split
  · rename_i x h
    exact hl x (List.mem_reverse.mp (List.mem_of_find?_eq_some h))
  · rw [List.getD_eq_getElem?_getD]
    cases e : s.cells[c]? with
    | none => show 0 < W; decide
    | some y => exact ok.cellW y (List.mem_of_getElem? e)
theorem outOf_ok {s : Arch} (ok : ArchOk s) {l : List Slot} (hl : ∀ x ∈ l, x.out.value < W) {i : Ins} {pc u v : Nat} (hu : u < W) (hv : v < W) : OutOk (outOf s l i pc u v) := by
  have h := exec_ok (i := i) (pc := pc) hu hv
  unfold outOf
  split
  · exact ⟨cellOf_lt ok hl _, h.next, h.cell⟩
  · exact h
theorem reg_lt {s : Arch} (ok : ArchOk s) (r : Nat) : reg s r < W := by
  unfold reg
  split
  · decide
  · rw [List.getD_eq_getElem?_getD]
    cases e : s.regs[r]? with
    | none => show 0 < W; decide
    | some y => exact ok.regW y (List.mem_of_getElem? e)
theorem R.avail_lt {C : CS} (h : R C) {k r v : Nat} (e : avail C.m.arch (C.m.slots.take k) r = some v) : v < W := by
  by_cases h0 : r = 0
  · subst h0
    rw [avail_zero] at e; cases e
    decide
  · rcases avail_take C.m.arch C.m.slots h0 k with ⟨j, y, _, hy, c⟩ | ⟨_, c⟩
    · rw [c] at e
      split at e
      · cases e
        exact (h.wf y (List.mem_of_getElem? hy)).val
      · cases e
    · rw [c] at e; cases e
      exact reg_lt h.arch r
/-- what a slot is that begins -/
def beg (s : Arch) (older : List Slot) (x : Slot) (u v : Nat) : Slot := { x with phase := 1, left := latency (ins x.word), out := outOf s older (ins x.word) x.pc u v }
theorem begun_yes {m : M} {older younger : List Slot} {x : Slot} {u v : Nat} (ph : x.phase = 0) (hu : avail m.arch older (first (ins x.word)) = some u) (hv : avail m.arch older (second (ins x.word)) = some v)
    (h1 : busy (kind (ins x.word)) (older ++ younger) < units m.cfg (kind (ins x.word))) (h2 : (ins x.word).op = 12 → (older.all fun y => !isStore y || y.phase == 3) = true) : begun m older x younger = beg m.arch older x u v := by
  unfold begun
  simp only
  rw [if_neg (by omega), hu, hv]
  simp only
  rw [if_neg]
  · rfl
  · rintro (z | ⟨z, y⟩)
    · omega
    · rw [h2 z] at y; cases y
theorem begun_no {m : M} {older younger : List Slot} {x : Slot} (h : x.phase ≠ 0 ∨ avail m.arch older (first (ins x.word)) = none ∨ avail m.arch older (second (ins x.word)) = none ∨ units m.cfg (kind (ins x.word)) ≤ busy (kind (ins x.word)) (older ++ younger) ∨ ((ins x.word).op = 12 ∧ (older.all fun y => !isStore y || y.phase == 3) = false)) : begun m older x younger = x := by
  unfold begun
  simp only
  by_cases c0 : x.phase ≠ 0
  · rw [if_pos c0]
  rw [if_neg c0]
  cases e1 : avail m.arch older (first (ins x.word)) with
  | none => rfl
  | some u =>
    cases e2 : avail m.arch older (second (ins x.word)) with
    | none => rfl
    | some v =>
      simp only
      rw [if_pos]
      rcases h with z | z | z | z | z
      · exact absurd z c0
      · rw [e1] at z; cases z
      · rw [e2] at z; cases z
      · exact .inl z
      · exact .inr z
theorem busy_waits {l : List Slot} {i k : Nat} {x : Slot} (h : l[i]? = some x) (ph : x.phase = 0) : busy k (l.take i ++ l.drop (i + 1)) = busy k l := by
  conv => rhs; rw [split_at h]
  rw [busy_append, busy_append, busy_cons3 (.inr ph)]
theorem beg_wf {prog : List Nat} {s : Arch} {older : List Slot} {x : Slot} {u v : Nat} (h : WF prog x) (ph : x.phase = 0) (ok : OutOk (outOf s older (ins x.word) x.pc u v)) : WF prog (beg s older x u v) := by
  have no : sureOf prog x.pc x.word = 0 := by
    rcases Nat.eq_zero_or_pos (sureOf prog x.pc x.word) with z | z
    · exact z
    · have := (h.sure (by omega)).1
      omega
  refine ⟨h.word, h.pc, ok.val, ok.next, ok.cell, h.guess, h.gone, by show 1 ≤ 3; decide, fun _ => ?_, h.last, fun z => absurd no z, fun z => absurd (show 1 = 0 from z) (by decide), h.beh⟩
  show 1 ≤ latency (ins x.word)
  unfold latency
  repeat' split
  all_goals omega
end Ooo
namespace Ooo
open Sd48
def wordAt (m : M) : Nat := if m.prog.length ≤ m.fetchPc then 0 else m.prog.getD m.fetchPc 0
def newSlot (m : M) : Slot :=
  if m.prog.length ≤ m.fetchPc then ⟨m.fetchPc, 0, 3, 0, W, true, ⟨5, 0, 0, 0⟩⟩
  else if (ins (m.prog.getD m.fetchPc 0)).op = 0 ∨ 18 < (ins (m.prog.getD m.fetchPc 0)).op then ⟨m.fetchPc, m.prog.getD m.fetchPc 0, 3, 0, W, true, exec (ins (m.prog.getD m.fetchPc 0)) m.fetchPc 0 0⟩
  else ⟨m.fetchPc, m.prog.getD m.fetchPc 0, 0, 0, guessed m (ins (m.prog.getD m.fetchPc 0)) m.fetchPc, (ins (m.prog.getD m.fetchPc 0)).op == 18, blankOut⟩
def newPc (m : M) : Nat :=
  if m.prog.length ≤ m.fetchPc then m.fetchPc else if (ins (m.prog.getD m.fetchPc 0)).op = 0 ∨ 18 < (ins (m.prog.getD m.fetchPc 0)).op then m.fetchPc else guessed m (ins (m.prog.getD m.fetchPc 0)) m.fetchPc
theorem fetched_eq (m : M) : fetched m = { m with slots := m.slots ++ [newSlot m], fetchPc := newPc m } := by
  unfold fetched newSlot newPc
  simp only
  split
  · rfl
  · split
    · rfl
    · rfl
theorem guessed_lt (m : M) (i : Ins) (pc : Nat) (h : i.op ≠ 18) : guessed m i pc < W := by
  unfold guessed
  simp only
  rw [if_neg h]
  split
  · exact wrap_lt _
  split
  · exact wrap_lt _
  · exact on_lt _
theorem exec_stop {i : Ins} (pc : Nat) (h : i.op = 0 ∨ 18 < i.op) : exec i pc 0 0 = ⟨if i.op = 0 then 1 else 4, 0, (pc + 1) % W, 0⟩ := by
  unfold exec
  simp only
  by_cases c : i.op = 0
  · rw [if_pos c, if_pos c]
  · rw [if_neg c, if_neg c, if_pos (by omega)]
structure New (m : M) (x : Slot) (s : Nat) : Prop where
  pc : x.pc = m.fetchPc
  word : x.word = wordAt m
  sure : s = sureOf m.prog x.pc x.word
  phase : x.phase = if s = 0 then 0 else 3
  left : x.left = 0
  halt : x.out.halt_ = s
  value : x.out.value = 0
  cell : x.out.cell = 0
  last : x.last = (s != 0 || (ins x.word).op == 18)
  guess : x.last = false → x.guess = guessed m (ins x.word) x.pc ∧ newPc m = x.guess
theorem new_ok (m : M) : New m (newSlot m) (sureOf m.prog m.fetchPc (wordAt m)) := by
  unfold newSlot wordAt sureOf
  by_cases c1 : m.prog.length ≤ m.fetchPc
  · simp only [if_pos c1]
    exact ⟨rfl, by unfold wordAt; rw [if_pos c1], by unfold sureOf; rw [if_pos c1], rfl, rfl, rfl, rfl, rfl, rfl, fun z => absurd z (by simp)⟩
  · simp only [if_neg c1]
    by_cases c2 : (ins (m.prog.getD m.fetchPc 0)).op = 0 ∨ 18 < (ins (m.prog.getD m.fetchPc 0)).op
    · simp only [if_pos c2, exec_stop _ c2]
      have e : (if (ins (m.prog.getD m.fetchPc 0)).op = 0 then 1 else if 18 < (ins (m.prog.getD m.fetchPc 0)).op then 4 else 0) = if (ins (m.prog.getD m.fetchPc 0)).op = 0 then 1 else 4 := by
        split
        · rfl
        · rw [if_pos (by omega)]
      rw [e]
      refine ⟨rfl, by unfold wordAt; rw [if_neg c1], by unfold sureOf; rw [if_neg c1]; exact e.symm, ?_, rfl, rfl, rfl, rfl, ?_, fun z => absurd z (by simp)⟩
      · split <;> simp
      · simp only
        split <;> simp
    · simp only [if_neg c2]
      have e : (if (ins (m.prog.getD m.fetchPc 0)).op = 0 then 1 else if 18 < (ins (m.prog.getD m.fetchPc 0)).op then 4 else 0) = 0 := by
        rw [if_neg (by omega), if_neg (by omega)]
      rw [e]
      exact ⟨rfl, by unfold wordAt; rw [if_neg c1], by unfold sureOf; rw [if_neg c1]; exact e.symm, rfl, rfl, rfl, rfl, rfl, by simp, fun _ => ⟨rfl, by unfold newPc; rw [if_neg c1, if_neg c2]⟩⟩
theorem wordAt_lt {m : M} (h : ∀ x ∈ m.prog, x < W) : wordAt m < W := by
  unfold wordAt
  split
  · decide
  · rename_i c
    rw [List.getD_eq_getElem?_getD, List.getElem?_eq_getElem (by omega)]
    exact h _ (List.getElem_mem _)
theorem New.wf {m : M} (hp : ∀ x ∈ m.prog, x < W) (hpc : m.fetchPc < W) : WF m.prog (newSlot m) := by
  have n := new_ok m
  have hs : sureOf m.prog (newSlot m).pc (newSlot m).word = sureOf m.prog m.fetchPc (wordAt m) := n.sure.symm
  refine ⟨by rw [n.word]; exact wordAt_lt hp, by rw [n.pc]; exact hpc, by rw [n.value]; decide, ?_, by rw [n.cell]; decide, ?_, ?_, ?_, ?_, by rw [n.last, hs], ?_, ?_, ?_⟩
  · unfold newSlot
    split
    · show 0 < W; decide
    split
    · rename_i c
      rw [exec_stop _ c]
      exact on_lt _
    · show 0 < W; decide
  · intro l
    rw [(n.guess l).1]
    refine guessed_lt _ _ _ ?_
    intro z
    rw [n.last, z] at l
    simp at l
  · intro l
    unfold newSlot at l ⊢
    split
    · rfl
    split
    · rfl
    · rename_i c1 c2
      rw [if_neg c1, if_neg c2] at l
      have l' : ((ins (m.prog.getD m.fetchPc 0)).op == 18) = true := l
      have l2 : (ins (m.prog.getD m.fetchPc 0)).op = 18 := by simpa using l'
      show guessed m _ _ = W
      unfold guessed
      simp only
      rw [if_neg (by omega), if_pos l2]
  · rw [n.phase]; split <;> omega
  · intro z
    rw [n.phase] at z
    split at z <;> omega
  · intro z
    rw [hs] at z ⊢
    refine ⟨?_, n.halt⟩
    rw [n.phase, if_neg z]
  · intro z
    refine ⟨?_, n.left⟩
    have : sureOf m.prog m.fetchPc (wordAt m) = 0 := by
      rw [n.phase] at z
      split at z
      · assumption
      · omega
    unfold newSlot
    have c1 : ¬ m.prog.length ≤ m.fetchPc := by
      intro c
      unfold sureOf at this
      rw [if_pos c] at this
      omega
    unfold sureOf at this
    rw [if_neg c1] at this
    have hw : wordAt m = m.prog.getD m.fetchPc 0 := by unfold wordAt; rw [if_neg c1]
    rw [hw] at this
    have c2 : ¬ ((ins (m.prog.getD m.fetchPc 0)).op = 0 ∨ 18 < (ins (m.prog.getD m.fetchPc 0)).op) := by
      intro c
      split at this
      · omega
      · rw [if_pos (by omega)] at this
        omega
    rw [if_neg c1, if_neg c2]
  · intro z
    rw [n.pc] at z
    rw [n.word]
    unfold wordAt
    rw [if_pos z]
/-- a list without doubles that lies in another -/
theorem nodup_le {α : Type} [BEq α] [LawfulBEq α] : ∀ {l m : List α}, l.Nodup → (∀ x ∈ l, x ∈ m) → l.length ≤ m.length
  | [], m, _, _ => Nat.zero_le _
  | a :: l, m, h, s => by
    obtain ⟨h1, h2⟩ := List.nodup_cons.mp h
    have ha := s a List.mem_cons_self
    have := nodup_le (l := l) (m := m.erase a) h2 fun x hx => (List.mem_erase_of_ne (fun e => h1 (by rw [← e]; exact hx))).mpr (s x (List.mem_cons_of_mem _ hx))
    have e := List.length_erase_of_mem ha
    have : 0 < m.length := List.length_pos_of_mem ha
    rw [List.length_cons]
    omega
theorem R.rds_le {C : CS} (h : R C) {j a : Nat} {x : Slot} {d : SD} (hq : C.q[j]? = some a) (hx : C.m.slots[j]? = some x) (ph : x.phase ≠ 3) (hd : C.T a = some d) : d.rds.length ≤ 128 := by
  obtain ⟨nd, mem⟩ := h.rds j a x d hq hx ph hd
  have := nodup_le (m := C.q.flatMap fun b => [(b, false), (b, true)]) nd (fun y hy => by
    obtain ⟨b, w⟩ := y
    obtain ⟨k, _, q1, _⟩ := (mem b w).mp hy
    refine List.mem_flatMap.mpr ⟨b, List.mem_of_getElem? q1, ?_⟩
    cases w <;> simp)
  rw [List.length_map] at this
  have e : (C.q.flatMap fun b => [(b, false), (b, true)]).length = 2 * C.q.length := by
    generalize C.q = q
    induction q with
    | nil => rfl
    | cons b q ih =>
      rw [List.flatMap_cons, List.length_append, ih, List.length_cons]
      simp
      omega
  have := h.len
  have := h.room
  omega
end Ooo
/-! The list of calls, read. -/
namespace Ooo
open Sd48
theorem row_some {r x s : List Int} (h : PyFlat.row r = some (x, s)) : r = (x.length : Int) :: (x ++ s) := by
  unfold PyFlat.row at h
  split at h
  · cases h
  · rename_i n r'
    split at h
    · rename_i c
      cases h
      have e : ((r'.take n.toNat).length : Int) = n := by
        rw [List.length_take, Nat.min_eq_left c.2]
        omega
      rw [e, List.take_append_drop]
    · cases h
theorem rows_three {r : List Int} {xs : List (List Int)} {t : List Int} (h : PyFlat.rows 3 r = some (xs, t)) : ∃ p l g : List Int, xs = [p, l, g] ∧ r = (p.length : Int) :: (p ++ ((l.length : Int) :: (l ++ ((g.length : Int) :: (g ++ t))))) := by
  unfold PyFlat.rows at h
  split at h
  · cases h
  rename_i p s1 e1
  unfold PyFlat.rows at h
  split at h
  · cases h
  rename_i h
  rename_i xs1 t1 e2
  cases h
  split at e2
  · cases e2
  rename_i l s2 e3
  unfold PyFlat.rows at e2
  split at e2
  · cases e2
  rename_i xs2 t2 e4
  cases e2
  split at e4
  · cases e4
  rename_i g s3 e5
  unfold PyFlat.rows at e4
  cases e4
  have r1 := row_some e1
  have r2 := row_some e3
  have r3 := row_some e5
  exact ⟨p, l, g, rfl, by rw [r1, r2, r3]⟩
/-- a call's numbers, told in the list -/
inductive CallIs : List (List Int) → List Int → Prop where
  | run (n : Int) : CallIs [[1, n]] [1, n]
  | regs : CallIs [[2]] [2]
  | cells (a n : Int) : CallIs [[3, a, n]] [3, a, n]
  | told : CallIs [[4]] [4]
  | slot (k : Int) : CallIs [[5, k]] [5, k]
theorem call_one {p : Int} {r : List Int} {c : List (List Int)} {t : List Int} (h : PyFlat.call PySd48.shape (p :: r) = some (c, t)) (hc : (PySd48.whole c).length = 1) : PySd48.whole c = c ∧ ∃ l, CallIs c l ∧ p :: r = l ++ t := by
  unfold PyFlat.call at h
  simp only at h
  split at h
  · cases h
  rename_i n k hs
  split at h
  · cases h
  rename_i hl
  split at h
  · cases h
  rename_i xs t' hr
  cases h
  unfold PySd48.shape at hs
  by_cases c0 : p = 0
  · subst c0
    rw [if_pos rfl] at hs
    cases hs
    obtain ⟨p', l, g, rfl, _⟩ := rows_three hr
    simp [PySd48.whole] at hc
  rw [if_neg c0] at hs
  by_cases c1 : p = 1
  · subst c1
    rw [if_pos rfl] at hs
    cases hs
    cases hr
    match r, hl with
    | [], hl => simp at hl
    | x :: r, _ => exact ⟨rfl, _, .run x, by simp⟩
  rw [if_neg c1] at hs
  by_cases c2 : p = 2
  · subst c2
    rw [if_pos rfl] at hs
    cases hs
    cases hr
    exact ⟨rfl, _, .regs, by simp⟩
  rw [if_neg c2] at hs
  by_cases c3 : p = 3
  · subst c3
    rw [if_pos rfl] at hs
    cases hs
    cases hr
    match r, hl with
    | [], hl => simp at hl
    | [_], hl => simp at hl
    | x :: y :: r, _ => exact ⟨rfl, _, .cells x y, by simp⟩
  rw [if_neg c3] at hs
  by_cases c4 : p = 4
  · subst c4
    rw [if_pos rfl] at hs
    cases hs
    cases hr
    exact ⟨rfl, _, .told, by simp⟩
  rw [if_neg c4] at hs
  by_cases c5 : p = 5
  · subst c5
    rw [if_pos rfl] at hs
    cases hs
    cases hr
    match r, hl with
    | [], hl => simp at hl
    | x :: r, _ => exact ⟨rfl, _, .slot x, by simp⟩
  rw [if_neg c5] at hs
  cases hs
/-- the rest of the list: calls, each behind the one ahead -/
inductive RestIs : List Int → List (List (List Int)) → Prop where
  | nil : RestIs [] []
  | cons {c : List (List Int)} {l r : List Int} {cs : List (List (List Int))} (h : CallIs c l) (t : RestIs r cs) : RestIs (l ++ r) (c :: cs)
theorem rest_of : ∀ (f : Nat) (r : List Int) (cs : List (List (List Int))), PyFlat.calls PySd48.shape f r = some cs → (∀ c ∈ cs, (PySd48.whole c).length = 1) → cs.map PySd48.whole = cs ∧ RestIs r cs
  | f, [], cs, h, _ => by
    cases f <;> (unfold PyFlat.calls at h; cases h; exact ⟨rfl, .nil⟩)
  | 0, p :: r, cs, h, _ => by
    unfold PyFlat.calls at h; cases h
  | f + 1, p :: r, cs, h, hc => by
    unfold PyFlat.calls at h
    split at h
    · cases h
    rename_i c t e1
    split at h
    · cases h
    rename_i cs' e2
    cases h
    obtain ⟨w, l, h1, h2⟩ := call_one e1 (hc c List.mem_cons_self)
    obtain ⟨h3, h4⟩ := rest_of f t cs' e2 fun x hx => hc x (List.mem_cons_of_mem _ hx)
    refine ⟨by rw [List.map_cons, w, h3], ?_⟩
    rw [h2]
    exact .cons h1 h4
theorem told_cons (a : List Int) (l : List (List Int)) : PyFlat.told (a :: l) = (a.length : Int) :: (a ++ PyFlat.told l) := by
  unfold PyFlat.told
  simp
theorem told_len : ∀ (cs : List (List (List Int))) (s : St), (PyFlat.told (PyFlat.played Sd48Neutral.step s cs)).length = Sd48Neutral.total s cs + cs.length
  | [], s => rfl
  | c :: r, s => by
    unfold PyFlat.played Sd48Neutral.total
    rw [told_cons]
    simp only [List.length_cons, List.length_append]
    rw [told_len r]
    omega
/-- what may be handed in -/
structure Asked (ns : List Int) (p l g rest : List Int) (cs : List (List (List Int))) : Prop where
  eq : ns = 0 :: (p.length : Int) :: (p ++ ((l.length : Int) :: (l ++ ((g.length : Int) :: (g ++ rest)))))
  pW : ∀ z ∈ p, 0 ≤ z ∧ z < 4294967296
  lW : ∀ z ∈ l, 0 ≤ z ∧ z < 4294967296
  pL : p.length ≤ 1024
  lL : l.length ≤ 1024
  gL : g.length = 9
  rest : RestIs rest cs
  ans : PySd48.answers ns = PyFlat.told (PyFlat.played Sd48Neutral.step none ([[0, (p.length : Int), (l.length : Int)], p, l, g] :: cs))
  len : (PySd48.answers ns).length ≤ 1000301
  one : cs = [] ∨ (Sd48Neutral.step none [[0, (p.length : Int), (l.length : Int)], p, l, g]).2 = [0]
theorem asked_of {ns : List Int} (h : PySd48.answers_asked ns = true) : ∃ p l g rest cs, Asked ns p l g rest cs := by
  unfold PySd48.answers_asked at h
  split at h
  · cases h
  rename_i cs0 hc
  unfold PySd48.calls at hc
  split at hc
  · cases hc
  rename_i ds hd
  cases hc
  rw [Bool.and_eq_true] at h
  obtain ⟨h300, hask⟩ := h
  have hA : PySd48.answers ns = PyFlat.told (PyFlat.played Sd48Neutral.step Sd48Neutral.start (ds.map PySd48.whole)) := by
    unfold PySd48.answers PySd48.calls
    rw [hd]
  unfold Sd48Neutral.asked at hask
  rw [Bool.and_eq_true, Bool.and_eq_true] at hask
  obtain ⟨⟨hall, htot0⟩, hm⟩ := hask
  have htot := of_decide_eq_true htot0
  clear htot0
  match ds, hd, hm, hall, htot, h300, hA with
  | [], hd, hm, _, _, _, _ => simp at hm
  | d :: dr, hd, hm, hall, htot, h300, hA =>
    rw [List.map_cons] at hm hall htot hA
    simp only [Bool.and_eq_true] at hm
    obtain ⟨hr1, hd4, hone⟩ := hm
    rw [List.all_cons, Bool.and_eq_true] at hall
    obtain ⟨ha1, _⟩ := hall
    -- the first call
    match ns, hd with
    | [], hd => unfold PyFlat.calls at hd; cases hd
    | z :: r, hd =>
      unfold PyFlat.calls at hd
      simp only [List.length_cons] at hd
      split at hd
      · cases hd
      rename_i c t e1
      split at hd
      · cases hd
      rename_i cs' e2
      cases hd
      have d4 : (PySd48.whole d).length = 4 := by simpa using hd4
      obtain ⟨hw, hrest⟩ := rest_of _ _ _ e2 (fun x hx => by
        have := List.all_eq_true.mp hr1 (PySd48.whole x) (List.mem_map.mpr ⟨x, hx, rfl⟩)
        simpa using this)
      unfold PyFlat.call at e1
      simp only at e1
      split at e1
      · cases e1
      rename_i n k hs
      split at e1
      · cases e1
      split at e1
      · cases e1
      rename_i xs t' hrw
      cases e1
      unfold PySd48.shape at hs
      by_cases c0 : z = 0
      · subst c0
        rw [if_pos rfl] at hs
        cases hs
        obtain ⟨p, l, g, rfl, er⟩ := rows_three hrw
        have hwh : PySd48.whole ([0] :: [p, l, g]) = [[0, (p.length : Int), (l.length : Int)], p, l, g] := rfl
        simp only [List.take_zero] at ha1 hone hA htot
        rw [hwh] at ha1 hone hA htot
        rw [hw] at hone hA htot
        unfold Sd48Neutral.asked1 at ha1
        simp only [Bool.and_eq_true] at ha1
        obtain ⟨_, _, ⟨hp, hpl⟩, ⟨hl, hll⟩, _, hgl⟩ := ha1
        unfold Sd48Neutral.long at hpl hll hgl
        unfold Sd48Neutral.sized at hpl hll
        simp only [decide_eq_true_eq] at hpl hll hgl
        have nat : ∀ q : List Int, (q.all fun z => Sd48Neutral.natural z 32) = true → ∀ z ∈ q, 0 ≤ z ∧ z < 4294967296 := by
          intro q hq z hz
          have := List.all_eq_true.mp hq z hz
          unfold Sd48Neutral.natural at this
          simp only [Bool.and_eq_true, decide_eq_true_eq] at this
          exact this
        have bounds : p.length ≤ 1024 ∧ l.length ≤ 1024 := by
          by_cases c : (0 : Int) ≤ (p.length : Int) ∧ (p.length : Int) ≤ 1024 ∧ (0 : Int) ≤ (l.length : Int) ∧ (l.length : Int) ≤ 1024
          · omega
          · rw [if_neg c] at hpl
            rw [if_neg (by omega)] at hll
            simp at hpl hll
            rw [hpl, hll]
            simp
        refine ⟨p, l, g, t, dr, ?_, nat p hp, nat l hl, bounds.1, bounds.2, ?_, hrest, hA, ?_, ?_⟩
        · simp only [List.drop_zero] at er
          rw [er]
        · simp at hgl
          omega
        · rw [hA, told_len]
          have h1 : Sd48Neutral.total none ([[0, (p.length : Int), (l.length : Int)], p, l, g] :: dr) < 1000000 := htot
          unfold PyFlat.atMost at h300
          simp only [decide_eq_true_eq, List.length_map, List.length_cons] at h300 ⊢
          omega
        · rw [Bool.or_eq_true] at hone
          rcases hone with z | z
          · left
            cases dr with
            | nil => rfl
            | cons _ _ => simp at z
          · right
            simpa [Sd48Neutral.start] using z
      · exfalso
        rw [if_neg c0] at hs
        have k0 : k = 0 := by
          repeat' split at hs
          all_goals first | cases hs; rfl | cases hs
        subst k0
        cases hrw
        unfold PySd48.whole at d4
        split at d4 <;> simp at d4
        all_goals first | omega | (rename_i q; simp at q)
end Ooo
/-! The readings as equations that simp runs. -/
namespace Ex
open PySem L2
section
variable {σ : St} {H : Hp} {Q : VK} {D : Ends} {ta tb tc te tx : TE} {R : Bool → Hp → Prop} {RA : List V → Hp → Prop}
/-- what stands there, taken out -/
def onRef (x : V) (F : Addr → Prop) : Prop := ∃ a, x = .ref a ∧ F a
def onIns (o : Option HO) (F : Addr → Addr → List (Str × V) → Prop) : Prop := ∃ C dx fs, o = some (.ins C dx fs) ∧ F C dx fs
def onLst (o : Option HO) (F : List V → Prop) : Prop := ∃ xs, o = some (.lst xs) ∧ F xs
def onTup (o : Option HO) (F : List V → Prop) : Prop := ∃ xs, o = some (.tup xs) ∧ F xs
/-- no attribute of that name -/
def noF (fs : List (Str × V)) (m : Str) : Prop := fs.lookup m = none
theorem noF_of {fs : List (Str × V)} {m : Str} (h : fs.lookup m = none) : noF fs m := h
def onCons (vs : List V) (F : V → List V → Prop) : Prop := ∃ v r, vs = v :: r ∧ F v r
@[simp] theorem r_onCons {v : V} {r : List V} {F : V → List V → Prop} : onCons (v :: r) F = F v r := propext ⟨fun ⟨_, _, e, h⟩ => by cases e; exact h, fun h => ⟨_, _, rfl, h⟩⟩
def onO {α : Type} (o : Option α) (F : α → Prop) : Prop := ∃ v, o = some v ∧ F v
@[simp] theorem r_onRef {a : Addr} {F : Addr → Prop} : onRef (.ref a) F = F a := propext ⟨fun ⟨_, e, h⟩ => by cases e; exact h, fun h => ⟨a, rfl, h⟩⟩
@[simp] theorem r_onIns {C dx : Addr} {fs : List (Str × V)} {F : Addr → Addr → List (Str × V) → Prop} : onIns (some (.ins C dx fs)) F = F C dx fs := propext ⟨fun ⟨_, _, _, e, h⟩ => by cases e; exact h, fun h => ⟨_, _, _, rfl, h⟩⟩
@[simp] theorem r_onLst {xs : List V} {F : List V → Prop} : onLst (some (.lst xs)) F = F xs := propext ⟨fun ⟨_, e, h⟩ => by cases e; exact h, fun h => ⟨_, rfl, h⟩⟩
@[simp] theorem r_onTup {xs : List V} {F : List V → Prop} : onTup (some (.tup xs)) F = F xs := propext ⟨fun ⟨_, e, h⟩ => by cases e; exact h, fun h => ⟨_, rfl, h⟩⟩
@[simp] theorem r_onO {α : Type} {v : α} {F : α → Prop} : onO (some v) F = F v := propext ⟨fun ⟨_, e, h⟩ => by cases e; exact h, fun h => ⟨_, rfl, h⟩⟩
/-- a truth value, taken out -/
def asB (x : V) (F : Bool → Prop) : Prop := ∃ k, x = .bl k ∧ F k
@[simp] theorem r_asB {b : Bool} {F : Bool → Prop} : asB (.bl b) F = F b := propext ⟨fun ⟨_, e, h⟩ => by cases e; exact h, fun h => ⟨b, rfl, h⟩⟩
@[simp] theorem r_tVar {i : Nat} : tVar i σ H Q = ∃ v, σ[i]? = some (some v) ∧ Q v H := rfl
@[simp] theorem r_tC {v : V} : tC v σ H Q = Q v H := rfl
@[simp] theorem r_tB {t : TE} : tB t σ H R = t σ H fun x H1 => asB x fun c => R c H1 := rfl
@[simp] theorem r_tAnd {t u : TT} : tAnd t u σ H R = t σ H fun c H1 => if c = true then u σ H1 R else R false H1 := rfl
@[simp] theorem r_tOr {t u : TT} : tOr t u σ H R = t σ H fun c H1 => if c = true then R true H1 else u σ H1 R := rfl
@[simp] theorem r_tNot {t : TT} : tNot t σ H R = t σ H fun c H1 => R (!c) H1 := rfl
@[simp] theorem r_tAndV : tAndV ta tb σ H Q = ta σ H fun x H1 => asB x fun c => if c = true then tb σ H1 Q else Q (.bl false) H1 := rfl
@[simp] theorem r_tOrV : tOrV ta tb σ H Q = ta σ H fun x H1 => asB x fun c => if c = true then Q (.bl true) H1 else tb σ H1 Q := rfl
@[simp] theorem r_tNotV : tNotV ta σ H Q = ta σ H fun x H1 => asB x fun c => Q (.bl (!c)) H1 := rfl
@[simp] theorem r_tIf {t : TT} : tIf t ta tb σ H Q = t σ H fun c H1 => if c = true then ta σ H1 Q else tb σ H1 Q := rfl
@[simp] theorem r_tNext : tNext D σ H = D.nx σ H := rfl
@[simp] theorem r_tSeq {t u : TS} : tSeq t u D σ H = t { D with nx := u D } σ H := rfl
@[simp] theorem r_tBreak : tBreak D σ H = D.bk σ H := rfl
@[simp] theorem r_tCont : tCont D σ H = D.ct σ H := rfl
@[simp] theorem r_tDrop : tDrop te D σ H = te σ H fun _ H1 => D.nx σ H1 := rfl
@[simp] theorem r_tRet : tRet te D σ H = te σ H D.rt := rfl
@[simp] theorem r_tRetN : tRetN D σ H = D.rt .non H := rfl
@[simp] theorem r_tIfS {c : TT} {t u : TS} : tIfS c t u D σ H = c σ H fun b H1 => if b = true then t D σ H1 else u D σ H1 := rfl
@[simp] theorem r_tNever : tNever D σ H = False := rfl
@[simp] theorem r_tAsg {g : TG} : tAsg te g D σ H = te σ H fun x H1 => g x σ H1 D.nx := rfl
@[simp] theorem r_tAug {i : Nat} {ti : TIp} : tAug i te ti D σ H = ∃ x, σ[i]? = some (some x) ∧ te σ H fun y H1 => ti x y H1 fun z H2 => D.nx (σ.set i (some z)) H2 := rfl
@[simp] theorem r_tAugS {to ti : TE} {tget : V → V → Hp → VK → Prop} {tip : TIp} {tset : TSet} : tAugS to ti te tget tip tset D σ H = to σ H fun o H1 => ti σ H1 fun i H2 => tget o i H2 fun x H3 => te σ H3 fun y H4 => tip x y H4 fun z H5 => tset o i z H5 fun H6 => D.nx σ H6 := rfl
@[simp] theorem r_tOp {r : R2} : tOp r ta tb σ H Q = ta σ H fun x H1 => tb σ H1 fun y H2 => r x y H2 Q := rfl
@[simp] theorem r_tUn {r : V → Hp → VK → Prop} : tUn r ta σ H Q = ta σ H fun x H1 => r x H1 Q := rfl
@[simp] theorem r_rI {C : Int → Int → Prop} {g : Int → Int → V} {i j : Int} : rI C g (.int i) (.int j) H Q = (C i j ∧ Q (g i j) H) := by simp [rI]
@[simp] theorem r_rI0 {g : Int → Int → V} {i j : Int} : rI0 g (.int i) (.int j) H Q = Q (g i j) H := by simp [rI0]
@[simp] theorem r_rU {g : Int → V} {i : Int} : rU g (.int i) H Q = Q (g i) H := by simp [rU]
@[simp] theorem r_rEqI {i j : Int} : rEq (.int i) (.int j) H Q = Q (.bl (decide (i = j))) H := by simp [rEq, scal]
@[simp] theorem r_rNeI {i j : Int} : rNe (.int i) (.int j) H Q = Q (.bl (!decide (i = j))) H := by simp [rNe, scal]
@[simp] theorem r_tTest {t : TE} : tTest t σ H R = t σ H fun x H' => asB x fun k => R k H' := rfl
@[simp] theorem r_tChain {r r' : R2} : tChain r r' ta tb tc σ H Q = ta σ H fun x H1 => tb σ H1 fun y H2 => r x y H2 fun z H3 => asB z fun k => (if k = true then tc σ H3 fun w' H4 => r' y w' H4 Q else Q (.bl false) H3) := rfl
@[simp] theorem r_tFld {K : PySem.W.Frag} {f : Str} : tFld K ta f σ H Q = ta σ H fun x H1 => onRef x fun a => onIns (H1 a) fun C dx fs => Cls K C ∧ NoAttr K C f ∧ onO (fs.lookup f) fun v => Q v H1 := by
  unfold tFld onRef onIns onO
  congr 1; funext x H1; apply propext
  exact ⟨fun ⟨a, C, dx, fs, v, e1, e2, e3, e4, e5, q⟩ => ⟨a, e1, C, dx, fs, e2, e3, e4, v, e5, q⟩, fun ⟨a, e1, C, dx, fs, e2, e3, e4, v, e5, q⟩ => ⟨a, C, dx, fs, v, e1, e2, e3, e4, e5, q⟩⟩
@[simp] theorem r_sFld {K : PySem.W.Frag} {f : Str} : sFld K ta te f D σ H = te σ H fun y H1 => ta σ H1 fun x H2 => onRef x fun a => onIns (H2 a) fun C dx fs => Cls K C ∧ NoAttr K C f ∧ fs.length < 1000 ∧ D.nx σ (upd H2 a (.ins C dx (putF f y fs))) := by
  unfold sFld onRef onIns
  congr 1; funext y H1; congr 1; funext x H2; apply propext
  exact ⟨fun ⟨a, C, dx, fs, e1, e2, q⟩ => ⟨a, e1, C, dx, fs, e2, q⟩, fun ⟨a, e1, C, dx, fs, e2, q⟩ => ⟨a, C, dx, fs, e1, e2, q⟩⟩
@[simp] theorem r_sFldAug {K : PySem.W.Frag} {rd : V → V → Hp → VK → Prop} {f : Str} : sFldAug K ta te rd f D σ H = ta σ H fun x H1 => onRef x fun a => onIns (H1 a) fun C dx fs => Cls K C ∧ NoAttr K C f ∧ onO (fs.lookup f) fun v =>
  te σ H1 fun y H2 => rd v y H2 fun z H3 => onIns (H3 a) fun C' dx' fs' => C' = C ∧ fs'.length < 1000 ∧ D.nx σ (upd H3 a (.ins C dx' (putF f z fs'))) := by
  unfold sFldAug onRef onIns onO
  congr 1; funext x H1; apply propext
  have e : (fun (a C : Addr) (y : V) (z : V) (H3 : Hp) => ∃ dx' fs', H3 a = some (.ins C dx' fs') ∧ fs'.length < 1000 ∧ D.nx σ (upd H3 a (.ins C dx' (putF f z fs')))) = fun a C y z H3 => ∃ C' dx' fs', H3 a = some (.ins C' dx' fs') ∧ C' = C ∧ fs'.length < 1000 ∧ D.nx σ (upd H3 a (.ins C dx' (putF f z fs'))) := by
    funext a C y z H3
    apply propext
    exact ⟨fun ⟨dx', fs', q1, q2⟩ => ⟨C, dx', fs', q1, rfl, q2⟩, fun ⟨C', dx', fs', q1, q2, q3⟩ => ⟨dx', fs', by rw [← q2]; exact q1, q3⟩⟩
  constructor
  · rintro ⟨a, C, dx, fs, v, e1, e2, e3, e4, e5, q⟩
    refine ⟨a, e1, C, dx, fs, e2, e3, e4, v, e5, ?_⟩
    have q' : te σ H1 fun y H2 => rd v y H2 (fun z H3 => (fun (a C : Addr) (y : V) (z : V) (H3 : Hp) => ∃ dx' fs', H3 a = some (.ins C dx' fs') ∧ fs'.length < 1000 ∧ D.nx σ (upd H3 a (.ins C dx' (putF f z fs')))) a C y z H3) := q
    rw [e] at q'
    exact q'
  · rintro ⟨a, e1, C, dx, fs, e2, e3, e4, v, e5, q⟩
    refine ⟨a, C, dx, fs, v, e1, e2, e3, e4, e5, ?_⟩
    have q' : te σ H1 fun y H2 => rd v y H2 (fun z H3 => (fun (a C : Addr) (y : V) (z : V) (H3 : Hp) => ∃ C' dx' fs', H3 a = some (.ins C' dx' fs') ∧ C' = C ∧ fs'.length < 1000 ∧ D.nx σ (upd H3 a (.ins C dx' (putF f z fs')))) a C y z H3) := q
    rw [← e] at q'
    exact q'
@[simp] theorem r_rAdd {i j : Int} : rAdd (.int i) (.int j) H Q = Q (.int (i + j)) H := by simp [rAdd]
@[simp] theorem r_rSub {i j : Int} : rSub (.int i) (.int j) H Q = Q (.int (i - j)) H := by simp [rSub]
@[simp] theorem r_tNil : tNil σ H RA = RA [] H := rfl
@[simp] theorem r_tCons {tr : TA} : tCons ta tr σ H RA = ta σ H fun x H1 => tr σ H1 fun xs H2 => RA (x :: xs) H2 := rfl
@[simp] theorem r_tTup {t : TA} : tTup t σ H Q = t σ H fun xs H1 => xs.length ≤ sizeLine ∧ ∀ p, H1 p = none → Q (.ref p) (upd H1 p (.tup xs)) := rfl
@[simp] theorem r_tLst {t : TA} : tLst t σ H Q = t σ H fun xs H1 => xs.length ≤ sizeLine ∧ ∀ p, H1 p = none → Q (.ref p) (upd H1 p (.lst xs)) := rfl
@[simp] theorem r_tCall {sp : Sp} {dvs : List V} {E : XK} {t : TA} : tCall sp dvs E t σ H Q = t σ H fun vs H1 => sp (vs ++ dvs) H1 Q E := rfl
@[simp] theorem r_tMeth {C : Addr} {m : Str} {sp : Sp} {dvs : List V} {E : XK} {t : TA} : tMeth C m sp dvs E ta t σ H Q = ta σ H fun x H1 => onRef x fun a => onIns (H1 a) fun C' dx fs => C' = C ∧ noF fs m ∧ t σ H1 fun vs H2 => sp (x :: (vs ++ dvs)) H2 Q E := by
  unfold tMeth onRef onIns
  congr 1; funext x H1; apply propext
  exact ⟨fun ⟨a, dx, fs, e1, e2, q⟩ => ⟨a, e1, C, dx, fs, e2, rfl, q⟩, fun ⟨a, e1, C', dx, fs, e2, e3, q⟩ => ⟨a, dx, fs, e1, by rw [← e3]; exact e2, q⟩⟩
@[simp] theorem r_tMake {C : Addr} {sp : Sp} {dvs : List V} {E : XK} {t : TA} : tMake C sp dvs E t σ H Q = t σ H fun vs H1 => ∀ x dx, H1 x = none → H1 dx = none → dx ≠ x →
  sp (.ref x :: (vs ++ dvs)) (upd (upd H1 dx (.own x)) x (.ins C dx [])) (fun v H2 => v = .non ∧ Q (.ref x) H2) E := rfl
@[simp] theorem r_tCB {r : List V → Hp → VK → Prop} {t : TA} : tCB r t σ H Q = t σ H fun vs H1 => r vs H1 Q := rfl
@[simp] theorem r_upd_same {a : Addr} {o : HO} : upd H a o a = some o := upd_same
@[simp] theorem r_cxK {CX : CXT} {P : Program} {w : World} {K : PySem.W.Frag} {mg : Str → Option Value} {base : Heap} {N : List Str} {qual : Str} {sc : Scope} {f : Addr} {cd : Value} {Ar : Around} {outer : List Env} {s : Shared} {H : Hp} {E : XK} : (cxOf CX P w K mg base N qual sc f cd Ar outer s H E).K = K := rfl
@[simp] theorem r_start {N : List Str} {vs : List V} : L2.start N vs = vs.map some ++ List.replicate (N.length - vs.length) none := rfl
end
section
variable {X : Cx}
theorem op_div : OpR X (binaryOp .FloorDiv) (rI (fun _ j => 0 < j ∧ j < 4294967296) fun i j => .int (i / j)) := opI fun i j _ _ _ _ _ hc q => by
  have h1 : (0 : Int) < j := hc.1
  have h2 : j < 4294967296 := hc.2
  refine PyProof.Rows.floordiv_int (by omega) (by rw [Int.fdiv_eq_ediv_of_nonneg i (by omega)]; exact q) (.inl (PyProof.noPylong_of_log2 ?_))
  have h3 : j.natAbs < 2 ^ 32 := by omega
  have h4 : j.natAbs ≠ 0 := by omega
  have h5 : j.natAbs.log2 < 32 := (Nat.log2_lt h4).mpr h3
  omega
end
/-! ### bits of numbers that are not below 0 -/
theorem and_nat (x y : Nat) : Builtin.bitAnd (x : Int) (y : Int) = ((x &&& y : Nat) : Int) := by
  unfold Builtin.bitAnd
  rw [decide_eq_true (Int.natCast_nonneg x), decide_eq_true (Int.natCast_nonneg y)]
  simp
theorem or_nat (x y : Nat) : Builtin.bitOr (x : Int) (y : Int) = ((x ||| y : Nat) : Int) := by
  unfold Builtin.bitOr Builtin.bitNot Builtin.bitAnd
  rw [decide_eq_false (by omega), decide_eq_false (by omega)]
  simp only [Builtin.bitNot]
  have e1 : (-(-(x : Int) - 1) - 1).toNat = x := by omega
  have e2 : (-(-(y : Int) - 1) - 1).toNat = y := by omega
  rw [e1, e2]
  omega
theorem or_eq (x y : Nat) : (x ||| y) = (x ^^^ y) + (x &&& y) := by
  have key : ∀ n x y : Nat, x < 2 ^ n → y < 2 ^ n → (x ||| y) = (x ^^^ y) + (x &&& y) := by
    intro n
    induction n with
    | zero =>
      intro x y hx hy
      have : x = 0 := by omega
      have : y = 0 := by omega
      subst x y
      rfl
    | succ n ih =>
      intro x y hx hy
      have h := ih (x / 2) (y / 2) (by omega) (by omega)
      have e1 : (x ||| y) / 2 = x / 2 ||| y / 2 := Nat.or_div_two
      have e2 : (x ^^^ y) / 2 = x / 2 ^^^ y / 2 := Nat.xor_div_two
      have e3 : (x &&& y) / 2 = x / 2 &&& y / 2 := Nat.and_div_two
      have m1 : (x ||| y) % 2 = (x % 2 ||| y % 2) := by
        have := @Nat.or_mod_two_pow x y 1
        simpa using this
      have m2 : (x ^^^ y) % 2 = (x % 2 ^^^ y % 2) := by
        have := @Nat.xor_mod_two_pow x y 1
        simpa using this
      have m3 : (x &&& y) % 2 = (x % 2 &&& y % 2) := by
        have := @Nat.and_mod_two_pow x y 1
        simpa using this
      have m4 : (x % 2 ||| y % 2) = (x % 2 ^^^ y % 2) + (x % 2 &&& y % 2) := by
        rcases Nat.mod_two_eq_zero_or_one x with a | a <;> rcases Nat.mod_two_eq_zero_or_one y with b | b <;> rw [a, b] <;> rfl
      omega
  obtain ⟨n, hn⟩ : ∃ n, x < 2 ^ n ∧ y < 2 ^ n := ⟨x + y, Nat.lt_of_le_of_lt (Nat.le_add_right x y) Nat.lt_two_pow_self, Nat.lt_of_le_of_lt (Nat.le_add_left y x) Nat.lt_two_pow_self⟩
  exact key n x y hn.1 hn.2
theorem xor_nat (x y : Nat) : Builtin.bitXor (x : Int) (y : Int) = ((x ^^^ y : Nat) : Int) := by
  unfold Builtin.bitXor
  rw [or_nat, and_nat, or_eq]
  omega
end Ex
/-! Rules beside the layer's: over a tracked list at once (for simp), a dict of the module's top. -/
namespace Ex
open PySem PySem.Spec PyProof.Rows L2
section
variable {X : Cx} {a b o e f : Expr} {ta tb td ty tx : TE} {pos apos cpos : Pos}
/-- a constant of the module's top -/
theorem pe_k {x : Str} {n : Int} (hm : ∃ t, X.mg x = some (.int n t)) (hg : Gl X x := by rfl) (hd : (x == ("__debug__" : Str)) = false := by decide) : PE X (.Name x pos) (tC (.int n)) :=
  let ⟨_, h⟩ := hm
  pe_glob hg h ⟨_, rfl⟩ hd
/-- xs[i] -/
def rIxH : R2 := fun x y H Q => ∃ p xs i v, x = .ref p ∧ y = .int i ∧ H p = some (.lst xs) ∧ atI xs i = some v ∧ Q v H
theorem ix_h : IxR X rIxH := fun value slice pins s σ H x y v u Q I rx ry ⟨p, xs, i, z, e1, e2, hp, ha, q⟩ hs => ix_list value slice pins s σ H x y v u Q I rx ry ⟨p, xs, i, z, e1, e2, SqL.of hp, ha, q⟩ hs
theorem get_h : PGet X rIxH := by
  intro pins s σ H o i ov iv Q I ro ri h
  obtain ⟨p, xs, k, z, rfl, rfl, hp, he, q⟩ := h
  cases ro
  obtain ⟨t, rfl⟩ := ri
  obtain ⟨its, rv, pl, hz⟩ := I.list (SqL.of hp)
  obtain ⟨j, h1, h2, h3, h4, h5⟩ := atI_get he
  obtain ⟨w, hw, rw'⟩ := rv.get h2
  have hl := rv.length
  have hn := line63
  have fin : EP X pins σ Q w s := ⟨z, H, I, rw', q⟩
  by_cases h0 : 0 ≤ k
  · have hj : k.toNat = j := by
      rw [seqIndex_of h0 h5] at h1
      exact Option.some.inj h1
    exact wpAny_getItem_list pl.isList h0 (by omega) (by rw [hj]; simpa using hw) fin
  · have hj : (k + (its.toArray.size : Int)).toNat = j := by
      rw [seqIndex_neg (by omega) h4] at h1
      rw [List.size_toArray, ← hl]
      exact Option.some.inj h1
    exact wpAny_getItem_list_neg pl.isList (by omega) (by rw [List.size_toArray] <;> omega) (by omega) (by rw [hj]; simpa using hw) fin
/-- xs[lo:hi] -/
def rSlH : V → Option Int → Option Int → Hp → VK → Prop := fun x lo hi H Q => ∃ a xs, x = .ref a ∧ H a = some (.lst xs) ∧ ∀ p, H p = none → Q (.ref p) (upd H p (.lst (cutV xs lo hi)))
theorem sl_h : SlR X rSlH := fun pins s σ H x v vl vu lo hi sl Q I rx hs pl pu ⟨a, xs, e, hp, q⟩ => sl_list pins s σ H x v vl vu lo hi sl Q I rx hs pl pu ⟨a, xs, e, SqL.of hp, q⟩
def rLenH : List V → Hp → VK → Prop := fun xs H Q => ∃ p ys, xs = [.ref p] ∧ H p = some (.lst ys) ∧ Q (.int ys.length) H
theorem call_len_h : CallR X (.builtin "len") rLenH := fun pins s σ H xs us Q I r ⟨p, ys, e, hp, q⟩ => call_len_seq pins s σ H xs us Q I r ⟨p, ys, e, .inl (SqL.of hp), q⟩
def rListH : List V → Hp → VK → Prop := fun xs H Q => ∃ p ys, xs = [.ref p] ∧ H p = some (.lst ys) ∧ ∀ l, H l = none → Q (.ref l) (upd H l (.lst ys))
theorem call_list_h : CallR X (.type "list") rListH := fun pins s σ H xs us Q I r ⟨p, ys, e, hp, q⟩ => call_list_of pins s σ H xs us Q I r ⟨p, ys, e, .inl (SqL.of hp), q⟩
/-- whether a list holds something -/
def tTruL (ta : TE) : TT := fun σ H Q => ta σ H fun x H' => ∃ p xs, x = .ref p ∧ H' p = some (.lst xs) ∧ Q (!xs.isEmpty) H'
theorem pt_lst (ha : PE X a ta) (he : ∀ whole, isTrue a X.env whole = (do let v ← whole; standAt a.pos; holding [v] (truthy v))) : PT X a (tTruL ta) := by
  intro pins s σ H Q I h
  refine isTrue_plain (thn (ha pins s σ H _ I h) fun v s1 ⟨x, H1, I1, r1, p, xs, e, hp, q1⟩ => ?_) (he _)
  subst e
  exact tru_ok pins s1 σ H1 _ v Q I1 r1 ⟨_, .inl ⟨xs, SqL.of hp, rfl⟩, q1⟩
section
variable {σ : L2.St} {H : Hp} {Q : VK} {R : Bool → Hp → Prop} {p : Addr}
@[simp] theorem r_rIxH {i : Int} : rIxH (.ref p) (.int i) H Q = onLst (H p) fun xs => onO (atI xs i) fun v => Q v H := by
  unfold rIxH onLst onO
  apply propext
  exact ⟨fun ⟨_, xs, _, v, e1, e2, h1, h2, q⟩ => by cases e1; cases e2; exact ⟨xs, h1, v, h2, q⟩, fun ⟨xs, h1, v, h2, q⟩ => ⟨p, xs, i, v, rfl, rfl, h1, h2, q⟩⟩
@[simp] theorem r_rSlH {lo hi : Option Int} : rSlH (.ref p) lo hi H Q = onLst (H p) fun xs => ∀ q, H q = none → Q (.ref q) (upd H q (.lst (cutV xs lo hi))) := by
  unfold rSlH onLst
  apply propext
  exact ⟨fun ⟨_, xs, e1, h1, q⟩ => by cases e1; exact ⟨xs, h1, q⟩, fun ⟨xs, h1, q⟩ => ⟨p, xs, rfl, h1, q⟩⟩
@[simp] theorem r_rLenH : rLenH [.ref p] H Q = onLst (H p) fun ys => Q (.int ys.length) H := by simp [rLenH, onLst]
@[simp] theorem r_rListH : rListH [.ref p] H Q = onLst (H p) fun ys => ∀ l, H l = none → Q (.ref l) (upd H l (.lst ys)) := by simp [rListH, onLst]
@[simp] theorem r_tTruL : tTruL ta σ H R = ta σ H fun x H' => onRef x fun p => onLst (H' p) fun xs => R (!xs.isEmpty) H' := by
  unfold tTruL onRef onLst
  congr 1; funext x H1; apply propext
  exact ⟨fun ⟨p, xs, e, h, q⟩ => ⟨p, e, xs, h, q⟩, fun ⟨p, e, xs, h, q⟩ => ⟨p, xs, e, h, q⟩⟩
@[simp] theorem r_tBM {K : PySem.W.Frag} {T : String} {r : V → List V → Hp → VK → Prop} {to : TE} {t : TA} : tBM K T r to t σ H Q = to σ H fun x H1 => tyV K T x H1 ∧ t σ H1 fun xs H2 => r x xs H2 Q := rfl
@[simp] theorem r_tSl {r : V → Option Int → Option Int → Hp → VK → Prop} {te : TE} {tl th : TO} : tSl r te tl th σ H Q = te σ H fun x H1 => tl σ H1 fun l H2 => th σ H2 fun u H3 => r x l u H3 Q := rfl
@[simp] theorem r_tNoPart {F : Option Int → Hp → Prop} : tNoPart σ H F = F none H := rfl
@[simp] theorem r_tPart {te : TE} {F : Option Int → Hp → Prop} : tPart te σ H F = te σ H fun x H1 => ∃ i, x = .int i ∧ F (some i) H1 := rfl
@[simp] theorem r_gName {i : Nat} {v : V} {F : L2.St → Hp → Prop} : gName i v σ H F = F (σ.set i (some v)) H := rfl
@[simp] theorem r_gNil {vs : List V} {F : L2.St → Hp → Prop} : gNil vs σ H F = (vs = [] ∧ F σ H) := rfl
@[simp] theorem r_gCons {t : TG} {u : TGs} {vs : List V} {F : L2.St → Hp → Prop} : gCons t u vs σ H F = onCons vs fun v r => t v σ H fun σ' H' => u r σ' H' F := rfl
@[simp] theorem r_gSub {to ti : TE} {t : TSet} {v : V} {F : L2.St → Hp → Prop} : gSub to ti t v σ H F = to σ H fun o H1 => ti σ H1 fun i H2 => t o i v H2 fun H3 => F σ H3 := rfl
@[simp] theorem r_ipI {f : Int → Int → Int} {i j : Int} : ipI f (.int i) (.int j) H Q = Q (.int (f i j)) H := by simp [ipI]
@[simp] theorem r_rSetL {k : Int} {v : V} {F : Hp → Prop} : rSetL (.ref p) (.int k) v H F = onLst (H p) fun xs => onO (ixN xs.length k) fun j => F (upd H p (.lst (xs.set j v))) := by simp [rSetL, onLst, onO]
@[simp] theorem r_rAppend {y : V} : rAppend (.ref p) [y] H Q = onLst (H p) fun xs => xs.length < sizeLine ∧ Q .non (upd H p (.lst (xs ++ [y]))) := by simp [rAppend, onLst]
@[simp] theorem r_rExtend {b : Addr} : rExtend (.ref p) [.ref b] H Q = onLst (H p) fun xs => onLst (H b) fun zs => xs.length + zs.length ≤ sizeLine ∧ Q .non (upd H p (.lst (xs ++ zs))) := by simp [rExtend, onLst]
@[simp] theorem r_rPopAt {i : Int} : rPopAt (.ref p) [.int i] H Q = onLst (H p) fun xs => -(2 ^ 63) ≤ i ∧ i < 2 ^ 63 ∧ onO (seqIndex? i xs.length) fun k => onO xs[k]? fun y => Q y (upd H p (.lst (xs.eraseIdx k))) := by
  simp [rPopAt, onLst, onO]
@[simp] theorem r_rCat {b : Addr} : rCat (.ref p) (.ref b) H Q = onLst (H p) fun xs => onLst (H b) fun zs => xs.length + zs.length ≤ sizeLine ∧ ∀ q, H q = none → Q (.ref q) (upd H q (.lst (xs ++ zs))) := by
  unfold rCat onLst
  apply propext
  constructor
  · rintro ⟨l, b', xs, zs, e1, e2, h1, h2, h3⟩
    cases e1; cases e2
    exact ⟨xs, h1, zs, h2, h3⟩
  · rintro ⟨xs, h1, zs, h2, h3⟩
    exact ⟨p, b, xs, zs, rfl, rfl, h1, h2, h3⟩
@[simp] theorem r_rRep {k : Int} : rRep (.ref p) (.int k) H Q = onLst (H p) fun xs => -2 ^ 63 ≤ k ∧ k < 2 ^ 63 ∧ xs.length * k.toNat ≤ sizeLine ∧ ∀ q, H q = none → Q (.ref q) (upd H q (.lst (List.replicate k.toNat xs).flatten)) := by
  unfold rRep onLst
  apply propext
  constructor
  · rintro ⟨l, k', xs, e1, e2, h⟩
    cases e1; cases e2
    exact ⟨xs, h⟩
  · rintro ⟨xs, h⟩
    exact ⟨p, k, xs, rfl, rfl, h⟩
@[simp] theorem r_isN {y : V} : (fun (x y : V) (H : Hp) (Q : VK) => y = .non ∧ Q (.bl (decide (x = .non))) H) y .non H Q = Q (.bl (decide (y = .non))) H := by simp
/-- a tracked list has append and its like -/
theorem ty_lst {K : PySem.W.Frag} {xs : List V} (h : H p = some (.lst xs)) : tyV K "list" (.ref p) H := .inl ⟨rfl, xs, SqL.of h⟩
end
/-! ### a tuple of the module's top: pairs of ints -/
def KTup (K : PySem.W.Frag) (a : Addr) (xs : List V) : Prop := ∃ (o : Obj) (its : Array Value) (n : Nat), K.lookup a = some o ∧ o.cls = .type "tuple" ∧ o.data = .seq its n ∧ its.size ≤ sizeLine ∧ Vals xs its.toList
theorem KTup.sq {K : PySem.W.Frag} {a : Addr} {xs : List V} {H : Hp} (h : KTup K a xs) : SqT K H a xs := .inr h
def KPairs (K : PySem.W.Frag) (a : Addr) (ps : List (Int × Int)) : Prop := ∃ as : List Addr, KTup K a (as.map V.ref) ∧ Paired (fun b pr => KTup K b [.int pr.1, .int pr.2]) as ps
/-! ### a dict of the module's top: ints under ints -/
def Ent (e : DictEntry) (kv : Int × Int) : Prop := e.hash = hashInt kv.1 ∧ (∃ t, e.key = .int kv.1 t) ∧ ∃ t, e.val = .int kv.2 t
structure KDict (K : PySem.W.Frag) (a : Addr) (kvs : List (Int × Int)) : Prop where
  ns : (a == sysModules) = false
  nd : (kvs.map (·.1)).Nodup
  ob : ∃ (es : Array DictEntry) (n : Nat), K.lookup a = some ⟨.type "dict", none, .dict es n, #[]⟩ ∧ Paired Ent es.toList kvs
theorem KDict.of {P : Program} {w : World} {K : PySem.W.Frag} {a : Addr} {kvs : List (Int × Int)} {h : Heap} (d : KDict K a kvs) (X : K.In h) :
    ∃ vs : List (Key × Value), KV (kvs.map fun kv => ((Sum.inl kv.1 : Key), V.int kv.2)) vs ∧ h.DictOf (mixKind P w) a vs := by
  obtain ⟨es, n, hl, pr⟩ := d.ob
  have hget := X a _ hl
  have key : ∀ {l : List DictEntry} {m : List (Int × Int)}, Paired Ent l m → ∃ vs : List (Key × Value), KV (m.map fun kv => ((Sum.inl kv.1 : Key), V.int kv.2)) vs ∧ Pairs (mixKind P w) l vs ∧ (∀ e ∈ l, ∃ k, (mixKind P w).is k e.key = true ∧ e.hash = (mixKind P w).hash k) ∧ vs.map (·.1) = m.map (fun kv => (Sum.inl kv.1 : Key)) := by
    intro l m q
    induction q with
    | nil => exact ⟨[], .nil, .nil, fun e he => (by cases he), rfl⟩
    | @cons x kv l m hq t ih =>
      obtain ⟨vs, h1, h2, h3, h4⟩ := ih
      obtain ⟨e1, ⟨t1, e2⟩, t2, e3⟩ := hq
      refine ⟨(Sum.inl kv.1, x.val) :: vs, .cons ⟨rfl, ?_⟩ h1, .cons ?_ rfl h2, fun e he => ?_, ?_⟩
      · rw [e3]
        exact ⟨t2, rfl⟩
      · rw [e2]
        exact mixKind_int P w kv.1 t1
      · rcases List.mem_cons.mp he with e' | he
        · subst e'
          exact ⟨Sum.inl kv.1, by rw [e2]; exact mixKind_int P w kv.1 t1, e1⟩
        · exact h3 e he
      · rw [List.map_cons, List.map_cons, h4]
  obtain ⟨vs, h1, h2, h3, h4⟩ := key pr
  refine ⟨vs, h1, _, es, n, hget, ⟨rfl, rfl, rfl⟩, rfl, fun e he => h3 e (by simpa using he), h2, ?_⟩
  rw [h4]
  have nd := d.nd
  have : kvs.map (fun kv => (Sum.inl kv.1 : Key)) = (kvs.map (·.1)).map Sum.inl := by simp
  rw [this]
  exact List.Pairwise.map _ (fun a b hab hz => hab (Sum.inl.inj hz)) nd
/-- d.get(k, x) -/
def tKGet (K : PySem.W.Frag) (td ty tx : TE) : TE := fun σ H Q => td σ H fun x H1 => ∃ (a : Addr) (kvs : List (Int × Int)), x = .ref a ∧ KDict K a kvs ∧ ty σ H1 fun y H2 => tx σ H2 fun z H3 => ∃ i : Int, y = .int i ∧ Q (((kvs.lookup i).map V.int).getD z) H3
theorem val_lookup (kvs : List (Int × Int)) (i : Int) : valV (kvs.map fun kv => ((Sum.inl kv.1 : Key), V.int kv.2)) (Sum.inl i) = (kvs.lookup i).map V.int := by
  induction kvs with
  | nil => rfl
  | cons p r ih =>
    rw [List.map_cons, List.lookup_cons]
    by_cases e : p.1 = i
    · subst e
      rw [valV_pos rfl]
      simp
    · rw [valV_neg (by intro z; exact e (Sum.inl.inj z)), ih]
      have : (i == p.1) = false := by simpa using fun z => e z.symm
      rw [this]
theorem pe_kget2 (hu : X.A.units + 1 < cLine) (ho : PE X o td) (he : PE X e ty) (hf : PE X f tx) (m : M2 X o "get" apos e f cpos) : PE X (.Call (.Attribute o "get" apos) [e, f] [] cpos) (tKGet X.K td ty tx) := by
  intro pins s σ H Q I h
  refine wpAny_Call_method m.base m.few m.line PySem.F.plainAttrs_dict PySem.F.slot_dict_get PySem.F.type_dict_get (thn (ho pins s σ H _ I h) fun u s1 ⟨x, H1, I1, rx, a, kvs, ex, d, q1⟩ => ?_)
  subst ex
  obtain rfl : u = Value.ref a := rx
  obtain ⟨vs, rel, dd⟩ := d.of (P := X.prog) (w := X.w) I1.kIn
  refine ⟨dd.typeIs, fun b q => ?_, ?_⟩
  · cases q
    obtain ⟨ob, _, _, h1, h2, _⟩ := dd
    exact ⟨ob, h1, h2.2.1⟩
  rw [m.trees]
  refine Calls.callWith_builtin rfl (Calls.evalArgs_plain (Calls.spliced_cons (thn (he pins s1 σ H1 _ I1 q1) fun iv s2 ⟨y, H2, I2, ry, q2⟩ =>
    Calls.spliced_cons (thn (hf pins s2 σ H2 _ I2 q2) fun fv s3 ⟨z, H3, I3, rz, i, ey, q3⟩ => Calls.spliced_nil ?_))))
  subst ey
  obtain ⟨vs', rel', dd'⟩ := d.of (P := X.prog) (w := X.w) I3.kIn
  refine call_meetsIn PySem.F.slot_dict_get dd'.typeIs PySem.F.entry_dict_get (PySem.F.args_dict_get_3 _ _ _) (meets_dict_get_default (mixKind X.prog X.w) a (kV_is (k := Sum.inl i) ry) d.ns fv) ⟨_, dd'.mapOf, ⟨_, H3, I3.tok _, ?_, q3⟩⟩
  rw [← val_lookup]
  exact (rel'.val (Sum.inl i)).getD rz
@[simp] theorem r_tKGet {K : PySem.W.Frag} {σ : L2.St} {H : Hp} {Q : VK} : tKGet K td ty tx σ H Q = td σ H fun x H1 => ∃ (a : Addr) (kvs : List (Int × Int)), x = .ref a ∧ KDict K a kvs ∧ ty σ H1 fun y H2 => tx σ H2 fun z H3 => ∃ i : Int, y = .int i ∧ Q (((kvs.lookup i).map V.int).getD z) H3 := rfl
end
end Ex
/-! Loops, for simp: the walk's list is read first, then a word for the turns. -/
namespace Ex
open PySem PySem.Spec PyProof.Rows L2
section
variable {X : Cx}
theorem pe_mono {e : Expr} {t : TE} (h : PE X e t) : PE X e (fun σ H Q => ∃ Q0 : VK, t σ H Q0 ∧ ∀ x H1, Q0 x H1 → Q x H1) := fun pins s σ H Q I ⟨Q0, h0, m⟩ =>
  thn (h pins s σ H Q0 I h0) fun v s1 ⟨x, H1, I1, r1, q1⟩ => ⟨x, H1, I1, r1, m x H1 q1⟩
theorem pa_mono {es : List Expr} {t : TA} (h : PA X es t) : PA X es (fun σ H Q => ∃ Q0 : List V → Hp → Prop, t σ H Q0 ∧ ∀ x H1, Q0 x H1 → Q x H1) := fun pos pins s σ H Q I ⟨Q0, h0, m⟩ =>
  thn (h pos pins s σ H Q0 I h0) fun v s1 ⟨x, H1, I1, r1, q1⟩ => ⟨x, H1, I1, r1, m x H1 q1⟩
def onOne (vs : List V) (F : V → Prop) : Prop := ∃ v, vs = [v] ∧ F v
@[simp] theorem r_onOne {v : V} {F : V → Prop} : onOne [v] F = F v := propext ⟨fun ⟨_, e, h⟩ => by cases e; exact h, fun h => ⟨_, rfl, h⟩⟩
def iListH (K : PySem.W.Frag) (tl : TE) : TI := fun σ H R => tl σ H fun x H1 => onRef x fun a => onLst (H1 a) fun _ => R (Itl K a) H1
def iEnumH (K : PySem.W.Frag) (ta : TA) : TI := fun σ H R => ta σ H fun vs H1 => onOne vs fun x => onRef x fun a => onLst (H1 a) fun _ => R (Ite K a) H1
def iRevH (K : PySem.W.Frag) (ta : TA) : TI := fun σ H R => ta σ H fun vs H1 => onOne vs fun x => onRef x fun a => onLst (H1 a) fun xs => R (Itv K a xs.length) H1
theorem pi_lstH {tg l : Expr} {tl : TE} (hl : PE X l tl) : PI X tg l (iListH X.K tl) := fun pins s σ H R I h =>
  pi_list (pe_mono hl) pins s σ H R I ⟨_, h, fun x H1 ⟨a, e, xs, hx, r⟩ => ⟨a, e, ⟨xs, SqL.of hx⟩, r⟩⟩
theorem pi_enumH {e : Expr} {ta : TA} {p pos tpos : Pos} {elts : List Expr} {kk : Nat} (hg : Gl X "enumerate") (hm : X.mg "enumerate" = none) (ha : PA X [e] ta) (hs : starEach [e] X.env = [(false, eval e X.env)] := by rfl) :
    PI X (.Tuple elts kk tpos) (.Call (.Name "enumerate" p) [e] [] pos) (iEnumH X.K ta) := fun pins s σ H R I h =>
  pi_enum hg hm (pa_mono ha) hs pins s σ H R I ⟨_, h, fun x H1 ⟨v, e1, a, e, xs, hx, r⟩ => ⟨a, xs, by rw [e1, e], SqL.of hx, r⟩⟩
theorem pi_revH {tg e : Expr} {ta : TA} {p pos : Pos} (hg : Gl X "reversed") (hm : X.mg "reversed" = none) (ha : PA X [e] ta) (hs : starEach [e] X.env = [(false, eval e X.env)] := by rfl) :
    PI X tg (.Call (.Name "reversed" p) [e] [] pos) (iRevH X.K ta) := fun pins s σ H R I h =>
  pi_reversed hg hm (pa_mono ha) hs pins s σ H R I ⟨_, h, fun x H1 ⟨v, e1, a, e, xs, hx, r⟩ => ⟨a, xs, by rw [e1, e], SqL.of hx, r⟩⟩
end
section
variable {K : PySem.W.Frag} {σ : L2.St} {H : Hp} {D : Ends} {g : TG} {tb : TS} {a : Addr} {xs : List V}
def loop (J : It) (g : TG) (tb : TS) (D : Ends) (σ : L2.St) (H : Hp) : Prop := ∃ W : Nat → Nat → L2.St → Hp → Prop, (∃ m, W 0 m σ H) ∧ ∀ i m σ H, W i m σ H →
  (J.stop i H ∧ D.nx σ H) ∨ (J.go i H ∧ ∃ N : L2.St → Hp → Prop, (∀ σ' H', N σ' H' → ∃ m', m' < m ∧ W (i + 1) m' σ' H') ∧ ∀ x H', J.yld i H x H' → g x σ H' fun σ2 H2 => tb { D with nx := N, ct := N, bk := D.nx } σ2 H2)
@[simp] theorem r_tFor {wi : TI} : tFor wi g tb D σ H = wi σ H fun J H1 => loop J g tb D σ H1 := rfl
@[simp] theorem r_iListH {tl : TE} {R : It → Hp → Prop} : iListH K tl σ H R = tl σ H fun x H1 => onRef x fun a => onLst (H1 a) fun _ => R (Itl K a) H1 := rfl
@[simp] theorem r_iEnumH {ta : TA} {R : It → Hp → Prop} : iEnumH K ta σ H R = ta σ H fun vs H1 => onOne vs fun x => onRef x fun a => onLst (H1 a) fun _ => R (Ite K a) H1 := rfl
@[simp] theorem r_iRevH {ta : TA} {R : It → Hp → Prop} : iRevH K ta σ H R = ta σ H fun vs H1 => onOne vs fun x => onRef x fun a => onLst (H1 a) fun xs => R (Itv K a xs.length) H1 := rfl
theorem loop_list (Pv : Nat → L2.St → Hp → Prop) (h0 : Pv 0 σ H) (hl : ∀ i σ H, i ≤ xs.length → Pv i σ H → H a = some (.lst xs))
    (hs : ∀ i x σ H, xs[i]? = some x → Pv i σ H → g x σ H fun σ2 H2 => tb { D with nx := Pv (i + 1), ct := Pv (i + 1), bk := D.nx } σ2 H2) (hd : ∀ σ H, Pv xs.length σ H → D.nx σ H) : loop (Itl K a) g tb D σ H :=
  for_list Pv h0 (fun i σ H hi p => SqL.of (hl i σ H hi p)) hs hd
theorem loop_enum (Pv : Nat → L2.St → Hp → Prop) (h0 : Pv 0 σ H) (hl : ∀ i σ H, i ≤ xs.length → Pv i σ H → H a = some (.lst xs))
    (hs : ∀ i x t σ H, xs[i]? = some x → Pv i σ H → H t = none → g (.ref t) σ (upd H t (.tup [.int (i : Nat), x])) fun σ2 H2 => tb { D with nx := Pv (i + 1), ct := Pv (i + 1), bk := D.nx } σ2 H2) (hd : ∀ σ H, Pv xs.length σ H → D.nx σ H) : loop (Ite K a) g tb D σ H := by
  refine ⟨fun i m σ H => m = xs.length - i ∧ i ≤ xs.length ∧ Pv i σ H, ⟨xs.length, by simp, Nat.zero_le _, h0⟩, ?_⟩
  rintro i m σ H ⟨rfl, hi, p⟩
  have q : SqL K H a xs := SqL.of (hl i σ H hi p)
  by_cases hlt : i < xs.length
  · refine .inr ⟨⟨xs, xs[i], q, by simp [hlt]⟩, Pv (i + 1), fun σ' H' p' => ⟨xs.length - (i + 1), by omega, rfl, hlt, p'⟩, fun x H' y => ?_⟩
    obtain ⟨t, x', e1, ht, e2, y⟩ := y
    subst e1 e2
    exact hs i x' t σ H (y xs q) p ht
  · have e : i = xs.length := by omega
    subst e
    exact .inl ⟨⟨xs, q, Nat.le_refl _⟩, hd σ H p⟩
theorem loop_rev (Pv : Nat → L2.St → Hp → Prop) (h0 : Pv 0 σ H) (hl : ∀ i σ H, i ≤ xs.length → Pv i σ H → H a = some (.lst xs))
    (hs : ∀ i x σ H, i < xs.length → xs[xs.length - 1 - i]? = some x → Pv i σ H → g x σ H fun σ2 H2 => tb { D with nx := Pv (i + 1), ct := Pv (i + 1), bk := D.nx } σ2 H2) (hd : ∀ σ H, Pv xs.length σ H → D.nx σ H) : loop (Itv K a xs.length) g tb D σ H := by
  refine ⟨fun i m σ H => m = xs.length - i ∧ i ≤ xs.length ∧ Pv i σ H, ⟨xs.length, by simp, Nat.zero_le _, h0⟩, ?_⟩
  rintro i m σ H ⟨rfl, hi, p⟩
  have q : SqL K H a xs := SqL.of (hl i σ H hi p)
  by_cases hlt : i < xs.length
  · refine .inr ⟨⟨hlt, xs, xs[xs.length - 1 - i], q, List.getElem?_eq_getElem (by omega)⟩, Pv (i + 1), fun σ' H' p' => ⟨xs.length - (i + 1), by omega, rfl, hlt, p'⟩, fun x H' y => ?_⟩
    obtain ⟨e, y⟩ := y
    subst e
    exact hs i x σ _ hlt (y xs q) p
  · have e : i = xs.length := by omega
    subst e
    exact .inl ⟨Nat.le_refl _, hd σ H p⟩
/-- a tuple that is tracked, taken apart -/
def gTupH (n : Nat) (t : TGs) : TG := fun v σ H Q => onRef v fun a => onTup (H a) fun xs => xs.length = n ∧ t xs σ H Q
@[simp] theorem r_gTupH {n : Nat} {t : TGs} {v : V} {F : L2.St → Hp → Prop} : gTupH n t v σ H F = onRef v fun a => onTup (H a) fun xs => xs.length = n ∧ t xs σ H F := rfl
end
/-- a statement up to a word of one's own -/
def tCut (t : TS) : TS := fun D σ H => ∃ Mid : L2.St → Hp → Prop, t { D with nx := Mid } σ H ∧ ∀ σ' H', Mid σ' H' → D.nx σ' H'
theorem ps_cut {X : Cx} {st : Stmt} {t : TS} (h : PS X st t) : PS X st (tCut t) := fun pins s σ H D I ⟨Mid, h1, h2⟩ =>
  thn (h pins s σ H { D with nx := Mid } I h1) fun f s' q => match f, q with
    | .next, ⟨σ', H', I', q⟩ => ⟨σ', H', I', h2 σ' H' q⟩
    | .brk, q => q
    | .cont, q => q
    | .ret _, q => q
theorem r_tCut {t : TS} {D : Ends} {σ : L2.St} {H : Hp} : tCut t D σ H = ∃ Mid : L2.St → Hp → Prop, t { D with nx := Mid } σ H ∧ ∀ σ' H', Mid σ' H' → D.nx σ' H' := rfl
/-- a comprehension's walk, its list at D -/
def lcR (J : It) (g : TG) (tt : TT) (te : TE) (vs : List Nat) (σ : L2.St) (D : Addr) (Q : VK) (H0 : Hp) : Prop := ∃ W : Nat → Nat → Hp → Prop, (∃ m, W 0 m H0) ∧ ∀ i m H, W i m H →
  (J.stop i H ∧ Q (.ref D) H) ∨ (J.go i H ∧ ∃ Nx : Hp → Prop, (∀ H', Nx H' → ∃ m', m' < m ∧ W (i + 1) m' H') ∧ ∀ x H', J.yld i H x H' → g x (wipe σ vs) H' fun σ2 H2 => wipe σ2 vs = wipe σ vs ∧ tt σ2 H2 fun b H3 => if b = true then te σ2 H3 fun y H4 => onLst (H4 D) fun acc => acc.length < sizeLine ∧ Nx (upd H4 D (.lst (acc ++ [y]))) else Nx H3)
@[simp] theorem r_tLc {wi : TI} {g : TG} {tt : TT} {te : TE} {vs : List Nat} {σ : L2.St} {H : Hp} {Q : VK} : tLc wi g tt te vs σ H Q = wi σ H fun J H1 => ∀ D, H1 D = none → lcR J g tt te vs σ D Q (upd H1 D (.lst [])) := rfl
@[simp] theorem r_tYes {σ : L2.St} {H : Hp} {R : Bool → Hp → Prop} : tYes σ H R = R true H := rfl
theorem lc_listH {K : PySem.W.Frag} {a D : Addr} {xs : List V} {g : TG} {tt : TT} {te : TE} {vs : List Nat} {σ : L2.St} {H0 : Hp} {Q : VK} (Pv : Nat → Hp → Prop) (h0 : Pv 0 H0) (hl : ∀ i H, i ≤ xs.length → Pv i H → H a = some (.lst xs))
    (hs : ∀ i x H, xs[i]? = some x → Pv i H → g x (wipe σ vs) H fun σ2 H2 => wipe σ2 vs = wipe σ vs ∧ tt σ2 H2 fun b H3 => if b = true then te σ2 H3 fun y H4 => onLst (H4 D) fun acc => acc.length < sizeLine ∧ Pv (i + 1) (upd H4 D (.lst (acc ++ [y]))) else Pv (i + 1) H3)
    (hd : ∀ H, Pv xs.length H → Q (.ref D) H) : lcR (Itl K a) g tt te vs σ D Q H0 := by
  refine ⟨fun i m H => m = xs.length - i ∧ i ≤ xs.length ∧ Pv i H, ⟨xs.length, by simp, Nat.zero_le _, h0⟩, ?_⟩
  rintro i m H ⟨rfl, hi, p⟩
  have q : SqL K H a xs := SqL.of (hl i H hi p)
  by_cases hlt : i < xs.length
  · refine .inr ⟨⟨xs, xs[i], q, by simp [hlt]⟩, Pv (i + 1), fun H' p' => ⟨xs.length - (i + 1), by omega, rfl, hlt, p'⟩, fun x H' y => ?_⟩
    obtain ⟨e, y⟩ := y
    subst e
    exact hs i x _ (y xs q) p
  · have e : i = xs.length := by omega
    subst e
    exact .inl ⟨⟨xs, q, Nat.le_refl _⟩, hd H p⟩
theorem lc_enumH {K : PySem.W.Frag} {a D : Addr} {xs : List V} {g : TG} {tt : TT} {te : TE} {vs : List Nat} {σ : L2.St} {H0 : Hp} {Q : VK} (Pv : Nat → Hp → Prop) (h0 : Pv 0 H0) (hl : ∀ i H, i ≤ xs.length → Pv i H → H a = some (.lst xs))
    (hs : ∀ i x t H, xs[i]? = some x → Pv i H → H t = none → g (.ref t) (wipe σ vs) (upd H t (.tup [.int (i : Nat), x])) fun σ2 H2 => wipe σ2 vs = wipe σ vs ∧ tt σ2 H2 fun b H3 => if b = true then te σ2 H3 fun y H4 => onLst (H4 D) fun acc => acc.length < sizeLine ∧ Pv (i + 1) (upd H4 D (.lst (acc ++ [y]))) else Pv (i + 1) H3)
    (hd : ∀ H, Pv xs.length H → Q (.ref D) H) : lcR (Ite K a) g tt te vs σ D Q H0 := by
  refine ⟨fun i m H => m = xs.length - i ∧ i ≤ xs.length ∧ Pv i H, ⟨xs.length, by simp, Nat.zero_le _, h0⟩, ?_⟩
  rintro i m H ⟨rfl, hi, p⟩
  have q : SqL K H a xs := SqL.of (hl i H hi p)
  by_cases hlt : i < xs.length
  · refine .inr ⟨⟨xs, xs[i], q, by simp [hlt]⟩, Pv (i + 1), fun H' p' => ⟨xs.length - (i + 1), by omega, rfl, hlt, p'⟩, fun x H' y => ?_⟩
    obtain ⟨t, x', e1, ht, e2, y⟩ := y
    subst e1 e2
    exact hs i x' t H (y xs q) p ht
  · have e : i = xs.length := by omega
    subst e
    exact .inl ⟨⟨xs, q, Nat.le_refl _⟩, hd H p⟩
/-- a list that may be tracked, or known -/
def onSq (K : PySem.W.Frag) (H : Hp) (p : Addr) (F : List V → Prop) : Prop := ∃ xs, SqL K H p xs ∧ F xs
def onSt (K : PySem.W.Frag) (H : Hp) (p : Addr) (F : List V → Prop) : Prop := ∃ xs, SqT K H p xs ∧ F xs
@[simp] theorem r_rIxL {K : PySem.W.Frag} {p : Addr} {i : Int} {H : Hp} {Q : VK} : rIxL K (.ref p) (.int i) H Q = onSq K H p fun xs => onO (atI xs i) fun v => Q v H := by
  unfold rIxL onSq onO
  apply propext
  exact ⟨fun ⟨_, xs, _, v, e1, e2, h1, h2, q⟩ => by cases e1; cases e2; exact ⟨xs, h1, v, h2, q⟩, fun ⟨xs, h1, v, h2, q⟩ => ⟨p, xs, i, v, rfl, rfl, h1, h2, q⟩⟩
@[simp] theorem r_rIxT {K : PySem.W.Frag} {p : Addr} {i : Int} {H : Hp} {Q : VK} : rIxT K (.ref p) (.int i) H Q = onSt K H p fun xs => onO (atI xs i) fun v => Q v H := by
  unfold rIxT onSt onO
  apply propext
  exact ⟨fun ⟨_, xs, _, v, e1, e2, h1, h2, q⟩ => by cases e1; cases e2; exact ⟨xs, h1, v, h2, q⟩, fun ⟨xs, h1, v, h2, q⟩ => ⟨p, xs, i, v, rfl, rfl, h1, h2, q⟩⟩
@[simp] theorem r_rSlL {K : PySem.W.Frag} {p : Addr} {lo hi : Option Int} {H : Hp} {Q : VK} : rSlL K (.ref p) lo hi H Q = onSq K H p fun xs => ∀ q, H q = none → Q (.ref q) (upd H q (.lst (cutV xs lo hi))) := by
  unfold rSlL onSq
  apply propext
  exact ⟨fun ⟨_, xs, e1, h1, q⟩ => by cases e1; exact ⟨xs, h1, q⟩, fun ⟨xs, h1, q⟩ => ⟨p, xs, rfl, h1, q⟩⟩
theorem sq_keep {K : PySem.W.Frag} {H H' : Hp} {a : Addr} {xs : List V} (h : SqL K H a xs) (k : ∀ o, H a = some o → H' a = some o) : SqL K H' a xs := by
  rcases h with (h | ⟨o, h⟩) | h
  · exact .inl (.inl (k _ h))
  · exact .inl (.inr ⟨o, k _ h⟩)
  · exact .inr h
theorem sq_upd {K : PySem.W.Frag} {H : Hp} {a p C dx : Addr} {fs : List (Str × V)} {xs : List V} {u : HO} (h : SqL K H a xs) (hp : H p = some (.ins C dx fs)) : SqL K (upd H p u) a xs := by
  rcases h with (h | ⟨o, h⟩) | h
  · exact .inl (.inl (by rw [upd_ne (ne_of h hp (by intro z; cases z))]; exact h))
  · exact .inl (.inr ⟨o, by rw [upd_ne (ne_of h hp (by intro z; cases z))]; exact h⟩)
  · exact .inr h
theorem sq_new {K : PySem.W.Frag} {H : Hp} {a p : Addr} {xs : List V} {u : HO} (h : SqL K H a xs) (hp : H p = none) : SqL K (upd H p u) a xs := sq_keep h fun o e => by rw [upd_ne (ne_of_none e hp)]; exact e
theorem boot_listO : bootBuiltins "list" = some (.type "list") := by decide +kernel
theorem boot_minO : bootBuiltins "min" = some (.builtin "min") := by decide +kernel
theorem boot_maxO : bootBuiltins "max" = some (.builtin "max") := by decide +kernel
def rMin : List V → Hp → VK → Prop := fun xs H Q => ∃ i j, xs = [.int i, .int j] ∧ Q (.int (if j < i then j else i)) H
def rMax : List V → Hp → VK → Prop := fun xs H Q => ∃ i j, xs = [.int i, .int j] ∧ Q (.int (if j > i then j else i)) H
theorem call_min_h {X : Cx} (hc : X.calm = true) : CallR X (.builtin "min") rMin := call_min2 hc
theorem call_max_h {X : Cx} (hc : X.calm = true) : CallR X (.builtin "max") rMax := call_max2 hc
@[simp] theorem r_rMin {i j : Int} {H : Hp} {Q : VK} : rMin [.int i, .int j] H Q = Q (.int (if j < i then j else i)) H := propext ⟨fun ⟨_, _, e, q⟩ => by cases e; exact q, fun q => ⟨i, j, rfl, q⟩⟩
@[simp] theorem r_rMax {i j : Int} {H : Hp} {Q : VK} : rMax [.int i, .int j] H Q = Q (.int (if j > i then j else i)) H := propext ⟨fun ⟨_, _, e, q⟩ => by cases e; exact q, fun q => ⟨i, j, rfl, q⟩⟩
/-- a while's turn -/
def nextW (W : Nat → L2.St → Hp → Prop) (m : Nat) (tb : TS) (D : Ends) (σ : L2.St) (H1 : Hp) : Prop := ∃ N : L2.St → Hp → Prop, (∀ σ' H', N σ' H' → ∃ m', m' < m ∧ W m' σ' H') ∧ tb { D with nx := N, ct := N, bk := D.nx } σ H1
theorem while_h {c : TT} {tb : TS} {D : Ends} {σ : L2.St} {H : Hp} (Pv : L2.St → Hp → Prop) (μ : L2.St → Hp → Nat) (h0 : Pv σ H)
    (hs : ∀ σ H, Pv σ H → c σ H fun b H1 => if b = true then nextW (fun m σ H => m = μ σ H ∧ Pv σ H) (μ σ H) tb D σ H1 else D.nx σ H1) : tWhile c tb D σ H :=
  ⟨fun m σ H => m = μ σ H ∧ Pv σ H, ⟨_, rfl, h0⟩, fun m σ H ⟨e, p⟩ => by subst e; exact hs σ H p⟩
theorem nextW_of {tb : TS} {D : Ends} {σ : L2.St} {H1 : Hp} {Pv : L2.St → Hp → Prop} {μ : L2.St → Hp → Nat} {m : Nat} (h : tb { D with nx := fun σ' H' => Pv σ' H' ∧ μ σ' H' < m, ct := fun σ' H' => Pv σ' H' ∧ μ σ' H' < m, bk := D.nx } σ H1) : nextW (fun m σ H => m = μ σ H ∧ Pv σ H) m tb D σ H1 :=
  ⟨_, fun σ' H' ⟨p, l⟩ => ⟨_, l, rfl, p⟩, h⟩
/-- a local that counts down -/
def cnt (i : Nat) (σ : L2.St) : Nat := match σ[i]? with
  | some (some (.int n)) => n.toNat
  | _ => 0
theorem pg_tupH {X : Cx} {pos : Pos} {es : List Expr} {k : Nat} {t : TGs} {n : Nat} (hc : X.calm = true) (h : PGs X es t)
    (hn : (assignEach es X.env).length = n := by rfl) (hst : (assignEach es X.env).findIdx? (·.1) = none := by rfl) : PG X (.Tuple es k pos) (gTupH n t) := fun pins s σ H v u Q I r ⟨a, e, xs, hx, hl, q⟩ =>
  pg_tup hc h hn hst pins s σ H v u Q I r ⟨a, xs, e, SqT.of hx, hl, q⟩
end Ex
/-! zip of a list and a tuple (the tuple at least as long), as a loop walks it. -/
namespace Zt
open PySem PySem.Spec PyProof.Rows L2
section
variable {prog : Program} {w : World} {A : Around} {E : Value → Shared → Prop} {s : Shared}
/-- a tuple's iterator hands out its next item -/
theorem nextT {q t : Addr} {k : Nat} {ys : Array Value} {y : Value} {Q : Value → Shared → Prop} (hq : s.heap.IsTupleIter q t k) (ht : s.heap.IsTuple t ys) (hy : ys[k]? = some y)
    (fin : ∀ g, g.IsTupleIter q t (k + 1) → Heap.SameBut q s.heap g → Q y { s with heap := g }) : wpAny (model prog w) A (Builtin.SmallTypes.nextOf (.ref q)) Q E s := by
  obtain ⟨ob, eo, cl, da⟩ := id hq
  obtain ⟨ot, et, _, m, dt⟩ := ht
  have call := wpAny_call_entry (prog := prog) (w := w) (A := A) (E := E) (s := s) (Q := fun v s' => wpAny (model prog w) A (pure v) Q E s') F.slot_tuple_iterator_next hq.typeIs F.entry_tuple_iterator_next ?step (F.args_tuple_iterator_next_1 _)
  case step =>
    show wpAny _ _ (do let v ← field (.ref q) 0; _) _ _ s
    refine wpAny_bind (wpAny_field eo da (x := .ref t) rfl ?_)
    have nn : ¬ (Value.ref t == Value.none) = true := Bool.false_ne_true
    show wpAny _ _ (if (Value.ref t == Value.none) = true then _ else do let v ← field (.ref q) 1; _) _ _ s
    rw [if_neg nn]
    refine wpAny_bind (wpAny_field eo da (x := .int k 0) rfl (wpAny_bind (wpAny_seqItems et dt ?_)))
    simp only [Int.toNat_natCast, hy]
    refine wpAny_bind (wpAny_setField eo da (by simp) (wpAny_pure ⟨y, rfl, wpAny_pure (fin _ ?_ (Heap.SameBut.update ..))⟩))
    refine ⟨_, Heap.get?_update_self _ eo (Obj.isFreed_of_fields (Obj.data_mapFields da _)), (Obj.cls_mapFields ..).trans cl, ?_⟩
    rw [Obj.data_mapFields da]
    simp [rawInt]
  unfold Builtin.SmallTypes.nextOf
  exact wpAny_bind (wpAny_callSpecial?_slot (name := Str.ofString "__next__") hq.typeIs F.slot_tuple_iterator_next call)
/-- the next pair -/
theorem pairT {z n u p q l t : Addr} {k : Nat} {xs ys : Array Value} {x y a b : Value} {Q : Value → Shared → Prop} (D : ZipApart z n u p q l t)
    (hz : IsZip s.heap z n u .none) (hn : IsPair s.heap n (.ref p) (.ref q)) (hu : IsPair s.heap u a b) (hp : s.heap.IsListIter p l k) (hq : s.heap.IsTupleIter q t k)
    (hl : s.heap.IsList l xs) (ht : s.heap.IsTuple t ys) (hx : xs[k]? = some x) (hy : ys[k]? = some y)
    (fin : ∀ g, IsZip g z n u (rawInt s.heap.objs.size) → IsPair g u x y → g.IsListIter p l (k + 1) → g.IsTupleIter q t (k + 1) → IsPair g s.heap.objs.size x y →
      (∀ c o, c ≠ z → c ≠ u → c ≠ p → c ≠ q → s.heap.get? c = some o → g.get? c = some o) → Q (.ref s.heap.objs.size) { s with heap := g }) :
    wpAny (model prog w) A (Builtin.«zip.__next__» ⟨[.ref z], []⟩) (fun f s' => ∃ v, f = .done (.ret v) ∧ Q v s') E s := by
  show wpAny _ _ (do let v ← field (.ref z) 2; _) _ _ _
  refine wpAny_bind (wpAny_field hz rfl (x := .bool false) rfl ?_)
  show wpAny _ _ (do let v ← field (.ref z) 3; _) _ _ _
  refine wpAny_bind (wpAny_field hz rfl (x := .ref n) rfl (wpAny_bind (wpAny_seqItems hn rfl ?_)))
  refine wpAny_bind (show wpAny _ _ (Builtin.SmallTypes.ownedTupleIsFree (.ref z)) _ _ _ from ?_)
  unfold Builtin.SmallTypes.ownedTupleIsFree
  refine wpAny_bind (wpAny_field hz rfl (x := .none) rfl (wpAny_pure ?_))
  simp only [if_true]
  refine wpAny_bind (wpAny_rule (wpAny_bind (wpAny_field hz rfl (x := .ref u) rfl (wpAny_bind (wpAny_setField_rec hz (by simp) fun g1 z1 s1 => ?_)))))
  have z1 : IsZip g1 z n u .ellipsis := z1
  refine wpAny_bind ?_
  simp only [List.zipIdx_cons, List.zipIdx_nil, List.forIn_cons, List.forIn_nil]
  -- the list's item
  refine wpAny_bind (wpAny_bind (wpAny_onRaise (wpAny_bind (show wpAny _ _ (Builtin.SmallTypes.nextOf (.ref p)) _ _ _ from
    wpAny_nextOf_list_item (hp.extBut s1.extBut D.i1z) (hl.extBut s1.extBut D.l1z) hx fun g2 p2 s2 => wpAny_pure ?_))))
  have u2 : IsPair g2 u a b := s2.extBut _ _ D.TOi1 (s1.extBut _ _ D.TOz hu)
  refine wpAny_bind (wpAny_seqItems u2 rfl (wpAny_bind (wpAny_updateSeq_pair u2 fun g3 u3 s3 => wpAny_bind (wpAny_letGo (wpAny_pure ?_)))))
  have u3 : IsPair g3 u x b := u3
  -- the tuple's item
  have q3 := ((hq.extBut s1.extBut D.i2z).extBut s2.extBut D.i12.symm).extBut s3.extBut D.TOi2.symm
  have t3 := ((ht.extBut s1.extBut D.l2z).extBut s2.extBut D.l2i1).extBut s3.extBut D.l2TO
  refine wpAny_bind (wpAny_bind (wpAny_onRaise (wpAny_bind (show wpAny _ _ (Builtin.SmallTypes.nextOf (.ref q)) _ _ _ from nextT q3 t3 hy fun g4 q4 s4 => wpAny_pure ?_))))
  have u4 : IsPair g4 u x b := s4.extBut _ _ D.TOi2 u3
  refine wpAny_bind (wpAny_seqItems u4 rfl (wpAny_bind (wpAny_updateSeq_pair u4 fun g5 u5 s5 => wpAny_bind (wpAny_letGo (wpAny_pure (wpAny_pure ?_))))))
  have u5 : IsPair g5 u x y := u5
  refine wpAny_bind (wpAny_seqItems u5 rfl (wpAny_bind (wpAny_newTuple ?_)))
  have size : g5.objs.size = s.heap.objs.size := by rw [s5.1, s4.1, s3.1, s2.1, s1.1]
  have old : ∀ c o, c ≠ z → c ≠ u → c ≠ p → c ≠ q → s.heap.get? c = some o → g5.get? c = some o := fun c o a1 a2 a3 a4 e => s5.extBut _ _ a2 (s4.extBut _ _ a4 (s3.extBut _ _ a2 (s2.extBut _ _ a3 (s1.extBut _ _ a1 e))))
  have z5 : IsZip g5 z n u .ellipsis := s5.extBut _ _ D.TOz.symm (s4.extBut _ _ D.i2z.symm (s3.extBut _ _ D.TOz.symm (s2.extBut _ _ D.i1z.symm z1)))
  have p5 : g5.IsListIter p l (k + 1) := ((p2.extBut s3.extBut D.TOi1.symm).extBut s4.extBut D.i12).extBut s5.extBut D.TOi1.symm
  have q5 : g5.IsTupleIter q t (k + 1) := q4.extBut s5.extBut D.TOi2.symm
  have zl : z < g5.objs.size := Heap.lt_size z5
  refine wpAny_bind (show wpAny _ _ (Builtin.SmallTypes.ownedTupleHandOut (.ref z) (.ref g5.objs.size)) _ _ _ from ?_)
  unfold Builtin.SmallTypes.ownedTupleHandOut
  have z6 : IsZip (g5.push { cls := .type "tuple", data := .seq #[x, y] }) z n u .ellipsis := Heap.get?_push_of_some _ z5
  refine wpAny_bind (wpAny_setField_rec z6 (by simp) fun g7 z7 s7 => ?_)
  have z7 : IsZip g7 z n u (rawInt g5.objs.size) := z7
  refine wpAny_setField_rec z7 (by simp) fun g8 z8 s8 => ?_
  have z8 : IsZip g8 z n u (rawInt g5.objs.size) := z8
  have up : ∀ c o, c ≠ z → g5.get? c = some o → g8.get? c = some o := fun c o a1 e => s8.extBut _ _ a1 (s7.extBut _ _ a1 (Heap.get?_push_of_some _ e))
  have new : IsPair g8 g5.objs.size x y := s8.extBut _ _ (Nat.ne_of_gt zl) (s7.extBut _ _ (Nat.ne_of_gt zl) (Heap.get?_push_size _ rfl))
  rw [size] at z8 new
  refine wpAny_pure ⟨_, rfl, ?_⟩
  show Q (.ref g5.objs.size) _
  rw [size]
  exact fin g8 z8 (up _ _ D.TOz u5) (p5.at fun o e => up _ o D.i1z e) (q5.at fun o e => up _ o D.i2z e) new fun c o a1 a2 a3 a4 e => up c o a1 (old c o a1 a2 a3 a4 e)
/-- the list is at its end -/
theorem lastT {z n u p q l : Addr} {t : Addr} {k : Nat} {xs : Array Value} {Q : Fin → Shared → Prop} (hh : A.handled = none) (D : ZipApart z n u p q l t)
    (hz : IsZip s.heap z n u .none) (hn : IsPair s.heap n (.ref p) (.ref q)) (hp : s.heap.IsListIter p l k) (hl : s.heap.IsList l xs) (hx : xs[k]? = none)
    (fin : ∀ g e, (∀ c o, c ≠ z → c ≠ p → s.heap.get? c = some o → g.get? c = some o) → (∃ o, g.get? e = some o ∧ o.cls = .type "StopIteration") → E (.ref e) { s with heap := g }) :
    wpAny (model prog w) A (Builtin.«zip.__next__» ⟨[.ref z], []⟩) Q E s := by
  show wpAny _ _ (do let v ← field (.ref z) 2; _) _ _ _
  refine wpAny_bind (wpAny_field hz rfl (x := .bool false) rfl ?_)
  show wpAny _ _ (do let v ← field (.ref z) 3; _) _ _ _
  refine wpAny_bind (wpAny_field hz rfl (x := .ref n) rfl (wpAny_bind (wpAny_seqItems hn rfl ?_)))
  refine wpAny_bind (show wpAny _ _ (Builtin.SmallTypes.ownedTupleIsFree (.ref z)) _ _ _ from ?_)
  unfold Builtin.SmallTypes.ownedTupleIsFree
  refine wpAny_bind (wpAny_field hz rfl (x := .none) rfl (wpAny_pure ?_))
  simp only [if_true]
  refine wpAny_bind (wpAny_rule (wpAny_bind (wpAny_field hz rfl (x := .ref u) rfl (wpAny_bind (wpAny_setField_rec hz (by simp) fun g1 z1 s1 => ?_)))))
  have z1 : IsZip g1 z n u .ellipsis := z1
  refine wpAny_bind ?_
  simp only [List.zipIdx_cons, List.zipIdx_nil, List.forIn_cons, List.forIn_nil]
  refine wpAny_bind (wpAny_bind (wpAny_onRaise (wpAny_bind (show wpAny _ _ (Builtin.SmallTypes.nextOf (.ref p)) _ _ _ from
    wpAny_nextOf_list_end hh (hp.extBut s1.extBut D.i1z) (hl.extBut s1.extBut D.l1z) hx fun g2 e s2 he => ?_))))
  obtain ⟨oe, h1, h2⟩ := he
  have z2 : IsZip g2 z n u .ellipsis := s2 _ _ D.i1z.symm z1
  have ez : e ≠ z := by
    intro q'
    subst q'
    rw [z2] at h1
    cases h1
    simp at h2
  exact wpAny_setField_rec z2 (by simp) fun g3 _ s3 => fin g3 e (fun c o a1 a3 e' => s3.extBut _ _ a1 (s2 _ _ a3 (s1.extBut _ _ a1 e'))) ⟨oe, s3.extBut _ _ ez h1, h2⟩
end
/-! its making: five new objects -/
def k1 (h : Heap) (l : Addr) : Heap := h.push { cls := .type "list_iterator", data := .fields #[.ref l, .int 0 0] }
def k2 (h : Heap) (l t : Addr) : Heap := (k1 h l).push { cls := .type "tuple_iterator", data := .fields #[.ref t, .int 0 0] }
def k3 (h : Heap) (l t : Addr) : Heap := (k2 h l t).push { cls := .type "tuple", data := .seq #[.ref h.objs.size, .ref (k1 h l).objs.size] }
def k4 (h : Heap) (l t : Addr) : Heap := (k3 h l t).push { cls := .type "tuple", data := .seq #[.none, .none] }
def k5 (h : Heap) (l t : Addr) : Heap := (k4 h l t).push { cls := .type "zip", data := .fields #[.none, .bool false, .bool false, .ref (k2 h l t).objs.size, .ref (k3 h l t).objs.size] }
theorem meetsT (l t : Addr) (xs ys : Array Value) : Meets (Builtin.«zip.__new__» ⟨[.type "zip", .ref l, .ref t], []⟩) (fun _ R s => s.heap.IsList l xs ∧ s.heap.IsTuple t ys ∧ R (.ok (.ret (.ref (k4 s.heap l t).objs.size))) { s with heap := k5 s.heap l t }) :=
  .of_wp fun prog w A R s hyp => by
    obtain ⟨hp, gs, ds, tk, os⟩ := s
    obtain ⟨a1, a2, fin⟩ := hyp
    have sub := sub_zip
    have b1 : Heap.IsList (Shared.heap ⟨hp, gs, ds, tk, os⟩) l xs := a1
    have b2 : Heap.IsTuple (Shared.heap ⟨hp.push { cls := .type "list_iterator", data := .fields #[.ref l, .int 0 0] }, gs, ds, tk, os⟩) t ys := Heap.IsTuple.push a2 _
    wp_walk using wpAny_pyIter_list b1, wpAny_pyIter_tuple b2
    exact ⟨_, rfl, fin⟩
section
variable {prog : Program} {w : World} {A : Around} {E : Value → Shared → Prop} {s : Shared}
theorem callT {l t : Addr} {xs ys : Array Value} {Q : Value → Shared → Prop} (hl : s.heap.IsList l xs) (ht : s.heap.IsTuple t ys)
    (fin : ∀ g, IsZip g (s.heap.objs.size + 4) (s.heap.objs.size + 2) (s.heap.objs.size + 3) .none → IsPair g (s.heap.objs.size + 2) (.ref s.heap.objs.size) (.ref (s.heap.objs.size + 1)) →
      IsPair g (s.heap.objs.size + 3) .none .none → g.IsListIter s.heap.objs.size l 0 → g.IsTupleIter (s.heap.objs.size + 1) t 0 →
      (∀ c o, s.heap.get? c = some o → g.get? c = some o) → Q (.ref (s.heap.objs.size + 4)) { s with heap := g }) :
    wpAny (model prog w) A (call (.type "zip") [.ref l, .ref t]) Q E s := by
  refine callType_new F.called_zip (by decide) (F.typeCall_zip_2 _ _) (F.newCall_zip_2 _ _) (fun ob => F.args_object_init_3 ob _ _) F.entry_zip_new (meetsT l t xs ys) ⟨hl, ht, ?_⟩
  have e1 : (k1 s.heap l).objs.size = s.heap.objs.size + 1 := by unfold k1; rw [Heap.size_push]
  have e2 : (k2 s.heap l t).objs.size = s.heap.objs.size + 2 := by unfold k2; rw [Heap.size_push, e1]
  have e3 : (k3 s.heap l t).objs.size = s.heap.objs.size + 3 := by unfold k3; rw [Heap.size_push, e2]
  have e4 : (k4 s.heap l t).objs.size = s.heap.objs.size + 4 := by unfold k4; rw [Heap.size_push, e3]
  have j5 : ∀ {c o}, (k4 s.heap l t).get? c = some o → (k5 s.heap l t).get? c = some o := fun e => Heap.get?_push_of_some _ e
  have j4 : ∀ {c o}, (k3 s.heap l t).get? c = some o → (k5 s.heap l t).get? c = some o := fun e => j5 (Heap.get?_push_of_some _ e)
  have j3 : ∀ {c o}, (k2 s.heap l t).get? c = some o → (k5 s.heap l t).get? c = some o := fun e => j4 (Heap.get?_push_of_some _ e)
  have j2 : ∀ {c o}, (k1 s.heap l).get? c = some o → (k5 s.heap l t).get? c = some o := fun e => j3 (Heap.get?_push_of_some _ e)
  have f5 : (k5 s.heap l t).get? (k4 s.heap l t).objs.size = some { cls := .type "zip", data := .fields #[.none, .bool false, .bool false, .ref (k2 s.heap l t).objs.size, .ref (k3 s.heap l t).objs.size] } := Heap.get?_push_size _ rfl
  have f4 : (k5 s.heap l t).get? (k3 s.heap l t).objs.size = some { cls := .type "tuple", data := .seq #[.none, .none] } := j5 (Heap.get?_push_size _ rfl)
  have f3 : (k5 s.heap l t).get? (k2 s.heap l t).objs.size = some { cls := .type "tuple", data := .seq #[.ref s.heap.objs.size, .ref (k1 s.heap l).objs.size] } := j4 (Heap.get?_push_size _ rfl)
  have f2 : (k5 s.heap l t).get? (k1 s.heap l).objs.size = some { cls := .type "tuple_iterator", data := .fields #[.ref t, .int 0 0] } := j3 (Heap.get?_push_size _ rfl)
  have f1 : (k5 s.heap l t).get? s.heap.objs.size = some { cls := .type "list_iterator", data := .fields #[.ref l, .int 0 0] } := j2 (Heap.get?_push_size _ rfl)
  rw [e2, e3, e4] at f5
  rw [e3] at f4
  rw [e1, e2] at f3
  rw [e1] at f2
  show _ ∧ _
  rw [e4]
  exact ⟨⟨_, f5, rfl⟩, fin _ f5 f3 f4 ⟨_, f1, rfl, rfl⟩ ⟨_, f2, rfl, rfl⟩ fun c o e => j2 (Heap.get?_push_of_some _ e)⟩
/-- pyNext of it -/
theorem itemT {z n u p q l t : Addr} {k : Nat} {xs ys : Array Value} {x y a b : Value} {Q : Option Value → Shared → Prop} (D : ZipApart z n u p q l t)
    (hz : IsZip s.heap z n u .none) (hn : IsPair s.heap n (.ref p) (.ref q)) (hu : IsPair s.heap u a b) (hp : s.heap.IsListIter p l k) (hq : s.heap.IsTupleIter q t k)
    (hl : s.heap.IsList l xs) (ht : s.heap.IsTuple t ys) (hx : xs[k]? = some x) (hy : ys[k]? = some y)
    (fin : ∀ g, IsZip g z n u (rawInt s.heap.objs.size) → IsPair g u x y → g.IsListIter p l (k + 1) → g.IsTupleIter q t (k + 1) → IsPair g s.heap.objs.size x y →
      (∀ c o, c ≠ z → c ≠ u → c ≠ p → c ≠ q → s.heap.get? c = some o → g.get? c = some o) → Q (some (.ref s.heap.objs.size)) { s with heap := g }) : wpAny (model prog w) A (pyNext (.ref z)) Q E s := by
  have ty : s.TypeIs (.ref z) "zip" := ⟨_, hz, rfl⟩
  unfold pyNext
  refine wpAny_bind (wpAny_attempt (wpAny_callSpecial?_slot (name := Str.ofString "__next__") ty F.slot_zip_next ?_))
  refine wpAny_call_entry F.slot_zip_next ty F.entry_zip_next ?_ (F.args_zip_next_1 _)
  exact pairT D hz hn hu hp hq hl ht hx hy fun g c1 c2 c3 c4 c5 c6 => wpAny_pure (fin g c1 c2 c3 c4 c5 c6)
theorem endT {z n u p q l t : Addr} {k : Nat} {xs : Array Value} {Q : Option Value → Shared → Prop} (hh : A.handled = none) (D : ZipApart z n u p q l t)
    (hz : IsZip s.heap z n u .none) (hn : IsPair s.heap n (.ref p) (.ref q)) (hp : s.heap.IsListIter p l k) (hl : s.heap.IsList l xs) (hx : xs[k]? = none)
    (fin : ∀ g, (∀ c o, c ≠ z → c ≠ p → s.heap.get? c = some o → g.get? c = some o) → Q none { s with heap := g }) : wpAny (model prog w) A (pyNext (.ref z)) Q E s := by
  have ty : s.TypeIs (.ref z) "zip" := ⟨_, hz, rfl⟩
  unfold pyNext
  refine wpAny_bind (wpAny_attempt (wpAny_callSpecial?_slot (name := Str.ofString "__next__") ty F.slot_zip_next
    (wpAny_call_entry F.slot_zip_next ty F.entry_zip_next (lastT hh D hz hn hp hl hx fun g e keep st => ?_) (F.args_zip_next_1 _))))
  obtain ⟨o, e1, e2⟩ := st
  exact wpAny_bind (wpAny_isInstance (T := "StopIteration") (b := true) ⟨o, e1, e2⟩ isSubtype_stop (wpAny_pure (fin g keep)))
end
/-- the list at a and the tuple at b, their items in new pairs -/
def It2 (K : PySem.W.Frag) (a b : Addr) : It :=
  ⟨fun i H => ∃ (xs ys : List V) (x y : V), SqL K H a xs ∧ SqT K H b ys ∧ xs[i]? = some x ∧ ys[i]? = some y,
    fun i H v H' => ∃ T x y, v = .ref T ∧ H T = none ∧ H' = upd H T (.tup [x, y]) ∧ (∀ xs, SqL K H a xs → xs[i]? = some x) ∧ ∀ ys, SqT K H b ys → ys[i]? = some y,
    fun i H => ∃ xs : List V, SqL K H a xs ∧ xs.length ≤ i⟩
theorem turnT {P : Program} {w : World} {K : PySem.W.Frag} {elts : List Expr} {kk : Nat} {tpos : Pos} {a b z n u p q : Addr} (D : ZipApart z n u p q a b) :
    Turn P w K (.Tuple elts kk tpos) (It2 K a b) [z, n, u, p, q] z (fun i h => IsZip h z n u .none ∧ IsPair h n (.ref p) (.ref q) ∧ (∃ x y, IsPair h u x y) ∧ h.IsListIter p a i ∧ h.IsTupleIter q b i) where
  mem := by simp
  obj := fun i h st c hc => by
    obtain ⟨hz, hn, ⟨x, y, hu⟩, ⟨o1, e1, _, d1⟩, ⟨o2, e2, _, d2⟩⟩ := st
    have mem : c = z ∨ c = n ∨ c = u ∨ c = p ∨ c = q := by simpa using hc
    rcases mem with rfl | rfl | rfl | rfl | rfl
    · exact ⟨_, hz, fun v => by intro e; cases e⟩
    · exact ⟨_, hn, fun v => by intro e; cases e⟩
    · exact ⟨_, hu, fun v => by intro e; cases e⟩
    · exact ⟨o1, e1, fun v e => by rw [d1] at e; cases e⟩
    · exact ⟨o2, e2, fun v e => by rw [d2] at e; cases e⟩
  keep := fun i h h' st k => by
    obtain ⟨hz, hn, ⟨x, y, hu⟩, hp, hq⟩ := st
    exact ⟨k z (by simp) _ hz, k n (by simp) _ hn, ⟨x, y, k u (by simp) _ hu⟩, hp.at (k p (by simp)), hq.at (k q (by simp))⟩
  item := by
    intro X hP hw hK hc i pins s σ H E I hf st hg
    subst hP hw hK
    obtain ⟨hz, hn, ⟨x0, y0, hu⟩, hp, hq⟩ := st
    obtain ⟨xs, ys, x, y, qa, qb, hx, hy⟩ := hg
    obtain ⟨us, ra, pa, _⟩ := I.list qa
    obtain ⟨vs, rb, pb, _⟩ := I.tuple qb
    obtain ⟨u1, hu1, r1⟩ := ra.get hx
    obtain ⟨u2, hu2, r2⟩ := rb.get hy
    have zl : z < s.heap.objs.size := Heap.lt_size hz
    have far : ∀ c, c ∈ [z, n, u, p, q] → c < s.heap.objs.size := by
      intro c hm
      have mem : c = z ∨ c = n ∨ c = u ∨ c = p ∨ c = q := by simpa using hm
      rcases mem with rfl | rfl | rfl | rfl | rfl
      · exact zl
      · exact Heap.lt_size hn
      · exact Heap.lt_size hu
      · obtain ⟨_, e, _⟩ := hp; exact Heap.lt_size e
      · obtain ⟨_, e, _⟩ := hq; exact Heap.lt_size e
    refine itemT D hz hn hu hp hq pa.isList (show s.heap.IsTuple b vs.toArray from pb) (x := u1) (y := u2) (by simpa using hu1) (by simpa using hu2) fun g zg ug pg qg tg keep => ?_
    refine ⟨_, rfl, wpAny_letOwnedTupleGo_zip (s := { s with heap := g }) zg fun g' z' sb => ?_⟩
    have tup : g'.get? s.heap.objs.size = some { cls := .type "tuple", data := .seq #[u1, u2] } := (sb.2 _ (Nat.ne_of_gt zl)).trans tg
    have new : ObjOk X.prog X.w (upd H s.heap.objs.size (.tup [x, y])) g' s.heap.objs.size (.tup [x, y]) := ⟨by show 2 ≤ sizeLine; decide, [u1, u2], .cons r1 (.cons r2 .nil), ⟨_, tup, rfl, _, rfl⟩⟩
    have I1 : Inv X pins σ (upd H s.heap.objs.size (.tup [x, y])) { s with heap := g' } := by
      refine I.turnedNew (t' := s.toks) (ch := [z, n, u, p, q]) (fun c o hb e => ?_) hf (Nat.le_refl _) new
      have ne : ∀ d, d ∈ [z, n, u, p, q] → c ≠ d := fun d hd e' => hb (by rw [e']; exact hd)
      exact (sb.2 c (ne z (by simp))).trans (keep c o (ne z (by simp)) (ne u (by simp)) (ne p (by simp)) (ne q (by simp)) e)
    refine ⟨.ref s.heap.objs.size, _, I1, rfl, ⟨_, x, y, rfl, I.hok.fresh (Nat.le_refl _), rfl, fun l hl => by rw [I.list_inj hl qa]; exact hx, fun l hl => by rw [I.tuple_inj hl qb]; exact hy⟩, ⟨z', ?_, ⟨u1, u2, ?_⟩, ?_, ?_⟩, fun c hm => ?_⟩
    · exact (sb.2 _ D.TIz).trans (keep _ _ D.TIz D.TITO D.TIi1 D.TIi2 hn)
    · exact (sb.2 _ D.TOz).trans ug
    · exact pg.at fun o e => (sb.2 _ D.i1z).trans e
    · exact qg.at fun o e => (sb.2 _ D.i2z).trans e
    · rw [upd_ne (Nat.ne_of_lt (far c hm))]
      exact (hf c hm).1
  done := by
    intro X hP hw hK hc i pins s σ H E I hf st hg
    subst hP hw hK
    obtain ⟨hz, hn, ⟨x0, y0, hu⟩, hp, hq⟩ := st
    obtain ⟨xs, qa, hend⟩ := hg
    obtain ⟨us, ra, pa, _⟩ := I.list qa
    have len := ra.length
    refine endT (I.ok.hd hc) D hz hn hp pa.isList (by simp; omega) fun g keep => ⟨rfl, I.turnedL (t' := s.toks) (ch := [z, n, u, p, q]) (fun c o hb e => ?_) hf⟩
    exact keep c o (fun e' => hb (by simp [e'])) (fun e' => hb (by simp [e'])) e
  self := fun A i s Q E st h => wpAny_pyIter_zip st.1 h
open Ex
/-- zip(list, tuple): the list is tracked -/
def iZipT (K : PySem.W.Frag) (ta : TA) : TI := fun σ H R => ta σ H fun vs H1 => onCons vs fun v r => onRef v fun a => onOne r fun v' => onRef v' fun b => onLst (H1 a) fun _ => (∃ ys, SqT K H1 b ys) ∧ R (It2 K a b) H1
theorem pi_zipT {X : Cx} {e e2 : Expr} {ta : TA} {p pos tpos : Pos} {elts : List Expr} {kk : Nat} (hg : Gl X "zip") (hm : X.mg "zip" = none) (ha : PA X [e, e2] ta)
    (hs : starEach [e, e2] X.env = (false, eval e X.env) :: starEach [e2] X.env := by rfl) (hpl : (backTo pos (starEach [e2] X.env)).any (·.1) = false := by rfl) :
    PI X (.Tuple elts kk tpos) (.Call (.Name "zip" p) [e, e2] [] pos) (iZipT X.K ta) := by
  intro pins s σ H R I h
  refine Call_ (ld_blt I hg hm boot_zip5 (PyProof.Rows.callWith_type1 (thn (ha pos pins s σ H _ I h) fun us s1 ⟨vs, H1, I1, r1, q1⟩ => ?_) hs hpl))
  obtain ⟨v, r, e1, a, e3, v', e4, b, e5, xs, hxa, ⟨ys, qb⟩, fin⟩ := q1
  subst e1 e3 e4 e5
  cases r1 with
  | cons c1 c2 =>
    cases c2 with
    | cons c3 c4 =>
      cases c4
      cases c1
      cases c3
      have qa : SqL X.K H1 a xs := SqL.of hxa
      obtain ⟨i1, ra, pa, _⟩ := I1.list qa
      obtain ⟨i2, rb, pb, _⟩ := I1.tuple qb
      have la : a < s1.heap.objs.size := pa.lt
      have lb : b < s1.heap.objs.size := by
        obtain ⟨o, e, _⟩ := (show s1.heap.IsTuple b i2.toArray from pb)
        exact Heap.lt_size e
      refine callT pa.isList (show s1.heap.IsTuple b i2.toArray from pb) fun g hz hn hu hp hq keep => wpAny_pyIter_zip hz ?_
      have I2 : Inv X pins σ H1 { s1 with heap := g } := I1.kept (t' := s1.toks) keep
      refine ⟨s1.heap.objs.size + 4, [s1.heap.objs.size + 4, s1.heap.objs.size + 2, s1.heap.objs.size + 3, s1.heap.objs.size, s1.heap.objs.size + 1], _, _, H1, rfl, I2, turnT (PySem.W.ktu_apart s1.heap.objs.size a b la lb), ⟨hz, hn, ⟨_, _, hu⟩, hp, hq⟩, fun c hc => ?_, fin⟩
      have mem : c = s1.heap.objs.size + 4 ∨ c = s1.heap.objs.size + 2 ∨ c = s1.heap.objs.size + 3 ∨ c = s1.heap.objs.size ∨ c = s1.heap.objs.size + 1 := by simpa using hc
      have le : s1.heap.objs.size ≤ c := by
        rcases mem with z | z | z | z | z <;> rw [z] <;> first | exact Nat.le_add_right _ _ | exact Nat.le_refl _
      exact I1.fpOk le (I1.hok.fresh le)
@[simp] theorem r_iZipT {K : PySem.W.Frag} {ta : TA} {σ : L2.St} {H : Hp} {R : It → Hp → Prop} : iZipT K ta σ H R = ta σ H fun vs H1 => onCons vs fun v r => onRef v fun a => onOne r fun v' => onRef v' fun b => onLst (H1 a) fun _ => (∃ ys, SqT K H1 b ys) ∧ R (It2 K a b) H1 := rfl
theorem loop_zipT {K : PySem.W.Frag} {σ : L2.St} {H : Hp} {D : Ends} {g : TG} {tb : TS} {a b : Addr} {xs ys : List V} (Pv : Nat → L2.St → Hp → Prop) (h0 : Pv 0 σ H) (hl : ∀ i σ H, i ≤ xs.length → Pv i σ H → H a = some (.lst xs) ∧ SqT K H b ys) (le : xs.length ≤ ys.length)
    (hs : ∀ i x y t σ H, xs[i]? = some x → ys[i]? = some y → Pv i σ H → H t = none → g (.ref t) σ (upd H t (.tup [x, y])) fun σ2 H2 => tb { D with nx := Pv (i + 1), ct := Pv (i + 1), bk := D.nx } σ2 H2) (hd : ∀ σ H, Pv xs.length σ H → D.nx σ H) : loop (It2 K a b) g tb D σ H := by
  refine ⟨fun i m σ H => m = xs.length - i ∧ i ≤ xs.length ∧ Pv i σ H, ⟨xs.length, by simp, Nat.zero_le _, h0⟩, ?_⟩
  rintro i m σ H ⟨rfl, hi, p⟩
  obtain ⟨h1, h2⟩ := hl i σ H hi p
  have q : SqL K H a xs := SqL.of h1
  by_cases hlt : i < xs.length
  · refine .inr ⟨⟨xs, ys, xs[i], ys[i], q, h2, by simp [hlt], List.getElem?_eq_getElem (by omega)⟩, Pv (i + 1), fun σ' H' p' => ⟨xs.length - (i + 1), by omega, rfl, hlt, p'⟩, fun x H' y => ?_⟩
    obtain ⟨t, x', y', e1, ht, e2, c1, c2⟩ := y
    subst e1 e2
    exact hs i x' y' t σ H (c1 xs q) (c2 ys h2) p ht
  · have e : i = xs.length := by omega
    subst e
    exact .inl ⟨⟨xs, q, Nat.le_refl _⟩, hd σ H p⟩
end Zt
namespace Ooo
open PySem L2 Ex
def top (i : Nat) : Stmt := PySem.Challenge.pw_outoforder_s01_answers.main.body.getD i (.Pass ⟨0, 0, 0, 0⟩)
abbrev s_wrapped : Stmt := top 1
abbrev s_signed : Stmt := top 2
abbrev s_calculated : Stmt := top 3
abbrev s_jumps : Stmt := top 4
abbrev s_signed_half : Stmt := top 20
abbrev s_sure_stop : Stmt := top 21
abbrev s_first_read : Stmt := top 22
abbrev s_second_read : Stmt := top 23
abbrev s_written : Stmt := top 24
abbrev s_Instruction_init : Stmt := inClass (top 25) 0
abbrev s_behind_program : Stmt := top 26
abbrev s_Slot_init : Stmt := inClass (top 32) 0
abbrev s_Slot_pass_on : Stmt := inClass (top 32) 1
abbrev s_Machine_init : Stmt := inClass (top 36) 0
abbrev s_Machine_fetch_from : Stmt := inClass (top 36) 1
abbrev s_Machine_next_to_leave : Stmt := inClass (top 36) 2
abbrev s_Machine_run_cycles : Stmt := inClass (top 36) 3
abbrev s_Machine_run_cycle : Stmt := inClass (top 36) 4
abbrev s_Machine_let_leave : Stmt := inClass (top 36) 5
abbrev s_Machine_throw_away : Stmt := inClass (top 36) 6
abbrev s_Machine_keep_result : Stmt := inClass (top 36) 7
abbrev s_Machine_count_branch : Stmt := inClass (top 36) 8
abbrev s_Machine_let_run_on : Stmt := inClass (top 36) 9
abbrev s_Machine_let_begin : Stmt := inClass (top 36) 10
abbrev s_Machine_begin_slot : Stmt := inClass (top 36) 11
abbrev s_Machine_work_out : Stmt := inClass (top 36) 12
abbrev s_Machine_work_out_cell : Stmt := inClass (top 36) 13
abbrev s_Machine_loaded : Stmt := inClass (top 36) 14
abbrev s_Machine_fetch : Stmt := inClass (top 36) 15
abbrev s_Machine_fetching_ended : Stmt := inClass (top 36) 16
abbrev s_Machine_fetch_one : Stmt := inClass (top 36) 17
abbrev s_Machine_take_operand : Stmt := inClass (top 36) 18
abbrev s_Machine_guessed : Stmt := inClass (top 36) 19
abbrev s_Machine_guesses_jump : Stmt := inClass (top 36) 20
abbrev s_Reader_init : Stmt := inClass (top 50) 0
abbrev s_Reader_at_end : Stmt := inClass (top 50) 1
abbrev s_Reader_take_number : Stmt := inClass (top 50) 2
abbrev s_Reader_take_row : Stmt := inClass (top 50) 3
abbrev s_is_as_told : Stmt := top 51
abbrev s_run_answer : Stmt := top 52
abbrev s_cells_answer : Stmt := top 53
abbrev s_told_answer : Stmt := top 54
abbrev s_slot_answer : Stmt := top 55
abbrev s_call_answer : Stmt := top 56
abbrev s_answers : Stmt := top 57
theorem sc_wrapped : FnScope ["number"] ["number"] (defScope s_wrapped) := ⟨rfl, rfl, rfl, by decide +kernel, rfl, by decide +kernel, by decide +kernel⟩
theorem sc_signed : FnScope ["number"] ["number"] (defScope s_signed) := ⟨rfl, rfl, rfl, by decide +kernel, rfl, by decide +kernel, by decide +kernel⟩
theorem sc_calculated : FnScope ["op", "first", "second"] ["op", "first", "second"] (defScope s_calculated) := ⟨rfl, rfl, rfl, by decide +kernel, rfl, by decide +kernel, by decide +kernel⟩
theorem sc_jumps : FnScope ["op", "first", "second"] ["op", "first", "second"] (defScope s_jumps) := ⟨rfl, rfl, rfl, by decide +kernel, rfl, by decide +kernel, by decide +kernel⟩
theorem sc_signed_half : FnScope ["word", "low"] ["word"] (defScope s_signed_half) := ⟨rfl, rfl, rfl, by decide +kernel, rfl, by decide +kernel, by decide +kernel⟩
theorem sc_sure_stop : FnScope ["op"] ["op"] (defScope s_sure_stop) := ⟨rfl, rfl, rfl, by decide +kernel, rfl, by decide +kernel, by decide +kernel⟩
theorem sc_first_read : FnScope ["op", "a"] ["op", "a"] (defScope s_first_read) := ⟨rfl, rfl, rfl, by decide +kernel, rfl, by decide +kernel, by decide +kernel⟩
theorem sc_second_read : FnScope ["op", "d", "b"] ["op", "d", "b"] (defScope s_second_read) := ⟨rfl, rfl, rfl, by decide +kernel, rfl, by decide +kernel, by decide +kernel⟩
theorem sc_written : FnScope ["op", "d"] ["op", "d"] (defScope s_written) := ⟨rfl, rfl, rfl, by decide +kernel, rfl, by decide +kernel, by decide +kernel⟩
theorem sc_Instruction_init : FnScope ["self", "place", "word", "d"] ["self", "place", "word"] (defScope s_Instruction_init) := ⟨rfl, rfl, rfl, by decide +kernel, rfl, by decide +kernel, by decide +kernel⟩
theorem sc_behind_program : FnScope ["place", "instruction"] ["place"] (defScope s_behind_program) := ⟨rfl, rfl, rfl, by decide +kernel, rfl, by decide +kernel, by decide +kernel⟩
theorem sc_Slot_init : FnScope ["self", "instruction", "guess"] ["self", "instruction", "guess"] (defScope s_Slot_init) := ⟨rfl, rfl, rfl, by decide +kernel, rfl, by decide +kernel, by decide +kernel⟩
theorem sc_Slot_pass_on : FnScope ["self", "reader", "which"] ["self"] (defScope s_Slot_pass_on) := ⟨rfl, rfl, rfl, by decide +kernel, rfl, by decide +kernel, by decide +kernel⟩
theorem sc_Machine_init : FnScope ["self", "prog", "cells", "cfg", "place", "word"] ["self", "prog", "cells", "cfg"] (defScope s_Machine_init) := ⟨rfl, rfl, rfl, by decide +kernel, rfl, by decide +kernel, by decide +kernel⟩
theorem sc_Machine_fetch_from : FnScope ["self", "place"] ["self", "place"] (defScope s_Machine_fetch_from) := ⟨rfl, rfl, rfl, by decide +kernel, rfl, by decide +kernel, by decide +kernel⟩
theorem sc_Machine_next_to_leave : FnScope ["self"] ["self"] (defScope s_Machine_next_to_leave) := ⟨rfl, rfl, rfl, by decide +kernel, rfl, by decide +kernel, by decide +kernel⟩
theorem sc_Machine_run_cycles : FnScope ["self", "cycles"] ["self", "cycles"] (defScope s_Machine_run_cycles) := ⟨rfl, rfl, rfl, by decide +kernel, rfl, by decide +kernel, by decide +kernel⟩
theorem sc_Machine_run_cycle : FnScope ["self"] ["self"] (defScope s_Machine_run_cycle) := ⟨rfl, rfl, rfl, by decide +kernel, rfl, by decide +kernel, by decide +kernel⟩
theorem sc_Machine_let_leave : FnScope ["self", "may_leave", "slot"] ["self"] (defScope s_Machine_let_leave) := ⟨rfl, rfl, rfl, by decide +kernel, rfl, by decide +kernel, by decide +kernel⟩
theorem sc_Machine_throw_away : FnScope ["self", "place"] ["self", "place"] (defScope s_Machine_throw_away) := ⟨rfl, rfl, rfl, by decide +kernel, rfl, by decide +kernel, by decide +kernel⟩
theorem sc_Machine_keep_result : FnScope ["self", "slot"] ["self", "slot"] (defScope s_Machine_keep_result) := ⟨rfl, rfl, rfl, by decide +kernel, rfl, by decide +kernel, by decide +kernel⟩
theorem sc_Machine_count_branch : FnScope ["self", "slot", "which"] ["self", "slot"] (defScope s_Machine_count_branch) := ⟨rfl, rfl, rfl, by decide +kernel, rfl, by decide +kernel, by decide +kernel⟩
theorem sc_Machine_let_run_on : FnScope ["self", "may_pass", "slot"] ["self"] (defScope s_Machine_let_run_on) := ⟨rfl, rfl, rfl, by decide +kernel, rfl, by decide +kernel, by decide +kernel⟩
theorem sc_Machine_let_begin : FnScope ["self", "stores_done", "k", "slot"] ["self"] (defScope s_Machine_let_begin) := ⟨rfl, rfl, rfl, by decide +kernel, rfl, by decide +kernel, by decide +kernel⟩
theorem sc_Machine_begin_slot : FnScope ["self", "k", "slot"] ["self", "k", "slot"] (defScope s_Machine_begin_slot) := ⟨rfl, rfl, rfl, by decide +kernel, rfl, by decide +kernel, by decide +kernel⟩
theorem sc_Machine_work_out : FnScope ["self", "k", "slot", "first", "second", "op", "instruction"] ["self", "k", "slot", "first", "second"] (defScope s_Machine_work_out) := ⟨rfl, rfl, rfl, by decide +kernel, rfl, by decide +kernel, by decide +kernel⟩
theorem sc_Machine_work_out_cell : FnScope ["self", "k", "slot", "cell", "stored"] ["self", "k", "slot", "cell", "stored"] (defScope s_Machine_work_out_cell) := ⟨rfl, rfl, rfl, by decide +kernel, rfl, by decide +kernel, by decide +kernel⟩
theorem sc_Machine_loaded : FnScope ["self", "k", "cell", "slot"] ["self", "k", "cell"] (defScope s_Machine_loaded) := ⟨rfl, rfl, rfl, by decide +kernel, rfl, by decide +kernel, by decide +kernel⟩
theorem sc_Machine_fetch : FnScope ["self", "may_fetch"] ["self"] (defScope s_Machine_fetch) := ⟨rfl, rfl, rfl, by decide +kernel, rfl, by decide +kernel, by decide +kernel⟩
theorem sc_Machine_fetching_ended : FnScope ["self", "last"] ["self"] (defScope s_Machine_fetching_ended) := ⟨rfl, rfl, rfl, by decide +kernel, rfl, by decide +kernel, by decide +kernel⟩
theorem sc_Machine_fetch_one : FnScope ["self", "place", "instruction", "slot"] ["self"] (defScope s_Machine_fetch_one) := ⟨rfl, rfl, rfl, by decide +kernel, rfl, by decide +kernel, by decide +kernel⟩
theorem sc_Machine_take_operand : FnScope ["self", "slot", "which", "read", "setter"] ["self", "slot", "which", "read"] (defScope s_Machine_take_operand) := ⟨rfl, rfl, rfl, by decide +kernel, rfl, by decide +kernel, by decide +kernel⟩
theorem sc_Machine_guessed : FnScope ["self", "instruction"] ["self", "instruction"] (defScope s_Machine_guessed) := ⟨rfl, rfl, rfl, by decide +kernel, rfl, by decide +kernel, by decide +kernel⟩
theorem sc_Machine_guesses_jump : FnScope ["self", "place"] ["self", "place"] (defScope s_Machine_guesses_jump) := ⟨rfl, rfl, rfl, by decide +kernel, rfl, by decide +kernel, by decide +kernel⟩
theorem sc_Reader_init : FnScope ["self", "numbers"] ["self", "numbers"] (defScope s_Reader_init) := ⟨rfl, rfl, rfl, by decide +kernel, rfl, by decide +kernel, by decide +kernel⟩
theorem sc_Reader_at_end : FnScope ["self"] ["self"] (defScope s_Reader_at_end) := ⟨rfl, rfl, rfl, by decide +kernel, rfl, by decide +kernel, by decide +kernel⟩
theorem sc_Reader_take_number : FnScope ["self", "number"] ["self"] (defScope s_Reader_take_number) := ⟨rfl, rfl, rfl, by decide +kernel, rfl, by decide +kernel, by decide +kernel⟩
theorem sc_Reader_take_row : FnScope ["self", "length", "row"] ["self"] (defScope s_Reader_take_row) := ⟨rfl, rfl, rfl, by decide +kernel, rfl, by decide +kernel, by decide +kernel⟩
theorem sc_is_as_told : FnScope ["cfg", "number", "bounds"] ["cfg"] (defScope s_is_as_told) := ⟨rfl, rfl, rfl, by decide +kernel, rfl, by decide +kernel, by decide +kernel⟩
theorem sc_run_answer : FnScope ["machine", "cycles"] ["machine", "cycles"] (defScope s_run_answer) := ⟨rfl, rfl, rfl, by decide +kernel, rfl, by decide +kernel, by decide +kernel⟩
theorem sc_cells_answer : FnScope ["machine", "a", "n"] ["machine", "a", "n"] (defScope s_cells_answer) := ⟨rfl, rfl, rfl, by decide +kernel, rfl, by decide +kernel, by decide +kernel⟩
theorem sc_told_answer : FnScope ["machine", "counts", "count"] ["machine"] (defScope s_told_answer) := ⟨rfl, rfl, rfl, by decide +kernel, rfl, by decide +kernel, by decide +kernel⟩
theorem sc_slot_answer : FnScope ["machine", "k", "slot"] ["machine", "k"] (defScope s_slot_answer) := ⟨rfl, rfl, rfl, by decide +kernel, rfl, by decide +kernel, by decide +kernel⟩
theorem sc_call_answer : FnScope ["machine", "reader", "number", "a"] ["machine", "reader"] (defScope s_call_answer) := ⟨rfl, rfl, rfl, by decide +kernel, rfl, by decide +kernel, by decide +kernel⟩
theorem sc_answers : FnScope ["calls", "reader", "prog", "cells", "cfg", "machine", "told", "answer"] ["calls"] (defScope s_answers) := ⟨rfl, rfl, rfl, by decide +kernel, rfl, by decide +kernel, by decide +kernel⟩
/-- the addresses of what the top makes, and the function objects -/
structure Ad where
  C_Instruction : Addr
  C_Slot : Addr
  C_Machine : Addr
  C_Reader : Addr
  f_wrapped : Addr
  d_wrapped : FuncData
  f_signed : Addr
  d_signed : FuncData
  f_calculated : Addr
  d_calculated : FuncData
  f_jumps : Addr
  d_jumps : FuncData
  f_signed_half : Addr
  d_signed_half : FuncData
  f_sure_stop : Addr
  d_sure_stop : FuncData
  f_first_read : Addr
  d_first_read : FuncData
  f_second_read : Addr
  d_second_read : FuncData
  f_written : Addr
  d_written : FuncData
  f_Instruction_init : Addr
  d_Instruction_init : FuncData
  f_behind_program : Addr
  d_behind_program : FuncData
  f_Slot_init : Addr
  d_Slot_init : FuncData
  f_Slot_pass_on : Addr
  d_Slot_pass_on : FuncData
  f_Machine_init : Addr
  d_Machine_init : FuncData
  f_Machine_fetch_from : Addr
  d_Machine_fetch_from : FuncData
  f_Machine_next_to_leave : Addr
  d_Machine_next_to_leave : FuncData
  f_Machine_run_cycles : Addr
  d_Machine_run_cycles : FuncData
  f_Machine_run_cycle : Addr
  d_Machine_run_cycle : FuncData
  f_Machine_let_leave : Addr
  d_Machine_let_leave : FuncData
  f_Machine_throw_away : Addr
  d_Machine_throw_away : FuncData
  f_Machine_keep_result : Addr
  d_Machine_keep_result : FuncData
  f_Machine_count_branch : Addr
  d_Machine_count_branch : FuncData
  f_Machine_let_run_on : Addr
  d_Machine_let_run_on : FuncData
  f_Machine_let_begin : Addr
  d_Machine_let_begin : FuncData
  f_Machine_begin_slot : Addr
  d_Machine_begin_slot : FuncData
  f_Machine_work_out : Addr
  d_Machine_work_out : FuncData
  f_Machine_work_out_cell : Addr
  d_Machine_work_out_cell : FuncData
  f_Machine_loaded : Addr
  d_Machine_loaded : FuncData
  f_Machine_fetch : Addr
  d_Machine_fetch : FuncData
  f_Machine_fetching_ended : Addr
  d_Machine_fetching_ended : FuncData
  f_Machine_fetch_one : Addr
  d_Machine_fetch_one : FuncData
  f_Machine_take_operand : Addr
  d_Machine_take_operand : FuncData
  f_Machine_guessed : Addr
  d_Machine_guessed : FuncData
  f_Machine_guesses_jump : Addr
  d_Machine_guesses_jump : FuncData
  f_Reader_init : Addr
  d_Reader_init : FuncData
  f_Reader_at_end : Addr
  d_Reader_at_end : FuncData
  f_Reader_take_number : Addr
  d_Reader_take_number : FuncData
  f_Reader_take_row : Addr
  d_Reader_take_row : FuncData
  f_is_as_told : Addr
  d_is_as_told : FuncData
  f_run_answer : Addr
  d_run_answer : FuncData
  f_cells_answer : Addr
  d_cells_answer : FuncData
  f_told_answer : Addr
  d_told_answer : FuncData
  f_slot_answer : Addr
  d_slot_answer : FuncData
  f_call_answer : Addr
  d_call_answer : FuncData
  f_answers : Addr
  d_answers : FuncData
  t_UNITS : Addr
  t_CYCLES : Addr
  t_CFG_RANGES : Addr
/-- what of the top the bodies ask -/
structure Txt (K : PySem.W.Frag) (mg : Str → Option Value) (A : Ad) : Prop where
  F_wrapped : Fun K "wrapped" "wrapped" s_wrapped A.f_wrapped A.d_wrapped
  b_wrapped : Binds K A.d_wrapped ["number"] []
  m_wrapped : mg "wrapped" = some (.ref A.f_wrapped)
  F_signed : Fun K "signed" "signed" s_signed A.f_signed A.d_signed
  b_signed : Binds K A.d_signed ["number"] []
  m_signed : mg "signed" = some (.ref A.f_signed)
  F_calculated : Fun K "calculated" "calculated" s_calculated A.f_calculated A.d_calculated
  b_calculated : Binds K A.d_calculated ["op", "first", "second"] []
  m_calculated : mg "calculated" = some (.ref A.f_calculated)
  F_jumps : Fun K "jumps" "jumps" s_jumps A.f_jumps A.d_jumps
  b_jumps : Binds K A.d_jumps ["op", "first", "second"] []
  m_jumps : mg "jumps" = some (.ref A.f_jumps)
  F_signed_half : Fun K "signed_half" "signed_half" s_signed_half A.f_signed_half A.d_signed_half
  b_signed_half : Binds K A.d_signed_half ["word"] []
  m_signed_half : mg "signed_half" = some (.ref A.f_signed_half)
  F_sure_stop : Fun K "sure_stop" "sure_stop" s_sure_stop A.f_sure_stop A.d_sure_stop
  b_sure_stop : Binds K A.d_sure_stop ["op"] []
  m_sure_stop : mg "sure_stop" = some (.ref A.f_sure_stop)
  F_first_read : Fun K "first_read" "first_read" s_first_read A.f_first_read A.d_first_read
  b_first_read : Binds K A.d_first_read ["op", "a"] []
  m_first_read : mg "first_read" = some (.ref A.f_first_read)
  F_second_read : Fun K "second_read" "second_read" s_second_read A.f_second_read A.d_second_read
  b_second_read : Binds K A.d_second_read ["op", "d", "b"] []
  m_second_read : mg "second_read" = some (.ref A.f_second_read)
  F_written : Fun K "written" "written" s_written A.f_written A.d_written
  b_written : Binds K A.d_written ["op", "d"] []
  m_written : mg "written" = some (.ref A.f_written)
  F_Instruction_init : Fun K "__init__" "Instruction.__init__" s_Instruction_init A.f_Instruction_init A.d_Instruction_init
  b_Instruction_init : Binds K A.d_Instruction_init ["self", "place", "word"] []
  K_Instruction : Mk K A.C_Instruction A.f_Instruction_init
  F_behind_program : Fun K "behind_program" "behind_program" s_behind_program A.f_behind_program A.d_behind_program
  b_behind_program : Binds K A.d_behind_program ["place"] []
  m_behind_program : mg "behind_program" = some (.ref A.f_behind_program)
  F_Slot_init : Fun K "__init__" "Slot.__init__" s_Slot_init A.f_Slot_init A.d_Slot_init
  b_Slot_init : Binds K A.d_Slot_init ["self", "instruction", "guess"] []
  K_Slot : Mk K A.C_Slot A.f_Slot_init
  F_Slot_pass_on : Fun K "pass_on" "Slot.pass_on" s_Slot_pass_on A.f_Slot_pass_on A.d_Slot_pass_on
  b_Slot_pass_on : Binds K A.d_Slot_pass_on ["self"] []
  M_Slot_pass_on : Meth K A.C_Slot "pass_on" A.f_Slot_pass_on
  F_Machine_init : Fun K "__init__" "Machine.__init__" s_Machine_init A.f_Machine_init A.d_Machine_init
  b_Machine_init : Binds K A.d_Machine_init ["self", "prog", "cells", "cfg"] []
  K_Machine : Mk K A.C_Machine A.f_Machine_init
  F_Machine_fetch_from : Fun K "fetch_from" "Machine.fetch_from" s_Machine_fetch_from A.f_Machine_fetch_from A.d_Machine_fetch_from
  b_Machine_fetch_from : Binds K A.d_Machine_fetch_from ["self", "place"] []
  M_Machine_fetch_from : Meth K A.C_Machine "fetch_from" A.f_Machine_fetch_from
  F_Machine_next_to_leave : Fun K "next_to_leave" "Machine.next_to_leave" s_Machine_next_to_leave A.f_Machine_next_to_leave A.d_Machine_next_to_leave
  b_Machine_next_to_leave : Binds K A.d_Machine_next_to_leave ["self"] []
  M_Machine_next_to_leave : Meth K A.C_Machine "next_to_leave" A.f_Machine_next_to_leave
  F_Machine_run_cycles : Fun K "run_cycles" "Machine.run_cycles" s_Machine_run_cycles A.f_Machine_run_cycles A.d_Machine_run_cycles
  b_Machine_run_cycles : Binds K A.d_Machine_run_cycles ["self", "cycles"] []
  M_Machine_run_cycles : Meth K A.C_Machine "run_cycles" A.f_Machine_run_cycles
  F_Machine_run_cycle : Fun K "run_cycle" "Machine.run_cycle" s_Machine_run_cycle A.f_Machine_run_cycle A.d_Machine_run_cycle
  b_Machine_run_cycle : Binds K A.d_Machine_run_cycle ["self"] []
  M_Machine_run_cycle : Meth K A.C_Machine "run_cycle" A.f_Machine_run_cycle
  F_Machine_let_leave : Fun K "let_leave" "Machine.let_leave" s_Machine_let_leave A.f_Machine_let_leave A.d_Machine_let_leave
  b_Machine_let_leave : Binds K A.d_Machine_let_leave ["self"] []
  M_Machine_let_leave : Meth K A.C_Machine "let_leave" A.f_Machine_let_leave
  F_Machine_throw_away : Fun K "throw_away" "Machine.throw_away" s_Machine_throw_away A.f_Machine_throw_away A.d_Machine_throw_away
  b_Machine_throw_away : Binds K A.d_Machine_throw_away ["self", "place"] []
  M_Machine_throw_away : Meth K A.C_Machine "throw_away" A.f_Machine_throw_away
  F_Machine_keep_result : Fun K "keep_result" "Machine.keep_result" s_Machine_keep_result A.f_Machine_keep_result A.d_Machine_keep_result
  b_Machine_keep_result : Binds K A.d_Machine_keep_result ["self", "slot"] []
  M_Machine_keep_result : Meth K A.C_Machine "keep_result" A.f_Machine_keep_result
  F_Machine_count_branch : Fun K "count_branch" "Machine.count_branch" s_Machine_count_branch A.f_Machine_count_branch A.d_Machine_count_branch
  b_Machine_count_branch : Binds K A.d_Machine_count_branch ["self", "slot"] []
  M_Machine_count_branch : Meth K A.C_Machine "count_branch" A.f_Machine_count_branch
  F_Machine_let_run_on : Fun K "let_run_on" "Machine.let_run_on" s_Machine_let_run_on A.f_Machine_let_run_on A.d_Machine_let_run_on
  b_Machine_let_run_on : Binds K A.d_Machine_let_run_on ["self"] []
  M_Machine_let_run_on : Meth K A.C_Machine "let_run_on" A.f_Machine_let_run_on
  F_Machine_let_begin : Fun K "let_begin" "Machine.let_begin" s_Machine_let_begin A.f_Machine_let_begin A.d_Machine_let_begin
  b_Machine_let_begin : Binds K A.d_Machine_let_begin ["self"] []
  M_Machine_let_begin : Meth K A.C_Machine "let_begin" A.f_Machine_let_begin
  F_Machine_begin_slot : Fun K "begin_slot" "Machine.begin_slot" s_Machine_begin_slot A.f_Machine_begin_slot A.d_Machine_begin_slot
  b_Machine_begin_slot : Binds K A.d_Machine_begin_slot ["self", "k", "slot"] []
  M_Machine_begin_slot : Meth K A.C_Machine "begin_slot" A.f_Machine_begin_slot
  F_Machine_work_out : Fun K "work_out" "Machine.work_out" s_Machine_work_out A.f_Machine_work_out A.d_Machine_work_out
  b_Machine_work_out : Binds K A.d_Machine_work_out ["self", "k", "slot", "first", "second"] []
  M_Machine_work_out : Meth K A.C_Machine "work_out" A.f_Machine_work_out
  F_Machine_work_out_cell : Fun K "work_out_cell" "Machine.work_out_cell" s_Machine_work_out_cell A.f_Machine_work_out_cell A.d_Machine_work_out_cell
  b_Machine_work_out_cell : Binds K A.d_Machine_work_out_cell ["self", "k", "slot", "cell", "stored"] []
  M_Machine_work_out_cell : Meth K A.C_Machine "work_out_cell" A.f_Machine_work_out_cell
  F_Machine_loaded : Fun K "loaded" "Machine.loaded" s_Machine_loaded A.f_Machine_loaded A.d_Machine_loaded
  b_Machine_loaded : Binds K A.d_Machine_loaded ["self", "k", "cell"] []
  M_Machine_loaded : Meth K A.C_Machine "loaded" A.f_Machine_loaded
  F_Machine_fetch : Fun K "fetch" "Machine.fetch" s_Machine_fetch A.f_Machine_fetch A.d_Machine_fetch
  b_Machine_fetch : Binds K A.d_Machine_fetch ["self"] []
  M_Machine_fetch : Meth K A.C_Machine "fetch" A.f_Machine_fetch
  F_Machine_fetching_ended : Fun K "fetching_ended" "Machine.fetching_ended" s_Machine_fetching_ended A.f_Machine_fetching_ended A.d_Machine_fetching_ended
  b_Machine_fetching_ended : Binds K A.d_Machine_fetching_ended ["self"] []
  M_Machine_fetching_ended : Meth K A.C_Machine "fetching_ended" A.f_Machine_fetching_ended
  F_Machine_fetch_one : Fun K "fetch_one" "Machine.fetch_one" s_Machine_fetch_one A.f_Machine_fetch_one A.d_Machine_fetch_one
  b_Machine_fetch_one : Binds K A.d_Machine_fetch_one ["self"] []
  M_Machine_fetch_one : Meth K A.C_Machine "fetch_one" A.f_Machine_fetch_one
  F_Machine_take_operand : Fun K "take_operand" "Machine.take_operand" s_Machine_take_operand A.f_Machine_take_operand A.d_Machine_take_operand
  b_Machine_take_operand : Binds K A.d_Machine_take_operand ["self", "slot", "which", "read"] []
  M_Machine_take_operand : Meth K A.C_Machine "take_operand" A.f_Machine_take_operand
  F_Machine_guessed : Fun K "guessed" "Machine.guessed" s_Machine_guessed A.f_Machine_guessed A.d_Machine_guessed
  b_Machine_guessed : Binds K A.d_Machine_guessed ["self", "instruction"] []
  M_Machine_guessed : Meth K A.C_Machine "guessed" A.f_Machine_guessed
  F_Machine_guesses_jump : Fun K "guesses_jump" "Machine.guesses_jump" s_Machine_guesses_jump A.f_Machine_guesses_jump A.d_Machine_guesses_jump
  b_Machine_guesses_jump : Binds K A.d_Machine_guesses_jump ["self", "place"] []
  M_Machine_guesses_jump : Meth K A.C_Machine "guesses_jump" A.f_Machine_guesses_jump
  F_Reader_init : Fun K "__init__" "Reader.__init__" s_Reader_init A.f_Reader_init A.d_Reader_init
  b_Reader_init : Binds K A.d_Reader_init ["self", "numbers"] []
  K_Reader : Mk K A.C_Reader A.f_Reader_init
  F_Reader_at_end : Fun K "at_end" "Reader.at_end" s_Reader_at_end A.f_Reader_at_end A.d_Reader_at_end
  b_Reader_at_end : Binds K A.d_Reader_at_end ["self"] []
  M_Reader_at_end : Meth K A.C_Reader "at_end" A.f_Reader_at_end
  F_Reader_take_number : Fun K "take_number" "Reader.take_number" s_Reader_take_number A.f_Reader_take_number A.d_Reader_take_number
  b_Reader_take_number : Binds K A.d_Reader_take_number ["self"] []
  M_Reader_take_number : Meth K A.C_Reader "take_number" A.f_Reader_take_number
  F_Reader_take_row : Fun K "take_row" "Reader.take_row" s_Reader_take_row A.f_Reader_take_row A.d_Reader_take_row
  b_Reader_take_row : Binds K A.d_Reader_take_row ["self"] []
  M_Reader_take_row : Meth K A.C_Reader "take_row" A.f_Reader_take_row
  F_is_as_told : Fun K "is_as_told" "is_as_told" s_is_as_told A.f_is_as_told A.d_is_as_told
  b_is_as_told : Binds K A.d_is_as_told ["cfg"] []
  m_is_as_told : mg "is_as_told" = some (.ref A.f_is_as_told)
  F_run_answer : Fun K "run_answer" "run_answer" s_run_answer A.f_run_answer A.d_run_answer
  b_run_answer : Binds K A.d_run_answer ["machine", "cycles"] []
  m_run_answer : mg "run_answer" = some (.ref A.f_run_answer)
  F_cells_answer : Fun K "cells_answer" "cells_answer" s_cells_answer A.f_cells_answer A.d_cells_answer
  b_cells_answer : Binds K A.d_cells_answer ["machine", "a", "n"] []
  m_cells_answer : mg "cells_answer" = some (.ref A.f_cells_answer)
  F_told_answer : Fun K "told_answer" "told_answer" s_told_answer A.f_told_answer A.d_told_answer
  b_told_answer : Binds K A.d_told_answer ["machine"] []
  m_told_answer : mg "told_answer" = some (.ref A.f_told_answer)
  F_slot_answer : Fun K "slot_answer" "slot_answer" s_slot_answer A.f_slot_answer A.d_slot_answer
  b_slot_answer : Binds K A.d_slot_answer ["machine", "k"] []
  m_slot_answer : mg "slot_answer" = some (.ref A.f_slot_answer)
  F_call_answer : Fun K "call_answer" "call_answer" s_call_answer A.f_call_answer A.d_call_answer
  b_call_answer : Binds K A.d_call_answer ["machine", "reader"] []
  m_call_answer : mg "call_answer" = some (.ref A.f_call_answer)
  F_answers : Fun K "answers" "answers" s_answers A.f_answers A.d_answers
  b_answers : Binds K A.d_answers ["calls"] []
  m_answers : mg "answers" = some (.ref A.f_answers)
  c_Instruction : Cls K A.C_Instruction
  g_Instruction : mg "Instruction" = some (.ref A.C_Instruction)
  n_Instruction_place : NoAttr K A.C_Instruction "place"
  n_Instruction_word : NoAttr K A.C_Instruction "word"
  n_Instruction_op : NoAttr K A.C_Instruction "op"
  n_Instruction_imm : NoAttr K A.C_Instruction "imm"
  n_Instruction_first : NoAttr K A.C_Instruction "first"
  n_Instruction_second : NoAttr K A.C_Instruction "second"
  n_Instruction_written : NoAttr K A.C_Instruction "written"
  n_Instruction_following : NoAttr K A.C_Instruction "following"
  n_Instruction_target : NoAttr K A.C_Instruction "target"
  n_Instruction_branches : NoAttr K A.C_Instruction "branches"
  n_Instruction_unit : NoAttr K A.C_Instruction "unit"
  n_Instruction_cycles : NoAttr K A.C_Instruction "cycles"
  n_Instruction_sure_stop : NoAttr K A.C_Instruction "sure_stop"
  c_Slot : Cls K A.C_Slot
  g_Slot : mg "Slot" = some (.ref A.C_Slot)
  n_Slot_instruction : NoAttr K A.C_Slot "instruction"
  n_Slot_guess : NoAttr K A.C_Slot "guess"
  n_Slot_op : NoAttr K A.C_Slot "op"
  n_Slot_unit : NoAttr K A.C_Slot "unit"
  n_Slot_stop : NoAttr K A.C_Slot "stop"
  n_Slot_state : NoAttr K A.C_Slot "state"
  n_Slot_goes_on : NoAttr K A.C_Slot "goes_on"
  n_Slot_cycles_left : NoAttr K A.C_Slot "cycles_left"
  n_Slot_value : NoAttr K A.C_Slot "value"
  n_Slot_cell : NoAttr K A.C_Slot "cell"
  n_Slot_operands : NoAttr K A.C_Slot "operands"
  n_Slot_missing : NoAttr K A.C_Slot "missing"
  n_Slot_readers : NoAttr K A.C_Slot "readers"
  c_Machine : Cls K A.C_Machine
  g_Machine : mg "Machine" = some (.ref A.C_Machine)
  n_Machine_prog : NoAttr K A.C_Machine "prog"
  n_Machine_cells : NoAttr K A.C_Machine "cells"
  n_Machine_regs : NoAttr K A.C_Machine "regs"
  n_Machine_most_fetched : NoAttr K A.C_Machine "most_fetched"
  n_Machine_most_leaving : NoAttr K A.C_Machine "most_leaving"
  n_Machine_most_passed_on : NoAttr K A.C_Machine "most_passed_on"
  n_Machine_most_slots : NoAttr K A.C_Machine "most_slots"
  n_Machine_units : NoAttr K A.C_Machine "units"
  n_Machine_counters : NoAttr K A.C_Machine "counters"
  n_Machine_stopped : NoAttr K A.C_Machine "stopped"
  n_Machine_cycles_run : NoAttr K A.C_Machine "cycles_run"
  n_Machine_have_left : NoAttr K A.C_Machine "have_left"
  n_Machine_thrown_away : NoAttr K A.C_Machine "thrown_away"
  n_Machine_wrong_guesses : NoAttr K A.C_Machine "wrong_guesses"
  n_Machine_slots : NoAttr K A.C_Machine "slots"
  n_Machine_setters : NoAttr K A.C_Machine "setters"
  n_Machine_free_units : NoAttr K A.C_Machine "free_units"
  n_Machine_fetch_place : NoAttr K A.C_Machine "fetch_place"
  c_Reader : Cls K A.C_Reader
  g_Reader : mg "Reader" = some (.ref A.C_Reader)
  n_Reader_numbers : NoAttr K A.C_Reader "numbers"
  n_Reader_at : NoAttr K A.C_Reader "at"
  v_DIVIDE : ∃ t, mg "DIVIDE" = some (.int 9 t)
  v_ADD_IMM : ∃ t, mg "ADD_IMM" = some (.int 10 t)
  v_HIGH_IMM : ∃ t, mg "HIGH_IMM" = some (.int 11 t)
  v_LOAD : ∃ t, mg "LOAD" = some (.int 12 t)
  v_STORE : ∃ t, mg "STORE" = some (.int 13 t)
  v_LINK : ∃ t, mg "LINK" = some (.int 17 t)
  v_JUMP_TO_VALUE : ∃ t, mg "JUMP_TO_VALUE" = some (.int 18 t)
  v_STOPPED_BY_WORD : ∃ t, mg "STOPPED_BY_WORD" = some (.int 1 t)
  v_STOPPED_BY_ZERO : ∃ t, mg "STOPPED_BY_ZERO" = some (.int 2 t)
  v_STOPPED_BY_CELL : ∃ t, mg "STOPPED_BY_CELL" = some (.int 3 t)
  v_STOPPED_BY_OP : ∃ t, mg "STOPPED_BY_OP" = some (.int 4 t)
  v_STOPPED_BEHIND : ∃ t, mg "STOPPED_BEHIND" = some (.int 5 t)
  v_WAITS : ∃ t, mg "WAITS" = some (.int 0 t)
  v_RUNS : ∃ t, mg "RUNS" = some (.int 1 t)
  v_HAS_RUN : ∃ t, mg "HAS_RUN" = some (.int 2 t)
  v_DONE : ∃ t, mg "DONE" = some (.int 3 t)
  v_CELLS : ∃ t, mg "CELLS" = some (.int 1024 t)
  v_NO_PLACE : ∃ t, mg "NO_PLACE" = some (.int (-1) t)
  v_BEGIN_REFUSED : ∃ t, mg "BEGIN_REFUSED" = some (.int (-3) t)
  v_OUT_OF_RANGE : ∃ t, mg "OUT_OF_RANGE" = some (.int (-2) t)
  v_NO_SUCH_SLOT : ∃ t, mg "NO_SUCH_SLOT" = some (.int (-3) t)
  v_MOST_CYCLES : ∃ t, mg "MOST_CYCLES" = some (.int 1000000 t)
  v_LAST_SLOT : ∃ t, mg "LAST_SLOT" = some (.int 63 t)
  v_RUN : ∃ t, mg "RUN" = some (.int 1 t)
  v_REGS : ∃ t, mg "REGS" = some (.int 2 t)
  v_TELL_CELLS : ∃ t, mg "TELL_CELLS" = some (.int 3 t)
  v_TOLD : ∃ t, mg "TOLD" = some (.int 4 t)
  v_SLOT : ∃ t, mg "SLOT" = some (.int 5 t)
  g_UNITS : mg "UNITS" = some (.ref A.t_UNITS)
  q_UNITS : KDict K A.t_UNITS [(8, 1), (9, 2), (12, 3), (13, 3)]
  g_CYCLES : mg "CYCLES" = some (.ref A.t_CYCLES)
  q_CYCLES : KDict K A.t_CYCLES [(8, 4), (9, 12), (12, 3)]
  g_CFG_RANGES : mg "CFG_RANGES" = some (.ref A.t_CFG_RANGES)
  q_CFG_RANGES : KPairs K A.t_CFG_RANGES [(1, 4), (1, 4), (1, 4), (1, 64), (1, 4), (1, 4), (1, 4), (1, 4), (0, 256)]
  z_enumerate : mg "enumerate" = none
  z_len : mg "len" = none
  z_list : mg "list" = none
  z_max : mg "max" = none
  z_min : mg "min" = none
  z_reversed : mg "reversed" = none
  z_zip : mg "zip" = none
end Ooo
namespace Ooo
open PySem L2 Ex
variable {P : Program} {w : World} {K : PySem.W.Frag} {mg : Str → Option Value} {base : Heap} {A : Ad}
/-- of whole numbers to a value, nothing else turned -/
def sp1 (ok : Int → Prop) (g : Int → V) : Sp := fun vs H Q _ => ∃ i, vs = [.int i] ∧ ok i ∧ Q (g i) H
def sp2 (ok : Int → Int → Prop) (g : Int → Int → V) : Sp := fun vs H Q _ => ∃ i j, vs = [.int i, .int j] ∧ ok i j ∧ Q (g i j) H
def sp3 (ok : Int → Int → Int → Prop) (g : Int → Int → Int → V) : Sp := fun vs H Q _ => ∃ i j k, vs = [.int i, .int j, .int k] ∧ ok i j k ∧ Q (g i j k) H
@[simp] theorem r_sp1 {ok : Int → Prop} {g : Int → V} {i : Int} {H : Hp} {Q : VK} {E : XK} : sp1 ok g [.int i] H Q E = (ok i ∧ Q (g i) H) := by simp [sp1]
@[simp] theorem r_sp2 {ok : Int → Int → Prop} {g : Int → Int → V} {i j : Int} {H : Hp} {Q : VK} {E : XK} : sp2 ok g [.int i, .int j] H Q E = (ok i j ∧ Q (g i j) H) := by
  apply propext
  constructor
  · rintro ⟨_, _, e, h, q⟩
    cases e
    exact ⟨h, q⟩
  · rintro ⟨h, q⟩
    exact ⟨_, _, rfl, h, q⟩
@[simp] theorem r_sp3 {ok : Int → Int → Int → Prop} {g : Int → Int → Int → V} {i j k : Int} {H : Hp} {Q : VK} {E : XK} : sp3 ok g [.int i, .int j, .int k] H Q E = (ok i j k ∧ Q (g i j k) H) := by
  apply propext
  constructor
  · rintro ⟨_, _, _, e, h, q⟩
    cases e
    exact ⟨h, q⟩
  · rintro ⟨h, q⟩
    exact ⟨_, _, _, rfl, h, q⟩
theorem len1 {ok : Int → Prop} {g : Int → V} {x : Str} : ∀ vs H Q E, sp1 ok g vs H Q E → vs.length = [x].length := by
  rintro vs H Q E ⟨i, rfl, _⟩
  rfl
theorem len2 {ok : Int → Int → Prop} {g : Int → Int → V} {x y : Str} : ∀ vs H Q E, sp2 ok g vs H Q E → vs.length = [x, y].length := by
  rintro vs H Q E ⟨i, j, rfl, _⟩
  rfl
theorem len3 {ok : Int → Int → Int → Prop} {g : Int → Int → Int → V} {x y z : Str} : ∀ vs H Q E, sp3 ok g vs H Q E → vs.length = [x, y, z].length := by
  rintro vs H Q E ⟨i, j, k, rfl, _⟩
  rfl
theorem ok_wrapped (T : Txt K mg A) : FnOk P w K mg base CX0 1 A.f_wrapped A.d_wrapped ["number"] (sp1 (fun _ => True) fun i => .int (i % 4294967296)) := by
  refine T.F_wrapped.ok sc_wrapped len1 (fun cdv Ar outer s H vs Q E hr h => ?_)
  obtain ⟨i, rfl, _, k⟩ := h
  refine ⟨_, pss_one (ps_ret (pe_op op_mod (pv 0) pe_int)), ?_⟩
  simpa using k
def sgn (i : Int) : Int := if 2147483648 ≤ i then i - 4294967296 else i
theorem ok_signed (T : Txt K mg A) : FnOk P w K mg base CX0 1 A.f_signed A.d_signed ["number"] (sp1 (fun _ => True) fun i => .int (sgn i)) := by
  refine T.F_signed.ok sc_signed len1 (fun cdv Ar outer s H vs Q E hr h => ?_)
  obtain ⟨i, rfl, _, k⟩ := h
  refine ⟨_, pss_one (ps_ret (pe_ifExp (pt_cmpR op_ge (pv 0) pe_int (nomark _)) (pe_op op_sub (pv 0) pe_int) (pv 0))), ?_⟩
  simp [sgn] at k ⊢
  split <;> simp_all
def cl (op x y : Int) : Int :=
  if op = 1 then (x + y) % 4294967296 else if op = 2 then (x - y) % 4294967296 else if op = 3 then Builtin.bitAnd x y else if op = 4 then Builtin.bitOr x y else if op = 5 then Builtin.bitXor x y
  else if op = 6 then x * 2 ^ (y % 32).toNat % 4294967296 else if op = 7 then x / 2 ^ (y % 32).toNat else if op = 8 then x * y % 4294967296 else x / y
def cOk (op x y : Int) : Prop := 0 ≤ x ∧ x < 4294967296 ∧ 0 ≤ y ∧ y < 4294967296 ∧ (op = 1 ∨ op = 2 ∨ op = 3 ∨ op = 4 ∨ op = 5 ∨ op = 6 ∨ op = 7 ∨ op = 8 ∨ y ≠ 0)
theorem ok_calculated (T : Txt K mg A) : FnOk P w K mg base CX0 3 A.f_calculated A.d_calculated ["op", "first", "second"] (sp3 cOk fun op x y => .int (cl op x y)) := by
  have G : FnOk P w K mg base CX0 1 A.f_wrapped A.d_wrapped ["number"] _ := ok_wrapped T
  refine T.F_calculated.ok sc_calculated len3 (fun cdv Ar outer s H vs Q E hr h => ?_)
  obtain ⟨op, x, y, rfl, ⟨hx, hx2, hy, hy2, hd⟩, k⟩ := h
  have hr1 : Room 1 _ := hr.mono (by decide)
  refine ⟨_, pss_cons (ps_if (pt_cmpR op_eq (pv 0) pe_int (nomark _)) (pss_one (ps_ret (pe_call G hr1 rfl T.m_wrapped T.F_wrapped.kp T.b_wrapped .nil pass0 (pa_cons (pe_op op_add (pv 1) (pv 2)) pa_nil)))) pss_nil)
    (pss_cons (ps_if (pt_cmpR op_eq (pv 0) pe_int (nomark _)) (pss_one (ps_ret (pe_call G hr1 rfl T.m_wrapped T.F_wrapped.kp T.b_wrapped .nil pass0 (pa_cons (pe_op op_sub (pv 1) (pv 2)) pa_nil)))) pss_nil)
    (pss_cons (ps_if (pt_cmpR op_eq (pv 0) pe_int (nomark _)) (pss_one (ps_ret (pe_op op_and (pv 1) (pv 2)))) pss_nil)
    (pss_cons (ps_if (pt_cmpR op_eq (pv 0) pe_int (nomark _)) (pss_one (ps_ret (pe_op op_or (pv 1) (pv 2)))) pss_nil)
    (pss_cons (ps_if (pt_cmpR op_eq (pv 0) pe_int (nomark _)) (pss_one (ps_ret (pe_op op_xor (pv 1) (pv 2)))) pss_nil)
    (pss_cons (ps_if (pt_cmpR op_eq (pv 0) pe_int (nomark _)) (pss_one (ps_ret (pe_call G hr1 rfl T.m_wrapped T.F_wrapped.kp T.b_wrapped .nil pass0 (pa_cons (pe_op op_shl (pv 1) (pe_op op_mod (pv 2) pe_int)) pa_nil)))) pss_nil)
    (pss_cons (ps_if (pt_cmpR op_eq (pv 0) pe_int (nomark _)) (pss_one (ps_ret (pe_op op_shr (pv 1) (pe_op op_mod (pv 2) pe_int)))) pss_nil)
    (pss_cons (ps_if (pt_cmpR op_eq (pv 0) pe_int (nomark _)) (pss_one (ps_ret (pe_call G hr1 rfl T.m_wrapped T.F_wrapped.kp T.b_wrapped .nil pass0 (pa_cons (pe_op op_mul (pv 1) (pv 2)) pa_nil)))) pss_nil)
    (pss_one (ps_ret (pe_op op_div (pv 1) (pv 2))))))))))), ?_⟩
  have c1 : 0 ≤ y % 32 := Int.emod_nonneg _ (by decide)
  have c2 : y % 32 ≤ 1000000 := by omega
  have c3 : x.natAbs < 18446744073709551616 := by omega
  have c4 : -18446744073709551616 < x := by omega
  have c5 : x < 18446744073709551616 := by omega
  simp [CPow, CMul, c1, c2, c3, c4, c5, hy2]
  simp only [cl] at k
  repeat' split
  all_goals simp_all
  all_goals omega
theorem ok_jumps (T : Txt K mg A) : FnOk P w K mg base CX0 3 A.f_jumps A.d_jumps ["op", "first", "second"] (sp3 (fun _ _ _ => True) fun op x y => .bl (if op = 14 then decide (x = y) else if op = 15 then !decide (x = y) else decide (sgn x < sgn y))) := by
  have G : FnOk P w K mg base CX0 1 A.f_signed A.d_signed ["number"] _ := ok_signed T
  refine T.F_jumps.ok sc_jumps len3 (fun cdv Ar outer s H vs Q E hr h => ?_)
  obtain ⟨op, x, y, rfl, _, k⟩ := h
  have hr1 : Room 1 _ := hr.mono (by decide)
  refine ⟨_, pss_cons (ps_if (pt_cmpR op_eq (pv 0) pe_int (nomark _)) (pss_one (ps_ret (pe_cmpR op_eq (pv 1) (pv 2) (nomark _)))) pss_nil)
    (pss_cons (ps_if (pt_cmpR op_eq (pv 0) pe_int (nomark _)) (pss_one (ps_ret (pe_cmpR op_ne (pv 1) (pv 2) (nomark _)))) pss_nil)
    (pss_one (ps_ret (pe_cmpR op_lt (pe_call G hr1 rfl T.m_signed T.F_signed.kp T.b_signed .nil pass0 (pa_cons (pv 1) pa_nil)) (pe_call G hr1 rfl T.m_signed T.F_signed.kp T.b_signed .nil pass0 (pa_cons (pv 2) pa_nil)) (nomark _))))), ?_⟩
  simp
  repeat' split
  all_goals simp_all
end Ooo
namespace Ooo
open PySem L2 Ex
variable {P : Program} {w : World} {K : PySem.W.Frag} {mg : Str → Option Value} {base : Heap} {A : Ad}
def half (i : Int) : Int := if 32768 ≤ Builtin.bitAnd i 65535 then Builtin.bitAnd i 65535 - 65536 else Builtin.bitAnd i 65535
theorem ok_signed_half (T : Txt K mg A) : FnOk P w K mg base CX0 1 A.f_signed_half A.d_signed_half ["word"] (sp1 (fun _ => True) fun i => .int (half i)) := by
  refine T.F_signed_half.ok sc_signed_half len1 (fun cdv Ar outer s H vs Q E hr h => ?_)
  obtain ⟨i, rfl, _, k⟩ := h
  refine ⟨_, (pss_cons (ps_set (i := 1) sc_signed_half.nd rfl (Or.inl rfl) (pe_op op_and (pv 0) pe_int))
    (pss_one (ps_ret (pe_ifExp (pt_cmpR op_ge (pv 1) pe_int (nomark _)) (pe_op op_sub (pv 1) pe_int) (pv 1))))), ?_⟩
  simp [half] at k ⊢
  split <;> simp_all
def sure (op : Int) : Int := if op = 0 then 1 else if 18 < op then 4 else 0
theorem ok_sure_stop (T : Txt K mg A) : FnOk P w K mg base CX0 1 A.f_sure_stop A.d_sure_stop ["op"] (sp1 (fun _ => True) fun i => .int (sure i)) := by
  refine T.F_sure_stop.ok sc_sure_stop len1 (fun cdv Ar outer s H vs Q E hr h => ?_)
  obtain ⟨i, rfl, _, k⟩ := h
  refine ⟨_, (pss_cons (ps_if (pt_cmpR op_eq (pv 0) pe_int (nomark _)) (pss_one (ps_ret (pe_k T.v_STOPPED_BY_WORD))) pss_nil)
    (pss_one (ps_ret (pe_ifExp (pt_cmpR op_gt (pv 0) (pe_k T.v_JUMP_TO_VALUE) (nomark _)) (pe_k T.v_STOPPED_BY_OP) pe_int)))), ?_⟩
  simp [sure] at k ⊢
  repeat' split
  all_goals simp_all
def fst (op a : Int) : Int := if op = 11 ∨ op = 17 ∨ sure op ≠ 0 then 0 else a
theorem ok_first_read (T : Txt K mg A) : FnOk P w K mg base CX0 2 A.f_first_read A.d_first_read ["op", "a"] (sp2 (fun _ _ => True) fun op a => .int (fst op a)) := by
  have G_sure_stop : FnOk P w K mg base CX0 1 _ _ _ _ := ok_sure_stop T
  refine T.F_first_read.ok sc_first_read len2 (fun cdv Ar outer s H vs Q E hr h => ?_)
  obtain ⟨op, a, rfl, _, k⟩ := h
  refine ⟨_, (pss_cons (ps_if (PW.pt (pw_or (pt_cmpR op_eq (pv 0) (pe_k T.v_HIGH_IMM) (nomark _)) (pw_or (pt_cmpR op_eq (pv 0) (pe_k T.v_LINK) (nomark _)) (pw_or1 (pt_cmpR op_ne (pe_call G_sure_stop (hr.mono (by decide)) rfl T.m_sure_stop T.F_sure_stop.kp T.b_sure_stop .nil pass0 (pa_cons (pv 0) pa_nil)) pe_int (nomark _)))))) (pss_one (ps_ret pe_int)) pss_nil)
    (pss_one (ps_ret (pv 1)))), ?_⟩
  simp [fst] at k ⊢
  repeat' split
  all_goals simp_all
def snd (op d b : Int) : Int := if 1 ≤ op ∧ op ≤ 9 then b else if 13 ≤ op ∧ op ≤ 16 then d else 0
theorem ok_second_read (T : Txt K mg A) : FnOk P w K mg base CX0 1 A.f_second_read A.d_second_read ["op", "d", "b"] (sp3 (fun _ _ _ => True) fun op d b => .int (snd op d b)) := by
  refine T.F_second_read.ok sc_second_read len3 (fun cdv Ar outer s H vs Q E hr h => ?_)
  obtain ⟨op, d, b, rfl, _, k⟩ := h
  refine ⟨_, (pss_cons (ps_if (pt_chain op_le op_le pe_int (pv 0) pe_int) (pss_one (ps_ret (pv 2))) pss_nil)
    (pss_one (ps_ret (pe_ifExp (pt_chain op_le op_le pe_int (pv 0) pe_int) (pv 1) pe_int)))), ?_⟩
  simp [snd] at k ⊢
  repeat' split
  all_goals simp_all
def dst (op d : Int) : Int := if (1 ≤ op ∧ op ≤ 12) ∨ op = 17 then d else 0
theorem ok_written (T : Txt K mg A) : FnOk P w K mg base CX0 1 A.f_written A.d_written ["op", "d"] (sp2 (fun _ _ => True) fun op d => .int (dst op d)) := by
  refine T.F_written.ok sc_written len2 (fun cdv Ar outer s H vs Q E hr h => ?_)
  obtain ⟨op, d, rfl, _, k⟩ := h
  refine ⟨_, (pss_one (ps_ret (pe_ifExp (PW.pt (pw_or (pt_chain op_le op_le pe_int (pv 0) pe_int) (pw_or1 (pt_cmpR op_eq (pv 0) (pe_k T.v_LINK) (nomark _))))) (pv 1) pe_int))), ?_⟩
  simp [dst] at k ⊢
  repeat' split
  all_goals simp_all
end Ooo
namespace Ooo
open PySem L2 Ex
/-- the attributes of a Instruction -/
def F_Instruction (v0 v1 v2 v3 v4 v5 v6 v7 v8 v9 v10 v11 v12 : V) : List (Str × V) := [(Str.ofString "place", v0), (Str.ofString "word", v1), (Str.ofString "op", v2), (Str.ofString "imm", v3), (Str.ofString "first", v4), (Str.ofString "second", v5), (Str.ofString "written", v6), (Str.ofString "following", v7), (Str.ofString "target", v8), (Str.ofString "branches", v9), (Str.ofString "unit", v10), (Str.ofString "cycles", v11), (Str.ofString "sure_stop", v12)]
@[simp] theorem g_Instruction_place {v0 v1 v2 v3 v4 v5 v6 v7 v8 v9 v10 v11 v12 : V} : (F_Instruction v0 v1 v2 v3 v4 v5 v6 v7 v8 v9 v10 v11 v12).lookup (Str.ofString "place") = some v0 := by kernel_rfl
@[simp] theorem p_Instruction_place {v0 v1 v2 v3 v4 v5 v6 v7 v8 v9 v10 v11 v12 v : V} : putF (Str.ofString "place") v (F_Instruction v0 v1 v2 v3 v4 v5 v6 v7 v8 v9 v10 v11 v12) = F_Instruction v v1 v2 v3 v4 v5 v6 v7 v8 v9 v10 v11 v12 := by kernel_rfl
@[simp] theorem g_Instruction_word {v0 v1 v2 v3 v4 v5 v6 v7 v8 v9 v10 v11 v12 : V} : (F_Instruction v0 v1 v2 v3 v4 v5 v6 v7 v8 v9 v10 v11 v12).lookup (Str.ofString "word") = some v1 := by kernel_rfl
@[simp] theorem p_Instruction_word {v0 v1 v2 v3 v4 v5 v6 v7 v8 v9 v10 v11 v12 v : V} : putF (Str.ofString "word") v (F_Instruction v0 v1 v2 v3 v4 v5 v6 v7 v8 v9 v10 v11 v12) = F_Instruction v0 v v2 v3 v4 v5 v6 v7 v8 v9 v10 v11 v12 := by kernel_rfl
@[simp] theorem g_Instruction_op {v0 v1 v2 v3 v4 v5 v6 v7 v8 v9 v10 v11 v12 : V} : (F_Instruction v0 v1 v2 v3 v4 v5 v6 v7 v8 v9 v10 v11 v12).lookup (Str.ofString "op") = some v2 := by kernel_rfl
@[simp] theorem p_Instruction_op {v0 v1 v2 v3 v4 v5 v6 v7 v8 v9 v10 v11 v12 v : V} : putF (Str.ofString "op") v (F_Instruction v0 v1 v2 v3 v4 v5 v6 v7 v8 v9 v10 v11 v12) = F_Instruction v0 v1 v v3 v4 v5 v6 v7 v8 v9 v10 v11 v12 := by kernel_rfl
@[simp] theorem g_Instruction_imm {v0 v1 v2 v3 v4 v5 v6 v7 v8 v9 v10 v11 v12 : V} : (F_Instruction v0 v1 v2 v3 v4 v5 v6 v7 v8 v9 v10 v11 v12).lookup (Str.ofString "imm") = some v3 := by kernel_rfl
@[simp] theorem p_Instruction_imm {v0 v1 v2 v3 v4 v5 v6 v7 v8 v9 v10 v11 v12 v : V} : putF (Str.ofString "imm") v (F_Instruction v0 v1 v2 v3 v4 v5 v6 v7 v8 v9 v10 v11 v12) = F_Instruction v0 v1 v2 v v4 v5 v6 v7 v8 v9 v10 v11 v12 := by kernel_rfl
@[simp] theorem g_Instruction_first {v0 v1 v2 v3 v4 v5 v6 v7 v8 v9 v10 v11 v12 : V} : (F_Instruction v0 v1 v2 v3 v4 v5 v6 v7 v8 v9 v10 v11 v12).lookup (Str.ofString "first") = some v4 := by kernel_rfl
@[simp] theorem p_Instruction_first {v0 v1 v2 v3 v4 v5 v6 v7 v8 v9 v10 v11 v12 v : V} : putF (Str.ofString "first") v (F_Instruction v0 v1 v2 v3 v4 v5 v6 v7 v8 v9 v10 v11 v12) = F_Instruction v0 v1 v2 v3 v v5 v6 v7 v8 v9 v10 v11 v12 := by kernel_rfl
@[simp] theorem g_Instruction_second {v0 v1 v2 v3 v4 v5 v6 v7 v8 v9 v10 v11 v12 : V} : (F_Instruction v0 v1 v2 v3 v4 v5 v6 v7 v8 v9 v10 v11 v12).lookup (Str.ofString "second") = some v5 := by kernel_rfl
@[simp] theorem p_Instruction_second {v0 v1 v2 v3 v4 v5 v6 v7 v8 v9 v10 v11 v12 v : V} : putF (Str.ofString "second") v (F_Instruction v0 v1 v2 v3 v4 v5 v6 v7 v8 v9 v10 v11 v12) = F_Instruction v0 v1 v2 v3 v4 v v6 v7 v8 v9 v10 v11 v12 := by kernel_rfl
@[simp] theorem g_Instruction_written {v0 v1 v2 v3 v4 v5 v6 v7 v8 v9 v10 v11 v12 : V} : (F_Instruction v0 v1 v2 v3 v4 v5 v6 v7 v8 v9 v10 v11 v12).lookup (Str.ofString "written") = some v6 := by kernel_rfl
@[simp] theorem p_Instruction_written {v0 v1 v2 v3 v4 v5 v6 v7 v8 v9 v10 v11 v12 v : V} : putF (Str.ofString "written") v (F_Instruction v0 v1 v2 v3 v4 v5 v6 v7 v8 v9 v10 v11 v12) = F_Instruction v0 v1 v2 v3 v4 v5 v v7 v8 v9 v10 v11 v12 := by kernel_rfl
@[simp] theorem g_Instruction_following {v0 v1 v2 v3 v4 v5 v6 v7 v8 v9 v10 v11 v12 : V} : (F_Instruction v0 v1 v2 v3 v4 v5 v6 v7 v8 v9 v10 v11 v12).lookup (Str.ofString "following") = some v7 := by kernel_rfl
@[simp] theorem p_Instruction_following {v0 v1 v2 v3 v4 v5 v6 v7 v8 v9 v10 v11 v12 v : V} : putF (Str.ofString "following") v (F_Instruction v0 v1 v2 v3 v4 v5 v6 v7 v8 v9 v10 v11 v12) = F_Instruction v0 v1 v2 v3 v4 v5 v6 v v8 v9 v10 v11 v12 := by kernel_rfl
@[simp] theorem g_Instruction_target {v0 v1 v2 v3 v4 v5 v6 v7 v8 v9 v10 v11 v12 : V} : (F_Instruction v0 v1 v2 v3 v4 v5 v6 v7 v8 v9 v10 v11 v12).lookup (Str.ofString "target") = some v8 := by kernel_rfl
@[simp] theorem p_Instruction_target {v0 v1 v2 v3 v4 v5 v6 v7 v8 v9 v10 v11 v12 v : V} : putF (Str.ofString "target") v (F_Instruction v0 v1 v2 v3 v4 v5 v6 v7 v8 v9 v10 v11 v12) = F_Instruction v0 v1 v2 v3 v4 v5 v6 v7 v v9 v10 v11 v12 := by kernel_rfl
@[simp] theorem g_Instruction_branches {v0 v1 v2 v3 v4 v5 v6 v7 v8 v9 v10 v11 v12 : V} : (F_Instruction v0 v1 v2 v3 v4 v5 v6 v7 v8 v9 v10 v11 v12).lookup (Str.ofString "branches") = some v9 := by kernel_rfl
@[simp] theorem p_Instruction_branches {v0 v1 v2 v3 v4 v5 v6 v7 v8 v9 v10 v11 v12 v : V} : putF (Str.ofString "branches") v (F_Instruction v0 v1 v2 v3 v4 v5 v6 v7 v8 v9 v10 v11 v12) = F_Instruction v0 v1 v2 v3 v4 v5 v6 v7 v8 v v10 v11 v12 := by kernel_rfl
@[simp] theorem g_Instruction_unit {v0 v1 v2 v3 v4 v5 v6 v7 v8 v9 v10 v11 v12 : V} : (F_Instruction v0 v1 v2 v3 v4 v5 v6 v7 v8 v9 v10 v11 v12).lookup (Str.ofString "unit") = some v10 := by kernel_rfl
@[simp] theorem p_Instruction_unit {v0 v1 v2 v3 v4 v5 v6 v7 v8 v9 v10 v11 v12 v : V} : putF (Str.ofString "unit") v (F_Instruction v0 v1 v2 v3 v4 v5 v6 v7 v8 v9 v10 v11 v12) = F_Instruction v0 v1 v2 v3 v4 v5 v6 v7 v8 v9 v v11 v12 := by kernel_rfl
@[simp] theorem g_Instruction_cycles {v0 v1 v2 v3 v4 v5 v6 v7 v8 v9 v10 v11 v12 : V} : (F_Instruction v0 v1 v2 v3 v4 v5 v6 v7 v8 v9 v10 v11 v12).lookup (Str.ofString "cycles") = some v11 := by kernel_rfl
@[simp] theorem p_Instruction_cycles {v0 v1 v2 v3 v4 v5 v6 v7 v8 v9 v10 v11 v12 v : V} : putF (Str.ofString "cycles") v (F_Instruction v0 v1 v2 v3 v4 v5 v6 v7 v8 v9 v10 v11 v12) = F_Instruction v0 v1 v2 v3 v4 v5 v6 v7 v8 v9 v10 v v12 := by kernel_rfl
@[simp] theorem g_Instruction_sure_stop {v0 v1 v2 v3 v4 v5 v6 v7 v8 v9 v10 v11 v12 : V} : (F_Instruction v0 v1 v2 v3 v4 v5 v6 v7 v8 v9 v10 v11 v12).lookup (Str.ofString "sure_stop") = some v12 := by kernel_rfl
@[simp] theorem p_Instruction_sure_stop {v0 v1 v2 v3 v4 v5 v6 v7 v8 v9 v10 v11 v12 v : V} : putF (Str.ofString "sure_stop") v (F_Instruction v0 v1 v2 v3 v4 v5 v6 v7 v8 v9 v10 v11 v12) = F_Instruction v0 v1 v2 v3 v4 v5 v6 v7 v8 v9 v10 v11 v := by kernel_rfl
@[simp] theorem l_Instruction {v0 v1 v2 v3 v4 v5 v6 v7 v8 v9 v10 v11 v12 : V} : (F_Instruction v0 v1 v2 v3 v4 v5 v6 v7 v8 v9 v10 v11 v12).length = 13 := rfl
@[simp] theorem q_Instruction_0 {v : V} : putF (Str.ofString "place") v ([] : List (Str × V)) = [(Str.ofString "place", v)] := by kernel_rfl
@[simp] theorem q_Instruction_1 {v0 v : V} : putF (Str.ofString "word") v ([(Str.ofString "place", v0)] : List (Str × V)) = [(Str.ofString "place", v0), (Str.ofString "word", v)] := by kernel_rfl
@[simp] theorem q_Instruction_2 {v0 v1 v : V} : putF (Str.ofString "op") v ([(Str.ofString "place", v0), (Str.ofString "word", v1)] : List (Str × V)) = [(Str.ofString "place", v0), (Str.ofString "word", v1), (Str.ofString "op", v)] := by kernel_rfl
@[simp] theorem q_Instruction_3 {v0 v1 v2 v : V} : putF (Str.ofString "imm") v ([(Str.ofString "place", v0), (Str.ofString "word", v1), (Str.ofString "op", v2)] : List (Str × V)) = [(Str.ofString "place", v0), (Str.ofString "word", v1), (Str.ofString "op", v2), (Str.ofString "imm", v)] := by kernel_rfl
@[simp] theorem r_Instruction_3_op {v0 v1 v2 : V} : ([(Str.ofString "place", v0), (Str.ofString "word", v1), (Str.ofString "op", v2)] : List (Str × V)).lookup (Str.ofString "op") = some v2 := by kernel_rfl
@[simp] theorem q_Instruction_4 {v0 v1 v2 v3 v : V} : putF (Str.ofString "first") v ([(Str.ofString "place", v0), (Str.ofString "word", v1), (Str.ofString "op", v2), (Str.ofString "imm", v3)] : List (Str × V)) = [(Str.ofString "place", v0), (Str.ofString "word", v1), (Str.ofString "op", v2), (Str.ofString "imm", v3), (Str.ofString "first", v)] := by kernel_rfl
@[simp] theorem r_Instruction_4_op {v0 v1 v2 v3 : V} : ([(Str.ofString "place", v0), (Str.ofString "word", v1), (Str.ofString "op", v2), (Str.ofString "imm", v3)] : List (Str × V)).lookup (Str.ofString "op") = some v2 := by kernel_rfl
@[simp] theorem r_Instruction_4_imm {v0 v1 v2 v3 : V} : ([(Str.ofString "place", v0), (Str.ofString "word", v1), (Str.ofString "op", v2), (Str.ofString "imm", v3)] : List (Str × V)).lookup (Str.ofString "imm") = some v3 := by kernel_rfl
@[simp] theorem q_Instruction_5 {v0 v1 v2 v3 v4 v : V} : putF (Str.ofString "second") v ([(Str.ofString "place", v0), (Str.ofString "word", v1), (Str.ofString "op", v2), (Str.ofString "imm", v3), (Str.ofString "first", v4)] : List (Str × V)) = [(Str.ofString "place", v0), (Str.ofString "word", v1), (Str.ofString "op", v2), (Str.ofString "imm", v3), (Str.ofString "first", v4), (Str.ofString "second", v)] := by kernel_rfl
@[simp] theorem r_Instruction_5_op {v0 v1 v2 v3 v4 : V} : ([(Str.ofString "place", v0), (Str.ofString "word", v1), (Str.ofString "op", v2), (Str.ofString "imm", v3), (Str.ofString "first", v4)] : List (Str × V)).lookup (Str.ofString "op") = some v2 := by kernel_rfl
@[simp] theorem r_Instruction_5_imm {v0 v1 v2 v3 v4 : V} : ([(Str.ofString "place", v0), (Str.ofString "word", v1), (Str.ofString "op", v2), (Str.ofString "imm", v3), (Str.ofString "first", v4)] : List (Str × V)).lookup (Str.ofString "imm") = some v3 := by kernel_rfl
@[simp] theorem q_Instruction_6 {v0 v1 v2 v3 v4 v5 v : V} : putF (Str.ofString "written") v ([(Str.ofString "place", v0), (Str.ofString "word", v1), (Str.ofString "op", v2), (Str.ofString "imm", v3), (Str.ofString "first", v4), (Str.ofString "second", v5)] : List (Str × V)) = [(Str.ofString "place", v0), (Str.ofString "word", v1), (Str.ofString "op", v2), (Str.ofString "imm", v3), (Str.ofString "first", v4), (Str.ofString "second", v5), (Str.ofString "written", v)] := by kernel_rfl
@[simp] theorem r_Instruction_6_op {v0 v1 v2 v3 v4 v5 : V} : ([(Str.ofString "place", v0), (Str.ofString "word", v1), (Str.ofString "op", v2), (Str.ofString "imm", v3), (Str.ofString "first", v4), (Str.ofString "second", v5)] : List (Str × V)).lookup (Str.ofString "op") = some v2 := by kernel_rfl
@[simp] theorem r_Instruction_6_imm {v0 v1 v2 v3 v4 v5 : V} : ([(Str.ofString "place", v0), (Str.ofString "word", v1), (Str.ofString "op", v2), (Str.ofString "imm", v3), (Str.ofString "first", v4), (Str.ofString "second", v5)] : List (Str × V)).lookup (Str.ofString "imm") = some v3 := by kernel_rfl
@[simp] theorem q_Instruction_7 {v0 v1 v2 v3 v4 v5 v6 v : V} : putF (Str.ofString "following") v ([(Str.ofString "place", v0), (Str.ofString "word", v1), (Str.ofString "op", v2), (Str.ofString "imm", v3), (Str.ofString "first", v4), (Str.ofString "second", v5), (Str.ofString "written", v6)] : List (Str × V)) = [(Str.ofString "place", v0), (Str.ofString "word", v1), (Str.ofString "op", v2), (Str.ofString "imm", v3), (Str.ofString "first", v4), (Str.ofString "second", v5), (Str.ofString "written", v6), (Str.ofString "following", v)] := by kernel_rfl
@[simp] theorem r_Instruction_7_op {v0 v1 v2 v3 v4 v5 v6 : V} : ([(Str.ofString "place", v0), (Str.ofString "word", v1), (Str.ofString "op", v2), (Str.ofString "imm", v3), (Str.ofString "first", v4), (Str.ofString "second", v5), (Str.ofString "written", v6)] : List (Str × V)).lookup (Str.ofString "op") = some v2 := by kernel_rfl
@[simp] theorem r_Instruction_7_imm {v0 v1 v2 v3 v4 v5 v6 : V} : ([(Str.ofString "place", v0), (Str.ofString "word", v1), (Str.ofString "op", v2), (Str.ofString "imm", v3), (Str.ofString "first", v4), (Str.ofString "second", v5), (Str.ofString "written", v6)] : List (Str × V)).lookup (Str.ofString "imm") = some v3 := by kernel_rfl
@[simp] theorem q_Instruction_8 {v0 v1 v2 v3 v4 v5 v6 v7 v : V} : putF (Str.ofString "target") v ([(Str.ofString "place", v0), (Str.ofString "word", v1), (Str.ofString "op", v2), (Str.ofString "imm", v3), (Str.ofString "first", v4), (Str.ofString "second", v5), (Str.ofString "written", v6), (Str.ofString "following", v7)] : List (Str × V)) = [(Str.ofString "place", v0), (Str.ofString "word", v1), (Str.ofString "op", v2), (Str.ofString "imm", v3), (Str.ofString "first", v4), (Str.ofString "second", v5), (Str.ofString "written", v6), (Str.ofString "following", v7), (Str.ofString "target", v)] := by kernel_rfl
@[simp] theorem r_Instruction_8_op {v0 v1 v2 v3 v4 v5 v6 v7 : V} : ([(Str.ofString "place", v0), (Str.ofString "word", v1), (Str.ofString "op", v2), (Str.ofString "imm", v3), (Str.ofString "first", v4), (Str.ofString "second", v5), (Str.ofString "written", v6), (Str.ofString "following", v7)] : List (Str × V)).lookup (Str.ofString "op") = some v2 := by kernel_rfl
@[simp] theorem r_Instruction_8_imm {v0 v1 v2 v3 v4 v5 v6 v7 : V} : ([(Str.ofString "place", v0), (Str.ofString "word", v1), (Str.ofString "op", v2), (Str.ofString "imm", v3), (Str.ofString "first", v4), (Str.ofString "second", v5), (Str.ofString "written", v6), (Str.ofString "following", v7)] : List (Str × V)).lookup (Str.ofString "imm") = some v3 := by kernel_rfl
@[simp] theorem q_Instruction_9 {v0 v1 v2 v3 v4 v5 v6 v7 v8 v : V} : putF (Str.ofString "branches") v ([(Str.ofString "place", v0), (Str.ofString "word", v1), (Str.ofString "op", v2), (Str.ofString "imm", v3), (Str.ofString "first", v4), (Str.ofString "second", v5), (Str.ofString "written", v6), (Str.ofString "following", v7), (Str.ofString "target", v8)] : List (Str × V)) = [(Str.ofString "place", v0), (Str.ofString "word", v1), (Str.ofString "op", v2), (Str.ofString "imm", v3), (Str.ofString "first", v4), (Str.ofString "second", v5), (Str.ofString "written", v6), (Str.ofString "following", v7), (Str.ofString "target", v8), (Str.ofString "branches", v)] := by kernel_rfl
@[simp] theorem r_Instruction_9_op {v0 v1 v2 v3 v4 v5 v6 v7 v8 : V} : ([(Str.ofString "place", v0), (Str.ofString "word", v1), (Str.ofString "op", v2), (Str.ofString "imm", v3), (Str.ofString "first", v4), (Str.ofString "second", v5), (Str.ofString "written", v6), (Str.ofString "following", v7), (Str.ofString "target", v8)] : List (Str × V)).lookup (Str.ofString "op") = some v2 := by kernel_rfl
@[simp] theorem r_Instruction_9_imm {v0 v1 v2 v3 v4 v5 v6 v7 v8 : V} : ([(Str.ofString "place", v0), (Str.ofString "word", v1), (Str.ofString "op", v2), (Str.ofString "imm", v3), (Str.ofString "first", v4), (Str.ofString "second", v5), (Str.ofString "written", v6), (Str.ofString "following", v7), (Str.ofString "target", v8)] : List (Str × V)).lookup (Str.ofString "imm") = some v3 := by kernel_rfl
@[simp] theorem q_Instruction_10 {v0 v1 v2 v3 v4 v5 v6 v7 v8 v9 v : V} : putF (Str.ofString "unit") v ([(Str.ofString "place", v0), (Str.ofString "word", v1), (Str.ofString "op", v2), (Str.ofString "imm", v3), (Str.ofString "first", v4), (Str.ofString "second", v5), (Str.ofString "written", v6), (Str.ofString "following", v7), (Str.ofString "target", v8), (Str.ofString "branches", v9)] : List (Str × V)) = [(Str.ofString "place", v0), (Str.ofString "word", v1), (Str.ofString "op", v2), (Str.ofString "imm", v3), (Str.ofString "first", v4), (Str.ofString "second", v5), (Str.ofString "written", v6), (Str.ofString "following", v7), (Str.ofString "target", v8), (Str.ofString "branches", v9), (Str.ofString "unit", v)] := by kernel_rfl
@[simp] theorem r_Instruction_10_op {v0 v1 v2 v3 v4 v5 v6 v7 v8 v9 : V} : ([(Str.ofString "place", v0), (Str.ofString "word", v1), (Str.ofString "op", v2), (Str.ofString "imm", v3), (Str.ofString "first", v4), (Str.ofString "second", v5), (Str.ofString "written", v6), (Str.ofString "following", v7), (Str.ofString "target", v8), (Str.ofString "branches", v9)] : List (Str × V)).lookup (Str.ofString "op") = some v2 := by kernel_rfl
@[simp] theorem r_Instruction_10_imm {v0 v1 v2 v3 v4 v5 v6 v7 v8 v9 : V} : ([(Str.ofString "place", v0), (Str.ofString "word", v1), (Str.ofString "op", v2), (Str.ofString "imm", v3), (Str.ofString "first", v4), (Str.ofString "second", v5), (Str.ofString "written", v6), (Str.ofString "following", v7), (Str.ofString "target", v8), (Str.ofString "branches", v9)] : List (Str × V)).lookup (Str.ofString "imm") = some v3 := by kernel_rfl
@[simp] theorem q_Instruction_11 {v0 v1 v2 v3 v4 v5 v6 v7 v8 v9 v10 v : V} : putF (Str.ofString "cycles") v ([(Str.ofString "place", v0), (Str.ofString "word", v1), (Str.ofString "op", v2), (Str.ofString "imm", v3), (Str.ofString "first", v4), (Str.ofString "second", v5), (Str.ofString "written", v6), (Str.ofString "following", v7), (Str.ofString "target", v8), (Str.ofString "branches", v9), (Str.ofString "unit", v10)] : List (Str × V)) = [(Str.ofString "place", v0), (Str.ofString "word", v1), (Str.ofString "op", v2), (Str.ofString "imm", v3), (Str.ofString "first", v4), (Str.ofString "second", v5), (Str.ofString "written", v6), (Str.ofString "following", v7), (Str.ofString "target", v8), (Str.ofString "branches", v9), (Str.ofString "unit", v10), (Str.ofString "cycles", v)] := by kernel_rfl
@[simp] theorem r_Instruction_11_op {v0 v1 v2 v3 v4 v5 v6 v7 v8 v9 v10 : V} : ([(Str.ofString "place", v0), (Str.ofString "word", v1), (Str.ofString "op", v2), (Str.ofString "imm", v3), (Str.ofString "first", v4), (Str.ofString "second", v5), (Str.ofString "written", v6), (Str.ofString "following", v7), (Str.ofString "target", v8), (Str.ofString "branches", v9), (Str.ofString "unit", v10)] : List (Str × V)).lookup (Str.ofString "op") = some v2 := by kernel_rfl
@[simp] theorem r_Instruction_11_imm {v0 v1 v2 v3 v4 v5 v6 v7 v8 v9 v10 : V} : ([(Str.ofString "place", v0), (Str.ofString "word", v1), (Str.ofString "op", v2), (Str.ofString "imm", v3), (Str.ofString "first", v4), (Str.ofString "second", v5), (Str.ofString "written", v6), (Str.ofString "following", v7), (Str.ofString "target", v8), (Str.ofString "branches", v9), (Str.ofString "unit", v10)] : List (Str × V)).lookup (Str.ofString "imm") = some v3 := by kernel_rfl
@[simp] theorem q_Instruction_12 {v0 v1 v2 v3 v4 v5 v6 v7 v8 v9 v10 v11 v : V} : putF (Str.ofString "sure_stop") v ([(Str.ofString "place", v0), (Str.ofString "word", v1), (Str.ofString "op", v2), (Str.ofString "imm", v3), (Str.ofString "first", v4), (Str.ofString "second", v5), (Str.ofString "written", v6), (Str.ofString "following", v7), (Str.ofString "target", v8), (Str.ofString "branches", v9), (Str.ofString "unit", v10), (Str.ofString "cycles", v11)] : List (Str × V)) = F_Instruction v0 v1 v2 v3 v4 v5 v6 v7 v8 v9 v10 v11 v := by kernel_rfl
@[simp] theorem r_Instruction_12_op {v0 v1 v2 v3 v4 v5 v6 v7 v8 v9 v10 v11 : V} : ([(Str.ofString "place", v0), (Str.ofString "word", v1), (Str.ofString "op", v2), (Str.ofString "imm", v3), (Str.ofString "first", v4), (Str.ofString "second", v5), (Str.ofString "written", v6), (Str.ofString "following", v7), (Str.ofString "target", v8), (Str.ofString "branches", v9), (Str.ofString "unit", v10), (Str.ofString "cycles", v11)] : List (Str × V)).lookup (Str.ofString "op") = some v2 := by kernel_rfl
@[simp] theorem r_Instruction_12_imm {v0 v1 v2 v3 v4 v5 v6 v7 v8 v9 v10 v11 : V} : ([(Str.ofString "place", v0), (Str.ofString "word", v1), (Str.ofString "op", v2), (Str.ofString "imm", v3), (Str.ofString "first", v4), (Str.ofString "second", v5), (Str.ofString "written", v6), (Str.ofString "following", v7), (Str.ofString "target", v8), (Str.ofString "branches", v9), (Str.ofString "unit", v10), (Str.ofString "cycles", v11)] : List (Str × V)).lookup (Str.ofString "imm") = some v3 := by kernel_rfl
/-- the attributes of a Slot -/
def F_Slot (v0 v1 v2 v3 v4 v5 v6 v7 v8 v9 v10 v11 v12 : V) : List (Str × V) := [(Str.ofString "instruction", v0), (Str.ofString "guess", v1), (Str.ofString "op", v2), (Str.ofString "unit", v3), (Str.ofString "stop", v4), (Str.ofString "state", v5), (Str.ofString "goes_on", v6), (Str.ofString "cycles_left", v7), (Str.ofString "value", v8), (Str.ofString "cell", v9), (Str.ofString "operands", v10), (Str.ofString "missing", v11), (Str.ofString "readers", v12)]
@[simp] theorem g_Slot_instruction {v0 v1 v2 v3 v4 v5 v6 v7 v8 v9 v10 v11 v12 : V} : (F_Slot v0 v1 v2 v3 v4 v5 v6 v7 v8 v9 v10 v11 v12).lookup (Str.ofString "instruction") = some v0 := by kernel_rfl
@[simp] theorem p_Slot_instruction {v0 v1 v2 v3 v4 v5 v6 v7 v8 v9 v10 v11 v12 v : V} : putF (Str.ofString "instruction") v (F_Slot v0 v1 v2 v3 v4 v5 v6 v7 v8 v9 v10 v11 v12) = F_Slot v v1 v2 v3 v4 v5 v6 v7 v8 v9 v10 v11 v12 := by kernel_rfl
@[simp] theorem g_Slot_guess {v0 v1 v2 v3 v4 v5 v6 v7 v8 v9 v10 v11 v12 : V} : (F_Slot v0 v1 v2 v3 v4 v5 v6 v7 v8 v9 v10 v11 v12).lookup (Str.ofString "guess") = some v1 := by kernel_rfl
@[simp] theorem p_Slot_guess {v0 v1 v2 v3 v4 v5 v6 v7 v8 v9 v10 v11 v12 v : V} : putF (Str.ofString "guess") v (F_Slot v0 v1 v2 v3 v4 v5 v6 v7 v8 v9 v10 v11 v12) = F_Slot v0 v v2 v3 v4 v5 v6 v7 v8 v9 v10 v11 v12 := by kernel_rfl
@[simp] theorem g_Slot_op {v0 v1 v2 v3 v4 v5 v6 v7 v8 v9 v10 v11 v12 : V} : (F_Slot v0 v1 v2 v3 v4 v5 v6 v7 v8 v9 v10 v11 v12).lookup (Str.ofString "op") = some v2 := by kernel_rfl
@[simp] theorem p_Slot_op {v0 v1 v2 v3 v4 v5 v6 v7 v8 v9 v10 v11 v12 v : V} : putF (Str.ofString "op") v (F_Slot v0 v1 v2 v3 v4 v5 v6 v7 v8 v9 v10 v11 v12) = F_Slot v0 v1 v v3 v4 v5 v6 v7 v8 v9 v10 v11 v12 := by kernel_rfl
@[simp] theorem g_Slot_unit {v0 v1 v2 v3 v4 v5 v6 v7 v8 v9 v10 v11 v12 : V} : (F_Slot v0 v1 v2 v3 v4 v5 v6 v7 v8 v9 v10 v11 v12).lookup (Str.ofString "unit") = some v3 := by kernel_rfl
@[simp] theorem p_Slot_unit {v0 v1 v2 v3 v4 v5 v6 v7 v8 v9 v10 v11 v12 v : V} : putF (Str.ofString "unit") v (F_Slot v0 v1 v2 v3 v4 v5 v6 v7 v8 v9 v10 v11 v12) = F_Slot v0 v1 v2 v v4 v5 v6 v7 v8 v9 v10 v11 v12 := by kernel_rfl
@[simp] theorem g_Slot_stop {v0 v1 v2 v3 v4 v5 v6 v7 v8 v9 v10 v11 v12 : V} : (F_Slot v0 v1 v2 v3 v4 v5 v6 v7 v8 v9 v10 v11 v12).lookup (Str.ofString "stop") = some v4 := by kernel_rfl
@[simp] theorem p_Slot_stop {v0 v1 v2 v3 v4 v5 v6 v7 v8 v9 v10 v11 v12 v : V} : putF (Str.ofString "stop") v (F_Slot v0 v1 v2 v3 v4 v5 v6 v7 v8 v9 v10 v11 v12) = F_Slot v0 v1 v2 v3 v v5 v6 v7 v8 v9 v10 v11 v12 := by kernel_rfl
@[simp] theorem g_Slot_state {v0 v1 v2 v3 v4 v5 v6 v7 v8 v9 v10 v11 v12 : V} : (F_Slot v0 v1 v2 v3 v4 v5 v6 v7 v8 v9 v10 v11 v12).lookup (Str.ofString "state") = some v5 := by kernel_rfl
@[simp] theorem p_Slot_state {v0 v1 v2 v3 v4 v5 v6 v7 v8 v9 v10 v11 v12 v : V} : putF (Str.ofString "state") v (F_Slot v0 v1 v2 v3 v4 v5 v6 v7 v8 v9 v10 v11 v12) = F_Slot v0 v1 v2 v3 v4 v v6 v7 v8 v9 v10 v11 v12 := by kernel_rfl
@[simp] theorem g_Slot_goes_on {v0 v1 v2 v3 v4 v5 v6 v7 v8 v9 v10 v11 v12 : V} : (F_Slot v0 v1 v2 v3 v4 v5 v6 v7 v8 v9 v10 v11 v12).lookup (Str.ofString "goes_on") = some v6 := by kernel_rfl
@[simp] theorem p_Slot_goes_on {v0 v1 v2 v3 v4 v5 v6 v7 v8 v9 v10 v11 v12 v : V} : putF (Str.ofString "goes_on") v (F_Slot v0 v1 v2 v3 v4 v5 v6 v7 v8 v9 v10 v11 v12) = F_Slot v0 v1 v2 v3 v4 v5 v v7 v8 v9 v10 v11 v12 := by kernel_rfl
@[simp] theorem g_Slot_cycles_left {v0 v1 v2 v3 v4 v5 v6 v7 v8 v9 v10 v11 v12 : V} : (F_Slot v0 v1 v2 v3 v4 v5 v6 v7 v8 v9 v10 v11 v12).lookup (Str.ofString "cycles_left") = some v7 := by kernel_rfl
@[simp] theorem p_Slot_cycles_left {v0 v1 v2 v3 v4 v5 v6 v7 v8 v9 v10 v11 v12 v : V} : putF (Str.ofString "cycles_left") v (F_Slot v0 v1 v2 v3 v4 v5 v6 v7 v8 v9 v10 v11 v12) = F_Slot v0 v1 v2 v3 v4 v5 v6 v v8 v9 v10 v11 v12 := by kernel_rfl
@[simp] theorem g_Slot_value {v0 v1 v2 v3 v4 v5 v6 v7 v8 v9 v10 v11 v12 : V} : (F_Slot v0 v1 v2 v3 v4 v5 v6 v7 v8 v9 v10 v11 v12).lookup (Str.ofString "value") = some v8 := by kernel_rfl
@[simp] theorem p_Slot_value {v0 v1 v2 v3 v4 v5 v6 v7 v8 v9 v10 v11 v12 v : V} : putF (Str.ofString "value") v (F_Slot v0 v1 v2 v3 v4 v5 v6 v7 v8 v9 v10 v11 v12) = F_Slot v0 v1 v2 v3 v4 v5 v6 v7 v v9 v10 v11 v12 := by kernel_rfl
@[simp] theorem g_Slot_cell {v0 v1 v2 v3 v4 v5 v6 v7 v8 v9 v10 v11 v12 : V} : (F_Slot v0 v1 v2 v3 v4 v5 v6 v7 v8 v9 v10 v11 v12).lookup (Str.ofString "cell") = some v9 := by kernel_rfl
@[simp] theorem p_Slot_cell {v0 v1 v2 v3 v4 v5 v6 v7 v8 v9 v10 v11 v12 v : V} : putF (Str.ofString "cell") v (F_Slot v0 v1 v2 v3 v4 v5 v6 v7 v8 v9 v10 v11 v12) = F_Slot v0 v1 v2 v3 v4 v5 v6 v7 v8 v v10 v11 v12 := by kernel_rfl
@[simp] theorem g_Slot_operands {v0 v1 v2 v3 v4 v5 v6 v7 v8 v9 v10 v11 v12 : V} : (F_Slot v0 v1 v2 v3 v4 v5 v6 v7 v8 v9 v10 v11 v12).lookup (Str.ofString "operands") = some v10 := by kernel_rfl
@[simp] theorem p_Slot_operands {v0 v1 v2 v3 v4 v5 v6 v7 v8 v9 v10 v11 v12 v : V} : putF (Str.ofString "operands") v (F_Slot v0 v1 v2 v3 v4 v5 v6 v7 v8 v9 v10 v11 v12) = F_Slot v0 v1 v2 v3 v4 v5 v6 v7 v8 v9 v v11 v12 := by kernel_rfl
@[simp] theorem g_Slot_missing {v0 v1 v2 v3 v4 v5 v6 v7 v8 v9 v10 v11 v12 : V} : (F_Slot v0 v1 v2 v3 v4 v5 v6 v7 v8 v9 v10 v11 v12).lookup (Str.ofString "missing") = some v11 := by kernel_rfl
@[simp] theorem p_Slot_missing {v0 v1 v2 v3 v4 v5 v6 v7 v8 v9 v10 v11 v12 v : V} : putF (Str.ofString "missing") v (F_Slot v0 v1 v2 v3 v4 v5 v6 v7 v8 v9 v10 v11 v12) = F_Slot v0 v1 v2 v3 v4 v5 v6 v7 v8 v9 v10 v v12 := by kernel_rfl
@[simp] theorem g_Slot_readers {v0 v1 v2 v3 v4 v5 v6 v7 v8 v9 v10 v11 v12 : V} : (F_Slot v0 v1 v2 v3 v4 v5 v6 v7 v8 v9 v10 v11 v12).lookup (Str.ofString "readers") = some v12 := by kernel_rfl
@[simp] theorem p_Slot_readers {v0 v1 v2 v3 v4 v5 v6 v7 v8 v9 v10 v11 v12 v : V} : putF (Str.ofString "readers") v (F_Slot v0 v1 v2 v3 v4 v5 v6 v7 v8 v9 v10 v11 v12) = F_Slot v0 v1 v2 v3 v4 v5 v6 v7 v8 v9 v10 v11 v := by kernel_rfl
@[simp] theorem h_Slot_pass_on {v0 v1 v2 v3 v4 v5 v6 v7 v8 v9 v10 v11 v12 : V} : Ex.noF (F_Slot v0 v1 v2 v3 v4 v5 v6 v7 v8 v9 v10 v11 v12) (Str.ofString "pass_on") := noF_of (by kernel_rfl)
@[simp] theorem l_Slot {v0 v1 v2 v3 v4 v5 v6 v7 v8 v9 v10 v11 v12 : V} : (F_Slot v0 v1 v2 v3 v4 v5 v6 v7 v8 v9 v10 v11 v12).length = 13 := rfl
@[simp] theorem q_Slot_0 {v : V} : putF (Str.ofString "instruction") v ([] : List (Str × V)) = [(Str.ofString "instruction", v)] := by kernel_rfl
@[simp] theorem q_Slot_1 {v0 v : V} : putF (Str.ofString "guess") v ([(Str.ofString "instruction", v0)] : List (Str × V)) = [(Str.ofString "instruction", v0), (Str.ofString "guess", v)] := by kernel_rfl
@[simp] theorem q_Slot_2 {v0 v1 v : V} : putF (Str.ofString "op") v ([(Str.ofString "instruction", v0), (Str.ofString "guess", v1)] : List (Str × V)) = [(Str.ofString "instruction", v0), (Str.ofString "guess", v1), (Str.ofString "op", v)] := by kernel_rfl
@[simp] theorem q_Slot_3 {v0 v1 v2 v : V} : putF (Str.ofString "unit") v ([(Str.ofString "instruction", v0), (Str.ofString "guess", v1), (Str.ofString "op", v2)] : List (Str × V)) = [(Str.ofString "instruction", v0), (Str.ofString "guess", v1), (Str.ofString "op", v2), (Str.ofString "unit", v)] := by kernel_rfl
@[simp] theorem q_Slot_4 {v0 v1 v2 v3 v : V} : putF (Str.ofString "stop") v ([(Str.ofString "instruction", v0), (Str.ofString "guess", v1), (Str.ofString "op", v2), (Str.ofString "unit", v3)] : List (Str × V)) = [(Str.ofString "instruction", v0), (Str.ofString "guess", v1), (Str.ofString "op", v2), (Str.ofString "unit", v3), (Str.ofString "stop", v)] := by kernel_rfl
@[simp] theorem q_Slot_5 {v0 v1 v2 v3 v4 v : V} : putF (Str.ofString "state") v ([(Str.ofString "instruction", v0), (Str.ofString "guess", v1), (Str.ofString "op", v2), (Str.ofString "unit", v3), (Str.ofString "stop", v4)] : List (Str × V)) = [(Str.ofString "instruction", v0), (Str.ofString "guess", v1), (Str.ofString "op", v2), (Str.ofString "unit", v3), (Str.ofString "stop", v4), (Str.ofString "state", v)] := by kernel_rfl
@[simp] theorem r_Slot_5_stop {v0 v1 v2 v3 v4 : V} : ([(Str.ofString "instruction", v0), (Str.ofString "guess", v1), (Str.ofString "op", v2), (Str.ofString "unit", v3), (Str.ofString "stop", v4)] : List (Str × V)).lookup (Str.ofString "stop") = some v4 := by kernel_rfl
@[simp] theorem q_Slot_6 {v0 v1 v2 v3 v4 v5 v : V} : putF (Str.ofString "goes_on") v ([(Str.ofString "instruction", v0), (Str.ofString "guess", v1), (Str.ofString "op", v2), (Str.ofString "unit", v3), (Str.ofString "stop", v4), (Str.ofString "state", v5)] : List (Str × V)) = [(Str.ofString "instruction", v0), (Str.ofString "guess", v1), (Str.ofString "op", v2), (Str.ofString "unit", v3), (Str.ofString "stop", v4), (Str.ofString "state", v5), (Str.ofString "goes_on", v)] := by kernel_rfl
@[simp] theorem r_Slot_6_stop {v0 v1 v2 v3 v4 v5 : V} : ([(Str.ofString "instruction", v0), (Str.ofString "guess", v1), (Str.ofString "op", v2), (Str.ofString "unit", v3), (Str.ofString "stop", v4), (Str.ofString "state", v5)] : List (Str × V)).lookup (Str.ofString "stop") = some v4 := by kernel_rfl
@[simp] theorem q_Slot_7 {v0 v1 v2 v3 v4 v5 v6 v : V} : putF (Str.ofString "cycles_left") v ([(Str.ofString "instruction", v0), (Str.ofString "guess", v1), (Str.ofString "op", v2), (Str.ofString "unit", v3), (Str.ofString "stop", v4), (Str.ofString "state", v5), (Str.ofString "goes_on", v6)] : List (Str × V)) = [(Str.ofString "instruction", v0), (Str.ofString "guess", v1), (Str.ofString "op", v2), (Str.ofString "unit", v3), (Str.ofString "stop", v4), (Str.ofString "state", v5), (Str.ofString "goes_on", v6), (Str.ofString "cycles_left", v)] := by kernel_rfl
@[simp] theorem r_Slot_7_stop {v0 v1 v2 v3 v4 v5 v6 : V} : ([(Str.ofString "instruction", v0), (Str.ofString "guess", v1), (Str.ofString "op", v2), (Str.ofString "unit", v3), (Str.ofString "stop", v4), (Str.ofString "state", v5), (Str.ofString "goes_on", v6)] : List (Str × V)).lookup (Str.ofString "stop") = some v4 := by kernel_rfl
@[simp] theorem q_Slot_8 {v0 v1 v2 v3 v4 v5 v6 v7 v : V} : putF (Str.ofString "value") v ([(Str.ofString "instruction", v0), (Str.ofString "guess", v1), (Str.ofString "op", v2), (Str.ofString "unit", v3), (Str.ofString "stop", v4), (Str.ofString "state", v5), (Str.ofString "goes_on", v6), (Str.ofString "cycles_left", v7)] : List (Str × V)) = [(Str.ofString "instruction", v0), (Str.ofString "guess", v1), (Str.ofString "op", v2), (Str.ofString "unit", v3), (Str.ofString "stop", v4), (Str.ofString "state", v5), (Str.ofString "goes_on", v6), (Str.ofString "cycles_left", v7), (Str.ofString "value", v)] := by kernel_rfl
@[simp] theorem r_Slot_8_stop {v0 v1 v2 v3 v4 v5 v6 v7 : V} : ([(Str.ofString "instruction", v0), (Str.ofString "guess", v1), (Str.ofString "op", v2), (Str.ofString "unit", v3), (Str.ofString "stop", v4), (Str.ofString "state", v5), (Str.ofString "goes_on", v6), (Str.ofString "cycles_left", v7)] : List (Str × V)).lookup (Str.ofString "stop") = some v4 := by kernel_rfl
@[simp] theorem q_Slot_9 {v0 v1 v2 v3 v4 v5 v6 v7 v8 v : V} : putF (Str.ofString "cell") v ([(Str.ofString "instruction", v0), (Str.ofString "guess", v1), (Str.ofString "op", v2), (Str.ofString "unit", v3), (Str.ofString "stop", v4), (Str.ofString "state", v5), (Str.ofString "goes_on", v6), (Str.ofString "cycles_left", v7), (Str.ofString "value", v8)] : List (Str × V)) = [(Str.ofString "instruction", v0), (Str.ofString "guess", v1), (Str.ofString "op", v2), (Str.ofString "unit", v3), (Str.ofString "stop", v4), (Str.ofString "state", v5), (Str.ofString "goes_on", v6), (Str.ofString "cycles_left", v7), (Str.ofString "value", v8), (Str.ofString "cell", v)] := by kernel_rfl
@[simp] theorem r_Slot_9_stop {v0 v1 v2 v3 v4 v5 v6 v7 v8 : V} : ([(Str.ofString "instruction", v0), (Str.ofString "guess", v1), (Str.ofString "op", v2), (Str.ofString "unit", v3), (Str.ofString "stop", v4), (Str.ofString "state", v5), (Str.ofString "goes_on", v6), (Str.ofString "cycles_left", v7), (Str.ofString "value", v8)] : List (Str × V)).lookup (Str.ofString "stop") = some v4 := by kernel_rfl
@[simp] theorem q_Slot_10 {v0 v1 v2 v3 v4 v5 v6 v7 v8 v9 v : V} : putF (Str.ofString "operands") v ([(Str.ofString "instruction", v0), (Str.ofString "guess", v1), (Str.ofString "op", v2), (Str.ofString "unit", v3), (Str.ofString "stop", v4), (Str.ofString "state", v5), (Str.ofString "goes_on", v6), (Str.ofString "cycles_left", v7), (Str.ofString "value", v8), (Str.ofString "cell", v9)] : List (Str × V)) = [(Str.ofString "instruction", v0), (Str.ofString "guess", v1), (Str.ofString "op", v2), (Str.ofString "unit", v3), (Str.ofString "stop", v4), (Str.ofString "state", v5), (Str.ofString "goes_on", v6), (Str.ofString "cycles_left", v7), (Str.ofString "value", v8), (Str.ofString "cell", v9), (Str.ofString "operands", v)] := by kernel_rfl
@[simp] theorem r_Slot_10_stop {v0 v1 v2 v3 v4 v5 v6 v7 v8 v9 : V} : ([(Str.ofString "instruction", v0), (Str.ofString "guess", v1), (Str.ofString "op", v2), (Str.ofString "unit", v3), (Str.ofString "stop", v4), (Str.ofString "state", v5), (Str.ofString "goes_on", v6), (Str.ofString "cycles_left", v7), (Str.ofString "value", v8), (Str.ofString "cell", v9)] : List (Str × V)).lookup (Str.ofString "stop") = some v4 := by kernel_rfl
@[simp] theorem q_Slot_11 {v0 v1 v2 v3 v4 v5 v6 v7 v8 v9 v10 v : V} : putF (Str.ofString "missing") v ([(Str.ofString "instruction", v0), (Str.ofString "guess", v1), (Str.ofString "op", v2), (Str.ofString "unit", v3), (Str.ofString "stop", v4), (Str.ofString "state", v5), (Str.ofString "goes_on", v6), (Str.ofString "cycles_left", v7), (Str.ofString "value", v8), (Str.ofString "cell", v9), (Str.ofString "operands", v10)] : List (Str × V)) = [(Str.ofString "instruction", v0), (Str.ofString "guess", v1), (Str.ofString "op", v2), (Str.ofString "unit", v3), (Str.ofString "stop", v4), (Str.ofString "state", v5), (Str.ofString "goes_on", v6), (Str.ofString "cycles_left", v7), (Str.ofString "value", v8), (Str.ofString "cell", v9), (Str.ofString "operands", v10), (Str.ofString "missing", v)] := by kernel_rfl
@[simp] theorem r_Slot_11_stop {v0 v1 v2 v3 v4 v5 v6 v7 v8 v9 v10 : V} : ([(Str.ofString "instruction", v0), (Str.ofString "guess", v1), (Str.ofString "op", v2), (Str.ofString "unit", v3), (Str.ofString "stop", v4), (Str.ofString "state", v5), (Str.ofString "goes_on", v6), (Str.ofString "cycles_left", v7), (Str.ofString "value", v8), (Str.ofString "cell", v9), (Str.ofString "operands", v10)] : List (Str × V)).lookup (Str.ofString "stop") = some v4 := by kernel_rfl
@[simp] theorem q_Slot_12 {v0 v1 v2 v3 v4 v5 v6 v7 v8 v9 v10 v11 v : V} : putF (Str.ofString "readers") v ([(Str.ofString "instruction", v0), (Str.ofString "guess", v1), (Str.ofString "op", v2), (Str.ofString "unit", v3), (Str.ofString "stop", v4), (Str.ofString "state", v5), (Str.ofString "goes_on", v6), (Str.ofString "cycles_left", v7), (Str.ofString "value", v8), (Str.ofString "cell", v9), (Str.ofString "operands", v10), (Str.ofString "missing", v11)] : List (Str × V)) = F_Slot v0 v1 v2 v3 v4 v5 v6 v7 v8 v9 v10 v11 v := by kernel_rfl
@[simp] theorem r_Slot_12_stop {v0 v1 v2 v3 v4 v5 v6 v7 v8 v9 v10 v11 : V} : ([(Str.ofString "instruction", v0), (Str.ofString "guess", v1), (Str.ofString "op", v2), (Str.ofString "unit", v3), (Str.ofString "stop", v4), (Str.ofString "state", v5), (Str.ofString "goes_on", v6), (Str.ofString "cycles_left", v7), (Str.ofString "value", v8), (Str.ofString "cell", v9), (Str.ofString "operands", v10), (Str.ofString "missing", v11)] : List (Str × V)).lookup (Str.ofString "stop") = some v4 := by kernel_rfl
/-- the attributes of a Machine -/
def F_Machine (v0 v1 v2 v3 v4 v5 v6 v7 v8 v9 v10 v11 v12 v13 v14 v15 v16 v17 : V) : List (Str × V) := [(Str.ofString "prog", v0), (Str.ofString "cells", v1), (Str.ofString "regs", v2), (Str.ofString "most_fetched", v3), (Str.ofString "most_leaving", v4), (Str.ofString "most_passed_on", v5), (Str.ofString "most_slots", v6), (Str.ofString "units", v7), (Str.ofString "counters", v8), (Str.ofString "stopped", v9), (Str.ofString "cycles_run", v10), (Str.ofString "have_left", v11), (Str.ofString "thrown_away", v12), (Str.ofString "wrong_guesses", v13), (Str.ofString "slots", v14), (Str.ofString "setters", v15), (Str.ofString "free_units", v16), (Str.ofString "fetch_place", v17)]
@[simp] theorem g_Machine_prog {v0 v1 v2 v3 v4 v5 v6 v7 v8 v9 v10 v11 v12 v13 v14 v15 v16 v17 : V} : (F_Machine v0 v1 v2 v3 v4 v5 v6 v7 v8 v9 v10 v11 v12 v13 v14 v15 v16 v17).lookup (Str.ofString "prog") = some v0 := by kernel_rfl
@[simp] theorem p_Machine_prog {v0 v1 v2 v3 v4 v5 v6 v7 v8 v9 v10 v11 v12 v13 v14 v15 v16 v17 v : V} : putF (Str.ofString "prog") v (F_Machine v0 v1 v2 v3 v4 v5 v6 v7 v8 v9 v10 v11 v12 v13 v14 v15 v16 v17) = F_Machine v v1 v2 v3 v4 v5 v6 v7 v8 v9 v10 v11 v12 v13 v14 v15 v16 v17 := by kernel_rfl
@[simp] theorem g_Machine_cells {v0 v1 v2 v3 v4 v5 v6 v7 v8 v9 v10 v11 v12 v13 v14 v15 v16 v17 : V} : (F_Machine v0 v1 v2 v3 v4 v5 v6 v7 v8 v9 v10 v11 v12 v13 v14 v15 v16 v17).lookup (Str.ofString "cells") = some v1 := by kernel_rfl
@[simp] theorem p_Machine_cells {v0 v1 v2 v3 v4 v5 v6 v7 v8 v9 v10 v11 v12 v13 v14 v15 v16 v17 v : V} : putF (Str.ofString "cells") v (F_Machine v0 v1 v2 v3 v4 v5 v6 v7 v8 v9 v10 v11 v12 v13 v14 v15 v16 v17) = F_Machine v0 v v2 v3 v4 v5 v6 v7 v8 v9 v10 v11 v12 v13 v14 v15 v16 v17 := by kernel_rfl
@[simp] theorem g_Machine_regs {v0 v1 v2 v3 v4 v5 v6 v7 v8 v9 v10 v11 v12 v13 v14 v15 v16 v17 : V} : (F_Machine v0 v1 v2 v3 v4 v5 v6 v7 v8 v9 v10 v11 v12 v13 v14 v15 v16 v17).lookup (Str.ofString "regs") = some v2 := by kernel_rfl
@[simp] theorem p_Machine_regs {v0 v1 v2 v3 v4 v5 v6 v7 v8 v9 v10 v11 v12 v13 v14 v15 v16 v17 v : V} : putF (Str.ofString "regs") v (F_Machine v0 v1 v2 v3 v4 v5 v6 v7 v8 v9 v10 v11 v12 v13 v14 v15 v16 v17) = F_Machine v0 v1 v v3 v4 v5 v6 v7 v8 v9 v10 v11 v12 v13 v14 v15 v16 v17 := by kernel_rfl
@[simp] theorem g_Machine_most_fetched {v0 v1 v2 v3 v4 v5 v6 v7 v8 v9 v10 v11 v12 v13 v14 v15 v16 v17 : V} : (F_Machine v0 v1 v2 v3 v4 v5 v6 v7 v8 v9 v10 v11 v12 v13 v14 v15 v16 v17).lookup (Str.ofString "most_fetched") = some v3 := by kernel_rfl
@[simp] theorem p_Machine_most_fetched {v0 v1 v2 v3 v4 v5 v6 v7 v8 v9 v10 v11 v12 v13 v14 v15 v16 v17 v : V} : putF (Str.ofString "most_fetched") v (F_Machine v0 v1 v2 v3 v4 v5 v6 v7 v8 v9 v10 v11 v12 v13 v14 v15 v16 v17) = F_Machine v0 v1 v2 v v4 v5 v6 v7 v8 v9 v10 v11 v12 v13 v14 v15 v16 v17 := by kernel_rfl
@[simp] theorem g_Machine_most_leaving {v0 v1 v2 v3 v4 v5 v6 v7 v8 v9 v10 v11 v12 v13 v14 v15 v16 v17 : V} : (F_Machine v0 v1 v2 v3 v4 v5 v6 v7 v8 v9 v10 v11 v12 v13 v14 v15 v16 v17).lookup (Str.ofString "most_leaving") = some v4 := by kernel_rfl
@[simp] theorem p_Machine_most_leaving {v0 v1 v2 v3 v4 v5 v6 v7 v8 v9 v10 v11 v12 v13 v14 v15 v16 v17 v : V} : putF (Str.ofString "most_leaving") v (F_Machine v0 v1 v2 v3 v4 v5 v6 v7 v8 v9 v10 v11 v12 v13 v14 v15 v16 v17) = F_Machine v0 v1 v2 v3 v v5 v6 v7 v8 v9 v10 v11 v12 v13 v14 v15 v16 v17 := by kernel_rfl
@[simp] theorem g_Machine_most_passed_on {v0 v1 v2 v3 v4 v5 v6 v7 v8 v9 v10 v11 v12 v13 v14 v15 v16 v17 : V} : (F_Machine v0 v1 v2 v3 v4 v5 v6 v7 v8 v9 v10 v11 v12 v13 v14 v15 v16 v17).lookup (Str.ofString "most_passed_on") = some v5 := by kernel_rfl
@[simp] theorem p_Machine_most_passed_on {v0 v1 v2 v3 v4 v5 v6 v7 v8 v9 v10 v11 v12 v13 v14 v15 v16 v17 v : V} : putF (Str.ofString "most_passed_on") v (F_Machine v0 v1 v2 v3 v4 v5 v6 v7 v8 v9 v10 v11 v12 v13 v14 v15 v16 v17) = F_Machine v0 v1 v2 v3 v4 v v6 v7 v8 v9 v10 v11 v12 v13 v14 v15 v16 v17 := by kernel_rfl
@[simp] theorem g_Machine_most_slots {v0 v1 v2 v3 v4 v5 v6 v7 v8 v9 v10 v11 v12 v13 v14 v15 v16 v17 : V} : (F_Machine v0 v1 v2 v3 v4 v5 v6 v7 v8 v9 v10 v11 v12 v13 v14 v15 v16 v17).lookup (Str.ofString "most_slots") = some v6 := by kernel_rfl
@[simp] theorem p_Machine_most_slots {v0 v1 v2 v3 v4 v5 v6 v7 v8 v9 v10 v11 v12 v13 v14 v15 v16 v17 v : V} : putF (Str.ofString "most_slots") v (F_Machine v0 v1 v2 v3 v4 v5 v6 v7 v8 v9 v10 v11 v12 v13 v14 v15 v16 v17) = F_Machine v0 v1 v2 v3 v4 v5 v v7 v8 v9 v10 v11 v12 v13 v14 v15 v16 v17 := by kernel_rfl
@[simp] theorem g_Machine_units {v0 v1 v2 v3 v4 v5 v6 v7 v8 v9 v10 v11 v12 v13 v14 v15 v16 v17 : V} : (F_Machine v0 v1 v2 v3 v4 v5 v6 v7 v8 v9 v10 v11 v12 v13 v14 v15 v16 v17).lookup (Str.ofString "units") = some v7 := by kernel_rfl
@[simp] theorem p_Machine_units {v0 v1 v2 v3 v4 v5 v6 v7 v8 v9 v10 v11 v12 v13 v14 v15 v16 v17 v : V} : putF (Str.ofString "units") v (F_Machine v0 v1 v2 v3 v4 v5 v6 v7 v8 v9 v10 v11 v12 v13 v14 v15 v16 v17) = F_Machine v0 v1 v2 v3 v4 v5 v6 v v8 v9 v10 v11 v12 v13 v14 v15 v16 v17 := by kernel_rfl
@[simp] theorem g_Machine_counters {v0 v1 v2 v3 v4 v5 v6 v7 v8 v9 v10 v11 v12 v13 v14 v15 v16 v17 : V} : (F_Machine v0 v1 v2 v3 v4 v5 v6 v7 v8 v9 v10 v11 v12 v13 v14 v15 v16 v17).lookup (Str.ofString "counters") = some v8 := by kernel_rfl
@[simp] theorem p_Machine_counters {v0 v1 v2 v3 v4 v5 v6 v7 v8 v9 v10 v11 v12 v13 v14 v15 v16 v17 v : V} : putF (Str.ofString "counters") v (F_Machine v0 v1 v2 v3 v4 v5 v6 v7 v8 v9 v10 v11 v12 v13 v14 v15 v16 v17) = F_Machine v0 v1 v2 v3 v4 v5 v6 v7 v v9 v10 v11 v12 v13 v14 v15 v16 v17 := by kernel_rfl
@[simp] theorem g_Machine_stopped {v0 v1 v2 v3 v4 v5 v6 v7 v8 v9 v10 v11 v12 v13 v14 v15 v16 v17 : V} : (F_Machine v0 v1 v2 v3 v4 v5 v6 v7 v8 v9 v10 v11 v12 v13 v14 v15 v16 v17).lookup (Str.ofString "stopped") = some v9 := by kernel_rfl
@[simp] theorem p_Machine_stopped {v0 v1 v2 v3 v4 v5 v6 v7 v8 v9 v10 v11 v12 v13 v14 v15 v16 v17 v : V} : putF (Str.ofString "stopped") v (F_Machine v0 v1 v2 v3 v4 v5 v6 v7 v8 v9 v10 v11 v12 v13 v14 v15 v16 v17) = F_Machine v0 v1 v2 v3 v4 v5 v6 v7 v8 v v10 v11 v12 v13 v14 v15 v16 v17 := by kernel_rfl
@[simp] theorem g_Machine_cycles_run {v0 v1 v2 v3 v4 v5 v6 v7 v8 v9 v10 v11 v12 v13 v14 v15 v16 v17 : V} : (F_Machine v0 v1 v2 v3 v4 v5 v6 v7 v8 v9 v10 v11 v12 v13 v14 v15 v16 v17).lookup (Str.ofString "cycles_run") = some v10 := by kernel_rfl
@[simp] theorem p_Machine_cycles_run {v0 v1 v2 v3 v4 v5 v6 v7 v8 v9 v10 v11 v12 v13 v14 v15 v16 v17 v : V} : putF (Str.ofString "cycles_run") v (F_Machine v0 v1 v2 v3 v4 v5 v6 v7 v8 v9 v10 v11 v12 v13 v14 v15 v16 v17) = F_Machine v0 v1 v2 v3 v4 v5 v6 v7 v8 v9 v v11 v12 v13 v14 v15 v16 v17 := by kernel_rfl
@[simp] theorem g_Machine_have_left {v0 v1 v2 v3 v4 v5 v6 v7 v8 v9 v10 v11 v12 v13 v14 v15 v16 v17 : V} : (F_Machine v0 v1 v2 v3 v4 v5 v6 v7 v8 v9 v10 v11 v12 v13 v14 v15 v16 v17).lookup (Str.ofString "have_left") = some v11 := by kernel_rfl
@[simp] theorem p_Machine_have_left {v0 v1 v2 v3 v4 v5 v6 v7 v8 v9 v10 v11 v12 v13 v14 v15 v16 v17 v : V} : putF (Str.ofString "have_left") v (F_Machine v0 v1 v2 v3 v4 v5 v6 v7 v8 v9 v10 v11 v12 v13 v14 v15 v16 v17) = F_Machine v0 v1 v2 v3 v4 v5 v6 v7 v8 v9 v10 v v12 v13 v14 v15 v16 v17 := by kernel_rfl
@[simp] theorem g_Machine_thrown_away {v0 v1 v2 v3 v4 v5 v6 v7 v8 v9 v10 v11 v12 v13 v14 v15 v16 v17 : V} : (F_Machine v0 v1 v2 v3 v4 v5 v6 v7 v8 v9 v10 v11 v12 v13 v14 v15 v16 v17).lookup (Str.ofString "thrown_away") = some v12 := by kernel_rfl
@[simp] theorem p_Machine_thrown_away {v0 v1 v2 v3 v4 v5 v6 v7 v8 v9 v10 v11 v12 v13 v14 v15 v16 v17 v : V} : putF (Str.ofString "thrown_away") v (F_Machine v0 v1 v2 v3 v4 v5 v6 v7 v8 v9 v10 v11 v12 v13 v14 v15 v16 v17) = F_Machine v0 v1 v2 v3 v4 v5 v6 v7 v8 v9 v10 v11 v v13 v14 v15 v16 v17 := by kernel_rfl
@[simp] theorem g_Machine_wrong_guesses {v0 v1 v2 v3 v4 v5 v6 v7 v8 v9 v10 v11 v12 v13 v14 v15 v16 v17 : V} : (F_Machine v0 v1 v2 v3 v4 v5 v6 v7 v8 v9 v10 v11 v12 v13 v14 v15 v16 v17).lookup (Str.ofString "wrong_guesses") = some v13 := by kernel_rfl
@[simp] theorem p_Machine_wrong_guesses {v0 v1 v2 v3 v4 v5 v6 v7 v8 v9 v10 v11 v12 v13 v14 v15 v16 v17 v : V} : putF (Str.ofString "wrong_guesses") v (F_Machine v0 v1 v2 v3 v4 v5 v6 v7 v8 v9 v10 v11 v12 v13 v14 v15 v16 v17) = F_Machine v0 v1 v2 v3 v4 v5 v6 v7 v8 v9 v10 v11 v12 v v14 v15 v16 v17 := by kernel_rfl
@[simp] theorem g_Machine_slots {v0 v1 v2 v3 v4 v5 v6 v7 v8 v9 v10 v11 v12 v13 v14 v15 v16 v17 : V} : (F_Machine v0 v1 v2 v3 v4 v5 v6 v7 v8 v9 v10 v11 v12 v13 v14 v15 v16 v17).lookup (Str.ofString "slots") = some v14 := by kernel_rfl
@[simp] theorem p_Machine_slots {v0 v1 v2 v3 v4 v5 v6 v7 v8 v9 v10 v11 v12 v13 v14 v15 v16 v17 v : V} : putF (Str.ofString "slots") v (F_Machine v0 v1 v2 v3 v4 v5 v6 v7 v8 v9 v10 v11 v12 v13 v14 v15 v16 v17) = F_Machine v0 v1 v2 v3 v4 v5 v6 v7 v8 v9 v10 v11 v12 v13 v v15 v16 v17 := by kernel_rfl
@[simp] theorem g_Machine_setters {v0 v1 v2 v3 v4 v5 v6 v7 v8 v9 v10 v11 v12 v13 v14 v15 v16 v17 : V} : (F_Machine v0 v1 v2 v3 v4 v5 v6 v7 v8 v9 v10 v11 v12 v13 v14 v15 v16 v17).lookup (Str.ofString "setters") = some v15 := by kernel_rfl
@[simp] theorem p_Machine_setters {v0 v1 v2 v3 v4 v5 v6 v7 v8 v9 v10 v11 v12 v13 v14 v15 v16 v17 v : V} : putF (Str.ofString "setters") v (F_Machine v0 v1 v2 v3 v4 v5 v6 v7 v8 v9 v10 v11 v12 v13 v14 v15 v16 v17) = F_Machine v0 v1 v2 v3 v4 v5 v6 v7 v8 v9 v10 v11 v12 v13 v14 v v16 v17 := by kernel_rfl
@[simp] theorem g_Machine_free_units {v0 v1 v2 v3 v4 v5 v6 v7 v8 v9 v10 v11 v12 v13 v14 v15 v16 v17 : V} : (F_Machine v0 v1 v2 v3 v4 v5 v6 v7 v8 v9 v10 v11 v12 v13 v14 v15 v16 v17).lookup (Str.ofString "free_units") = some v16 := by kernel_rfl
@[simp] theorem p_Machine_free_units {v0 v1 v2 v3 v4 v5 v6 v7 v8 v9 v10 v11 v12 v13 v14 v15 v16 v17 v : V} : putF (Str.ofString "free_units") v (F_Machine v0 v1 v2 v3 v4 v5 v6 v7 v8 v9 v10 v11 v12 v13 v14 v15 v16 v17) = F_Machine v0 v1 v2 v3 v4 v5 v6 v7 v8 v9 v10 v11 v12 v13 v14 v15 v v17 := by kernel_rfl
@[simp] theorem g_Machine_fetch_place {v0 v1 v2 v3 v4 v5 v6 v7 v8 v9 v10 v11 v12 v13 v14 v15 v16 v17 : V} : (F_Machine v0 v1 v2 v3 v4 v5 v6 v7 v8 v9 v10 v11 v12 v13 v14 v15 v16 v17).lookup (Str.ofString "fetch_place") = some v17 := by kernel_rfl
@[simp] theorem p_Machine_fetch_place {v0 v1 v2 v3 v4 v5 v6 v7 v8 v9 v10 v11 v12 v13 v14 v15 v16 v17 v : V} : putF (Str.ofString "fetch_place") v (F_Machine v0 v1 v2 v3 v4 v5 v6 v7 v8 v9 v10 v11 v12 v13 v14 v15 v16 v17) = F_Machine v0 v1 v2 v3 v4 v5 v6 v7 v8 v9 v10 v11 v12 v13 v14 v15 v16 v := by kernel_rfl
@[simp] theorem h_Machine_fetch_from {v0 v1 v2 v3 v4 v5 v6 v7 v8 v9 v10 v11 v12 v13 v14 v15 v16 v17 : V} : Ex.noF (F_Machine v0 v1 v2 v3 v4 v5 v6 v7 v8 v9 v10 v11 v12 v13 v14 v15 v16 v17) (Str.ofString "fetch_from") := noF_of (by kernel_rfl)
@[simp] theorem h_Machine_next_to_leave {v0 v1 v2 v3 v4 v5 v6 v7 v8 v9 v10 v11 v12 v13 v14 v15 v16 v17 : V} : Ex.noF (F_Machine v0 v1 v2 v3 v4 v5 v6 v7 v8 v9 v10 v11 v12 v13 v14 v15 v16 v17) (Str.ofString "next_to_leave") := noF_of (by kernel_rfl)
@[simp] theorem h_Machine_run_cycles {v0 v1 v2 v3 v4 v5 v6 v7 v8 v9 v10 v11 v12 v13 v14 v15 v16 v17 : V} : Ex.noF (F_Machine v0 v1 v2 v3 v4 v5 v6 v7 v8 v9 v10 v11 v12 v13 v14 v15 v16 v17) (Str.ofString "run_cycles") := noF_of (by kernel_rfl)
@[simp] theorem h_Machine_run_cycle {v0 v1 v2 v3 v4 v5 v6 v7 v8 v9 v10 v11 v12 v13 v14 v15 v16 v17 : V} : Ex.noF (F_Machine v0 v1 v2 v3 v4 v5 v6 v7 v8 v9 v10 v11 v12 v13 v14 v15 v16 v17) (Str.ofString "run_cycle") := noF_of (by kernel_rfl)
@[simp] theorem h_Machine_let_leave {v0 v1 v2 v3 v4 v5 v6 v7 v8 v9 v10 v11 v12 v13 v14 v15 v16 v17 : V} : Ex.noF (F_Machine v0 v1 v2 v3 v4 v5 v6 v7 v8 v9 v10 v11 v12 v13 v14 v15 v16 v17) (Str.ofString "let_leave") := noF_of (by kernel_rfl)
@[simp] theorem h_Machine_throw_away {v0 v1 v2 v3 v4 v5 v6 v7 v8 v9 v10 v11 v12 v13 v14 v15 v16 v17 : V} : Ex.noF (F_Machine v0 v1 v2 v3 v4 v5 v6 v7 v8 v9 v10 v11 v12 v13 v14 v15 v16 v17) (Str.ofString "throw_away") := noF_of (by kernel_rfl)
@[simp] theorem h_Machine_keep_result {v0 v1 v2 v3 v4 v5 v6 v7 v8 v9 v10 v11 v12 v13 v14 v15 v16 v17 : V} : Ex.noF (F_Machine v0 v1 v2 v3 v4 v5 v6 v7 v8 v9 v10 v11 v12 v13 v14 v15 v16 v17) (Str.ofString "keep_result") := noF_of (by kernel_rfl)
@[simp] theorem h_Machine_count_branch {v0 v1 v2 v3 v4 v5 v6 v7 v8 v9 v10 v11 v12 v13 v14 v15 v16 v17 : V} : Ex.noF (F_Machine v0 v1 v2 v3 v4 v5 v6 v7 v8 v9 v10 v11 v12 v13 v14 v15 v16 v17) (Str.ofString "count_branch") := noF_of (by kernel_rfl)
@[simp] theorem h_Machine_let_run_on {v0 v1 v2 v3 v4 v5 v6 v7 v8 v9 v10 v11 v12 v13 v14 v15 v16 v17 : V} : Ex.noF (F_Machine v0 v1 v2 v3 v4 v5 v6 v7 v8 v9 v10 v11 v12 v13 v14 v15 v16 v17) (Str.ofString "let_run_on") := noF_of (by kernel_rfl)
@[simp] theorem h_Machine_let_begin {v0 v1 v2 v3 v4 v5 v6 v7 v8 v9 v10 v11 v12 v13 v14 v15 v16 v17 : V} : Ex.noF (F_Machine v0 v1 v2 v3 v4 v5 v6 v7 v8 v9 v10 v11 v12 v13 v14 v15 v16 v17) (Str.ofString "let_begin") := noF_of (by kernel_rfl)
@[simp] theorem h_Machine_begin_slot {v0 v1 v2 v3 v4 v5 v6 v7 v8 v9 v10 v11 v12 v13 v14 v15 v16 v17 : V} : Ex.noF (F_Machine v0 v1 v2 v3 v4 v5 v6 v7 v8 v9 v10 v11 v12 v13 v14 v15 v16 v17) (Str.ofString "begin_slot") := noF_of (by kernel_rfl)
@[simp] theorem h_Machine_work_out {v0 v1 v2 v3 v4 v5 v6 v7 v8 v9 v10 v11 v12 v13 v14 v15 v16 v17 : V} : Ex.noF (F_Machine v0 v1 v2 v3 v4 v5 v6 v7 v8 v9 v10 v11 v12 v13 v14 v15 v16 v17) (Str.ofString "work_out") := noF_of (by kernel_rfl)
@[simp] theorem h_Machine_work_out_cell {v0 v1 v2 v3 v4 v5 v6 v7 v8 v9 v10 v11 v12 v13 v14 v15 v16 v17 : V} : Ex.noF (F_Machine v0 v1 v2 v3 v4 v5 v6 v7 v8 v9 v10 v11 v12 v13 v14 v15 v16 v17) (Str.ofString "work_out_cell") := noF_of (by kernel_rfl)
@[simp] theorem h_Machine_loaded {v0 v1 v2 v3 v4 v5 v6 v7 v8 v9 v10 v11 v12 v13 v14 v15 v16 v17 : V} : Ex.noF (F_Machine v0 v1 v2 v3 v4 v5 v6 v7 v8 v9 v10 v11 v12 v13 v14 v15 v16 v17) (Str.ofString "loaded") := noF_of (by kernel_rfl)
@[simp] theorem h_Machine_fetch {v0 v1 v2 v3 v4 v5 v6 v7 v8 v9 v10 v11 v12 v13 v14 v15 v16 v17 : V} : Ex.noF (F_Machine v0 v1 v2 v3 v4 v5 v6 v7 v8 v9 v10 v11 v12 v13 v14 v15 v16 v17) (Str.ofString "fetch") := noF_of (by kernel_rfl)
@[simp] theorem h_Machine_fetching_ended {v0 v1 v2 v3 v4 v5 v6 v7 v8 v9 v10 v11 v12 v13 v14 v15 v16 v17 : V} : Ex.noF (F_Machine v0 v1 v2 v3 v4 v5 v6 v7 v8 v9 v10 v11 v12 v13 v14 v15 v16 v17) (Str.ofString "fetching_ended") := noF_of (by kernel_rfl)
@[simp] theorem h_Machine_fetch_one {v0 v1 v2 v3 v4 v5 v6 v7 v8 v9 v10 v11 v12 v13 v14 v15 v16 v17 : V} : Ex.noF (F_Machine v0 v1 v2 v3 v4 v5 v6 v7 v8 v9 v10 v11 v12 v13 v14 v15 v16 v17) (Str.ofString "fetch_one") := noF_of (by kernel_rfl)
@[simp] theorem h_Machine_take_operand {v0 v1 v2 v3 v4 v5 v6 v7 v8 v9 v10 v11 v12 v13 v14 v15 v16 v17 : V} : Ex.noF (F_Machine v0 v1 v2 v3 v4 v5 v6 v7 v8 v9 v10 v11 v12 v13 v14 v15 v16 v17) (Str.ofString "take_operand") := noF_of (by kernel_rfl)
@[simp] theorem h_Machine_guessed {v0 v1 v2 v3 v4 v5 v6 v7 v8 v9 v10 v11 v12 v13 v14 v15 v16 v17 : V} : Ex.noF (F_Machine v0 v1 v2 v3 v4 v5 v6 v7 v8 v9 v10 v11 v12 v13 v14 v15 v16 v17) (Str.ofString "guessed") := noF_of (by kernel_rfl)
@[simp] theorem h_Machine_guesses_jump {v0 v1 v2 v3 v4 v5 v6 v7 v8 v9 v10 v11 v12 v13 v14 v15 v16 v17 : V} : Ex.noF (F_Machine v0 v1 v2 v3 v4 v5 v6 v7 v8 v9 v10 v11 v12 v13 v14 v15 v16 v17) (Str.ofString "guesses_jump") := noF_of (by kernel_rfl)
@[simp] theorem l_Machine {v0 v1 v2 v3 v4 v5 v6 v7 v8 v9 v10 v11 v12 v13 v14 v15 v16 v17 : V} : (F_Machine v0 v1 v2 v3 v4 v5 v6 v7 v8 v9 v10 v11 v12 v13 v14 v15 v16 v17).length = 18 := rfl
@[simp] theorem q_Machine_0 {v : V} : putF (Str.ofString "prog") v ([] : List (Str × V)) = [(Str.ofString "prog", v)] := by kernel_rfl
@[simp] theorem q_Machine_1 {v0 v : V} : putF (Str.ofString "cells") v ([(Str.ofString "prog", v0)] : List (Str × V)) = [(Str.ofString "prog", v0), (Str.ofString "cells", v)] := by kernel_rfl
@[simp] theorem m_Machine_1_fetch_from {v0 : V} : Ex.noF ([(Str.ofString "prog", v0)] : List (Str × V)) (Str.ofString "fetch_from") := noF_of (by kernel_rfl)
@[simp] theorem q_Machine_2 {v0 v1 v : V} : putF (Str.ofString "regs") v ([(Str.ofString "prog", v0), (Str.ofString "cells", v1)] : List (Str × V)) = [(Str.ofString "prog", v0), (Str.ofString "cells", v1), (Str.ofString "regs", v)] := by kernel_rfl
@[simp] theorem m_Machine_2_fetch_from {v0 v1 : V} : Ex.noF ([(Str.ofString "prog", v0), (Str.ofString "cells", v1)] : List (Str × V)) (Str.ofString "fetch_from") := noF_of (by kernel_rfl)
@[simp] theorem q_Machine_3 {v0 v1 v2 v : V} : putF (Str.ofString "most_fetched") v ([(Str.ofString "prog", v0), (Str.ofString "cells", v1), (Str.ofString "regs", v2)] : List (Str × V)) = [(Str.ofString "prog", v0), (Str.ofString "cells", v1), (Str.ofString "regs", v2), (Str.ofString "most_fetched", v)] := by kernel_rfl
@[simp] theorem m_Machine_3_fetch_from {v0 v1 v2 : V} : Ex.noF ([(Str.ofString "prog", v0), (Str.ofString "cells", v1), (Str.ofString "regs", v2)] : List (Str × V)) (Str.ofString "fetch_from") := noF_of (by kernel_rfl)
@[simp] theorem q_Machine_4 {v0 v1 v2 v3 v : V} : putF (Str.ofString "most_leaving") v ([(Str.ofString "prog", v0), (Str.ofString "cells", v1), (Str.ofString "regs", v2), (Str.ofString "most_fetched", v3)] : List (Str × V)) = [(Str.ofString "prog", v0), (Str.ofString "cells", v1), (Str.ofString "regs", v2), (Str.ofString "most_fetched", v3), (Str.ofString "most_leaving", v)] := by kernel_rfl
@[simp] theorem m_Machine_4_fetch_from {v0 v1 v2 v3 : V} : Ex.noF ([(Str.ofString "prog", v0), (Str.ofString "cells", v1), (Str.ofString "regs", v2), (Str.ofString "most_fetched", v3)] : List (Str × V)) (Str.ofString "fetch_from") := noF_of (by kernel_rfl)
@[simp] theorem q_Machine_5 {v0 v1 v2 v3 v4 v : V} : putF (Str.ofString "most_passed_on") v ([(Str.ofString "prog", v0), (Str.ofString "cells", v1), (Str.ofString "regs", v2), (Str.ofString "most_fetched", v3), (Str.ofString "most_leaving", v4)] : List (Str × V)) = [(Str.ofString "prog", v0), (Str.ofString "cells", v1), (Str.ofString "regs", v2), (Str.ofString "most_fetched", v3), (Str.ofString "most_leaving", v4), (Str.ofString "most_passed_on", v)] := by kernel_rfl
@[simp] theorem m_Machine_5_fetch_from {v0 v1 v2 v3 v4 : V} : Ex.noF ([(Str.ofString "prog", v0), (Str.ofString "cells", v1), (Str.ofString "regs", v2), (Str.ofString "most_fetched", v3), (Str.ofString "most_leaving", v4)] : List (Str × V)) (Str.ofString "fetch_from") := noF_of (by kernel_rfl)
@[simp] theorem q_Machine_6 {v0 v1 v2 v3 v4 v5 v : V} : putF (Str.ofString "most_slots") v ([(Str.ofString "prog", v0), (Str.ofString "cells", v1), (Str.ofString "regs", v2), (Str.ofString "most_fetched", v3), (Str.ofString "most_leaving", v4), (Str.ofString "most_passed_on", v5)] : List (Str × V)) = [(Str.ofString "prog", v0), (Str.ofString "cells", v1), (Str.ofString "regs", v2), (Str.ofString "most_fetched", v3), (Str.ofString "most_leaving", v4), (Str.ofString "most_passed_on", v5), (Str.ofString "most_slots", v)] := by kernel_rfl
@[simp] theorem m_Machine_6_fetch_from {v0 v1 v2 v3 v4 v5 : V} : Ex.noF ([(Str.ofString "prog", v0), (Str.ofString "cells", v1), (Str.ofString "regs", v2), (Str.ofString "most_fetched", v3), (Str.ofString "most_leaving", v4), (Str.ofString "most_passed_on", v5)] : List (Str × V)) (Str.ofString "fetch_from") := noF_of (by kernel_rfl)
@[simp] theorem q_Machine_7 {v0 v1 v2 v3 v4 v5 v6 v : V} : putF (Str.ofString "units") v ([(Str.ofString "prog", v0), (Str.ofString "cells", v1), (Str.ofString "regs", v2), (Str.ofString "most_fetched", v3), (Str.ofString "most_leaving", v4), (Str.ofString "most_passed_on", v5), (Str.ofString "most_slots", v6)] : List (Str × V)) = [(Str.ofString "prog", v0), (Str.ofString "cells", v1), (Str.ofString "regs", v2), (Str.ofString "most_fetched", v3), (Str.ofString "most_leaving", v4), (Str.ofString "most_passed_on", v5), (Str.ofString "most_slots", v6), (Str.ofString "units", v)] := by kernel_rfl
@[simp] theorem m_Machine_7_fetch_from {v0 v1 v2 v3 v4 v5 v6 : V} : Ex.noF ([(Str.ofString "prog", v0), (Str.ofString "cells", v1), (Str.ofString "regs", v2), (Str.ofString "most_fetched", v3), (Str.ofString "most_leaving", v4), (Str.ofString "most_passed_on", v5), (Str.ofString "most_slots", v6)] : List (Str × V)) (Str.ofString "fetch_from") := noF_of (by kernel_rfl)
@[simp] theorem q_Machine_8 {v0 v1 v2 v3 v4 v5 v6 v7 v : V} : putF (Str.ofString "counters") v ([(Str.ofString "prog", v0), (Str.ofString "cells", v1), (Str.ofString "regs", v2), (Str.ofString "most_fetched", v3), (Str.ofString "most_leaving", v4), (Str.ofString "most_passed_on", v5), (Str.ofString "most_slots", v6), (Str.ofString "units", v7)] : List (Str × V)) = [(Str.ofString "prog", v0), (Str.ofString "cells", v1), (Str.ofString "regs", v2), (Str.ofString "most_fetched", v3), (Str.ofString "most_leaving", v4), (Str.ofString "most_passed_on", v5), (Str.ofString "most_slots", v6), (Str.ofString "units", v7), (Str.ofString "counters", v)] := by kernel_rfl
@[simp] theorem m_Machine_8_fetch_from {v0 v1 v2 v3 v4 v5 v6 v7 : V} : Ex.noF ([(Str.ofString "prog", v0), (Str.ofString "cells", v1), (Str.ofString "regs", v2), (Str.ofString "most_fetched", v3), (Str.ofString "most_leaving", v4), (Str.ofString "most_passed_on", v5), (Str.ofString "most_slots", v6), (Str.ofString "units", v7)] : List (Str × V)) (Str.ofString "fetch_from") := noF_of (by kernel_rfl)
@[simp] theorem q_Machine_9 {v0 v1 v2 v3 v4 v5 v6 v7 v8 v : V} : putF (Str.ofString "stopped") v ([(Str.ofString "prog", v0), (Str.ofString "cells", v1), (Str.ofString "regs", v2), (Str.ofString "most_fetched", v3), (Str.ofString "most_leaving", v4), (Str.ofString "most_passed_on", v5), (Str.ofString "most_slots", v6), (Str.ofString "units", v7), (Str.ofString "counters", v8)] : List (Str × V)) = [(Str.ofString "prog", v0), (Str.ofString "cells", v1), (Str.ofString "regs", v2), (Str.ofString "most_fetched", v3), (Str.ofString "most_leaving", v4), (Str.ofString "most_passed_on", v5), (Str.ofString "most_slots", v6), (Str.ofString "units", v7), (Str.ofString "counters", v8), (Str.ofString "stopped", v)] := by kernel_rfl
@[simp] theorem m_Machine_9_fetch_from {v0 v1 v2 v3 v4 v5 v6 v7 v8 : V} : Ex.noF ([(Str.ofString "prog", v0), (Str.ofString "cells", v1), (Str.ofString "regs", v2), (Str.ofString "most_fetched", v3), (Str.ofString "most_leaving", v4), (Str.ofString "most_passed_on", v5), (Str.ofString "most_slots", v6), (Str.ofString "units", v7), (Str.ofString "counters", v8)] : List (Str × V)) (Str.ofString "fetch_from") := noF_of (by kernel_rfl)
@[simp] theorem q_Machine_10 {v0 v1 v2 v3 v4 v5 v6 v7 v8 v9 v : V} : putF (Str.ofString "cycles_run") v ([(Str.ofString "prog", v0), (Str.ofString "cells", v1), (Str.ofString "regs", v2), (Str.ofString "most_fetched", v3), (Str.ofString "most_leaving", v4), (Str.ofString "most_passed_on", v5), (Str.ofString "most_slots", v6), (Str.ofString "units", v7), (Str.ofString "counters", v8), (Str.ofString "stopped", v9)] : List (Str × V)) = [(Str.ofString "prog", v0), (Str.ofString "cells", v1), (Str.ofString "regs", v2), (Str.ofString "most_fetched", v3), (Str.ofString "most_leaving", v4), (Str.ofString "most_passed_on", v5), (Str.ofString "most_slots", v6), (Str.ofString "units", v7), (Str.ofString "counters", v8), (Str.ofString "stopped", v9), (Str.ofString "cycles_run", v)] := by kernel_rfl
@[simp] theorem m_Machine_10_fetch_from {v0 v1 v2 v3 v4 v5 v6 v7 v8 v9 : V} : Ex.noF ([(Str.ofString "prog", v0), (Str.ofString "cells", v1), (Str.ofString "regs", v2), (Str.ofString "most_fetched", v3), (Str.ofString "most_leaving", v4), (Str.ofString "most_passed_on", v5), (Str.ofString "most_slots", v6), (Str.ofString "units", v7), (Str.ofString "counters", v8), (Str.ofString "stopped", v9)] : List (Str × V)) (Str.ofString "fetch_from") := noF_of (by kernel_rfl)
@[simp] theorem q_Machine_11 {v0 v1 v2 v3 v4 v5 v6 v7 v8 v9 v10 v : V} : putF (Str.ofString "have_left") v ([(Str.ofString "prog", v0), (Str.ofString "cells", v1), (Str.ofString "regs", v2), (Str.ofString "most_fetched", v3), (Str.ofString "most_leaving", v4), (Str.ofString "most_passed_on", v5), (Str.ofString "most_slots", v6), (Str.ofString "units", v7), (Str.ofString "counters", v8), (Str.ofString "stopped", v9), (Str.ofString "cycles_run", v10)] : List (Str × V)) = [(Str.ofString "prog", v0), (Str.ofString "cells", v1), (Str.ofString "regs", v2), (Str.ofString "most_fetched", v3), (Str.ofString "most_leaving", v4), (Str.ofString "most_passed_on", v5), (Str.ofString "most_slots", v6), (Str.ofString "units", v7), (Str.ofString "counters", v8), (Str.ofString "stopped", v9), (Str.ofString "cycles_run", v10), (Str.ofString "have_left", v)] := by kernel_rfl
@[simp] theorem m_Machine_11_fetch_from {v0 v1 v2 v3 v4 v5 v6 v7 v8 v9 v10 : V} : Ex.noF ([(Str.ofString "prog", v0), (Str.ofString "cells", v1), (Str.ofString "regs", v2), (Str.ofString "most_fetched", v3), (Str.ofString "most_leaving", v4), (Str.ofString "most_passed_on", v5), (Str.ofString "most_slots", v6), (Str.ofString "units", v7), (Str.ofString "counters", v8), (Str.ofString "stopped", v9), (Str.ofString "cycles_run", v10)] : List (Str × V)) (Str.ofString "fetch_from") := noF_of (by kernel_rfl)
@[simp] theorem q_Machine_12 {v0 v1 v2 v3 v4 v5 v6 v7 v8 v9 v10 v11 v : V} : putF (Str.ofString "thrown_away") v ([(Str.ofString "prog", v0), (Str.ofString "cells", v1), (Str.ofString "regs", v2), (Str.ofString "most_fetched", v3), (Str.ofString "most_leaving", v4), (Str.ofString "most_passed_on", v5), (Str.ofString "most_slots", v6), (Str.ofString "units", v7), (Str.ofString "counters", v8), (Str.ofString "stopped", v9), (Str.ofString "cycles_run", v10), (Str.ofString "have_left", v11)] : List (Str × V)) = [(Str.ofString "prog", v0), (Str.ofString "cells", v1), (Str.ofString "regs", v2), (Str.ofString "most_fetched", v3), (Str.ofString "most_leaving", v4), (Str.ofString "most_passed_on", v5), (Str.ofString "most_slots", v6), (Str.ofString "units", v7), (Str.ofString "counters", v8), (Str.ofString "stopped", v9), (Str.ofString "cycles_run", v10), (Str.ofString "have_left", v11), (Str.ofString "thrown_away", v)] := by kernel_rfl
@[simp] theorem m_Machine_12_fetch_from {v0 v1 v2 v3 v4 v5 v6 v7 v8 v9 v10 v11 : V} : Ex.noF ([(Str.ofString "prog", v0), (Str.ofString "cells", v1), (Str.ofString "regs", v2), (Str.ofString "most_fetched", v3), (Str.ofString "most_leaving", v4), (Str.ofString "most_passed_on", v5), (Str.ofString "most_slots", v6), (Str.ofString "units", v7), (Str.ofString "counters", v8), (Str.ofString "stopped", v9), (Str.ofString "cycles_run", v10), (Str.ofString "have_left", v11)] : List (Str × V)) (Str.ofString "fetch_from") := noF_of (by kernel_rfl)
@[simp] theorem q_Machine_13 {v0 v1 v2 v3 v4 v5 v6 v7 v8 v9 v10 v11 v12 v : V} : putF (Str.ofString "wrong_guesses") v ([(Str.ofString "prog", v0), (Str.ofString "cells", v1), (Str.ofString "regs", v2), (Str.ofString "most_fetched", v3), (Str.ofString "most_leaving", v4), (Str.ofString "most_passed_on", v5), (Str.ofString "most_slots", v6), (Str.ofString "units", v7), (Str.ofString "counters", v8), (Str.ofString "stopped", v9), (Str.ofString "cycles_run", v10), (Str.ofString "have_left", v11), (Str.ofString "thrown_away", v12)] : List (Str × V)) = [(Str.ofString "prog", v0), (Str.ofString "cells", v1), (Str.ofString "regs", v2), (Str.ofString "most_fetched", v3), (Str.ofString "most_leaving", v4), (Str.ofString "most_passed_on", v5), (Str.ofString "most_slots", v6), (Str.ofString "units", v7), (Str.ofString "counters", v8), (Str.ofString "stopped", v9), (Str.ofString "cycles_run", v10), (Str.ofString "have_left", v11), (Str.ofString "thrown_away", v12), (Str.ofString "wrong_guesses", v)] := by kernel_rfl
@[simp] theorem m_Machine_13_fetch_from {v0 v1 v2 v3 v4 v5 v6 v7 v8 v9 v10 v11 v12 : V} : Ex.noF ([(Str.ofString "prog", v0), (Str.ofString "cells", v1), (Str.ofString "regs", v2), (Str.ofString "most_fetched", v3), (Str.ofString "most_leaving", v4), (Str.ofString "most_passed_on", v5), (Str.ofString "most_slots", v6), (Str.ofString "units", v7), (Str.ofString "counters", v8), (Str.ofString "stopped", v9), (Str.ofString "cycles_run", v10), (Str.ofString "have_left", v11), (Str.ofString "thrown_away", v12)] : List (Str × V)) (Str.ofString "fetch_from") := noF_of (by kernel_rfl)
@[simp] theorem q_Machine_14 {v0 v1 v2 v3 v4 v5 v6 v7 v8 v9 v10 v11 v12 v13 v : V} : putF (Str.ofString "slots") v ([(Str.ofString "prog", v0), (Str.ofString "cells", v1), (Str.ofString "regs", v2), (Str.ofString "most_fetched", v3), (Str.ofString "most_leaving", v4), (Str.ofString "most_passed_on", v5), (Str.ofString "most_slots", v6), (Str.ofString "units", v7), (Str.ofString "counters", v8), (Str.ofString "stopped", v9), (Str.ofString "cycles_run", v10), (Str.ofString "have_left", v11), (Str.ofString "thrown_away", v12), (Str.ofString "wrong_guesses", v13)] : List (Str × V)) = [(Str.ofString "prog", v0), (Str.ofString "cells", v1), (Str.ofString "regs", v2), (Str.ofString "most_fetched", v3), (Str.ofString "most_leaving", v4), (Str.ofString "most_passed_on", v5), (Str.ofString "most_slots", v6), (Str.ofString "units", v7), (Str.ofString "counters", v8), (Str.ofString "stopped", v9), (Str.ofString "cycles_run", v10), (Str.ofString "have_left", v11), (Str.ofString "thrown_away", v12), (Str.ofString "wrong_guesses", v13), (Str.ofString "slots", v)] := by kernel_rfl
@[simp] theorem m_Machine_14_fetch_from {v0 v1 v2 v3 v4 v5 v6 v7 v8 v9 v10 v11 v12 v13 : V} : Ex.noF ([(Str.ofString "prog", v0), (Str.ofString "cells", v1), (Str.ofString "regs", v2), (Str.ofString "most_fetched", v3), (Str.ofString "most_leaving", v4), (Str.ofString "most_passed_on", v5), (Str.ofString "most_slots", v6), (Str.ofString "units", v7), (Str.ofString "counters", v8), (Str.ofString "stopped", v9), (Str.ofString "cycles_run", v10), (Str.ofString "have_left", v11), (Str.ofString "thrown_away", v12), (Str.ofString "wrong_guesses", v13)] : List (Str × V)) (Str.ofString "fetch_from") := noF_of (by kernel_rfl)
@[simp] theorem q_Machine_15 {v0 v1 v2 v3 v4 v5 v6 v7 v8 v9 v10 v11 v12 v13 v14 v : V} : putF (Str.ofString "setters") v ([(Str.ofString "prog", v0), (Str.ofString "cells", v1), (Str.ofString "regs", v2), (Str.ofString "most_fetched", v3), (Str.ofString "most_leaving", v4), (Str.ofString "most_passed_on", v5), (Str.ofString "most_slots", v6), (Str.ofString "units", v7), (Str.ofString "counters", v8), (Str.ofString "stopped", v9), (Str.ofString "cycles_run", v10), (Str.ofString "have_left", v11), (Str.ofString "thrown_away", v12), (Str.ofString "wrong_guesses", v13), (Str.ofString "slots", v14)] : List (Str × V)) = [(Str.ofString "prog", v0), (Str.ofString "cells", v1), (Str.ofString "regs", v2), (Str.ofString "most_fetched", v3), (Str.ofString "most_leaving", v4), (Str.ofString "most_passed_on", v5), (Str.ofString "most_slots", v6), (Str.ofString "units", v7), (Str.ofString "counters", v8), (Str.ofString "stopped", v9), (Str.ofString "cycles_run", v10), (Str.ofString "have_left", v11), (Str.ofString "thrown_away", v12), (Str.ofString "wrong_guesses", v13), (Str.ofString "slots", v14), (Str.ofString "setters", v)] := by kernel_rfl
@[simp] theorem m_Machine_15_fetch_from {v0 v1 v2 v3 v4 v5 v6 v7 v8 v9 v10 v11 v12 v13 v14 : V} : Ex.noF ([(Str.ofString "prog", v0), (Str.ofString "cells", v1), (Str.ofString "regs", v2), (Str.ofString "most_fetched", v3), (Str.ofString "most_leaving", v4), (Str.ofString "most_passed_on", v5), (Str.ofString "most_slots", v6), (Str.ofString "units", v7), (Str.ofString "counters", v8), (Str.ofString "stopped", v9), (Str.ofString "cycles_run", v10), (Str.ofString "have_left", v11), (Str.ofString "thrown_away", v12), (Str.ofString "wrong_guesses", v13), (Str.ofString "slots", v14)] : List (Str × V)) (Str.ofString "fetch_from") := noF_of (by kernel_rfl)
@[simp] theorem q_Machine_16 {v0 v1 v2 v3 v4 v5 v6 v7 v8 v9 v10 v11 v12 v13 v14 v15 v : V} : putF (Str.ofString "free_units") v ([(Str.ofString "prog", v0), (Str.ofString "cells", v1), (Str.ofString "regs", v2), (Str.ofString "most_fetched", v3), (Str.ofString "most_leaving", v4), (Str.ofString "most_passed_on", v5), (Str.ofString "most_slots", v6), (Str.ofString "units", v7), (Str.ofString "counters", v8), (Str.ofString "stopped", v9), (Str.ofString "cycles_run", v10), (Str.ofString "have_left", v11), (Str.ofString "thrown_away", v12), (Str.ofString "wrong_guesses", v13), (Str.ofString "slots", v14), (Str.ofString "setters", v15)] : List (Str × V)) = [(Str.ofString "prog", v0), (Str.ofString "cells", v1), (Str.ofString "regs", v2), (Str.ofString "most_fetched", v3), (Str.ofString "most_leaving", v4), (Str.ofString "most_passed_on", v5), (Str.ofString "most_slots", v6), (Str.ofString "units", v7), (Str.ofString "counters", v8), (Str.ofString "stopped", v9), (Str.ofString "cycles_run", v10), (Str.ofString "have_left", v11), (Str.ofString "thrown_away", v12), (Str.ofString "wrong_guesses", v13), (Str.ofString "slots", v14), (Str.ofString "setters", v15), (Str.ofString "free_units", v)] := by kernel_rfl
@[simp] theorem m_Machine_16_fetch_from {v0 v1 v2 v3 v4 v5 v6 v7 v8 v9 v10 v11 v12 v13 v14 v15 : V} : Ex.noF ([(Str.ofString "prog", v0), (Str.ofString "cells", v1), (Str.ofString "regs", v2), (Str.ofString "most_fetched", v3), (Str.ofString "most_leaving", v4), (Str.ofString "most_passed_on", v5), (Str.ofString "most_slots", v6), (Str.ofString "units", v7), (Str.ofString "counters", v8), (Str.ofString "stopped", v9), (Str.ofString "cycles_run", v10), (Str.ofString "have_left", v11), (Str.ofString "thrown_away", v12), (Str.ofString "wrong_guesses", v13), (Str.ofString "slots", v14), (Str.ofString "setters", v15)] : List (Str × V)) (Str.ofString "fetch_from") := noF_of (by kernel_rfl)
@[simp] theorem q_Machine_17 {v0 v1 v2 v3 v4 v5 v6 v7 v8 v9 v10 v11 v12 v13 v14 v15 v16 v : V} : putF (Str.ofString "fetch_place") v ([(Str.ofString "prog", v0), (Str.ofString "cells", v1), (Str.ofString "regs", v2), (Str.ofString "most_fetched", v3), (Str.ofString "most_leaving", v4), (Str.ofString "most_passed_on", v5), (Str.ofString "most_slots", v6), (Str.ofString "units", v7), (Str.ofString "counters", v8), (Str.ofString "stopped", v9), (Str.ofString "cycles_run", v10), (Str.ofString "have_left", v11), (Str.ofString "thrown_away", v12), (Str.ofString "wrong_guesses", v13), (Str.ofString "slots", v14), (Str.ofString "setters", v15), (Str.ofString "free_units", v16)] : List (Str × V)) = F_Machine v0 v1 v2 v3 v4 v5 v6 v7 v8 v9 v10 v11 v12 v13 v14 v15 v16 v := by kernel_rfl
@[simp] theorem m_Machine_17_fetch_from {v0 v1 v2 v3 v4 v5 v6 v7 v8 v9 v10 v11 v12 v13 v14 v15 v16 : V} : Ex.noF ([(Str.ofString "prog", v0), (Str.ofString "cells", v1), (Str.ofString "regs", v2), (Str.ofString "most_fetched", v3), (Str.ofString "most_leaving", v4), (Str.ofString "most_passed_on", v5), (Str.ofString "most_slots", v6), (Str.ofString "units", v7), (Str.ofString "counters", v8), (Str.ofString "stopped", v9), (Str.ofString "cycles_run", v10), (Str.ofString "have_left", v11), (Str.ofString "thrown_away", v12), (Str.ofString "wrong_guesses", v13), (Str.ofString "slots", v14), (Str.ofString "setters", v15), (Str.ofString "free_units", v16)] : List (Str × V)) (Str.ofString "fetch_from") := noF_of (by kernel_rfl)
/-- the attributes of a Reader -/
def F_Reader (v0 v1 : V) : List (Str × V) := [(Str.ofString "numbers", v0), (Str.ofString "at", v1)]
@[simp] theorem g_Reader_numbers {v0 v1 : V} : (F_Reader v0 v1).lookup (Str.ofString "numbers") = some v0 := by kernel_rfl
@[simp] theorem p_Reader_numbers {v0 v1 v : V} : putF (Str.ofString "numbers") v (F_Reader v0 v1) = F_Reader v v1 := by kernel_rfl
@[simp] theorem g_Reader_at {v0 v1 : V} : (F_Reader v0 v1).lookup (Str.ofString "at") = some v1 := by kernel_rfl
@[simp] theorem p_Reader_at {v0 v1 v : V} : putF (Str.ofString "at") v (F_Reader v0 v1) = F_Reader v0 v := by kernel_rfl
@[simp] theorem h_Reader_at_end {v0 v1 : V} : Ex.noF (F_Reader v0 v1) (Str.ofString "at_end") := noF_of (by kernel_rfl)
@[simp] theorem h_Reader_take_number {v0 v1 : V} : Ex.noF (F_Reader v0 v1) (Str.ofString "take_number") := noF_of (by kernel_rfl)
@[simp] theorem h_Reader_take_row {v0 v1 : V} : Ex.noF (F_Reader v0 v1) (Str.ofString "take_row") := noF_of (by kernel_rfl)
@[simp] theorem l_Reader {v0 v1 : V} : (F_Reader v0 v1).length = 2 := rfl
@[simp] theorem q_Reader_0 {v : V} : putF (Str.ofString "numbers") v ([] : List (Str × V)) = [(Str.ofString "numbers", v)] := by kernel_rfl
@[simp] theorem q_Reader_1 {v0 v : V} : putF (Str.ofString "at") v ([(Str.ofString "numbers", v0)] : List (Str × V)) = F_Reader v0 v := by kernel_rfl
end Ooo
/-! The program's objects in the heap. -/
namespace Ooo
open PySem L2 Ex
def bi (w : Bool) : Int := if w then 1 else 0
def oa (o : Option Nat) : V := match o with | none => .non | some a => .ref a
def nv (l : List Nat) : List V := l.map fun (n : Nat) => V.int (n : Int)
def insF (pc word sure : Nat) : List (Str × V) :=
  F_Instruction (.int (pc : Int)) (.int (word : Int)) (.int ((Sd48.ins word).op : Int)) (.int (Sd48.ins word).imm) (.int (Sd48.first (Sd48.ins word) : Int)) (.int (Sd48.second (Sd48.ins word) : Int)) (.int (Sd48.dest (Sd48.ins word) : Int))
    (.int (((pc + 1) % Sd48.W : Nat) : Int)) (.int (Sd48.wrap (((pc + 1 : Nat) : Int) + (Sd48.ins word).imm) : Int)) (.bl (Sd48.among (Sd48.ins word).op 14 16)) (.int ((Sd48.kind (Sd48.ins word) - 1 : Nat) : Int)) (.int (Sd48.latency (Sd48.ins word) : Int)) (.int (sure : Int))
def slotF (d : SD) : List (Str × V) :=
  F_Slot (.ref d.ia) (.int d.guess) (.int ((Sd48.ins d.x.word).op : Int)) (.int ((Sd48.kind (Sd48.ins d.x.word) - 1 : Nat) : Int)) (.int (d.x.out.halt_ : Int)) (.int (d.x.phase : Int)) (.int d.goes) (.int (d.x.left : Int)) (.int (d.x.out.value : Int)) (.int (d.x.out.cell : Int)) (.ref d.oa) (.int d.missing) (.ref d.ra)
def machF (C : CS) : List (Str × V) :=
  F_Machine (.ref (C.la .prog)) (.ref (C.la .cells)) (.ref (C.la .regs)) (.int (C.m.cfg.fetch : Int)) (.int (C.m.cfg.retire : Int)) (.int (C.m.cfg.buses : Int)) (.int (C.m.cfg.slots : Int)) (.ref (C.la .units)) (.ref (C.la .counters)) (.int (C.m.halt_ : Int)) (.int (C.m.cycles : Int)) (.int (C.m.retired : Int)) (.int (C.m.thrown : Int)) (.int (C.m.wrong : Int)) (.ref (C.la .slots)) (.ref (C.la .setters)) (.ref (C.la .free)) (.int C.fp)
def lv (C : CS) : LN → List V
  | .prog => C.pa.map V.ref
  | .cells => nv C.m.arch.cells
  | .regs => nv C.m.arch.regs
  | .units => nv [C.m.cfg.alu, C.m.cfg.mul, C.m.cfg.div, C.m.cfg.mem]
  | .counters => nv C.m.table
  | .slots => C.q.map V.ref
  | .setters => C.set.map oa
  | .free => C.free.map V.int
inductive Role where
  | no | frame | mach | ml (n : LN) | slot | ops (a : Nat) | rds (a : Nat) | ins | tup
  deriving DecidableEq
def setR (ρ : Addr → Role) (c : Addr) (r : Role) : Addr → Role := fun b => if b = c then r else ρ b
theorem setR_same {ρ : Addr → Role} {c : Addr} {r : Role} : setR ρ c r c = r := if_pos rfl
theorem setR_ne {ρ : Addr → Role} {b c : Addr} {r : Role} (h : b ≠ c) : setR ρ c r b = ρ b := if_neg h
structure SlotAt (A : Ad) (H : Hp) (ρ : Addr → Role) (a : Addr) (d : SD) : Prop where
  ob : H a = some (.ins A.C_Slot d.dx (slotF d))
  rl : ρ a = .slot
  ops : H d.oa = some (.lst [.int (d.ops false), .int (d.ops true)])
  rops : ρ d.oa = .ops a
  rds : H d.ra = some (.lst (d.rds.map fun r => V.ref r.1))
  rrds : ρ d.ra = .rds a
  tup : ∀ r ∈ d.rds, H r.1 = some (.tup [.ref r.2.1, .int (bi r.2.2)]) ∧ ρ r.1 = .tup
  ins : H d.ia = some (.ins A.C_Instruction d.idx (insF d.x.pc d.x.word d.sure))
  rins : ρ d.ia = .ins
structure Mod (A : Ad) (H F : Hp) (p : Addr) (C : CS) (ρ : Addr → Role) : Prop where
  live : ∀ b, ρ b ≠ .no → H b ≠ none
  frm : ∀ b o, F b = some o → H b = some o ∧ ρ b = .frame
  mach : H p = some (.ins A.C_Machine C.dx (machF C))
  rmach : ρ p = .mach
  lst : ∀ n, H (C.la n) = some (.lst (lv C n)) ∧ ρ (C.la n) = .ml n
  slot : ∀ a d, C.T a = some d → SlotAt A H ρ a d
  plen : C.pa.length = C.m.prog.length
  prog : ∀ (k a w : Nat), C.pa[k]? = some a → C.m.prog[k]? = some w → (∃ dx, H a = some (.ins A.C_Instruction dx (insF k w (sureOf C.m.prog k w)))) ∧ ρ a = .ins
variable {A : Ad} {H F : Hp} {p : Addr} {C : CS} {ρ : Addr → Role}
theorem SlotAt.keep {H' : Hp} {ρ' : Addr → Role} {a : Addr} {d : SD} (h : SlotAt A H ρ a d) (hk : ∀ b o, H b = some o → ρ b = .slot ∨ ρ b = .ops a ∨ ρ b = .rds a ∨ ρ b = .tup ∨ ρ b = .ins → (ρ b = .slot → b = a) → H' b = some o ∧ ρ' b = ρ b) : SlotAt A H' ρ' a d := by
  obtain ⟨h1, h2, h3, h4, h5, h6, h7, h8, h9⟩ := h
  have k1 := hk _ _ h1 (.inl h2) (fun _ => rfl)
  have k3 := hk _ _ h3 (.inr (.inl h4)) (fun z => by rw [h4] at z; cases z)
  have k5 := hk _ _ h5 (.inr (.inr (.inl h6))) (fun z => by rw [h6] at z; cases z)
  have k8 := hk _ _ h8 (.inr (.inr (.inr (.inr h9)))) (fun z => by rw [h9] at z; cases z)
  refine ⟨k1.1, k1.2.trans h2, k3.1, k3.2.trans h4, k5.1, k5.2.trans h6, fun r hr => ?_, k8.1, k8.2.trans h9⟩
  have k7 := hk _ _ (h7 r hr).1 (.inr (.inr (.inr (.inl (h7 r hr).2)))) (fun z => by rw [(h7 r hr).2] at z; cases z)
  exact ⟨k7.1, k7.2.trans (h7 r hr).2⟩
/-- something new, of any role -/
theorem Mod.alloc (h : Mod A H F p C ρ) {c : Addr} (hc : H c = none) (o : HO) (r : Role) : Mod A (upd H c o) F p C (setR ρ c r) := by
  have ne : ∀ {b : Addr} {u : HO}, H b = some u → b ≠ c := fun e => ne_of_none e hc
  have k : ∀ (b : Addr) (u : HO), H b = some u → upd H c o b = some u ∧ setR ρ c r b = ρ b := fun b u e => ⟨by rw [upd_ne (ne e)]; exact e, setR_ne (ne e)⟩
  refine ⟨fun b hb => ?_, fun b u e => ?_, (k _ _ h.mach).1, (k _ _ h.mach).2.trans h.rmach, fun n => ⟨(k _ _ (h.lst n).1).1, (k _ _ (h.lst n).1).2.trans (h.lst n).2⟩, fun a d e => (h.slot a d e).keep fun b u e _ _ => k b u e, h.plen, fun i a w e1 e2 => ?_⟩
  · by_cases e : b = c
    · rw [e, upd_same]; simp
    · rw [upd_ne e]
      rw [setR_ne e] at hb
      exact h.live b hb
  · obtain ⟨h1, h2⟩ := h.frm b u e
    exact ⟨(k _ _ h1).1, (k _ _ h1).2.trans h2⟩
  · obtain ⟨⟨dx, h1⟩, h2⟩ := h.prog i a w e1 e2
    exact ⟨⟨dx, (k _ _ h1).1⟩, (k _ _ h1).2.trans h2⟩
/-- a write at c leaves all that has another role -/
theorem Mod.frameW (h : Mod A H F p C ρ) {c : Addr} (o : HO) (hr : ρ c ≠ .frame) : ∀ b u, F b = some u → upd H c o b = some u ∧ ρ b = .frame := fun b u e => by
  obtain ⟨h1, h2⟩ := h.frm b u e
  exact ⟨by rw [upd_ne fun z => hr (by rw [← z]; exact h2)]; exact h1, h2⟩
theorem Mod.liveW (h : Mod A H F p C ρ) {c : Addr} (o : HO) : ∀ b, ρ b ≠ .no → upd H c o b ≠ none := fun b hb => by
  by_cases e : b = c
  · rw [e, upd_same]; simp
  · rw [upd_ne e]
    exact h.live b hb
theorem Mod.progW (h : Mod A H F p C ρ) {c : Addr} (o : HO) (hr : ρ c ≠ .ins) : ∀ (k a w : Nat), C.pa[k]? = some a → C.m.prog[k]? = some w → (∃ dx, upd H c o a = some (.ins A.C_Instruction dx (insF k w (sureOf C.m.prog k w)))) ∧ ρ a = .ins := fun k a w e1 e2 => by
  obtain ⟨⟨dx, h1⟩, h2⟩ := h.prog k a w e1 e2
  exact ⟨⟨dx, by rw [upd_ne fun z => hr (by rw [← z]; exact h2)]; exact h1⟩, h2⟩
theorem Mod.ml_ne (h : Mod A H F p C ρ) {c : Addr} (n : LN) (hr : ρ c ≠ .ml n) : C.la n ≠ c := fun z => hr (by rw [← z]; exact (h.lst n).2)
theorem Mod.p_ne (h : Mod A H F p C ρ) {c : Addr} (hr : ρ c ≠ .mach) : p ≠ c := fun z => hr (by rw [← z]; exact h.rmach)
/-- a write that no slot sees -/
theorem SlotAt.off {a c : Addr} {d : SD} {o : HO} (h : SlotAt A H ρ a d) (h1 : ρ c ≠ .slot) (h2 : ρ c ≠ .ops a) (h3 : ρ c ≠ .rds a) (h4 : ρ c ≠ .tup) (h5 : ρ c ≠ .ins) : SlotAt A (upd H c o) ρ a d := by
  refine h.keep fun b u e hb _ => ⟨?_, rfl⟩
  rw [upd_ne]
  · exact e
  · intro z
    subst z
    rcases hb with z | z | z | z | z <;> contradiction
/-- a number of the machine's own -/
theorem Mod.wMach (h : Mod A H F p C ρ) (C' : CS) (e1 : C'.T = C.T) (e2 : C'.la = C.la) (e3 : lv C' = lv C) (e4 : C'.dx = C.dx) (e5 : C'.pa = C.pa) (e6 : C'.m.prog = C.m.prog) : Mod A (upd H p (.ins A.C_Machine C.dx (machF C'))) F p C' ρ := by
  have rp := h.rmach
  refine ⟨h.liveW _, h.frameW _ (by rw [rp]; simp), by rw [upd_same, e4], rp, fun n => ?_, fun a d e => ?_, by rw [e5, e6]; exact h.plen, by rw [e5, e6]; exact h.progW _ (by rw [rp]; simp)⟩
  · rw [e2, e3, upd_ne (h.ml_ne n (by rw [rp]; simp))]
    exact h.lst n
  · rw [e1] at e
    exact (h.slot a d e).off (by rw [rp]; simp) (by rw [rp]; simp) (by rw [rp]; simp) (by rw [rp]; simp) (by rw [rp]; simp)
/-- nothing that the heap shows -/
theorem Mod.ghost (h : Mod A H F p C ρ) (C' : CS) (e0 : machF C' = machF C) (e1 : C'.T = C.T) (e2 : C'.la = C.la) (e3 : lv C' = lv C) (e4 : C'.dx = C.dx) (e5 : C'.pa = C.pa) (e6 : C'.m.prog = C.m.prog) : Mod A H F p C' ρ := by
  refine ⟨h.live, h.frm, by rw [e4, e0]; exact h.mach, h.rmach, by rw [e2, e3]; exact h.lst, by rw [e1]; exact h.slot, by rw [e5, e6]; exact h.plen, by rw [e5, e6]; exact h.prog⟩
/-- a list of the machine's is written -/
theorem Mod.wList (h : Mod A H F p C ρ) (n : LN) (C' : CS) (e0 : machF C' = machF C) (e1 : C'.T = C.T) (e2 : C'.la = C.la) (e3 : ∀ k, k ≠ n → lv C' k = lv C k) (e4 : C'.dx = C.dx) (e5 : C'.pa = C.pa) (e6 : C'.m.prog = C.m.prog) : Mod A (upd H (C.la n) (.lst (lv C' n))) F p C' ρ := by
  have rp := (h.lst n).2
  refine ⟨h.liveW _, h.frameW _ (by rw [rp]; simp), by rw [upd_ne (h.p_ne (by rw [rp]; simp)), e4, e0]; exact h.mach, h.rmach, fun k => ?_, fun a d e => ?_, by rw [e5, e6]; exact h.plen, by rw [e5, e6]; exact h.progW _ (by rw [rp]; simp)⟩
  · rw [e2]
    by_cases c : k = n
    · subst c
      exact ⟨upd_same, rp⟩
    · rw [upd_ne (h.ml_ne k (by rw [rp]; intro z; cases z; exact c rfl)), e3 k c]
      exact h.lst k
  · rw [e1] at e
    exact (h.slot a d e).off (by rw [rp]; simp) (by rw [rp]; simp) (by rw [rp]; simp) (by rw [rp]; simp) (by rw [rp]; simp)
/-- a new list stands behind a name of the machine's -/
theorem Mod.nList (h : Mod A H F p C ρ) (n : LN) (C' : CS) {x : Addr} (hx : H x = some (.lst (lv C' n))) (rx : ρ x = .ml n) (e1 : C'.T = C.T) (e2 : C'.la = fun k => if k = n then x else C.la k) (e3 : ∀ k, k ≠ n → lv C' k = lv C k) (e4 : C'.dx = C.dx) (e5 : C'.pa = C.pa) (e6 : C'.m.prog = C.m.prog) : Mod A (upd H p (.ins A.C_Machine C.dx (machF C'))) F p C' ρ := by
  have rp := h.rmach
  refine ⟨h.liveW _, h.frameW _ (by rw [rp]; simp), by rw [upd_same, e4], rp, fun k => ?_, fun a d e => ?_, by rw [e5, e6]; exact h.plen, by rw [e5, e6]; exact h.progW _ (by rw [rp]; simp)⟩
  · rw [e2]
    by_cases c : k = n
    · subst c
      simp only [if_pos]
      rw [upd_ne (by intro z; rw [z, rp] at rx; cases rx)]
      exact ⟨hx, rx⟩
    · simp only [if_neg c]
      rw [upd_ne (h.ml_ne k (by rw [rp]; simp)), e3 k c]
      exact h.lst k
  · rw [e1] at e
    exact (h.slot a d e).off (by rw [rp]; simp) (by rw [rp]; simp) (by rw [rp]; simp) (by rw [rp]; simp) (by rw [rp]; simp)
section
variable {a : Addr} {d : SD}
theorem SlotAt.other {b c : Addr} {e : SD} {o : HO} (h : SlotAt A H ρ b e) (ne : b ≠ a) (hc : ρ c = .slot ∧ c = a ∨ ρ c = .ops a ∨ ρ c = .rds a) : SlotAt A (upd H c o) ρ b e := by
  refine h.keep fun y u ey hy hs => ⟨?_, rfl⟩
  rw [upd_ne]
  · exact ey
  · intro z
    subst z
    rcases hc with ⟨c1, c2⟩ | c1 | c1
    · exact ne ((hs c1).symm.trans c2)
    · rw [c1] at hy
      rcases hy with z | z | z | z | z <;> cases z
      exact ne rfl
    · rw [c1] at hy
      rcases hy with z | z | z | z | z <;> cases z
      exact ne rfl
/-- a part of one slot is written -/
theorem Mod.wAt (h : Mod A H F p C ρ) {c : Addr} {o : HO} (hd : C.T a = some d) (d' : SD) (hc : ρ c = .slot ∧ c = a ∨ ρ c = .ops a ∨ ρ c = .rds a) (hs : SlotAt A (upd H c o) ρ a d') : Mod A (upd H c o) F p (C.wT (updT C.T a d')) ρ := by
  have nf : ρ c ≠ .frame := by rcases hc with ⟨z, _⟩ | z | z <;> rw [z] <;> simp
  have nm : ρ c ≠ .mach := by rcases hc with ⟨z, _⟩ | z | z <;> rw [z] <;> simp
  have ni : ρ c ≠ .ins := by rcases hc with ⟨z, _⟩ | z | z <;> rw [z] <;> simp
  have nl : ∀ n, ρ c ≠ .ml n := by intro n; rcases hc with ⟨z, _⟩ | z | z <;> rw [z] <;> simp
  refine ⟨h.liveW _, h.frameW _ nf, by rw [upd_ne (h.p_ne nm)]; exact h.mach, h.rmach, fun n => ?_, fun b e he => ?_, h.plen, h.progW _ ni⟩
  · show upd H c o (C.la n) = some (.lst (lv C n)) ∧ ρ (C.la n) = .ml n
    rw [upd_ne (h.ml_ne n (nl n))]
    exact h.lst n
  · have he' : updT C.T a d' b = some e := he
    by_cases e1 : b = a
    · subst e1
      rw [updT_same] at he'; cases he'
      exact hs
    · rw [updT_ne e1] at he'
      exact (h.slot b e he').other e1 hc
theorem Mod.wSlot (h : Mod A H F p C ρ) (hd : C.T a = some d) (d' : SD) (e1 : d'.dx = d.dx) (e2 : d'.oa = d.oa) (e3 : d'.ra = d.ra) (e4 : d'.ia = d.ia) (e5 : d'.idx = d.idx) (e6 : d'.ops = d.ops) (e7 : d'.rds = d.rds) (e8 : d'.x.pc = d.x.pc) (e9 : d'.x.word = d.x.word) (e10 : d'.sure = d.sure) :
    Mod A (upd H a (.ins A.C_Slot d.dx (slotF d'))) F p (C.wT (updT C.T a d')) ρ := by
  have s := h.slot a d hd
  refine h.wAt hd d' (.inl ⟨s.rl, rfl⟩) ?_
  have ne : ∀ {b : Addr}, ρ b ≠ .slot → b ≠ a := fun hb z => hb (by rw [z]; exact s.rl)
  refine ⟨by rw [upd_same, e1], s.rl, ?_, by rw [e2]; exact s.rops, ?_, by rw [e3]; exact s.rrds, fun r hr => ?_, ?_, by rw [e4]; exact s.rins⟩
  · rw [e2, e6, upd_ne (ne (by rw [s.rops]; simp))]; exact s.ops
  · rw [e3, e7, upd_ne (ne (by rw [s.rrds]; simp))]; exact s.rds
  · rw [e7] at hr
    obtain ⟨t1, t2⟩ := s.tup r hr
    rw [upd_ne (ne (by rw [t2]; simp))]; exact ⟨t1, t2⟩
  · rw [e4, e5, e8, e9, e10, upd_ne (ne (by rw [s.rins]; simp))]; exact s.ins
theorem Mod.wOps (h : Mod A H F p C ρ) (hd : C.T a = some d) (f : Bool → Int) : Mod A (upd H d.oa (.lst [.int (f false), .int (f true)])) F p (C.wT (updT C.T a { d with ops := f })) ρ := by
  have s := h.slot a d hd
  refine h.wAt hd _ (.inr (.inl s.rops)) ?_
  have ne : ∀ {b : Addr}, ρ b ≠ .ops a → b ≠ d.oa := fun hb z => hb (by rw [z]; exact s.rops)
  refine ⟨by rw [upd_ne (ne (by rw [s.rl]; simp))]; exact s.ob, s.rl, upd_same, s.rops, ?_, s.rrds, fun r hr => ?_, ?_, s.rins⟩
  · rw [upd_ne (ne (by rw [s.rrds]; simp))]; exact s.rds
  · obtain ⟨t1, t2⟩ := s.tup r hr
    rw [upd_ne (ne (by rw [t2]; simp))]; exact ⟨t1, t2⟩
  · rw [upd_ne (ne (by rw [s.rins]; simp))]; exact s.ins
/-- one more reader, its tuple at t -/
theorem Mod.wRds (h : Mod A H F p C ρ) (hd : C.T a = some d) {t b : Addr} {w : Bool} (ht : H t = some (.tup [.ref b, .int (bi w)])) (rt : ρ t = .tup) : Mod A (upd H d.ra (.lst ((d.rds.map fun r => V.ref r.1) ++ [.ref t]))) F p (C.wT (updT C.T a { d with rds := d.rds ++ [(t, b, w)] })) ρ := by
  have s := h.slot a d hd
  refine h.wAt hd _ (.inr (.inr s.rrds)) ?_
  have ne : ∀ {b : Addr}, ρ b ≠ .rds a → b ≠ d.ra := fun hb z => hb (by rw [z]; exact s.rrds)
  refine ⟨by rw [upd_ne (ne (by rw [s.rl]; simp))]; exact s.ob, s.rl, ?_, s.rops, ?_, s.rrds, fun r hr => ?_, ?_, s.rins⟩
  · rw [upd_ne (ne (by rw [s.rops]; simp))]; exact s.ops
  · rw [upd_same]; simp
  · rcases List.mem_append.mp hr with z | z
    · obtain ⟨t1, t2⟩ := s.tup r z
      rw [upd_ne (ne (by rw [t2]; simp))]; exact ⟨t1, t2⟩
    · rw [List.mem_singleton] at z
      subst z
      rw [upd_ne (ne (by rw [rt]; simp))]; exact ⟨ht, rt⟩
  · rw [upd_ne (ne (by rw [s.rins]; simp))]; exact s.ins
/-- a new empty list for its readers -/
theorem Mod.nRds (h : Mod A H F p C ρ) (hd : C.T a = some d) {x : Addr} (hx : H x = some (.lst [])) (rx : ρ x = .rds a) : Mod A (upd H a (.ins A.C_Slot d.dx (slotF { d with ra := x, rds := [] }))) F p (C.wT (updT C.T a { d with ra := x, rds := [] })) ρ := by
  have s := h.slot a d hd
  refine h.wAt hd _ (.inl ⟨s.rl, rfl⟩) ?_
  have ne : ∀ {b : Addr}, ρ b ≠ .slot → b ≠ a := fun hb z => hb (by rw [z]; exact s.rl)
  refine ⟨upd_same, s.rl, ?_, s.rops, ?_, rx, fun r hr => ?_, ?_, s.rins⟩
  · rw [upd_ne (ne (by rw [s.rops]; simp))]; exact s.ops
  · rw [upd_ne (ne (by rw [rx]; simp))]; exact hx
  · simp at hr
  · rw [upd_ne (ne (by rw [s.rins]; simp))]; exact s.ins
/-- what of a slot the heap doesn't show -/
theorem Mod.gSlot (h : Mod A H F p C ρ) (hd : C.T a = some d) (d' : SD) (e0 : slotF d' = slotF d) (e1 : d'.dx = d.dx) (e2 : d'.oa = d.oa) (e3 : d'.ra = d.ra) (e4 : d'.ia = d.ia) (e5 : d'.idx = d.idx) (e6 : d'.ops = d.ops) (e7 : d'.rds = d.rds) (e8 : d'.x.pc = d.x.pc) (e9 : d'.x.word = d.x.word) (e10 : d'.sure = d.sure) :
    Mod A H F p (C.wT (updT C.T a d')) ρ := by
  have s := h.slot a d hd
  refine ⟨h.live, h.frm, h.mach, h.rmach, h.lst, fun b e he => ?_, h.plen, h.prog⟩
  have he' : updT C.T a d' b = some e := he
  by_cases c : b = a
  · subst c
    rw [updT_same] at he'; cases he'
    exact ⟨by rw [e0, e1]; exact s.ob, s.rl, by rw [e2, e6]; exact s.ops, by rw [e2]; exact s.rops, by rw [e3, e7]; exact s.rds, by rw [e3]; exact s.rrds, by rw [e7]; exact s.tup, by rw [e4, e5, e8, e9, e10]; exact s.ins, by rw [e4]; exact s.rins⟩
  · rw [updT_ne c] at he'
    exact h.slot b e he'
theorem Mod.nSlot (h : Mod A H F p C ρ) (hs : SlotAt A H ρ a d) : Mod A H F p (C.wT (updT C.T a d)) ρ := by
  refine ⟨h.live, h.frm, h.mach, h.rmach, h.lst, fun b e he => ?_, h.plen, h.prog⟩
  have he' : updT C.T a d b = some e := he
  by_cases e1 : b = a
  · subst e1
    rw [updT_same] at he'; cases he'
    exact hs
  · rw [updT_ne e1] at he'
    exact h.slot b e he'
end
end Ooo
namespace Ooo
open PySem L2 Ex
variable {P : Program} {w : World} {K : PySem.W.Frag} {mg : Str → Option Value} {base : Heap} {A : Ad}
def sureW (word : Nat) : Nat := if (Sd48.ins word).op = 0 then 1 else if 18 < (Sd48.ins word).op then 4 else 0
def sp_Ins (A : Ad) : Sp := fun vs H Q _ => ∃ (x dx : Addr) (pc word : Nat), vs = [.ref x, .int (pc : Int), .int (word : Int)] ∧ H x = some (.ins A.C_Instruction dx []) ∧ word < 4294967296 ∧ Q .non (upd H x (.ins A.C_Instruction dx (insF pc word (sureW word))))
theorem op_eq' (word : Nat) : (word : Int) / 16777216 = ((Sd48.ins word).op : Int) := by
  show (word : Int) / 16777216 = ((word / 2 ^ 24 : Nat) : Int)
  omega
theorem nib (word n : Nat) (h : 0 < n) : Builtin.bitAnd ((word : Int) / (n : Int)) 15 = ((word / n % 16 : Nat) : Int) := by
  have e : (word : Int) / (n : Int) = ((word / n : Nat) : Int) := by simp
  have e2 : (15 : Int) = ((15 : Nat) : Int) := rfl
  rw [e, e2, and_nat]
  have := Nat.and_two_pow_sub_one_eq_mod (word / n) 4
  exact congrArg (fun z : Nat => (z : Int)) this
theorem half_eq (word : Nat) : half (word : Int) = (Sd48.ins word).imm := by
  have e2 : (65535 : Int) = ((65535 : Nat) : Int) := rfl
  have e3 := Nat.and_two_pow_sub_one_eq_mod word 16
  have e4 : Builtin.bitAnd (word : Int) 65535 = ((word % 65536 : Nat) : Int) := by
    rw [e2, and_nat]
    exact congrArg (fun z : Nat => (z : Int)) e3
  unfold half
  rw [e4]
  show _ = Sd48.signed 16 (word % 2 ^ 16)
  unfold Sd48.signed
  have := Nat.mod_lt word (show 0 < 65536 by decide)
  split <;> split <;> omega
theorem fst_eq (word : Nat) : fst ((Sd48.ins word).op : Int) ((word / 65536 % 16 : Nat) : Int) = (Sd48.first (Sd48.ins word) : Int) := by
  unfold fst sure Sd48.first Sd48.among
  have ea : (Sd48.ins word).a = word / 65536 % 16 := rfl
  rw [ea]
  generalize (Sd48.ins word).op = op
  generalize word / 65536 % 16 = a
  simp only [Bool.or_eq_true, Bool.and_eq_true, decide_eq_true_eq, beq_iff_eq]
  split <;> split <;> (repeat' split at *) <;> omega
theorem snd_eq (word : Nat) : snd ((Sd48.ins word).op : Int) ((word / 1048576 % 16 : Nat) : Int) ((word / 4096 % 16 : Nat) : Int) = (Sd48.second (Sd48.ins word) : Int) := by
  unfold snd Sd48.second Sd48.among
  have ea : (Sd48.ins word).b = word / 4096 % 16 := rfl
  have eb : (Sd48.ins word).d = word / 1048576 % 16 := rfl
  rw [ea, eb]
  generalize (Sd48.ins word).op = op
  simp only [Bool.or_eq_true, Bool.and_eq_true, decide_eq_true_eq, beq_iff_eq]
  repeat' split
  all_goals omega
theorem dst_eq (word : Nat) : dst ((Sd48.ins word).op : Int) ((word / 1048576 % 16 : Nat) : Int) = (Sd48.dest (Sd48.ins word) : Int) := by
  unfold dst Sd48.dest Sd48.among
  have eb : (Sd48.ins word).d = word / 1048576 % 16 := rfl
  rw [eb]
  generalize (Sd48.ins word).op = op
  simp only [Bool.or_eq_true, Bool.and_eq_true, decide_eq_true_eq, beq_iff_eq]
  repeat' split
  all_goals omega
theorem sure_eq (word : Nat) : sure ((Sd48.ins word).op : Int) = (sureW word : Int) := by
  unfold sure sureW
  repeat' split
  all_goals omega
theorem unit_eq (i : Sd48.Ins) : (List.lookup (i.op : Int) [(8, 1), (9, 2), (12, 3), (13, 3)]).getD 0 = ((Sd48.kind i - 1 : Nat) : Int) := by
  unfold Sd48.kind
  generalize i.op = op
  simp only [List.lookup_cons, List.lookup_nil]
  by_cases h8 : op = 8
  · subst h8; rfl
  by_cases h9 : op = 9
  · subst h9; rfl
  by_cases h12 : op = 12
  · subst h12; rfl
  by_cases h13 : op = 13
  · subst h13; rfl
  have b8 : ((op : Int) == 8) = false := by simp; omega
  have b9 : ((op : Int) == 9) = false := by simp; omega
  have b12 : ((op : Int) == 12) = false := by simp; omega
  have b13 : ((op : Int) == 13) = false := by simp; omega
  simp [b8, b9, b12, b13, h8, h9, h12, h13]
theorem cyc_eq (i : Sd48.Ins) : (List.lookup (i.op : Int) [(8, 4), (9, 12), (12, 3)]).getD 1 = (Sd48.latency i : Int) := by
  unfold Sd48.latency
  generalize i.op = op
  simp only [List.lookup_cons, List.lookup_nil]
  by_cases h8 : op = 8
  · subst h8; rfl
  by_cases h9 : op = 9
  · subst h9; rfl
  by_cases h12 : op = 12
  · subst h12; rfl
  have b8 : ((op : Int) == 8) = false := by simp; omega
  have b9 : ((op : Int) == 9) = false := by simp; omega
  have b12 : ((op : Int) == 12) = false := by simp; omega
  simp [b8, b9, b12, h8, h9, h12]
theorem wrap_eq (z : Int) : z % 4294967296 = (Sd48.wrap z : Int) := by
  unfold Sd48.wrap
  have e : ((Sd48.W : Nat) : Int) = 4294967296 := by decide
  rw [e]
  have := Int.emod_nonneg z (show (4294967296 : Int) ≠ 0 by decide)
  omega
theorem following_eq (pc : Nat) : ((pc : Int) + 1) % 4294967296 = (((pc + 1) % Sd48.W : Nat) : Int) := by
  have e : Sd48.W = 4294967296 := by decide
  rw [e]
  omega
@[simp] theorem r_upd_upd {H : Hp} {a : Addr} {o u : HO} : upd (upd H a o) a u = upd H a u := upd_upd
theorem ok_Ins (T : Txt K mg A) : FnOk P w K mg base CX0 4 A.f_Instruction_init A.d_Instruction_init ["self", "place", "word"] (sp_Ins A) := by
  have G_signed_half : FnOk P w K mg base CX0 1 _ _ _ _ := ok_signed_half T
  have G_first_read : FnOk P w K mg base CX0 2 _ _ _ _ := ok_first_read T
  have G_second_read : FnOk P w K mg base CX0 1 _ _ _ _ := ok_second_read T
  have G_written : FnOk P w K mg base CX0 1 _ _ _ _ := ok_written T
  have G_wrapped : FnOk P w K mg base CX0 1 _ _ _ _ := ok_wrapped T
  have G_sure_stop : FnOk P w K mg base CX0 1 _ _ _ _ := ok_sure_stop T
  refine T.F_Instruction_init.ok sc_Instruction_init (by rintro vs H Q E ⟨x, dx, pc, word, rfl, _⟩; rfl) (fun cdv Ar outer s H vs Q E hr h => ?_)
  obtain ⟨x, dx, pc, word, rfl, hx, hw, k⟩ := h
  refine ⟨_, (pss_cons (ps_set (i := 3) sc_Instruction_init.nd rfl (Or.inl rfl) (pe_op op_and (pe_op op_shr (pv 2) pe_int) pe_int))
    (pss_cons (ps_fld (pv 0) (pv 1) rfl)
    (pss_cons (ps_fld (pv 0) (pv 2) rfl)
    (pss_cons (ps_fld (pv 0) (pe_op op_shr (pv 2) pe_int) rfl)
    (pss_cons (ps_fld (pv 0) (pe_call G_signed_half (hr.mono (by decide)) rfl T.m_signed_half T.F_signed_half.kp T.b_signed_half .nil pass0 (pa_cons (pv 2) pa_nil)) rfl)
    (pss_cons (ps_fld (pv 0) (pe_call G_first_read (hr.mono (by decide)) rfl T.m_first_read T.F_first_read.kp T.b_first_read .nil pass0 (pa_cons (pe_fld (pv 0) rfl) (pa_cons (pe_op op_and (pe_op op_shr (pv 2) pe_int) pe_int) pa_nil))) rfl)
    (pss_cons (ps_fld (pv 0) (pe_call G_second_read (hr.mono (by decide)) rfl T.m_second_read T.F_second_read.kp T.b_second_read .nil pass0 (pa_cons (pe_fld (pv 0) rfl) (pa_cons (pv 3) (pa_cons (pe_op op_and (pe_op op_shr (pv 2) pe_int) pe_int) pa_nil)))) rfl)
    (pss_cons (ps_fld (pv 0) (pe_call G_written (hr.mono (by decide)) rfl T.m_written T.F_written.kp T.b_written .nil pass0 (pa_cons (pe_fld (pv 0) rfl) (pa_cons (pv 3) pa_nil))) rfl)
    (pss_cons (ps_fld (pv 0) (pe_call G_wrapped (hr.mono (by decide)) rfl T.m_wrapped T.F_wrapped.kp T.b_wrapped .nil pass0 (pa_cons (pe_op op_add (pv 1) pe_int) pa_nil)) rfl)
    (pss_cons (ps_fld (pv 0) (pe_call G_wrapped (hr.mono (by decide)) rfl T.m_wrapped T.F_wrapped.kp T.b_wrapped .nil pass0 (pa_cons (pe_op op_add (pe_op op_add (pv 1) pe_int) (pe_fld (pv 0) rfl)) pa_nil)) rfl)
    (pss_cons (ps_fld (pv 0) (pe_chain op_le op_le pe_int (pe_fld (pv 0) rfl) pe_int) rfl)
    (pss_cons (ps_fld (pv 0) (pe_kget2 (hu_of hr) (pe_glob (v := .ref A.t_UNITS) rfl T.g_UNITS rfl) (pe_fld (pv 0) rfl) pe_int ⟨rfl, rfl, rfl, rfl⟩) rfl)
    (pss_cons (ps_fld (pv 0) (pe_kget2 (hu_of hr) (pe_glob (v := .ref A.t_CYCLES) rfl T.g_CYCLES rfl) (pe_fld (pv 0) rfl) pe_int ⟨rfl, rfl, rfl, rfl⟩) rfl)
    (pss_one (ps_fld (pv 0) (pe_call G_sure_stop (hr.mono (by decide)) rfl T.m_sure_stop T.F_sure_stop.kp T.b_sure_stop .nil pass0 (pa_cons (pe_fld (pv 0) rfl) pa_nil)) rfl))))))))))))))), ?_⟩
  simp [hx, T.c_Instruction, T.c_Slot, T.n_Instruction_place, T.n_Instruction_word, T.n_Instruction_op, T.n_Slot_op, T.n_Instruction_imm, T.n_Instruction_first, T.n_Instruction_second, T.n_Instruction_written, T.n_Instruction_following, T.n_Instruction_target, T.n_Instruction_branches, T.n_Instruction_unit, T.n_Slot_unit, T.n_Instruction_cycles, T.n_Instruction_sure_stop]
  have n1 : Builtin.bitAnd ((word : Int) / 65536) 15 = _ := nib word 65536 (by decide)
  have n2 : Builtin.bitAnd ((word : Int) / 1048576) 15 = _ := nib word 1048576 (by decide)
  have n3 : Builtin.bitAnd ((word : Int) / 4096) 15 = _ := nib word 4096 (by decide)
  have tg : ((pc : Int) + 1 + (Sd48.ins word).imm) % 4294967296 = (Sd48.wrap (((pc + 1 : Nat) : Int) + (Sd48.ins word).imm) : Int) := wrap_eq _
  rw [op_eq', n1, n2, n3, half_eq, fst_eq, snd_eq, dst_eq, sure_eq, following_eq, tg]
  have am : Sd48.among (Sd48.ins word).op 14 16 = if (14 : Int) ≤ ((Sd48.ins word).op : Int) then decide (((Sd48.ins word).op : Int) ≤ 16) else false := by
    unfold Sd48.among
    by_cases c : 14 ≤ (Sd48.ins word).op
    · rw [if_pos (by omega), decide_eq_true c, Bool.true_and]
      exact decide_eq_decide.mpr (by omega)
    · rw [if_neg (by omega), decide_eq_false c, Bool.false_and]
  have k' : Q .non (upd H x (.ins A.C_Instruction dx (insF pc word (sureW word)))) := k
  unfold insF at k'
  rw [am] at k'
  split
  · rename_i c
    rw [if_pos c] at k'
    refine ⟨_, T.q_UNITS, _, T.q_CYCLES, ?_⟩
    rw [unit_eq, cyc_eq]
    exact k'
  · rename_i c
    rw [if_neg c] at k'
    refine ⟨_, T.q_UNITS, _, T.q_CYCLES, ?_⟩
    rw [unit_eq, cyc_eq]
    exact k'
def sp_beh (A : Ad) : Sp := fun vs H Q _ => ∃ pc : Nat, vs = [.int (pc : Int)] ∧ ∀ x dx, H x = none → H dx = none → dx ≠ x → Q (.ref x) (upd (upd H dx (.own x)) x (.ins A.C_Instruction dx (insF pc 0 5)))
theorem ok_beh (T : Txt K mg A) : FnOk P w K mg base CX0 6 A.f_behind_program A.d_behind_program ["place"] (sp_beh A) := by
  have G_Instruction_init : FnOk P w K mg base CX0 4 _ _ _ _ := ok_Ins T
  refine T.F_behind_program.ok sc_behind_program (by rintro vs H Q E ⟨pc, rfl, _⟩; rfl) (fun cdv Ar outer s H vs Q E hr h => ?_)
  obtain ⟨pc, rfl, k⟩ := h
  refine ⟨_, (pss_cons (ps_set (i := 1) sc_behind_program.nd rfl (Or.inl rfl) (pe_make T.K_Instruction G_Instruction_init (hr.mono (by decide)) rfl T.g_Instruction T.b_Instruction_init .nil pass0 (pa_cons (pv 0) (pa_cons pe_int pa_nil))))
    (pss_cons (ps_fld (pv 1) (pe_k T.v_STOPPED_BEHIND) rfl)
    (pss_one (ps_ret (pv 1))))), ?_⟩
  simp
  intro x dx hx hd ne
  refine ⟨x, dx, pc, 0, rfl, upd_same, by decide, ?_⟩
  simp [insF, T.c_Instruction, T.n_Instruction_sure_stop]
  have k' := k x dx hx hd ne
  simpa [insF] using k'
def sp_Slot (A : Ad) : Sp := fun vs H Q _ => ∃ (a dx ia idx : Addr) (sure : Nat) (g : Int) (x : Sd48.Slot), vs = [.ref a, .ref ia, .int g] ∧ H a = some (.ins A.C_Slot dx []) ∧ H ia = some (.ins A.C_Instruction idx (insF x.pc x.word sure)) ∧
  x.phase = (if sure = 0 then 0 else 3) ∧ x.left = 0 ∧ x.out.halt_ = sure ∧ x.out.value = 0 ∧ x.out.cell = 0 ∧
  ∀ o r : Addr, H o = none → H r = none → o ≠ r → Q .non (upd (upd (upd H o (.lst [.int 0, .int 0])) r (.lst [])) a (.ins A.C_Slot dx (slotF ⟨ia, idx, dx, o, r, x, sure, g, (((x.pc + 1) % Sd48.W : Nat) : Int), fun _ => 0, 0, []⟩)))
theorem ok_Slot (T : Txt K mg A) : FnOk P w K mg base CX0 1 A.f_Slot_init A.d_Slot_init ["self", "instruction", "guess"] (sp_Slot A) := by
  refine T.F_Slot_init.ok sc_Slot_init (by rintro vs H Q E ⟨a, dx, ia, idx, sure, g, x, rfl, _⟩; rfl) (fun cdv Ar outer s H vs Q E hr h => ?_)
  obtain ⟨a, dx, ia, idx, sure, g, x, rfl, ha, hi, x1, x2, x3, x4, x5, k⟩ := h
  have n1 : ia ≠ a := ne_of hi ha (by intro z; simp [insF, F_Instruction] at z)
  refine ⟨_, (pss_cons (ps_fld (pv 0) (pv 1) rfl)
    (pss_cons (ps_fld (pv 0) (pv 2) rfl)
    (pss_cons (ps_fld (pv 0) (pe_fld (pv 1) rfl) rfl)
    (pss_cons (ps_fld (pv 0) (pe_fld (pv 1) rfl) rfl)
    (pss_cons (ps_fld (pv 0) (pe_fld (pv 1) rfl) rfl)
    (pss_cons (ps_fld (pv 0) (pe_ifExp (pt_cmpR op_eq (pe_fld (pv 0) rfl) pe_int (nomark _)) (pe_k T.v_WAITS) (pe_k T.v_DONE)) rfl)
    (pss_cons (ps_fld (pv 0) (pe_fld (pv 1) rfl) rfl)
    (pss_cons (ps_fld (pv 0) pe_int rfl)
    (pss_cons (ps_fld (pv 0) pe_int rfl)
    (pss_cons (ps_fld (pv 0) pe_int rfl)
    (pss_cons (ps_fld (pv 0) (pe_lst (pa_cons pe_int (pa_cons pe_int pa_nil))) rfl)
    (pss_cons (ps_fld (pv 0) pe_int rfl)
    (pss_one (ps_fld (pv 0) (pe_lst pa_nil) rfl)))))))))))))), ?_⟩
  have fin : ∀ st : Int, st = (x.phase : Int) → ∀ o r (P1 P2 : HO), H o = none → H r = none → o ≠ r → Q .non (upd (upd (upd (upd (upd H a P1) o (.lst [.int 0, .int 0])) a P2) r (.lst [])) a (.ins A.C_Slot dx (F_Slot (.ref ia) (.int g) (.int ((Sd48.ins x.word).op : Int)) (.int ((Sd48.kind (Sd48.ins x.word) - 1 : Nat) : Int)) (.int (sure : Int)) (.int st) (.int (((x.pc + 1) % Sd48.W : Nat) : Int)) (.int 0) (.int 0) (.int 0) (.ref o) (.int 0) (.ref r)))) := by
    intro st hst o r P1 P2 ho hr' hor
    have k' := k o r ho hr' hor
    unfold slotF at k'
    rw [x2, x3, x4, x5] at k'
    have e : upd (upd (upd H o (.lst [.int 0, .int 0])) r (.lst [])) a (.ins A.C_Slot dx (F_Slot (.ref ia) (.int g) (.int ((Sd48.ins x.word).op : Int)) (.int ((Sd48.kind (Sd48.ins x.word) - 1 : Nat) : Int)) (.int (sure : Int)) (.int (x.phase : Int)) (.int (((x.pc + 1) % Sd48.W : Nat) : Int)) (.int 0) (.int 0) (.int 0) (.ref o) (.int 0) (.ref r))) = upd (upd (upd (upd (upd H a P1) o (.lst [.int 0, .int 0])) a P2) r (.lst [])) a (.ins A.C_Slot dx (F_Slot (.ref ia) (.int g) (.int ((Sd48.ins x.word).op : Int)) (.int ((Sd48.kind (Sd48.ins x.word) - 1 : Nat) : Int)) (.int (sure : Int)) (.int st) (.int (((x.pc + 1) % Sd48.W : Nat) : Int)) (.int 0) (.int 0) (.int 0) (.ref o) (.int 0) (.ref r))) := by
      rw [hst]
      funext b
      unfold upd
      by_cases c1 : b = a
      · rw [if_pos c1, if_pos c1]
      · rw [if_neg c1, if_neg c1]
        by_cases c2 : b = r
        · rw [if_pos c2, if_pos c2]
        · rw [if_neg c2, if_neg c2, if_neg c1]
          by_cases c3 : b = o
          · rw [if_pos c3, if_pos c3]
          · rw [if_neg c3, if_neg c3, if_neg c1]
    rw [← e]
    exact k'
  have s2 : 2 ≤ sizeLine := by decide
  have s0 : 0 ≤ sizeLine := by decide
  simp only [Int.natCast_emod, Int.natCast_add] at fin
  simp [ha, hi, insF, upd_ne n1, s2, s0, T.c_Slot, T.c_Instruction, T.n_Slot_instruction, T.n_Slot_guess, T.n_Instruction_op, T.n_Slot_op, T.n_Instruction_unit, T.n_Slot_unit, T.n_Slot_stop, T.n_Instruction_sure_stop, T.n_Slot_state, T.n_Slot_goes_on, T.n_Instruction_following, T.n_Slot_cycles_left, T.n_Slot_value, T.n_Slot_cell, T.n_Slot_operands, T.n_Slot_missing, T.n_Slot_readers]
  split
  all_goals
    rename_i c
    intro o ho
    have ao : a ≠ o := by
      intro z
      rw [z, upd_same] at ho; cases ho
    rw [upd_ne ao.symm] at ho
    simp [upd_ne ao, T.c_Slot, T.c_Instruction, T.n_Slot_instruction, T.n_Slot_guess, T.n_Instruction_op, T.n_Slot_op, T.n_Instruction_unit, T.n_Slot_unit, T.n_Slot_stop, T.n_Instruction_sure_stop, T.n_Slot_state, T.n_Slot_goes_on, T.n_Instruction_following, T.n_Slot_cycles_left, T.n_Slot_value, T.n_Slot_cell, T.n_Slot_operands, T.n_Slot_missing, T.n_Slot_readers]
    intro r hr2
    have ar : a ≠ r := by
      intro z
      rw [z, upd_same] at hr2; cases hr2
    rw [upd_ne ar.symm] at hr2
    have orr : o ≠ r := by
      intro z
      rw [z, upd_same] at hr2; cases hr2
    rw [upd_ne orr.symm, upd_ne ar.symm] at hr2
    simp [upd_ne ar, T.c_Slot, T.c_Instruction, T.n_Slot_instruction, T.n_Slot_guess, T.n_Instruction_op, T.n_Slot_op, T.n_Instruction_unit, T.n_Slot_unit, T.n_Slot_stop, T.n_Instruction_sure_stop, T.n_Slot_state, T.n_Slot_goes_on, T.n_Instruction_following, T.n_Slot_cycles_left, T.n_Slot_value, T.n_Slot_cell, T.n_Slot_operands, T.n_Slot_missing, T.n_Slot_readers]
  · simpa using fin 0 (by rw [x1, if_pos c]; rfl) o r _ _ ho hr2 orr
  · simpa using fin 3 (by rw [x1, if_neg c]; rfl) o r _ _ ho hr2 orr
end Ooo
namespace Ooo
open PySem L2 Ex
variable {P : Program} {w : World} {K : PySem.W.Frag} {mg : Str → Option Value} {base : Heap} {A : Ad}
section
variable {C : CS}
@[simp] theorem lv_prog : lv C .prog = C.pa.map V.ref := rfl
@[simp] theorem lv_cells : lv C .cells = nv C.m.arch.cells := rfl
@[simp] theorem lv_regs : lv C .regs = nv C.m.arch.regs := rfl
@[simp] theorem lv_counters : lv C .counters = nv C.m.table := rfl
@[simp] theorem lv_slots : lv C .slots = C.q.map V.ref := rfl
@[simp] theorem lv_setters : lv C .setters = C.set.map oa := rfl
@[simp] theorem lv_free : lv C .free = C.free.map V.int := rfl
@[simp] theorem length_nv {l : List Nat} : (nv l).length = l.length := by unfold nv; simp
theorem nv_get {l : List Nat} {j n : Nat} (h : l[j]? = some n) : (nv l)[j]? = some (.int (n : Int)) := by unfold nv; simp [h]
theorem nv_set {l : List Nat} {j n : Nat} : (nv l).set j (.int (n : Int)) = nv (l.set j n) := by unfold nv; rw [List.map_set]
theorem at_nv {l : List Nat} {j n : Nat} (h : l[j]? = some n) : atI (nv l) (j : Int) = some (.int (n : Int)) := atI_nat (nv_get h)
theorem ix_nat {n j : Nat} (h : j < n) : ixN n (j : Int) = some j := by
  unfold ixN
  rw [if_pos (by omega), if_pos (by omega)]
  simp
theorem nv_nil {l : List Nat} : (nv l).isEmpty = l.isEmpty := by cases l <;> rfl
end
/-- whether a branch at pc is guessed to jump -/
def gj (t : List Nat) (pc : Nat) : Bool := decide (2 ≤ t.getD (pc % t.length) 0)
def sp_gj (A : Ad) : Sp := fun vs H Q _ => ∃ (F : Hp) (p : Addr) (C : CS) (ρ : Addr → Role) (pc : Nat), vs = [.ref p, .int (pc : Int)] ∧ Mod A H F p C ρ ∧ Q (.bl (gj C.m.table pc)) H
theorem ok_gj (T : Txt K mg A) : FnOk P w K mg base CX0 1 A.f_Machine_guesses_jump A.d_Machine_guesses_jump ["self", "place"] (sp_gj A) := by
  refine T.F_Machine_guesses_jump.ok sc_Machine_guesses_jump (by rintro vs H Q E ⟨F, p, C, ρ, pc, rfl, _⟩; rfl) (fun cdv Ar outer s H vs Q E hr h => ?_)
  obtain ⟨F, p, C, ρ, pc, rfl, M, k⟩ := h
  refine ⟨_, (pss_one (ps_ret (pe_and (pe_cmpR op_gt (pe_callB call_len_h (by rfl) T.z_len PySem.boot_len (pa_cons (pe_fld (pv 0) rfl) pa_nil)) pe_int (nomark _)) (pe_one (pe_cmpR op_ge (pe_ix ix_h (pe_fld (pv 0) rfl) (pe_op op_mod (pv 1) (pe_callB call_len_h (by rfl) T.z_len PySem.boot_len (pa_cons (pe_fld (pv 0) rfl) pa_nil))) (fun _ _ => rfl)) pe_int (nomark _)))))), ?_⟩
  have h1 := M.mach
  have h2 := (M.lst .counters).1
  simp [h1, h2, machF, T.c_Machine, T.n_Machine_counters]
  split
  · rename_i c
    refine ⟨c, ?_⟩
    have lt := Nat.mod_lt pc c
    have e := List.getElem?_eq_getElem lt
    have e2 : ((pc : Int) % (C.m.table.length : Int)) = ((pc % C.m.table.length : Nat) : Int) := by simp
    rw [e2, at_nv e]
    simp
    have : gj C.m.table pc = decide ((2 : Int) ≤ (C.m.table[pc % C.m.table.length] : Nat)) := by
      unfold gj
      rw [List.getD_eq_getElem?_getD, e]
      exact decide_eq_decide.mpr (by simp; omega)
    rw [← this]
    exact k
  · rename_i c
    have : gj C.m.table pc = false := by
      unfold gj
      rw [List.getD_eq_getElem?_getD, List.getElem?_eq_none (by omega)]
      rfl
    rw [← this]
    exact k
/-- where it is guessed to go on, as the program tells it -/
def guessI (t : List Nat) (pc word : Nat) : Int :=
  if (Sd48.ins word).op = 18 then -1 else if (Sd48.ins word).op = 17 then (Sd48.wrap (((pc + 1 : Nat) : Int) + (Sd48.ins word).imm) : Int)
  else if Sd48.among (Sd48.ins word).op 14 16 = true ∧ gj t pc = true then (Sd48.wrap (((pc + 1 : Nat) : Int) + (Sd48.ins word).imm) : Int) else (((pc + 1) % Sd48.W : Nat) : Int)
def sp_gs (A : Ad) : Sp := fun vs H Q _ => ∃ (F : Hp) (p : Addr) (C : CS) (ρ : Addr → Role) (ia idx : Addr) (pc word sure : Nat), vs = [.ref p, .ref ia] ∧ Mod A H F p C ρ ∧ H ia = some (.ins A.C_Instruction idx (insF pc word sure)) ∧ Q (.int (guessI C.m.table pc word)) H
theorem ok_gs (T : Txt K mg A) : FnOk P w K mg base CX0 3 A.f_Machine_guessed A.d_Machine_guessed ["self", "instruction"] (sp_gs A) := by
  have G_Machine_guesses_jump : FnOk P w K mg base CX0 1 _ _ _ _ := ok_gj T
  refine T.F_Machine_guessed.ok sc_Machine_guessed (by rintro vs H Q E ⟨F, p, C, ρ, ia, idx, pc, word, sure, rfl, _⟩; rfl) (fun cdv Ar outer s H vs Q E hr h => ?_)
  obtain ⟨F, p, C, ρ, ia, idx, pc, word, sure, rfl, M, hi, k⟩ := h
  refine ⟨_, (pss_cons (ps_if (pt_cmpR op_eq (pe_fld (pv 1) rfl) (pe_k T.v_JUMP_TO_VALUE) (nomark _)) (pss_one (ps_ret (pe_k T.v_NO_PLACE))) pss_nil)
    (pss_cons (ps_if (pt_cmpR op_eq (pe_fld (pv 1) rfl) (pe_k T.v_LINK) (nomark _)) (pss_one (ps_ret (pe_fld (pv 1) rfl))) pss_nil)
    (pss_cons (ps_if (PW.pt (pw_and (pt_val (pe_fld (pv 1) rfl)) (pw_and1 (pt_val (pe_meth (pv 0) T.c_Machine T.M_Machine_guesses_jump G_Machine_guesses_jump (hr.mono (by decide)) T.b_Machine_guesses_jump .nil pass0 (pa_cons (pe_fld (pv 1) rfl) pa_nil)))))) (pss_one (ps_ret (pe_fld (pv 1) rfl))) pss_nil)
    (pss_one (ps_ret (pe_fld (pv 1) rfl)))))), ?_⟩
  have h1 := M.mach
  simp [h1, hi, machF, insF, T.c_Instruction, T.c_Slot, T.n_Instruction_following, T.n_Instruction_op, T.n_Slot_op, T.n_Instruction_target, T.n_Instruction_branches, T.n_Instruction_place]
  unfold guessI at k
  by_cases c1 : (Sd48.ins word).op = 18
  · rw [if_pos c1] at k
    rw [if_pos (by omega)]
    exact k
  rw [if_neg c1] at k
  rw [if_neg (by omega)]
  by_cases c2 : (Sd48.ins word).op = 17
  · rw [if_pos c2] at k
    rw [if_pos (by omega)]
    exact k
  rw [if_neg c2] at k
  rw [if_neg (by omega)]
  by_cases c3 : Sd48.among (Sd48.ins word).op 14 16 = true
  · rw [if_pos c3]
    refine ⟨F, p, C, ρ, pc, rfl, M, ?_⟩
    simp [hi, insF, T.c_Instruction, T.c_Slot, T.n_Instruction_following, T.n_Instruction_op, T.n_Slot_op, T.n_Instruction_target, T.n_Instruction_branches, T.n_Instruction_place]
    by_cases c4 : gj C.m.table pc = true
    · rw [if_pos ⟨c3, c4⟩] at k
      rw [if_pos c4]
      exact k
    · rw [if_neg fun z => c4 z.2] at k
      rw [if_neg c4]
      simpa using k
  · rw [if_neg c3]
    rw [if_neg fun z => c3 z.1] at k
    simpa using k
end Ooo
namespace Ooo
open PySem L2 Ex
variable {P : Program} {w : World} {K : PySem.W.Frag} {mg : Str → Option Value} {base : Heap} {A : Ad}
def passT (T : Nat → Option SD) (val : Int) (L : List (Nat × Bool)) : Nat → Option SD := fun b => (T b).map (passE val L b)
theorem passE_nil {val : Int} {b : Nat} {e : SD} : passE val [] b e = e := by
  unfold passE
  simp
theorem passT_nil {T : Nat → Option SD} {val : Int} : passT T val [] = T := by
  funext b
  unfold passT
  cases T b with
  | none => rfl
  | some e => simp [passE_nil]
theorem passE_none {val : Int} {L : List (Nat × Bool)} {b : Nat} {e : SD} (h : ∀ w, (b, w) ∉ L) : passE val L b e = e := by
  unfold passE
  have e1 : (fun w => if (b, w) ∈ L then val else e.ops w) = e.ops := by
    funext w
    rw [if_neg (h w)]
  rw [e1, List.count_eq_zero_of_not_mem (h false), List.count_eq_zero_of_not_mem (h true)]
  simp
theorem passT_snoc {T : Nat → Option SD} {val : Int} {L : List (Nat × Bool)} {b : Nat} {w : Bool} {e : SD} (h : T b = some e) :
    passT T val (L ++ [(b, w)]) = updT (passT T val L) b { passE val L b e with ops := fun w' => if w' = w then val else (passE val L b e).ops w', missing := (passE val L b e).missing - 1 } := by
  funext c
  by_cases c1 : c = b
  · subst c1
    rw [updT_same]
    unfold passT
    rw [h]
    show some (passE val (L ++ [(c, w)]) c e) = _
    congr 1
    unfold passE
    congr 1
    · funext w'
      by_cases c2 : w' = w
      · subst c2
        rw [if_pos (by simp), if_pos rfl]
      · rw [if_neg c2]
        have : (c, w') ∈ L ++ [(c, w)] ↔ (c, w') ∈ L := by simp [c2]
        by_cases c3 : (c, w') ∈ L
        · rw [if_pos (this.mpr c3)]
          exact (if_pos c3).symm
        · rw [if_neg fun z => c3 (this.mp z)]
          exact (if_neg c3).symm
    · rw [List.count_append, List.count_append]
      cases w <;> simp <;> omega
  · rw [updT_ne c1]
    unfold passT
    cases T c with
    | none => rfl
    | some e' =>
      show some (passE val (L ++ [(b, w)]) c e') = some (passE val L c e')
      congr 1
      unfold passE
      have m : ∀ w', (c, w') ∈ L ++ [(b, w)] ↔ (c, w') ∈ L := by
        intro w'
        simp [c1]
      have n : ∀ w', (L ++ [(b, w)]).count (c, w') = L.count (c, w') := by
        intro w'
        rw [List.count_append, List.count_eq_zero_of_not_mem (l := [(b, w)]) (by simp [c1])]
        rfl
      congr 1
      · funext w'
        by_cases c3 : (c, w') ∈ L
        · rw [if_pos ((m w').mpr c3), if_pos c3]
        · rw [if_neg fun z => c3 ((m w').mp z), if_neg c3]
      · rw [n, n]
def sp_pass (A : Ad) : Sp := fun vs H Q _ => ∃ (F : Hp) (p : Addr) (C : CS) (ρ : Addr → Role) (a : Addr) (d : SD), vs = [.ref a] ∧ Mod A H F p C ρ ∧ C.T a = some d ∧ (∀ r ∈ d.rds, r.2.1 ≠ a ∧ ∃ e, C.T r.2.1 = some e) ∧
  ∀ (H' : Hp) (ρ' : Addr → Role) (T' : Nat → Option SD) (ra' : Nat), Mod A H' F p (C.wT T') ρ' → (∀ b e, b ≠ a → C.T b = some e → T' b = some (passE d.x.out.value (d.rds.map Prod.snd) b e)) → T' a = some { d with ra := ra', x := { d.x with phase := 3 }, rds := [] } → Q .non H'
theorem ok_pass (T : Txt K mg A) : FnOk P w K mg base CX0 1 A.f_Slot_pass_on A.d_Slot_pass_on ["self"] (sp_pass A) := by
  refine T.F_Slot_pass_on.ok sc_Slot_pass_on (by rintro vs H Q E ⟨F, p, C, ρ, a, d, rfl, _⟩; rfl) (fun cdv Ar outer s H vs Q E hr h => ?_)
  obtain ⟨F, p, C, ρ, a, d, rfl, M, hd, hr0, k⟩ := h
  refine ⟨_, (pss_cons (ps_fld (pv 0) (pe_k T.v_DONE) rfl)
    (pss_cons (ps_for PassesOwn.never rfl (pi_lstH (pe_fld (pv 0) rfl)) (pg_tupH (n := 2) rfl (pgs_cons (pg_name (i := 1) sc_Slot_pass_on.nd rfl (Or.inl rfl)) (pgs_cons (pg_name (i := 2) sc_Slot_pass_on.nd rfl (Or.inl rfl)) pgs_nil))) (pss_cons (ps_asg (pe_fld (pv 0) rfl) (pg_sub (pe_fld (pv 1) rfl) (pv 2) set_list))
    (pss_one (ps_fldaug (pv 1) pe_int in_sub))))
    (pss_one (ps_fld (pv 0) (pe_lst pa_nil) rfl)))), ?_⟩
  have S := M.slot a d hd
  have h1 := S.ob
  have M1 := M.wSlot hd { d with x := { d.x with phase := 3 } } rfl rfl rfl rfl rfl rfl rfl rfl rfl rfl
  have nra : d.ra ≠ a := fun z => by have := S.rrds; rw [z, S.rl] at this; cases this
  have h3 := S.rds
  simp [h1, h3, slotF, upd_ne nra, T.c_Slot, T.n_Slot_state, T.n_Slot_readers, T.n_Slot_value, T.n_Slot_missing, T.n_Slot_operands]
  generalize hd3 : ({ d with x := { d.x with phase := 3 } } : SD) = d3 at M1
  generalize hT1 : updT C.T a d3 = T1 at M1
  have a3 : T1 a = some d3 := by rw [← hT1, updT_same]
  have b3 : ∀ b, b ≠ a → T1 b = C.T b := fun b hb => by rw [← hT1, updT_ne hb]
  have noL : ∀ i w, (a, w) ∉ (d.rds.map Prod.snd).take i := by
    intro i w hm
    obtain ⟨r, hr1, hr2⟩ := List.mem_map.mp (List.mem_of_mem_take hm)
    have := (hr0 r hr1).1
    rw [hr2] at this
    exact this rfl
  have ai : ∀ i, passT T1 (d.x.out.value : Int) ((d.rds.map Prod.snd).take i) a = some d3 := by
    intro i
    unfold passT
    rw [a3]
    show some _ = _
    rw [passE_none (noL i)]
  refine loop_list (xs := d.rds.map fun r => V.ref r.1) (fun i σ H' => ∃ (ρ' : Addr → Role) (v1 v2 : Option V), σ = [some (.ref a), v1, v2] ∧ Mod A H' F p (C.wT (passT T1 (d.x.out.value : Int) ((d.rds.map Prod.snd).take i))) ρ') ?_ ?_ ?_ ?_
  · refine ⟨ρ, none, none, rfl, ?_⟩
    rw [List.take_zero, passT_nil]
    subst hd3
    exact M1
  · rintro i σ H' hi ⟨ρ', v1, v2, rfl, M'⟩
    have S' := M'.slot a d3 (ai i)
    have := S'.rds
    subst hd3
    exact this
  · rintro i x σ H' hx ⟨ρ', v1, v2, rfl, M'⟩
    rw [List.getElem?_map] at hx
    cases er : d.rds[i]? with
    | none => rw [er] at hx; cases hx
    | some r =>
      rw [er] at hx
      have ex : x = V.ref r.1 := (Option.some.inj hx).symm
      subst ex
      obtain ⟨t, b, w'⟩ := r
      have hm := List.mem_of_getElem? er
      obtain ⟨hba, e, he⟩ := hr0 _ hm
      have S' := M'.slot a d3 (ai i)
      have eb : passT T1 (d.x.out.value : Int) ((d.rds.map Prod.snd).take i) b = some (passE (d.x.out.value : Int) ((d.rds.map Prod.snd).take i) b e) := by
        unfold passT
        rw [b3 b hba, he]
        rfl
      have tk : (d.rds.map Prod.snd).take (i + 1) = (d.rds.map Prod.snd).take i ++ [(b, w')] := by
        rw [List.take_succ, List.getElem?_map, er]
        rfl
      have T1b : T1 b = some e := by rw [b3 b hba]; exact he
      generalize he1 : passE (d.x.out.value : Int) ((d.rds.map Prod.snd).take i) b e = e1 at eb
      have Sb := M'.slot b e1 eb
      have g1 := S'.ob
      have g2 : H' t = some (.tup [.ref b, .int (bi w')]) := by
        have := S'.tup (t, b, w') (by subst hd3; exact hm)
        exact this.1
      have g3 := Sb.ob
      have g4 := Sb.ops
      have M2 := M'.wOps eb (fun w2 => if w2 = w' then (d.x.out.value : Int) else e1.ops w2)
      have M3 := M2.wSlot updT_same { e1 with ops := fun w2 => if w2 = w' then (d.x.out.value : Int) else e1.ops w2, missing := e1.missing - 1 } rfl rfl rfl rfl rfl rfl rfl rfl rfl rfl
      have nbo : b ≠ e1.oa := fun z => by have := Sb.rops; rw [← z, Sb.rl] at this; cases this
      have val : d3.x.out.value = d.x.out.value := by subst hd3; rfl
      have ixw : ixN 2 (bi w') = some (if w' then 1 else 0) := by cases w' <;> decide
      simp [g1, g2, g3, g4, slotF, upd_ne nbo, ixw, val, T.c_Slot, T.n_Slot_state, T.n_Slot_readers, T.n_Slot_value, T.n_Slot_missing, T.n_Slot_operands]
      refine ⟨ρ', ?_⟩
      rw [tk, passT_snoc T1b, he1]
      have eq1 : ([V.int (e1.ops false), V.int (e1.ops true)].set (if w' then 1 else 0) (V.int (d.x.out.value : Int))) = [V.int (if false = w' then (d.x.out.value : Int) else e1.ops false), V.int (if true = w' then (d.x.out.value : Int) else e1.ops true)] := by cases w' <;> rfl
      rw [eq1]
      simp only [CS.wT_T, updT_updT, CS.wT_wT] at M3
      exact M3
  · rintro σ H' ⟨ρ', v1, v2, rfl, M'⟩
    have S' := M'.slot a d3 (ai _)
    have g1 := S'.ob
    simp [g1, slotF, T.c_Slot, T.n_Slot_state, T.n_Slot_readers, T.n_Slot_value, T.n_Slot_missing, T.n_Slot_operands]
    intro x hx
    have M2 := M'.alloc hx (.lst []) (.rds a)
    have nax : a ≠ x := ne_of_none g1 hx
    have M3 := M2.nRds (ai _) (x := x) upd_same setR_same
    simp [g1, slotF, upd_ne nax, T.c_Slot, T.n_Slot_state, T.n_Slot_readers, T.n_Slot_value, T.n_Slot_missing, T.n_Slot_operands]
    rw [List.take_of_length_le (by simp)] at M3
    refine k _ _ _ x M3 (fun b e hb he => ?_) ?_
    · rw [CS.wT_T, updT_ne hb]
      unfold passT
      rw [b3 b hb, he]
      rfl
    · rw [CS.wT_T, updT_same]
      subst hd3
      rfl
end Ooo
namespace Ooo
open PySem L2 Ex
variable {P : Program} {w : World} {K : PySem.W.Frag} {mg : Str → Option Value} {base : Heap} {A : Ad}
/-- the machine with other slots -/
def CS.wS (C : CS) (l : List Sd48.Slot) : CS := { C with m := { C.m with slots := l } }
theorem R.slot {C : CS} (h : R C) {i : Nat} {a : Nat} (hq : C.q[i]? = some a) : ∃ x d, C.m.slots[i]? = some x ∧ C.T a = some d ∧ SlotR C.m i x d := by
  have hi : i < C.m.slots.length := by
    have := (List.getElem?_eq_some_iff.mp hq).1
    have := h.len
    omega
  obtain ⟨d, hd, S⟩ := h.at_ i a _ hq (List.getElem?_eq_getElem hi)
  exact ⟨_, d, List.getElem?_eq_getElem hi, hd, S⟩
theorem runOn_cons (n : Nat) (x : Sd48.Slot) (r : List Sd48.Slot) : runOn n (x :: r) = if (Sd48.ticked x).phase = 2 ∧ 0 < n then { Sd48.ticked x with phase := 3 } :: runOn (n - 1) r else Sd48.ticked x :: runOn n r := rfl
section
variable {H F : Hp} {p : Addr} {C : CS} {ρ : Addr → Role}
theorem tick_step (M : Mod A H F p C ρ) (h : R C) {i a : Nat} {x : Sd48.Slot} {d : SD} (hq : C.q[i]? = some a) (hx : C.m.slots[i]? = some x) (hd : C.T a = some d) (S : SlotR C.m i x d) (ph : x.phase = 1) :
    Mod A (upd H a (.ins A.C_Slot d.dx (slotF { d with x := Sd48.ticked x }))) F p { C with m := { C.m with slots := C.m.slots.set i (Sd48.ticked x) }, T := updT C.T a { d with x := Sd48.ticked x } } ρ ∧
    R { C with m := { C.m with slots := C.m.slots.set i (Sd48.ticked x) }, T := updT C.T a { d with x := Sd48.ticked x } } := by
  obtain ⟨w1, w2, w3, w4, w5, w6⟩ := ticked_wf (h.wf x (List.mem_of_getElem? hx))
  have dx := S.dx
  have nt : (Sd48.ticked x).phase ≠ 3 ∧ (Sd48.ticked x).phase ≠ 0 ∧ ∀ k, isB k (Sd48.ticked x) = isB k x := by
    unfold Sd48.ticked
    rw [if_neg (by omega)]
    split
    · exact ⟨by show 2 ≠ 3; decide, by show 2 ≠ 0; decide, fun k => by unfold isB; simp [ph]⟩
    · exact ⟨by show x.phase ≠ 3; omega, by show x.phase ≠ 0; omega, fun k => rfl⟩
  constructor
  · have := M.wSlot hd { d with x := Sd48.ticked x } rfl rfl rfl rfl rfl rfl rfl (by rw [dx]; exact w3) (by rw [dx]; exact w2) rfl
    exact this.ghost _ rfl rfl rfl rfl rfl rfl rfl
  · have f : C.free = freeOf C.m.cfg (C.m.slots.set i (Sd48.ticked x)) := by rw [freeOf_same hx nt.2.2]; exact h.free
    refine h.soft (d' := { d with x := Sd48.ticked x }) hq hx hd rfl rfl rfl rfl rfl rfl w2 w3 w4 w5 (by omega) nt.1 w1 (fun z => absurd z nt.2.1) (fun _ z => ?_) f
    rw [w6]
    exact S.goes (by omega) z
theorem done_rds (h : R C) {i a : Nat} {x : Sd48.Slot} {d : SD} (hq : C.q[i]? = some a) (hx : C.m.slots[i]? = some x) (hd : C.T a = some d) (ph : x.phase ≠ 3) : ∀ r ∈ d.rds, r.2.1 ≠ a ∧ ∃ e, C.T r.2.1 = some e := by
  intro r hr
  obtain ⟨_, u⟩ := h.rds i a x d hq hx ph hd
  obtain ⟨k, y, q1, q2, q3⟩ := (u r.2.1 r.2.2).mp (List.mem_map.mpr ⟨r, hr, rfl⟩)
  refine ⟨fun z => ?_, ?_⟩
  · have : k = i := q_ix h.nd q1 (by rw [z]; exact hq)
    have := q3.2.1
    omega
  · obtain ⟨e, he, _⟩ := h.at_ k _ y q1 q2
    exact ⟨e, he⟩
end
def sp_run_on (A : Ad) : Sp := fun vs H Q _ => ∃ (F : Hp) (p : Addr) (C : CS) (ρ : Addr → Role), vs = [.ref p] ∧ Mod A H F p C ρ ∧ R C ∧
  ∀ (H' : Hp) (ρ' : Addr → Role) (C' : CS), Mod A H' F p C' ρ' → R C' → C'.m = { C.m with slots := Sd48.sent C.m.cfg.buses (C.m.slots.map Sd48.ticked) } → Q .non H'
theorem ok_run_on (T : Txt K mg A) : FnOk P w K mg base CX0 3 A.f_Machine_let_run_on A.d_Machine_let_run_on ["self"] (sp_run_on A) := by
  have G_Slot_pass_on : FnOk P w K mg base CX0 1 _ _ _ _ := ok_pass T
  refine T.F_Machine_let_run_on.ok sc_Machine_let_run_on (by rintro vs H Q E ⟨F, p, C, ρ, rfl, _⟩; rfl) (fun cdv Ar outer s H vs Q E hr h => ?_)
  obtain ⟨F, p, C, ρ, rfl, M, hR, k⟩ := h
  refine ⟨_, (pss_cons (ps_set (i := 1) sc_Machine_let_run_on.nd rfl (Or.inl rfl) (pe_fld (pv 0) rfl))
    (pss_one (ps_for PassesOwn.never rfl (pi_lstH (pe_fld (pv 0) rfl)) (pg_name (i := 2) sc_Machine_let_run_on.nd rfl (Or.inl rfl)) (pss_cons (ps_cut (ps_if (pt_cmpR op_eq (pe_fld (pv 2) rfl) (pe_k T.v_RUNS) (nomark _)) (pss_cons (ps_fldaug (pv 2) pe_int in_sub)
    (pss_one (ps_if (pt_cmpR op_eq (pe_fld (pv 2) rfl) pe_int (nomark _)) (pss_one (ps_fld (pv 2) (pe_k T.v_HAS_RUN) rfl)) pss_nil))) pss_nil))
    (pss_one (ps_if (PW.pt (pw_and (pt_cmpR op_eq (pe_fld (pv 2) rfl) (pe_k T.v_HAS_RUN) (nomark _)) (pw_and1 (pt_cmpR op_gt (pv 1) pe_int (nomark _))))) (pss_cons (ps_aug (i := 1) sc_Machine_let_run_on.nd rfl (Or.inl rfl) pe_int ip_sub)
    (pss_cons (ps_augS (pe_fld (pv 0) rfl) (pe_fld (pv 2) rfl) get_h pe_int ip_add set_list)
    (pss_one (ps_expr (pe_meth0 (pv 2) T.c_Slot T.M_Slot_pass_on G_Slot_pass_on (hr.mono (by decide)) T.b_Slot_pass_on .nil pass0))))) pss_nil)))))), ?_⟩
  have h1 := M.mach
  have h2 := (M.lst .slots).1
  simp [h1, h2, machF, T.c_Machine, T.c_Slot, T.c_Instruction, T.n_Machine_most_passed_on, T.n_Machine_slots, T.n_Slot_state, T.n_Slot_cycles_left, T.n_Machine_free_units, T.n_Instruction_unit, T.n_Slot_unit]
  refine loop_list (xs := C.q.map V.ref) (fun i σ H' => ∃ (ρ' : Addr → Role) (C' : CS) (n : Nat) (v : Option V), σ = [some (.ref p), some (.int (n : Int)), v] ∧ Mod A H' F p C' ρ' ∧ R C' ∧ C'.q = C.q ∧ C'.la = C.la ∧ (∃ sl, C'.m = { C.m with slots := sl }) ∧ C'.m.slots.drop i = C.m.slots.drop i ∧ C'.m.slots.take i ++ runOn n (C.m.slots.drop i) = runOn C.m.cfg.buses C.m.slots) ?_ ?_ ?_ ?_
  · exact ⟨ρ, C, C.m.cfg.buses, none, rfl, M, hR, rfl, rfl, ⟨C.m.slots, rfl⟩, rfl, by simp⟩
  · rintro i σ H' hi ⟨ρ', C', n, v, rfl, M', R', eq, ela, _⟩
    have := (M'.lst .slots).1
    rw [lv_slots, eq, ela] at this
    exact this
  · rintro i x σ H' hx ⟨ρ', C', n, v, rfl, M', R', eq, ela, ⟨sl, em⟩, edr, erun⟩
    rw [List.getElem?_map] at hx
    cases ea : C.q[i]? with
    | none => rw [ea] at hx; cases hx
    | some a =>
      rw [ea] at hx
      have ex : x = V.ref a := (Option.some.inj hx).symm
      subst ex
      obtain ⟨x, d, hxs, hd, S⟩ := R'.slot (i := i) (a := a) (by rw [eq]; exact ea)
      have dx := S.dx
      have g1 := (M'.slot a d hd).ob
      have wfx := R'.wf x (List.mem_of_getElem? hxs)
      simp only [r_gName, r_tSeq, r_tCut]
      refine ⟨fun σ' H' => ∃ (ρ' : Addr → Role) (C' : CS), σ' = [some (.ref p), some (.int (n : Int)), some (.ref a)] ∧ Mod A H' F p C' ρ' ∧ R C' ∧ C'.q = C.q ∧ C'.la = C.la ∧ C'.m = { C.m with slots := sl.set i (Sd48.ticked x) }, ?_, ?_⟩
      · have hq' : C'.q[i]? = some a := by rw [eq]; exact ea
        simp [g1, slotF, dx, T.c_Machine, T.c_Slot, T.c_Instruction, T.n_Machine_most_passed_on, T.n_Machine_slots, T.n_Slot_state, T.n_Slot_cycles_left, T.n_Machine_free_units, T.n_Instruction_unit, T.n_Slot_unit]
        by_cases c1 : x.phase = 1
        · obtain ⟨m1, r1⟩ := tick_step M' R' hq' hxs hd S c1
          have l1 := wfx.left c1
          rw [if_pos (by omega)]
          by_cases c2 : x.left ≤ 1
          · rw [if_pos (by omega)]
            refine ⟨ρ', _, ?_, r1, eq, ela, by rw [em]⟩
            have et : Sd48.ticked x = { x with phase := 2, left := 0 } := by
              unfold Sd48.ticked
              rw [if_neg (by omega), if_pos c2]
            have el : (x.left : Int) - 1 = ((0 : Nat) : Int) := by omega
            rw [el]
            rw [et] at m1 ⊢
            exact m1
          · rw [if_neg (by omega)]
            refine ⟨ρ', _, ?_, r1, eq, ela, by rw [em]⟩
            have et : Sd48.ticked x = { x with left := x.left - 1 } := by
              unfold Sd48.ticked
              rw [if_neg (by omega), if_neg c2]
            have el : (x.left : Int) - 1 = ((x.left - 1 : Nat) : Int) := by omega
            rw [el]
            rw [et] at m1 ⊢
            exact m1
        · rw [if_neg (by omega)]
          have et : Sd48.ticked x = x := by
            unfold Sd48.ticked
            rw [if_pos c1]
          refine ⟨ρ', C', M', R', eq, ela, ?_⟩
          rw [et]
          have : sl.set i x = sl := by
            have e2 : sl[i]? = some x := by rw [em] at hxs; exact hxs
            rw [set_at e2, ← split_at e2]
          rw [this, em]
      · rintro σ1 H1 ⟨ρ1, C1, rfl, M1, R1, eq1, ela1, em1⟩
        have hsl : sl = C'.m.slots := by rw [em]
        have hlen : i < sl.length := by rw [hsl]; exact (List.getElem?_eq_some_iff.mp hxs).1
        have hq1 : C1.q[i]? = some a := by rw [eq1]; exact ea
        obtain ⟨x1, d1, hx1, hd1, S1⟩ := R1.slot hq1
        have ex1 : x1 = Sd48.ticked x := by
          rw [em1] at hx1
          have : (sl.set i (Sd48.ticked x))[i]? = some x1 := hx1
          rw [List.getElem?_set_self hlen] at this
          exact (Option.some.inj this).symm
        have g1 := (M1.slot a d1 hd1).ob
        have g2 := M1.mach
        have g3 := (M1.lst .free).1
        have dx1 := S1.dx
        have edrop : C.m.slots.drop i = x :: C.m.slots.drop (i + 1) := by
          have h2 : C.m.slots[i]? = some x := by
            have := congrArg (fun l => l[0]?) edr
            simp at this
            rw [← this]
            exact hxs
          obtain ⟨hi2, e2⟩ := List.getElem?_eq_some_iff.mp h2
          rw [← e2, List.getElem_cons_drop]
        have etake : C1.m.slots.take (i + 1) = sl.take i ++ [Sd48.ticked x] := by
          rw [em1]
          show (sl.set i (Sd48.ticked x)).take (i + 1) = _
          rw [List.take_succ, List.take_set_of_le (Nat.le_refl i), List.getElem?_set_self hlen]
          rfl
        have edr1 : C1.m.slots.drop (i + 1) = C.m.slots.drop (i + 1) := by
          rw [em1]
          show (sl.set i (Sd48.ticked x)).drop (i + 1) = _
          rw [List.drop_set_of_lt (by omega), hsl]
          have := congrArg (List.drop 1) edr
          simpa [List.drop_drop, Nat.add_comm] using this
        rw [edrop, ← hsl, runOn_cons] at erun
        -- the second test
        by_cases c : x1.phase = 2 ∧ 0 < n
        · rw [if_pos (by rw [← ex1]; exact c)] at erun
          obtain ⟨z, hz, hf⟩ := freeOf_set (c := C1.m.cfg) (x' := { x1 with phase := 3 }) (δ := 1) hx1 rfl (by
            intro k hk
            unfold isB
            simp [c.1, hk])
          have hz1 := hz
          rw [← R1.free] at hz
          have atz : atI (C1.free.map V.int) ((Sd48.kind (Sd48.ins x1.word) - 1 : Nat) : Int) = some (.int z) := atI_nat (by rw [List.getElem?_map, hz]; rfl)
          have ixz : ixN C1.free.length ((Sd48.kind (Sd48.ins x1.word) - 1 : Nat) : Int) = some (Sd48.kind (Sd48.ins x1.word) - 1) := ix_nat (List.getElem?_eq_some_iff.mp hz).1
          have nfa : a ≠ C1.la .free := fun z => by have := (M1.lst .free).2; rw [← z, (M1.slot a d1 hd1).rl] at this; cases this
          simp [g1, g2, g3, slotF, machF, dx1, c.1, c.2, atz, ixz, upd_ne nfa, T.c_Machine, T.c_Slot, T.c_Instruction, T.n_Machine_most_passed_on, T.n_Machine_slots, T.n_Slot_state, T.n_Slot_cycles_left, T.n_Machine_free_units, T.n_Instruction_unit, T.n_Slot_unit]
          have Mf := M1.wList .free { C1 with free := C1.free.set (Sd48.kind (Sd48.ins x1.word) - 1) (z + 1) } rfl rfl rfl (by intro k hk; cases k <;> first | rfl | exact absurd rfl hk) rfl rfl rfl
          have Mf' : Mod A (upd H1 (C1.la .free) (.lst ((C1.free.map V.int).set (Sd48.kind (Sd48.ins x1.word) - 1) (.int (z + 1))))) F p { C1 with free := C1.free.set (Sd48.kind (Sd48.ins x1.word) - 1) (z + 1) } ρ1 := by
            rw [← List.map_set]
            exact Mf
          refine ⟨F, p, _, ρ1, a, d1, rfl, Mf', hd1, done_rds R1 hq1 hx1 hd1 (by omega), fun H2 ρ2 T2 ra2 M2 hT hTa => ?_⟩
          rw [dx1] at hT hTa
          refine ⟨ρ2, { C1 with m := { C1.m with slots := C1.m.slots.set i { x1 with phase := 3 } }, T := T2, free := C1.free.set (Sd48.kind (Sd48.ins x1.word) - 1) (z + 1) }, n - 1, by omega, M2.ghost _ rfl rfl rfl rfl rfl rfl rfl, ?_, eq1, ela1, ⟨C1.m.slots.set i { x1 with phase := 3 }, by rw [em1]⟩, ?_, ?_⟩
          · refine R1.done hq1 hx1 hd1 c.1 hT hTa ?_
            rw [hf, R1.free]
          · show (C1.m.slots.set i { x1 with phase := 3 }).drop (i + 1) = _
            rw [List.drop_set_of_lt (by omega)]
            exact edr1
          · show (C1.m.slots.set i { x1 with phase := 3 }).take (i + 1) ++ _ = _
            have hl1 : i < C1.m.slots.length := (List.getElem?_eq_some_iff.mp hx1).1
            rw [← erun, List.take_succ, List.take_set_of_le (Nat.le_refl i), List.getElem?_set_self hl1]
            have : C1.m.slots.take i = sl.take i := by
              have := congrArg (List.take i) etake
              rw [List.take_take, Nat.min_eq_left (by omega)] at this
              rw [this, List.take_append_of_le_length (by rw [List.length_take]; omega), List.take_take, Nat.min_self]
            rw [this, ex1]
            simp
        · rw [if_neg (by rw [← ex1]; exact c)] at erun
          have fin : ∃ (ρ' : Addr → Role) (C' : CS) (n_1 : Nat), (n : Int) = (n_1 : Int) ∧ Mod A H1 F p C' ρ' ∧ R C' ∧ C'.q = C.q ∧ C'.la = C.la ∧ (∃ sl, C'.m = { C.m with slots := sl }) ∧ C'.m.slots.drop (i + 1) = C.m.slots.drop (i + 1) ∧ C'.m.slots.take (i + 1) ++ runOn n_1 (C.m.slots.drop (i + 1)) = runOn C.m.cfg.buses C.m.slots := by
            refine ⟨ρ1, C1, n, rfl, M1, R1, eq1, ela1, ⟨_, em1⟩, edr1, ?_⟩
            rw [etake, ← erun]
            simp
          by_cases c2 : x1.phase = 2
          · have c3 : ¬ 0 < n := fun z => c ⟨c2, z⟩
            simp [g1, slotF, dx1, c2, c3, T.c_Machine, T.c_Slot, T.c_Instruction, T.n_Machine_most_passed_on, T.n_Machine_slots, T.n_Slot_state, T.n_Slot_cycles_left, T.n_Machine_free_units, T.n_Instruction_unit, T.n_Slot_unit]
            exact fin
          · have c4 : ¬ (x1.phase : Int) = 2 := by omega
            simp [g1, slotF, dx1, c4, T.c_Machine, T.c_Slot, T.c_Instruction, T.n_Machine_most_passed_on, T.n_Machine_slots, T.n_Slot_state, T.n_Slot_cycles_left, T.n_Machine_free_units, T.n_Instruction_unit, T.n_Slot_unit]
            exact fin
  · rintro σ H' ⟨ρ', C', n, v, rfl, M', R', eq, ela, ⟨sl, em⟩, edr, erun⟩
    refine k H' ρ' C' M' R' ?_
    have hl := R'.len
    have hl' := hR.len
    rw [eq] at hl
    rw [List.length_map, List.drop_of_length_le (by omega), List.take_of_length_le (by omega)] at erun
    rw [em]
    congr 1
    rw [runOn_eq, ← erun, em]
    simp [runOn]
end Ooo
namespace Ooo
open PySem L2 Ex
variable {P : Program} {w : World} {K : PySem.W.Frag} {mg : Str → Option Value} {base : Heap} {A : Ad}
theorem cut_to (xs : List V) (k : Nat) : cutV xs none (some (k : Int)) = xs.take k := by
  unfold cutV
  rw [HT.sIx_none, HT.sIx_nat, List.drop_zero, Nat.sub_zero]
  rcases Nat.le_total k xs.length with h | h
  · rw [Nat.min_eq_left h]
  · rw [Nat.min_eq_right h, List.take_of_length_le (Nat.le_refl _), List.take_of_length_le h]
theorem cellOf_snoc (s : Sd48.Arch) (l : List Sd48.Slot) (y : Sd48.Slot) (c : Nat) : Sd48.cellOf s (l ++ [y]) c = if (Sd48.ins y.word).op = 13 ∧ y.out.halt_ = 0 ∧ y.out.cell = c then y.out.value else Sd48.cellOf s l c := by
  unfold Sd48.cellOf
  rw [List.reverse_append, List.reverse_singleton, List.singleton_append, List.find?_cons]
  unfold Sd48.isStore
  by_cases e : (Sd48.ins y.word).op = 13 ∧ y.out.halt_ = 0 ∧ y.out.cell = c
  · rw [if_pos e]
    simp [e.1, e.2.1, e.2.2]
  · rw [if_neg e]
    have : ((Sd48.ins y.word).op == 13 && (y.out.halt_ == 0 && y.out.cell == c)) = false := by
      cases q : ((Sd48.ins y.word).op == 13 && (y.out.halt_ == 0 && y.out.cell == c)) with
      | false => rfl
      | true =>
        simp at q
        exact absurd q e
    rw [this]
/-- the first k slots' objects are as the machine has them -/
def View (C : CS) (k : Nat) : Prop := k ≤ C.q.length ∧ ∀ (j a : Nat), j < k → C.q[j]? = some a → ∃ x d, C.m.slots[j]? = some x ∧ C.T a = some d ∧ d.x = x
def sp_ld (A : Ad) : Sp := fun vs H Q _ => ∃ (F : Hp) (p : Addr) (C : CS) (ρ : Addr → Role) (k c : Nat), vs = [.ref p, .int (k : Int), .int (c : Int)] ∧ Mod A H F p C ρ ∧ View C k ∧ c < C.m.arch.cells.length ∧
  ∀ (H' : Hp) (ρ' : Addr → Role), Mod A H' F p C ρ' → Q (.int (Sd48.cellOf C.m.arch (C.m.slots.take k) c : Int)) H'
theorem ok_ld (T : Txt K mg A) : FnOk P w K mg base CX0 1 A.f_Machine_loaded A.d_Machine_loaded ["self", "k", "cell"] (sp_ld A) := by
  refine T.F_Machine_loaded.ok sc_Machine_loaded (by rintro vs H Q E ⟨F, p, C, ρ, k, c, rfl, _⟩; rfl) (fun cdv Ar outer s H vs Q E hr h => ?_)
  obtain ⟨F, p, C, ρ, kk, c, rfl, M, ⟨hk, hV⟩, hc, k⟩ := h
  refine ⟨_, (pss_cons (ps_for PassesOwn.never rfl (pi_revH rfl T.z_reversed (pa_cons (pe_slice sl_h (pe_fld (pv 0) rfl) po_none (po_some (pv 1))) pa_nil)) (pg_name (i := 3) sc_Machine_loaded.nd rfl (Or.inl rfl)) (pss_one (ps_if (PW.pt (pw_and (pt_cmpR op_eq (pe_fld (pv 3) rfl) (pe_k T.v_STORE) (nomark _)) (pw_and (pt_cmpR op_eq (pe_fld (pv 3) rfl) pe_int (nomark _)) (pw_and1 (pt_cmpR op_eq (pe_fld (pv 3) rfl) (pv 2) (nomark _)))))) (pss_one (ps_ret (pe_fld (pv 3) rfl))) pss_nil)))
    (pss_one (ps_ret (pe_ix ix_h (pe_fld (pv 0) rfl) (pv 2) (fun _ _ => rfl))))), ?_⟩
  have h1 := M.mach
  have h2 := (M.lst .slots).1
  simp [h1, h2, machF, cut_to, T.c_Machine, T.c_Slot, T.c_Instruction, T.n_Machine_cells, T.n_Machine_slots, T.n_Slot_value, T.n_Instruction_op, T.n_Slot_op, T.n_Slot_stop, T.n_Slot_cell]
  intro l hl
  have M1 := M.alloc hl (.lst ((C.q.take kk).map V.ref)) .no
  have lt : (C.q.take kk).length = kk := by rw [List.length_take]; omega
  have e0 : List.take kk (List.map V.ref C.q) = (C.q.take kk).map V.ref := by rw [List.map_take]
  rw [e0]
  have e1 : min kk C.q.length = ((C.q.take kk).map V.ref).length := by rw [List.length_map, lt]; omega
  rw [e1]
  have hl1 : upd H l (.lst ((C.q.take kk).map V.ref)) l = some (.lst ((C.q.take kk).map V.ref)) := upd_same
  generalize upd H l (.lst ((C.q.take kk).map V.ref)) = H1 at M1 hl1 ⊢
  refine loop_rev (xs := (C.q.take kk).map V.ref) (fun i σ H' => ∃ v : Option V, σ = [some (.ref p), some (.int (kk : Int)), some (.int (c : Int)), v] ∧ H' = H1 ∧ Sd48.cellOf C.m.arch (C.m.slots.take kk) c = Sd48.cellOf C.m.arch (C.m.slots.take (kk - i)) c) ?_ ?_ ?_ ?_
  · exact ⟨none, rfl, rfl, rfl⟩
  · rintro i σ H' _ ⟨v, rfl, rfl, _⟩
    exact hl1
  · rintro i x σ H' hi hx ⟨v, rfl, rfl, hcell⟩
    rw [List.length_map, lt] at hi hx
    rw [List.getElem?_map, List.getElem?_take_of_lt (by omega)] at hx
    cases ea : C.q[kk - 1 - i]? with
    | none => rw [ea] at hx; cases hx
    | some a =>
      rw [ea] at hx
      have ex : x = V.ref a := (Option.some.inj hx).symm
      subst ex
      obtain ⟨x, d, hxs, hd, dx⟩ := hV (kk - 1 - i) a (by omega) ea
      have g1 := (M1.slot a d hd).ob
      have tk : C.m.slots.take (kk - i) = C.m.slots.take (kk - (i + 1)) ++ [x] := by
        have : kk - i = (kk - 1 - i) + 1 := by omega
        rw [this, List.take_succ, hxs]
        have : kk - (i + 1) = kk - 1 - i := by omega
        rw [this]
        rfl
      rw [tk, cellOf_snoc] at hcell
      have kq := k _ _ M1
      simp [g1, slotF, dx, T.c_Machine, T.c_Slot, T.c_Instruction, T.n_Machine_cells, T.n_Machine_slots, T.n_Slot_value, T.n_Instruction_op, T.n_Slot_op, T.n_Slot_stop, T.n_Slot_cell]
      by_cases c1 : (Sd48.ins x.word).op = 13
      · rw [if_pos (by omega)]
        by_cases c2 : x.out.halt_ = 0
        · rw [if_pos (by omega)]
          by_cases c3 : x.out.cell = c
          · rw [if_pos (by omega)]
            rw [if_pos ⟨c1, c2, c3⟩] at hcell
            rw [hcell] at kq
            exact kq
          · rw [if_neg (by omega)]
            rw [if_neg fun z => c3 z.2.2] at hcell
            exact hcell
        · rw [if_neg (by omega)]
          rw [if_neg fun z => c2 z.2.1] at hcell
          exact hcell
      · rw [if_neg (by omega)]
        rw [if_neg fun z => c1 z.1] at hcell
        exact hcell
  · rintro σ H' ⟨v, rfl, rfl, hcell⟩
    have kq := k _ _ M1
    have g1 := M1.mach
    have g2 := (M1.lst .cells).1
    have g3 := at_nv (List.getElem?_eq_getElem hc)
    simp [g1, g2, g3, machF, T.c_Machine, T.c_Slot, T.c_Instruction, T.n_Machine_cells, T.n_Machine_slots, T.n_Slot_value, T.n_Instruction_op, T.n_Slot_op, T.n_Slot_stop, T.n_Slot_cell]
    rw [List.length_map, lt, Nat.sub_self, List.take_zero] at hcell
    have : Sd48.cellOf C.m.arch [] c = C.m.arch.cells[c] := by
      unfold Sd48.cellOf
      simp [hc]
    rw [hcell, this] at kq
    exact kq
def sp_wc (A : Ad) : Sp := fun vs H Q _ => ∃ (F : Hp) (p : Addr) (C : CS) (ρ : Addr → Role) (k a c v : Nat) (d : SD), vs = [.ref p, .int (k : Int), .ref a, .int (c : Int), .int (v : Int)] ∧ Mod A H F p C ρ ∧ View C k ∧ C.m.arch.cells.length = 1024 ∧ C.T a = some d ∧ (∀ j : Nat, j < k → C.q[j]? ≠ some a) ∧
  ∀ (H' : Hp) (ρ' : Addr → Role), Mod A H' F p (C.wT (updT C.T a { d with x := { d.x with out := if 1024 ≤ c then { d.x.out with halt_ := 3 } else { d.x.out with cell := c, value := if (Sd48.ins d.x.word).op = 13 then v else Sd48.cellOf C.m.arch (C.m.slots.take k) c } } })) ρ' → Q .non H'
theorem ok_wc (T : Txt K mg A) : FnOk P w K mg base CX0 3 A.f_Machine_work_out_cell A.d_Machine_work_out_cell ["self", "k", "slot", "cell", "stored"] (sp_wc A) := by
  have G_Machine_loaded : FnOk P w K mg base CX0 1 _ _ _ _ := ok_ld T
  refine T.F_Machine_work_out_cell.ok sc_Machine_work_out_cell (by rintro vs H Q E ⟨F, p, C, ρ, k, a, c, v, d, rfl, _⟩; rfl) (fun cdv Ar outer s H vs Q E hr h => ?_)
  obtain ⟨F, p, C, ρ, kk, a, c, v, d, rfl, M, hV, hc, hd, hna, k⟩ := h
  refine ⟨_, (pss_cons (ps_if (pt_cmpR op_ge (pv 3) (pe_k T.v_CELLS) (nomark _)) (pss_cons (ps_fld (pv 2) (pe_k T.v_STOPPED_BY_CELL) rfl)
    (pss_one ps_retN)) pss_nil)
    (pss_cons (ps_fld (pv 2) (pv 3) rfl)
    (pss_one (ps_fld (pv 2) (pe_ifExp (pt_cmpR op_eq (pe_fld (pv 2) rfl) (pe_k T.v_STORE) (nomark _)) (pv 4) (pe_meth (pv 0) T.c_Machine T.M_Machine_loaded G_Machine_loaded (hr.mono (by decide)) T.b_Machine_loaded .nil pass0 (pa_cons (pv 1) (pa_cons (pv 3) pa_nil)))) rfl)))), ?_⟩
  have h1 := (M.slot a d hd).ob
  have h2 := M.mach
  have npa : p ≠ a := M.p_ne (by rw [(M.slot a d hd).rl]; simp)
  simp [h1, h2, machF, slotF, upd_ne npa, T.c_Slot, T.c_Instruction, T.n_Slot_cell, T.n_Slot_value, T.n_Slot_stop, T.n_Instruction_op, T.n_Slot_op]
  by_cases c1 : 1024 ≤ c
  · rw [if_pos (by omega)]
    refine k _ ρ ?_
    rw [if_pos c1]
    exact M.wSlot hd { d with x := { d.x with out := { d.x.out with halt_ := 3 } } } rfl rfl rfl rfl rfl rfl rfl rfl rfl rfl
  · rw [if_neg (by omega)]
    have k2 := fun H' ρ' => k H' ρ'
    rw [if_neg c1] at k2
    have M1 := M.wSlot hd { d with x := { d.x with out := { d.x.out with cell := c } } } rfl rfl rfl rfl rfl rfl rfl rfl rfl rfl
    by_cases c2 : (Sd48.ins d.x.word).op = 13
    · rw [if_pos (by omega)]
      rw [if_pos c2] at k2
      refine k2 _ ρ ?_
      exact M.wSlot hd { d with x := { d.x with out := { d.x.out with cell := c, value := v } } } rfl rfl rfl rfl rfl rfl rfl rfl rfl rfl
    · rw [if_neg (by omega)]
      rw [if_neg c2] at k2
      refine ⟨F, p, _, ρ, kk, c, rfl, M1, ⟨hV.1, fun j b hj hb => ?_⟩, by show c < C.m.arch.cells.length; omega, fun H2 ρ2 M2 => ?_⟩
      · obtain ⟨x, e, q1, q2, q3⟩ := hV.2 j b hj hb
        by_cases e1 : b = a
        · subst e1
          exact absurd hb (hna j hj)
        · exact ⟨x, e, q1, (updT_ne e1).trans q2, q3⟩
      · have g1 := (M2.slot a _ updT_same).ob
        simp [g1, slotF, T.c_Slot, T.c_Instruction, T.n_Slot_cell, T.n_Slot_value, T.n_Slot_stop, T.n_Instruction_op, T.n_Slot_op]
        refine k2 _ ρ2 ?_
        have M3 := M2.wSlot updT_same { d with x := { d.x with out := { d.x.out with cell := c, value := Sd48.cellOf C.m.arch (C.m.slots.take kk) c } } } rfl rfl rfl rfl rfl rfl rfl rfl rfl rfl
        simp only [CS.wT_T, updT_updT, CS.wT_wT] at M3
        exact M3
def sp_wo (A : Ad) : Sp := fun vs H Q _ => ∃ (F : Hp) (p : Addr) (C : CS) (ρ : Addr → Role) (k a u v : Nat) (d : SD), vs = [.ref p, .int (k : Int), .ref a, .int (u : Int), .int (v : Int)] ∧ Mod A H F p C ρ ∧ View C k ∧ C.m.arch.cells.length = 1024 ∧ C.T a = some d ∧ (∀ j : Nat, j < k → C.q[j]? ≠ some a) ∧
  u < Sd48.W ∧ v < Sd48.W ∧ 1 ≤ (Sd48.ins d.x.word).op ∧ (Sd48.ins d.x.word).op ≤ 18 ∧ d.x.out = Sd48.blankOut ∧ d.goes = (((d.x.pc + 1) % Sd48.W : Nat) : Int) ∧
  ∀ (H' : Hp) (ρ' : Addr → Role), Mod A H' F p (C.wT (updT C.T a { d with x := { d.x with out := outOf C.m.arch (C.m.slots.take k) (Sd48.ins d.x.word) d.x.pc u v }, goes := ((outOf C.m.arch (C.m.slots.take k) (Sd48.ins d.x.word) d.x.pc u v).next : Int) })) ρ' → Q .non H'
theorem cl_eq {op u v : Nat} (hu : u < Sd48.W) (hv : v < Sd48.W) (h1 : 1 ≤ op) (h9 : op ≤ 9) : cl (op : Int) (u : Int) (v : Int) = (Sd48.arith op u v : Int) := by
  have eW : Sd48.W = 4294967296 := by decide
  unfold cl Sd48.arith
  rw [eW] at hu hv ⊢
  have cases : op = 1 ∨ op = 2 ∨ op = 3 ∨ op = 4 ∨ op = 5 ∨ op = 6 ∨ op = 7 ∨ op = 8 ∨ op = 9 := by omega
  rcases cases with rfl | rfl | rfl | rfl | rfl | rfl | rfl | rfl | rfl
  · simp
  · simp; omega
  · simp [and_nat]
  · simp [or_nat]
  · simp [xor_nat]
  · have e : ((v : Int) % 32).toNat = v % 32 := by omega
    simp [e]
  · have e : ((v : Int) % 32).toNat = v % 32 := by omega
    simp [e]
  · simp
  · simp
theorem sgn_eq {u : Nat} (hu : u < Sd48.W) : sgn (u : Int) = Sd48.signed 32 u := by
  have eW : Sd48.W = 4294967296 := by decide
  rw [eW] at hu
  unfold sgn Sd48.signed
  simp only [Nat.reduceSub, Nat.reducePow]
  split <;> split <;> omega
theorem tk_eq {op u v : Nat} (hu : u < Sd48.W) (hv : v < Sd48.W) : (if (op : Int) = 14 then (u : Int) = (v : Int) else if (op : Int) = 15 then ¬ (u : Int) = (v : Int) else sgn (u : Int) < sgn (v : Int)) ↔ Sd48.taken op u v = true := by
  unfold Sd48.taken
  rw [sgn_eq hu, sgn_eq hv]
  by_cases c1 : op = 14
  · rw [if_pos (by omega), if_pos c1, beq_iff_eq]
    omega
  · rw [if_neg (by omega), if_neg c1]
    by_cases c2 : op = 15
    · rw [if_pos (by omega), if_pos c2, bne_iff_ne]
      omega
    · rw [if_neg (by omega), if_neg c2, decide_eq_true_eq]
theorem high_eq (imm : Int) : imm * 65536 % 4294967296 = ((Sd48.wrap imm % 2 ^ 16 * 2 ^ 16 : Nat) : Int) := by
  have h := wrap_eq imm
  have : (Sd48.wrap imm : Int) % 65536 = imm % 65536 := by omega
  omega
theorem ok_wo (T : Txt K mg A) : FnOk P w K mg base CX0 5 A.f_Machine_work_out A.d_Machine_work_out ["self", "k", "slot", "first", "second"] (sp_wo A) := by
  have G_wrapped : FnOk P w K mg base CX0 1 _ _ _ _ := ok_wrapped T
  have G_calculated : FnOk P w K mg base CX0 3 _ _ _ _ := ok_calculated T
  have G_jumps : FnOk P w K mg base CX0 3 _ _ _ _ := ok_jumps T
  have G_Machine_work_out_cell : FnOk P w K mg base CX0 3 _ _ _ _ := ok_wc T
  refine T.F_Machine_work_out.ok sc_Machine_work_out (by rintro vs H Q E ⟨F, p, C, ρ, k, a, u, v, d, rfl, _⟩; rfl) (fun cdv Ar outer s H vs Q E hr h => ?_)
  obtain ⟨F, p, C, ρ, kk, a, u, v, d, rfl, M, hV, hc, hd, hna, hu, hv, hop1, hop2, hbl, hgo, k⟩ := h
  refine ⟨_, (pss_cons (ps_set (i := 5) sc_Machine_work_out.nd rfl (Or.inl rfl) (pe_fld (pv 2) rfl))
    (pss_cons (ps_set (i := 6) sc_Machine_work_out.nd rfl (Or.inl rfl) (pe_fld (pv 2) rfl))
    (pss_one (ps_if (PW.pt (pw_and (pt_cmpR op_eq (pv 5) (pe_k T.v_DIVIDE) (nomark _)) (pw_and1 (pt_cmpR op_eq (pv 4) pe_int (nomark _))))) (pss_one (ps_fld (pv 2) (pe_k T.v_STOPPED_BY_ZERO) rfl)) (pss_one (ps_if (pt_cmpR op_le (pv 5) (pe_k T.v_DIVIDE) (nomark _)) (pss_one (ps_fld (pv 2) (pe_call G_calculated (hr.mono (by decide)) rfl T.m_calculated T.F_calculated.kp T.b_calculated .nil pass0 (pa_cons (pv 5) (pa_cons (pv 3) (pa_cons (pv 4) pa_nil)))) rfl)) (pss_one (ps_if (pt_cmpR op_eq (pv 5) (pe_k T.v_ADD_IMM) (nomark _)) (pss_one (ps_fld (pv 2) (pe_call G_wrapped (hr.mono (by decide)) rfl T.m_wrapped T.F_wrapped.kp T.b_wrapped .nil pass0 (pa_cons (pe_op op_add (pv 3) (pe_fld (pv 6) rfl)) pa_nil)) rfl)) (pss_one (ps_if (pt_cmpR op_eq (pv 5) (pe_k T.v_HIGH_IMM) (nomark _)) (pss_one (ps_fld (pv 2) (pe_call G_wrapped (hr.mono (by decide)) rfl T.m_wrapped T.F_wrapped.kp T.b_wrapped .nil pass0 (pa_cons (pe_op op_shl (pe_fld (pv 6) rfl) pe_int) pa_nil)) rfl)) (pss_one (ps_if (PW.pt (pw_or (pt_cmpR op_eq (pv 5) (pe_k T.v_LOAD) (nomark _)) (pw_or1 (pt_cmpR op_eq (pv 5) (pe_k T.v_STORE) (nomark _))))) (pss_one (ps_expr (pe_meth (pv 0) T.c_Machine T.M_Machine_work_out_cell G_Machine_work_out_cell (hr.mono (by decide)) T.b_Machine_work_out_cell .nil pass0 (pa_cons (pv 1) (pa_cons (pv 2) (pa_cons (pe_call G_wrapped (hr.mono (by decide)) rfl T.m_wrapped T.F_wrapped.kp T.b_wrapped .nil pass0 (pa_cons (pe_op op_add (pv 3) (pe_fld (pv 6) rfl)) pa_nil)) (pa_cons (pv 4) pa_nil))))))) (pss_one (ps_if (pt_cmpR op_eq (pv 5) (pe_k T.v_LINK) (nomark _)) (pss_cons (ps_fld (pv 2) (pe_fld (pv 6) rfl) rfl)
    (pss_one (ps_fld (pv 2) (pe_fld (pv 6) rfl) rfl))) (pss_one (ps_if (pt_cmpR op_eq (pv 5) (pe_k T.v_JUMP_TO_VALUE) (nomark _)) (pss_one (ps_fld (pv 2) (pv 3) rfl)) (pss_one (ps_if (pt_val (pe_call G_jumps (hr.mono (by decide)) rfl T.m_jumps T.F_jumps.kp T.b_jumps .nil pass0 (pa_cons (pv 5) (pa_cons (pv 3) (pa_cons (pv 4) pa_nil))))) (pss_one (ps_fld (pv 2) (pe_fld (pv 6) rfl) rfl)) pss_nil)))))))))))))))))), ?_⟩
  have eW : Sd48.W = 4294967296 := by decide
  have S := M.slot a d hd
  have h1 := S.ob
  have h2 := M.mach
  have h3 := S.ins
  have npa : p ≠ a := M.p_ne (by rw [S.rl]; simp)
  have nia : d.ia ≠ a := fun z => by have := S.rins; rw [z, S.rl] at this; cases this
  have immB : -32768 ≤ (Sd48.ins d.x.word).imm ∧ (Sd48.ins d.x.word).imm < 32768 := by
    show -32768 ≤ Sd48.signed 16 (d.x.word % 2 ^ 16) ∧ Sd48.signed 16 (d.x.word % 2 ^ 16) < 32768
    have := Nat.mod_lt d.x.word (show 0 < 2 ^ 16 by decide)
    unfold Sd48.signed
    split <;> omega
  have fin : ∀ (o : Sd48.Out), outOf C.m.arch (C.m.slots.take kk) (Sd48.ins d.x.word) d.x.pc u v = o → Q .non (upd H a (.ins A.C_Slot d.dx (F_Slot (.ref d.ia) (.int d.guess) (.int ((Sd48.ins d.x.word).op : Int)) (.int ((Sd48.kind (Sd48.ins d.x.word) - 1 : Nat) : Int)) (.int (o.halt_ : Int)) (.int (d.x.phase : Int)) (.int (o.next : Int)) (.int (d.x.left : Int)) (.int (o.value : Int)) (.int (o.cell : Int)) (.ref d.oa) (.int d.missing) (.ref d.ra)))) := by
    intro o ho
    refine k _ ρ ?_
    rw [ho]
    exact M.wSlot hd { d with x := { d.x with out := o }, goes := (o.next : Int) } rfl rfl rfl rfl rfl rfl rfl rfl rfl rfl
  have cell : ((u : Int) + (Sd48.ins d.x.word).imm) % 4294967296 = (Sd48.wrap ((u : Int) + (Sd48.ins d.x.word).imm) : Int) := wrap_eq _
  have far : (d.x.pc : Int) + 1 + (Sd48.ins d.x.word).imm = ((d.x.pc + 1 : Nat) : Int) + (Sd48.ins d.x.word).imm := by simp
  have on : ((d.x.pc : Int) + 1) % (Sd48.W : Int) = (((d.x.pc + 1) % Sd48.W : Nat) : Int) := by simp
  simp [h1, h2, h3, machF, slotF, insF, upd_ne npa, upd_ne nia, hbl, hgo, Sd48.blankOut, T.c_Instruction, T.c_Slot, T.n_Instruction_op, T.n_Slot_op, T.n_Slot_instruction, T.n_Slot_stop, T.n_Slot_value, T.n_Instruction_imm, T.n_Instruction_following, T.n_Slot_goes_on, T.n_Instruction_target]
  rw [far, on, cell]
  generalize hop : (Sd48.ins d.x.word).op = op at *
  have no0 : ¬ op = 0 := by omega
  have no19 : ¬ 18 < op := by omega
  have fin : ¬ op = 12 → ∀ (o : Sd48.Out), Sd48.exec (Sd48.ins d.x.word) d.x.pc u v = o → Q .non (upd H a (.ins A.C_Slot d.dx (F_Slot (.ref d.ia) (.int d.guess) (.int (op : Int)) (.int ((Sd48.kind (Sd48.ins d.x.word) - 1 : Nat) : Int)) (.int (o.halt_ : Int)) (.int (d.x.phase : Int)) (.int (o.next : Int)) (.int (d.x.left : Int)) (.int (o.value : Int)) (.int (o.cell : Int)) (.ref d.oa) (.int d.missing) (.ref d.ra)))) := by
    intro n12 o ho
    refine fin o ?_
    unfold outOf
    rw [hop, if_neg fun z => n12 z.1]
    exact ho
  -- op ≤ 9, not a division by 0
  have hcalc : op ≤ 9 → ¬ (op = 9 ∧ v = 0) → cOk (op : Int) (u : Int) (v : Int) ∧ Q .non (upd H a (.ins A.C_Slot d.dx (F_Slot (.ref d.ia) (.int d.guess) (.int (op : Int)) (.int ((Sd48.kind (Sd48.ins d.x.word) - 1 : Nat) : Int)) (.int 0) (.int (d.x.phase : Int)) (.int (((d.x.pc + 1) % Sd48.W : Nat) : Int)) (.int (d.x.left : Int)) (.int (cl (op : Int) (u : Int) (v : Int))) (.int 0) (.ref d.oa) (.int d.missing) (.ref d.ra)))) := by
    intro c1 c2
    refine ⟨⟨by omega, by omega, by omega, by omega, by omega⟩, ?_⟩
    rw [cl_eq hu hv hop1 c1]
    exact fin (by omega) ⟨0, Sd48.arith op u v, (d.x.pc + 1) % Sd48.W, 0⟩ (by unfold Sd48.exec; simp only [hop, if_neg no0, if_neg no19, if_neg c2, if_pos c1])
  -- a cell's: the same for a load and a store
  have hcell : op = 12 ∨ op = 13 → sp_wc A [V.ref p, V.int (kk : Int), V.ref a, V.int (Sd48.wrap ((u : Int) + (Sd48.ins d.x.word).imm) : Int), V.int (v : Int)] H (fun x H1 => Q V.non H1) E0 := by
    intro c1
    refine ⟨F, p, C, ρ, kk, a, _, v, d, rfl, M, hV, hc, hd, hna, fun H' ρ' M' => k H' ρ' ?_⟩
    have ho : outOf C.m.arch (C.m.slots.take kk) (Sd48.ins d.x.word) d.x.pc u v = if 1024 ≤ Sd48.wrap ((u : Int) + (Sd48.ins d.x.word).imm) then ⟨3, 0, (d.x.pc + 1) % Sd48.W, 0⟩ else ⟨0, if (Sd48.ins d.x.word).op = 13 then v else Sd48.cellOf C.m.arch (C.m.slots.take kk) (Sd48.wrap ((u : Int) + (Sd48.ins d.x.word).imm)), (d.x.pc + 1) % Sd48.W, Sd48.wrap ((u : Int) + (Sd48.ins d.x.word).imm)⟩ := by
      have he : Sd48.exec (Sd48.ins d.x.word) d.x.pc u v = if 1024 ≤ Sd48.wrap ((u : Int) + (Sd48.ins d.x.word).imm) then ⟨3, 0, (d.x.pc + 1) % Sd48.W, 0⟩ else ⟨0, if op = 13 then v else 0, (d.x.pc + 1) % Sd48.W, Sd48.wrap ((u : Int) + (Sd48.ins d.x.word).imm)⟩ := by
        unfold Sd48.exec Sd48.CELLS
        have n9 : ¬ (op = 9 ∧ v = 0) := fun z => by omega
        have n9' : ¬ op ≤ 9 := by omega
        have n10 : ¬ op = 10 := by omega
        have n11 : ¬ op = 11 := by omega
        simp only [hop, if_neg no0, if_neg no19, if_neg n9, if_neg n9', if_neg n10, if_neg n11, if_pos c1]
      unfold outOf
      rw [he, hop]
      by_cases c2 : 1024 ≤ Sd48.wrap ((u : Int) + (Sd48.ins d.x.word).imm)
      · rw [if_pos c2, if_pos c2, if_neg fun z => absurd (show 3 = 0 from z.2) (by decide)]
      · rw [if_neg c2, if_neg c2]
        rcases c1 with c1 | c1
        · have n13 : ¬ op = 13 := by omega
          rw [if_pos ⟨c1, rfl⟩]
          simp only [if_neg n13]
        · have n12 : ¬ op = 12 := by omega
          rw [if_neg fun z => n12 z.1]
          simp only [if_pos c1]
    rw [ho]
    have M2 := M'.gSlot updT_same { d with x := { d.x with out := if 1024 ≤ Sd48.wrap ((u : Int) + (Sd48.ins d.x.word).imm) then ⟨3, 0, (d.x.pc + 1) % Sd48.W, 0⟩ else ⟨0, if (Sd48.ins d.x.word).op = 13 then v else Sd48.cellOf C.m.arch (C.m.slots.take kk) (Sd48.wrap ((u : Int) + (Sd48.ins d.x.word).imm)), (d.x.pc + 1) % Sd48.W, Sd48.wrap ((u : Int) + (Sd48.ins d.x.word).imm)⟩ }, goes := (((d.x.pc + 1) % Sd48.W : Nat) : Int) } (by
      unfold slotF
      simp only [hbl, hgo]
      split <;> rfl) rfl rfl rfl rfl rfl rfl rfl rfl rfl rfl
    simp only [CS.wT_T, updT_updT, CS.wT_wT] at M2
    have eg : (((if 1024 ≤ Sd48.wrap ((u : Int) + (Sd48.ins d.x.word).imm) then (⟨3, 0, (d.x.pc + 1) % Sd48.W, 0⟩ : Sd48.Out) else ⟨0, if (Sd48.ins d.x.word).op = 13 then v else Sd48.cellOf C.m.arch (C.m.slots.take kk) (Sd48.wrap ((u : Int) + (Sd48.ins d.x.word).imm)), (d.x.pc + 1) % Sd48.W, Sd48.wrap ((u : Int) + (Sd48.ins d.x.word).imm)⟩).next : Nat) : Int) = (((d.x.pc + 1) % Sd48.W : Nat) : Int) := by split <;> rfl
    rw [eg]
    exact M2
  by_cases c9 : op = 9
  · rw [if_pos (by omega)]
    by_cases cv : v = 0
    · rw [if_pos cv]
      exact fin (by omega) ⟨2, 0, (d.x.pc + 1) % Sd48.W, 0⟩ (by unfold Sd48.exec; simp only [hop, if_neg no0, if_neg no19]; rw [if_pos ⟨c9, cv⟩])
    · rw [if_neg cv, if_pos (by omega)]
      exact hcalc (by omega) fun z => cv z.2
  rw [if_neg (by omega)]
  have n9 : ¬ (op = 9 ∧ v = 0) := fun z => c9 z.1
  by_cases cl9 : op ≤ 9
  · rw [if_pos (by omega)]
    exact hcalc cl9 n9
  rw [if_neg (by omega)]
  by_cases c10 : op = 10
  · rw [if_pos (by omega)]
    exact fin (by omega) ⟨0, Sd48.wrap ((u : Int) + (Sd48.ins d.x.word).imm), (d.x.pc + 1) % Sd48.W, 0⟩ (by unfold Sd48.exec; simp only [hop, if_neg no0, if_neg no19, if_neg n9, if_neg cl9, if_pos c10])
  rw [if_neg (by omega)]
  by_cases c11 : op = 11
  · rw [if_pos (by omega)]
    refine ⟨⟨by omega, by omega, by omega⟩, ?_⟩
    rw [high_eq]
    exact fin (by omega) ⟨0, Sd48.wrap (Sd48.ins d.x.word).imm % 2 ^ 16 * 2 ^ 16, (d.x.pc + 1) % Sd48.W, 0⟩ (by unfold Sd48.exec; simp only [hop, if_neg no0, if_neg no19, if_neg n9, if_neg cl9, if_neg c10, if_pos c11])
  rw [if_neg (by omega)]
  by_cases c12 : op = 12
  · rw [if_pos (by omega)]
    exact hcell (.inl c12)
  rw [if_neg (by omega)]
  by_cases c13 : op = 13
  · rw [if_pos (by omega)]
    exact hcell (.inr c13)
  rw [if_neg (by omega)]
  have nc : ¬ (op = 12 ∨ op = 13) := by omega
  by_cases c17 : op = 17
  · rw [if_pos (by omega)]
    have n16 : ¬ op ≤ 16 := by omega
    exact fin (by omega) ⟨0, (d.x.pc + 1) % Sd48.W, Sd48.wrap (((d.x.pc + 1 : Nat) : Int) + (Sd48.ins d.x.word).imm), 0⟩ (by unfold Sd48.exec; simp only [hop, if_neg no0, if_neg no19, if_neg n9, if_neg cl9, if_neg c10, if_neg c11, if_neg nc, if_neg n16, if_pos c17])
  rw [if_neg (by omega)]
  by_cases c18 : op = 18
  · rw [if_pos (by omega)]
    have n16 : ¬ op ≤ 16 := by omega
    exact fin (by omega) ⟨0, 0, u, 0⟩ (by unfold Sd48.exec; simp only [hop, if_neg no0, if_neg no19, if_neg n9, if_neg cl9, if_neg c10, if_neg c11, if_neg nc, if_neg n16, if_neg c17])
  rw [if_neg (by omega)]
  have c16 : op ≤ 16 := by omega
  by_cases ct : Sd48.taken op u v = true
  · rw [if_pos ((tk_eq hu hv).mpr ct)]
    exact fin (by omega) ⟨0, 0, Sd48.wrap (((d.x.pc + 1 : Nat) : Int) + (Sd48.ins d.x.word).imm), 0⟩ (by unfold Sd48.exec; simp only [hop, if_neg no0, if_neg no19, if_neg n9, if_neg cl9, if_neg c10, if_neg c11, if_neg nc, if_pos c16, if_pos ct])
  · rw [if_neg fun z => ct ((tk_eq hu hv).mp z)]
    refine k _ ρ ?_
    have ho : outOf C.m.arch (C.m.slots.take kk) (Sd48.ins d.x.word) d.x.pc u v = ⟨0, 0, (d.x.pc + 1) % Sd48.W, 0⟩ := by
      unfold outOf
      rw [hop, if_neg fun z => by omega]
      unfold Sd48.exec
      simp only [hop, if_neg no0, if_neg no19, if_neg n9, if_neg cl9, if_neg c10, if_neg c11, if_neg nc, if_pos c16, if_neg ct]
    rw [ho]
    exact M.gSlot hd { d with x := { d.x with out := ⟨0, 0, (d.x.pc + 1) % Sd48.W, 0⟩ }, goes := (((d.x.pc + 1) % Sd48.W : Nat) : Int) } (by unfold slotF; simp only [hbl, hgo]; rfl) rfl rfl rfl rfl rfl rfl rfl rfl rfl rfl
end Ooo
namespace Ooo
open PySem L2 Ex
variable {P : Program} {w : World} {K : PySem.W.Frag} {mg : Str → Option Value} {base : Heap} {A : Ad}
theorem R.view {C : CS} (h : R C) {k : Nat} (hk : k ≤ C.q.length) : View C k := ⟨hk, fun j a _ hq => by
  obtain ⟨x, d, h1, h2, S⟩ := h.slot hq
  exact ⟨x, d, h1, h2, S.dx⟩⟩
def sp_bs (A : Ad) : Sp := fun vs H Q _ => ∃ (F : Hp) (p : Addr) (C : CS) (ρ : Addr → Role) (k a u v : Nat) (x : Sd48.Slot), vs = [.ref p, .int (k : Int), .ref a] ∧ Mod A H F p C ρ ∧ R C ∧ C.q[k]? = some a ∧ C.m.slots[k]? = some x ∧ x.phase = 0 ∧
  Sd48.avail C.m.arch (C.m.slots.take k) (Sd48.first (Sd48.ins x.word)) = some u ∧ Sd48.avail C.m.arch (C.m.slots.take k) (Sd48.second (Sd48.ins x.word)) = some v ∧
  ∀ (H' : Hp) (ρ' : Addr → Role) (C' : CS), Mod A H' F p C' ρ' → R C' → C'.q = C.q → C'.la = C.la → C'.m = { C.m with slots := C.m.slots.set k (beg C.m.arch (C.m.slots.take k) x u v) } → Q .non H'
theorem ok_bs (T : Txt K mg A) : FnOk P w K mg base CX0 7 A.f_Machine_begin_slot A.d_Machine_begin_slot ["self", "k", "slot"] (sp_bs A) := by
  have G_Machine_work_out : FnOk P w K mg base CX0 5 _ _ _ _ := ok_wo T
  refine T.F_Machine_begin_slot.ok sc_Machine_begin_slot (by rintro vs H Q E ⟨F, p, C, ρ, k, a, u, v, x, rfl, _⟩; rfl) (fun cdv Ar outer s H vs Q E hr h => ?_)
  obtain ⟨F, p, C, ρ, kk, a, u, v, x, rfl, M, hR, hq, hx, ph, hu, hv, k⟩ := h
  refine ⟨_, (pss_cons (ps_augS (pe_fld (pv 0) rfl) (pe_fld (pv 2) rfl) get_h pe_int ip_sub set_list)
    (pss_cons (ps_fld (pv 2) (pe_k T.v_RUNS) rfl)
    (pss_cons (ps_fld (pv 2) (pe_fld (pe_fld (pv 2) rfl) rfl) rfl)
    (pss_one (ps_expr (pe_meth (pv 0) T.c_Machine T.M_Machine_work_out G_Machine_work_out (hr.mono (by decide)) T.b_Machine_work_out .nil pass0 (pa_cons (pv 1) (pa_cons (pv 2) (pa_cons (pe_ix ix_h (pe_fld (pv 2) rfl) pe_int (fun _ _ => rfl)) (pa_cons (pe_ix ix_h (pe_fld (pv 2) rfl) pe_int (fun _ _ => rfl)) pa_nil)))))))))), ?_⟩
  obtain ⟨d, hd, S⟩ := hR.at_ kk a x hq hx
  have dx := S.dx
  have SA := M.slot a d hd
  have wf := hR.wf x (List.mem_of_getElem? hx)
  have h1 := SA.ob
  have h2 := M.mach
  have h3 := SA.ins
  have h4 := (M.lst .free).1
  have h5 := SA.ops
  have npa : p ≠ a := M.p_ne (by rw [SA.rl]; simp)
  have nia : d.ia ≠ a := fun z => by have := SA.rins; rw [z, SA.rl] at this; cases this
  have nfa : a ≠ C.la .free := fun z => by have := (M.lst .free).2; rw [← z, SA.rl] at this; cases this
  have nfi : d.ia ≠ C.la .free := fun z => by have := (M.lst .free).2; rw [← z, SA.rins] at this; cases this
  have nfo : d.oa ≠ C.la .free := fun z => by have := (M.lst .free).2; rw [← z, SA.rops] at this; cases this
  have noa : d.oa ≠ a := fun z => by have := SA.rops; rw [z, SA.rl] at this; cases this
  have npf : p ≠ C.la .free := M.p_ne (by rw [(M.lst .free).2]; simp)
  obtain ⟨z, hz, hf⟩ := freeOf_set (c := C.m.cfg) (x' := beg C.m.arch (C.m.slots.take kk) x u v) (δ := -1) hx rfl (by
    intro k hk
    unfold isB
    have e1 : (beg C.m.arch (C.m.slots.take kk) x u v).phase = 1 := rfl
    have e2 : (beg C.m.arch (C.m.slots.take kk) x u v).word = x.word := rfl
    rw [e1, e2]
    simp [ph, hk])
  rw [← hR.free] at hz
  have atz : atI (C.free.map V.int) ((Sd48.kind (Sd48.ins x.word) - 1 : Nat) : Int) = some (.int z) := atI_nat (by rw [List.getElem?_map, hz]; rfl)
  have ixz : ixN C.free.length ((Sd48.kind (Sd48.ins x.word) - 1 : Nat) : Int) = some (Sd48.kind (Sd48.ins x.word) - 1) := ix_nat (List.getElem?_eq_some_iff.mp hz).1
  have o0 : d.ops false = (u : Int) := S.ops false u hu
  have o1 : d.ops true = (v : Int) := S.ops true v hv
  have at0 : atI [V.int (u : Int), V.int (v : Int)] 0 = some (V.int (u : Int)) := rfl
  have at1 : atI [V.int (u : Int), V.int (v : Int)] 1 = some (V.int (v : Int)) := rfl
  rw [o0, o1] at h5
  have M1 := M.wList .free { C with free := C.free.set (Sd48.kind (Sd48.ins x.word) - 1) (z - 1) } rfl rfl rfl (by intro k hk; cases k <;> first | rfl | exact absurd rfl hk) rfl rfl rfl
  rw [lv_free, List.map_set] at M1
  have M2 := M1.wSlot hd { d with x := { x with phase := 1, left := Sd48.latency (Sd48.ins x.word) } } rfl rfl rfl rfl rfl rfl rfl (by rw [dx]) (by rw [dx]) rfl
  simp [h1, h2, h3, h4, h5, machF, slotF, insF, dx, atz, ixz, at0, at1, upd_ne npa, upd_ne nia, upd_ne nfa, upd_ne nfi, upd_ne nfo, upd_ne noa, upd_ne npf, T.c_Slot, T.c_Instruction, T.c_Machine, T.n_Slot_state, T.n_Slot_cycles_left, T.n_Instruction_cycles, T.n_Machine_free_units, T.n_Instruction_unit, T.n_Slot_unit, T.n_Slot_instruction, T.n_Slot_operands]
  have ok := outOf_ok hR.arch (l := C.m.slots.take kk) (fun y hy => (hR.wf y (List.mem_of_mem_take hy)).val) (i := Sd48.ins x.word) (pc := x.pc) (hR.avail_lt hu) (hR.avail_lt hv)
  have no : sureOf C.m.prog x.pc x.word = 0 := by
    rcases Nat.eq_zero_or_pos (sureOf C.m.prog x.pc x.word) with z | z
    · exact z
    · have := (wf.sure (by omega)).1
      omega
  have ops : 1 ≤ (Sd48.ins x.word).op ∧ (Sd48.ins x.word).op ≤ 18 := by
    unfold sureOf at no
    split at no
    · omega
    split at no
    · omega
    split at no <;> omega
  refine ⟨F, p, _, ρ, kk, a, u, v, _, rfl, M2, ⟨Nat.le_of_lt (List.getElem?_eq_some_iff.mp hq).1, fun j b hj hb => ?_⟩, hR.arch.cells, updT_same, fun j hj hb => ?_, hR.avail_lt hu, hR.avail_lt hv, ops.1, ops.2, (wf.blank ph).1, S.goes0 ph, fun H' ρ' M' => ?_⟩
  · obtain ⟨y, e, q1, q2, S'⟩ := hR.slot (i := j) (a := b) hb
    have : b ≠ a := fun z => by
      have := q_ix hR.nd hb (by rw [z]; exact hq)
      omega
    exact ⟨y, e, q1, (updT_ne this).trans q2, S'.dx⟩
  · have := q_ix hR.nd hb hq
    omega
  · simp only [CS.wT_T, updT_updT, CS.wT_wT] at M'
    refine k H' ρ' { C with m := { C.m with slots := C.m.slots.set kk (beg C.m.arch (C.m.slots.take kk) x u v) }, T := updT C.T a { d with x := beg C.m.arch (C.m.slots.take kk) x u v, goes := ((beg C.m.arch (C.m.slots.take kk) x u v).out.next : Int) }, free := C.free.set (Sd48.kind (Sd48.ins x.word) - 1) (z - 1) } ?_ ?_ rfl rfl rfl
    · exact M'.ghost _ rfl rfl rfl rfl rfl rfl rfl
    · exact hR.soft (d' := { d with x := beg C.m.arch (C.m.slots.take kk) x u v, goes := ((beg C.m.arch (C.m.slots.take kk) x u v).out.next : Int) }) hq hx hd rfl rfl rfl rfl rfl rfl rfl rfl rfl rfl (by omega) (by show 1 ≠ 3; decide) (beg_wf wf ph ok) (fun z => absurd (show 1 = 0 from z) (by decide)) (fun _ _ => rfl) (by rw [hf, hR.free]; rfl)
theorem issued_cons (m : Sd48.M) (older : List Sd48.Slot) (x : Sd48.Slot) (r : List Sd48.Slot) : Sd48.issued m older (x :: r) = Sd48.issued m (older ++ [Sd48.begun m older x r]) r := rfl
def sdone (l : List Sd48.Slot) : Bool := l.all fun y => !Sd48.isStore y || y.phase == 3
theorem sdone_snoc (l : List Sd48.Slot) (y : Sd48.Slot) : sdone (l ++ [y]) = (sdone l && (!Sd48.isStore y || y.phase == 3)) := by
  unfold sdone
  simp
theorem units_le (c : Sd48.Cfg) (l : List Sd48.Slot) (i : Sd48.Ins) : ∃ z, (freeOf c l)[Sd48.kind i - 1]? = some z ∧ z = (Sd48.units c (Sd48.kind i) : Int) - Sd48.busy (Sd48.kind i) l := by
  unfold freeOf
  rcases kind_cases i with e | e | e | e <;> rw [e] <;> exact ⟨_, rfl, rfl⟩
def sp_begin (A : Ad) : Sp := fun vs H Q _ => ∃ (F : Hp) (p : Addr) (C : CS) (ρ : Addr → Role), vs = [.ref p] ∧ Mod A H F p C ρ ∧ R C ∧
  ∀ (H' : Hp) (ρ' : Addr → Role) (C' : CS), Mod A H' F p C' ρ' → R C' → C'.m = { C.m with slots := Sd48.issued C.m [] C.m.slots } → Q .non H'
theorem ok_begin (T : Txt K mg A) : FnOk P w K mg base CX0 9 A.f_Machine_let_begin A.d_Machine_let_begin ["self"] (sp_begin A) := by
  have G_Machine_begin_slot : FnOk P w K mg base CX0 7 _ _ _ _ := ok_bs T
  refine T.F_Machine_let_begin.ok sc_Machine_let_begin (by rintro vs H Q E ⟨F, p, C, ρ, rfl, _⟩; rfl) (fun cdv Ar outer s H vs Q E hr h => ?_)
  obtain ⟨F, p, C, ρ, rfl, M, hR, k⟩ := h
  refine ⟨_, (pss_cons (ps_set (i := 1) sc_Machine_let_begin.nd rfl (Or.inl rfl) pe_bl)
    (pss_one (ps_for PassesOwn.never rfl (pi_enumH rfl T.z_enumerate (pa_cons (pe_fld (pv 0) rfl) pa_nil)) (pg_tupH (n := 2) rfl (pgs_cons (pg_name (i := 2) sc_Machine_let_begin.nd rfl (Or.inl rfl)) (pgs_cons (pg_name (i := 3) sc_Machine_let_begin.nd rfl (Or.inl rfl)) pgs_nil))) (pss_cons (ps_cut (ps_if (PW.pt (pw_and (pt_cmpR op_eq (pe_fld (pv 3) rfl) (pe_k T.v_WAITS) (nomark _)) (pw_and (pt_cmpR op_eq (pe_fld (pv 3) rfl) pe_int (nomark _)) (pw_and1 (pt_cmpR op_gt (pe_ix ix_h (pe_fld (pv 0) rfl) (pe_fld (pv 3) rfl) (fun _ _ => rfl)) pe_int (nomark _)))))) (pss_one (ps_if (PW.pt (pw_or (pt_val (pv 1)) (pw_or1 (pt_cmpR op_ne (pe_fld (pv 3) rfl) (pe_k T.v_LOAD) (nomark _))))) (pss_one (ps_expr (pe_meth (pv 0) T.c_Machine T.M_Machine_begin_slot G_Machine_begin_slot (hr.mono (by decide)) T.b_Machine_begin_slot .nil pass0 (pa_cons (pv 2) (pa_cons (pv 3) pa_nil))))) pss_nil)) pss_nil))
    (pss_one (ps_if (PW.pt (pw_and (pt_cmpR op_eq (pe_fld (pv 3) rfl) (pe_k T.v_STORE) (nomark _)) (pw_and1 (pt_cmpR op_ne (pe_fld (pv 3) rfl) (pe_k T.v_DONE) (nomark _))))) (pss_one (ps_set (i := 1) sc_Machine_let_begin.nd rfl (Or.inl rfl) pe_bl)) pss_nil)))))), ?_⟩
  have h1 := M.mach
  have h2 := (M.lst .slots).1
  simp [h1, h2, machF, T.c_Machine, T.c_Slot, T.c_Instruction, T.n_Machine_slots, T.n_Slot_state, T.n_Slot_missing, T.n_Instruction_op, T.n_Slot_op, T.n_Machine_free_units, T.n_Instruction_unit, T.n_Slot_unit]
  refine loop_enum (xs := C.q.map V.ref) (fun i σ H' => ∃ (ρ' : Addr → Role) (C' : CS) (v v' : Option V) (sl : List Sd48.Slot), σ = [some (.ref p), some (.bl (sdone (sl.take i))), v, v'] ∧ Mod A H' F p C' ρ' ∧ R C' ∧ C'.q = C.q ∧ C'.la = C.la ∧ C'.m = { C.m with slots := sl } ∧ sl.drop i = C.m.slots.drop i ∧ Sd48.issued C.m (sl.take i) (C.m.slots.drop i) = Sd48.issued C.m [] C.m.slots) ?_ ?_ ?_ ?_
  · exact ⟨ρ, C, none, none, C.m.slots, rfl, M, hR, rfl, rfl, rfl, rfl, rfl⟩
  · rintro i σ H' hi ⟨ρ', C', v, v', sl, rfl, M', R', eq, ela, _⟩
    have := (M'.lst .slots).1
    rw [lv_slots, eq, ela] at this
    exact this
  · rintro i x t σ H' hx ⟨ρ', C', v, v', sl, rfl, M', R', eq, ela, em, edr, erun⟩ ht
    rw [List.getElem?_map] at hx
    cases ea : C.q[i]? with
    | none => rw [ea] at hx; cases hx
    | some a =>
      rw [ea] at hx
      have ex : x = V.ref a := (Option.some.inj hx).symm
      subst ex
      have M0 := M'.alloc ht (.tup [.int (i : Int), .ref a]) .no
      have htup : upd H' t (.tup [.int (i : Int), .ref a]) t = some (.tup [.int (i : Int), .ref a]) := upd_same
      generalize upd H' t (.tup [.int (i : Int), .ref a]) = H0 at M0 htup ⊢
      generalize setR ρ' t .no = ρ0 at M0
      have hq' : C'.q[i]? = some a := by rw [eq]; exact ea
      obtain ⟨x, d, hxs, hd, S⟩ := R'.slot hq'
      have dx := S.dx
      have g1 := (M0.slot a d hd).ob
      have g2 := M0.mach
      have g3 := (M0.lst .free).1
      have wfx := R'.wf x (List.mem_of_getElem? hxs)
      have hxl : sl[i]? = some x := by rw [em] at hxs; exact hxs
      have hlen : i < sl.length := (List.getElem?_eq_some_iff.mp hxl).1
      have edrop : C.m.slots.drop i = x :: C.m.slots.drop (i + 1) := by
        rw [← edr]
        obtain ⟨hi2, e2⟩ := List.getElem?_eq_some_iff.mp hxl
        have : C.m.slots.drop (i + 1) = sl.drop (i + 1) := by
          have := congrArg (List.drop 1) edr
          simpa [List.drop_drop, Nat.add_comm] using this.symm
        rw [this, ← e2, List.getElem_cons_drop]
      have edr1 : sl.drop (i + 1) = C.m.slots.drop (i + 1) := by
        have := congrArg (List.drop 1) edr
        simpa [List.drop_drop, Nat.add_comm] using this
      rw [edrop, issued_cons] at erun
      simp [htup]
      simp only [r_tCut]
      generalize hb : Sd48.begun C.m (sl.take i) x (C.m.slots.drop (i + 1)) = x1 at erun
      refine ⟨fun σ' H' => ∃ (ρ' : Addr → Role) (C' : CS), σ' = [some (.ref p), some (.bl (sdone (sl.take i))), some (.int (i : Int)), some (.ref a)] ∧ Mod A H' F p C' ρ' ∧ R C' ∧ C'.q = C.q ∧ C'.la = C.la ∧ C'.m = { C.m with slots := sl.set i x1 }, ?_, ?_⟩
      · -- whether it begins
        have em' : C'.m.arch = C.m.arch := by rw [em]
        have emc : C'.m.cfg = C.m.cfg := by rw [em]
        have ems : C'.m.slots = sl := by rw [em]
        obtain ⟨z, hz, ez⟩ := units_le C'.m.cfg C'.m.slots (Sd48.ins x.word)
        rw [← R'.free] at hz
        have atz : atI (C'.free.map V.int) ((Sd48.kind (Sd48.ins x.word) - 1 : Nat) : Int) = some (.int z) := atI_nat (by rw [List.getElem?_map, hz]; rfl)
        have stay : x1 = x → ∃ (ρ' : Addr → Role) (C' : CS), Mod A H0 F p C' ρ' ∧ R C' ∧ C'.q = C.q ∧ C'.la = C.la ∧ C'.m = { C.m with slots := sl.set i x1 } := by
          intro e
          refine ⟨ρ0, C', M0, R', eq, ela, ?_⟩
          have : sl.set i x = sl := by rw [set_at hxl, ← split_at hxl]
          rw [e, this, em]
        have go : ∀ u v, x.phase = 0 → Sd48.avail C.m.arch (sl.take i) (Sd48.first (Sd48.ins x.word)) = some u → Sd48.avail C.m.arch (sl.take i) (Sd48.second (Sd48.ins x.word)) = some v → 0 < z → ((Sd48.ins x.word).op = 12 → sdone (sl.take i) = true) →
            sp_bs A [V.ref p, V.int (i : Int), V.ref a] H0 (fun x H1 => ∃ (ρ' : Addr → Role) (C' : CS), Mod A H1 F p C' ρ' ∧ R C' ∧ C'.q = C.q ∧ C'.la = C.la ∧ C'.m = { C.m with slots := sl.set i x1 }) E0 := by
          intro u v ph hu hv hz0 hst
          refine ⟨F, p, C', ρ0, i, a, u, v, x, rfl, M0, R', hq', hxs, ph, by rw [em', ems]; exact hu, by rw [em', ems]; exact hv, fun H2 ρ2 C2 M2 R2 q2 l2 m2 => ⟨ρ2, C2, M2, R2, q2.trans eq, l2.trans ela, ?_⟩⟩
          rw [m2, em', ems, em]
          have : x1 = beg C.m.arch (sl.take i) x u v := by
            rw [← hb]
            refine begun_yes ph hu hv ?_ hst
            rw [← edr1, busy_waits hxl ph]
            rw [emc, ems] at ez
            omega
          rw [this]
        have mis := S.mis
        rw [em', ems] at mis
        have r0 : rd (Sd48.ins x.word) false = Sd48.first (Sd48.ins x.word) := rfl
        have r1 : rd (Sd48.ins x.word) true = Sd48.second (Sd48.ins x.word) := rfl
        rw [r0, r1] at mis
        simp [g1, g2, g3, slotF, machF, dx, atz, T.c_Machine, T.c_Slot, T.c_Instruction, T.n_Machine_slots, T.n_Slot_state, T.n_Slot_missing, T.n_Instruction_op, T.n_Slot_op, T.n_Machine_free_units, T.n_Instruction_unit, T.n_Slot_unit]
        by_cases ph : x.phase = 0
        · rw [if_pos ph]
          cases hu : Sd48.avail C.m.arch (sl.take i) (Sd48.first (Sd48.ins x.word)) with
          | none =>
            have : ¬ d.missing = 0 := by
              rw [mis]
              unfold pn
              rw [hu, if_pos rfl]
              split <;> decide
            rw [if_neg this]
            exact stay (by rw [← hb]; exact begun_no (.inr (.inl hu)))
          | some u =>
            cases hv : Sd48.avail C.m.arch (sl.take i) (Sd48.second (Sd48.ins x.word)) with
            | none =>
              have : ¬ d.missing = 0 := by
                rw [mis]
                unfold pn
                rw [hu, hv]
                simp
              rw [if_neg this]
              exact stay (by rw [← hb]; exact begun_no (.inr (.inr (.inl hv))))
            | some v =>
              have : d.missing = 0 := by
                rw [mis]
                unfold pn
                rw [hu, hv]
                simp
              rw [if_pos this]
              by_cases hz0 : 0 < z
              · rw [if_pos hz0]
                by_cases hs : sdone (sl.take i) = true
                · rw [if_pos hs]
                  exact go u v ph hu hv hz0 fun _ => hs
                · rw [if_neg hs]
                  by_cases h12 : (Sd48.ins x.word).op = 12
                  · rw [if_pos (by omega)]
                    exact stay (by rw [← hb]; exact begun_no (.inr (.inr (.inr (.inr ⟨h12, by simpa [sdone] using hs⟩)))))
                  · rw [if_neg (by omega)]
                    exact go u v ph hu hv hz0 fun z => absurd z h12
              · rw [if_neg hz0]
                refine stay ?_
                rw [← hb]
                refine begun_no (.inr (.inr (.inr (.inl ?_))))
                rw [← edr1, busy_waits hxl ph]
                rw [emc, ems] at ez
                omega
        · rw [if_neg ph]
          exact stay (by rw [← hb]; exact begun_no (.inl ph))
      · rintro σ1 H1 ⟨ρ1, C1, rfl, M1, R1, eq1, ela1, em1⟩
        have hq1 : C1.q[i]? = some a := by rw [eq1]; exact ea
        obtain ⟨x1', d1, hx1, hd1, S1⟩ := R1.slot hq1
        have ex1 : x1' = x1 := by
          rw [em1] at hx1
          have : (sl.set i x1)[i]? = some x1' := hx1
          rw [List.getElem?_set_self hlen] at this
          exact (Option.some.inj this).symm
        subst ex1
        have f1 := (M1.slot a d1 hd1).ob
        have dx1 := S1.dx
        have tk : (sl.set i x1').take (i + 1) = sl.take i ++ [x1'] := by
          rw [List.take_succ, List.take_set_of_le (Nat.le_refl i), List.getElem?_set_self hlen]
          rfl
        have fin : ∀ b : Bool, b = sdone ((sl.set i x1').take (i + 1)) → ∃ (ρ' : Addr → Role) (C' : CS) (v v' : Option V) (sl_1 : List Sd48.Slot), (b = sdone (sl_1.take (i + 1)) ∧ some (V.int (i : Int)) = v ∧ some (V.ref a) = v') ∧ Mod A H1 F p C' ρ' ∧ R C' ∧ C'.q = C.q ∧ C'.la = C.la ∧ C'.m = { C.m with slots := sl_1 } ∧ sl_1.drop (i + 1) = C.m.slots.drop (i + 1) ∧ Sd48.issued C.m (sl_1.take (i + 1)) (C.m.slots.drop (i + 1)) = Sd48.issued C.m [] C.m.slots := by
          intro b hb
          refine ⟨ρ1, C1, _, _, sl.set i x1', ⟨hb, rfl, rfl⟩, M1, R1, eq1, ela1, em1, ?_, ?_⟩
          · rw [List.drop_set_of_lt (by omega)]
            exact edr1
          · rw [tk]
            exact erun
        rw [tk, sdone_snoc] at fin
        simp [f1, slotF, dx1, T.c_Machine, T.c_Slot, T.c_Instruction, T.n_Machine_slots, T.n_Slot_state, T.n_Slot_missing, T.n_Instruction_op, T.n_Slot_op, T.n_Machine_free_units, T.n_Instruction_unit, T.n_Slot_unit]
        by_cases c1 : (Sd48.ins x1'.word).op = 13
        · rw [if_pos (by omega)]
          by_cases c2 : x1'.phase = 3
          · rw [if_pos (by omega)]
            exact fin _ (by simp [c2])
          · rw [if_neg (by omega)]
            obtain ⟨a1, a2, a3, a4, a5, ⟨b1, b2, b3⟩, rest⟩ := fin false (by unfold Sd48.isStore; simp [c1, c2])
            exact ⟨a1, a2, a3, a4, a5, ⟨b1.symm, b2, b3⟩, rest⟩
        · rw [if_neg (by omega)]
          exact fin _ (by unfold Sd48.isStore; simp [c1])
  · rintro σ H' ⟨ρ', C', v, v', sl, rfl, M', R', eq, ela, em, edr, erun⟩
    refine k H' ρ' C' M' R' ?_
    have hl := R'.len
    have hl' := hR.len
    rw [eq, em] at hl
    have hl2 : C.q.length = sl.length := hl
    rw [List.length_map, List.drop_of_length_le (by omega), List.take_of_length_le (by omega)] at erun
    rw [em, ← erun]
    rfl
end Ooo
namespace Ooo
open PySem L2 Ex
variable {P : Program} {w : World} {K : PySem.W.Frag} {mg : Str → Option Value} {base : Heap} {A : Ad}
def sp_ff (A : Ad) : Sp := fun vs H Q _ => ∃ (F : Hp) (p : Addr) (C : CS) (ρ : Addr → Role) (pl : Int), vs = [.ref p, .int pl] ∧ Mod A H F p C ρ ∧
  ∀ (H' : Hp) (ρ' : Addr → Role) (la' : LN → Nat), Mod A H' F p { C with la := la', q := [], set := List.replicate 16 none, free := freeOf C.m.cfg [], fp := pl } ρ' → Q .non H'
theorem ok_ff (T : Txt K mg A) : FnOk P w K mg base CX0 1 A.f_Machine_fetch_from A.d_Machine_fetch_from ["self", "place"] (sp_ff A) := by
  refine T.F_Machine_fetch_from.ok sc_Machine_fetch_from (by rintro vs H Q E ⟨F, p, C, ρ, pl, rfl, _⟩; rfl) (fun cdv Ar outer s H vs Q E hr h => ?_)
  obtain ⟨F, p, C, ρ, pl, rfl, M, k⟩ := h
  refine ⟨_, (pss_cons (ps_cut (ps_fld (pv 0) (pe_lst pa_nil) rfl))
    (pss_cons (ps_cut (ps_fld (pv 0) (pe_op op_rep (pe_lst (pa_cons pe_non pa_nil)) pe_int) rfl))
    (pss_cons (ps_cut (ps_fld (pv 0) (pe_callTy call_list_h (by rfl) T.z_list boot_listO (pa_cons (pe_fld (pv 0) rfl) pa_nil)) rfl))
    (pss_one (ps_fld (pv 0) (pv 1) rfl))))), ?_⟩
  have s1 : 1 ≤ sizeLine := by decide
  have s16 : 16 ≤ sizeLine := by decide
  simp only [r_tSeq, r_tCut]
  refine ⟨fun σ H' => ∃ (ρ' : Addr → Role) (la' : LN → Nat), σ = [some (.ref p), some (.int pl)] ∧ Mod A H' F p { C with la := la', q := [] } ρ', ?_, ?_⟩
  · simp
    intro x hx
    have M1 := M.alloc hx (.lst []) (.ml .slots)
    have M2 := M1.nList .slots { C with la := fun k => if k = .slots then x else C.la k, q := [] } upd_same setR_same rfl rfl (by intro k hk; cases k <;> first | rfl | exact absurd rfl hk) rfl rfl rfl
    have npx : p ≠ x := ne_of_none M.mach hx
    have h1 := M.mach
    simp [h1, machF, upd_ne npx, T.c_Machine, T.n_Machine_slots, T.n_Machine_setters, T.n_Machine_free_units, T.n_Machine_fetch_place, T.n_Machine_units]
    exact ⟨_, _, M2⟩
  rintro σ1 H1 ⟨ρ1, la1, rfl, M1⟩
  refine ⟨fun σ H' => ∃ (ρ' : Addr → Role) (la' : LN → Nat), σ = [some (.ref p), some (.int pl)] ∧ Mod A H' F p { C with la := la', q := [], set := List.replicate 16 none } ρ', ?_, ?_⟩
  · simp [s1]
    intro x hx
    have M2 := M1.alloc hx (.lst [.non]) .no
    simp [s16]
    intro y hy
    have M3 := M2.alloc hy (.lst ((List.replicate 16 none).map oa)) (.ml .setters)
    have M4 := M3.nList .setters { C with la := fun k => if k = .setters then y else la1 k, q := [], set := List.replicate 16 none } upd_same setR_same rfl rfl (by intro k hk; cases k <;> first | rfl | exact absurd rfl hk) rfl rfl rfl
    have h1 := M1.mach
    have npx : p ≠ x := ne_of_none M1.mach hx
    have npy : p ≠ y := ne_of_none M2.mach hy
    simp [h1, machF, upd_ne npx, upd_ne npy, T.c_Machine, T.n_Machine_slots, T.n_Machine_setters, T.n_Machine_free_units, T.n_Machine_fetch_place, T.n_Machine_units]
    exact ⟨_, _, M4⟩
  rintro σ2 H2 ⟨ρ2, la2, rfl, M2⟩
  refine ⟨fun σ H' => ∃ (ρ' : Addr → Role) (la' : LN → Nat), σ = [some (.ref p), some (.int pl)] ∧ Mod A H' F p { C with la := la', q := [], set := List.replicate 16 none, free := freeOf C.m.cfg [] } ρ', ?_, ?_⟩
  · have h1 := M2.mach
    have h2 := (M2.lst .units).1
    have e : lv { C with la := la2, q := [], set := List.replicate 16 none } .units = (freeOf C.m.cfg []).map V.int := by
      show nv [C.m.cfg.alu, C.m.cfg.mul, C.m.cfg.div, C.m.cfg.mem] = _
      unfold freeOf
      simp [busy_nil, nv, Sd48.units]
    rw [e] at h2
    simp [h1, h2, machF, T.c_Machine, T.n_Machine_slots, T.n_Machine_setters, T.n_Machine_free_units, T.n_Machine_fetch_place, T.n_Machine_units]
    intro x hx
    have M3 := M2.alloc hx (.lst ((freeOf C.m.cfg []).map V.int)) (.ml .free)
    have M4 := M3.nList .free { C with la := fun k => if k = .free then x else la2 k, q := [], set := List.replicate 16 none, free := freeOf C.m.cfg [] } upd_same setR_same rfl rfl (by intro k hk; cases k <;> first | rfl | exact absurd rfl hk) rfl rfl rfl
    have npx : p ≠ x := ne_of_none M2.mach hx
    simp [h1, machF, upd_ne npx, T.c_Machine, T.n_Machine_slots, T.n_Machine_setters, T.n_Machine_free_units, T.n_Machine_fetch_place, T.n_Machine_units]
    exact ⟨_, _, M4⟩
  rintro σ3 H3 ⟨ρ3, la3, rfl, M3⟩
  have h1 := M3.mach
  simp [h1, machF, T.c_Machine, T.n_Machine_slots, T.n_Machine_setters, T.n_Machine_free_units, T.n_Machine_fetch_place, T.n_Machine_units]
  exact k _ ρ3 la3 (M3.wMach { C with la := la3, q := [], set := List.replicate 16 none, free := freeOf C.m.cfg [], fp := pl } rfl rfl rfl rfl rfl rfl)
def sp_ta (A : Ad) : Sp := fun vs H Q _ => ∃ (F : Hp) (p : Addr) (C : CS) (ρ : Addr → Role) (pl : Int), vs = [.ref p, .int pl] ∧ Mod A H F p C ρ ∧
  ∀ (H' : Hp) (ρ' : Addr → Role) (la' : LN → Nat), Mod A H' F p { C with m := { C.m with wrong := C.m.wrong + 1, thrown := C.m.thrown + C.q.length }, la := la', q := [], set := List.replicate 16 none, free := freeOf C.m.cfg [], fp := pl } ρ' → Q .non H'
theorem ok_ta (T : Txt K mg A) : FnOk P w K mg base CX0 3 A.f_Machine_throw_away A.d_Machine_throw_away ["self", "place"] (sp_ta A) := by
  have G_Machine_fetch_from : FnOk P w K mg base CX0 1 _ _ _ _ := ok_ff T
  refine T.F_Machine_throw_away.ok sc_Machine_throw_away (by rintro vs H Q E ⟨F, p, C, ρ, pl, rfl, _⟩; rfl) (fun cdv Ar outer s H vs Q E hr h => ?_)
  obtain ⟨F, p, C, ρ, pl, rfl, M, k⟩ := h
  refine ⟨_, (pss_cons (ps_cut (ps_fldaug (pv 0) pe_int in_add))
    (pss_cons (ps_cut (ps_fldaug (pv 0) (pe_callB call_len_h (by rfl) T.z_len PySem.boot_len (pa_cons (pe_fld (pv 0) rfl) pa_nil)) in_add))
    (pss_one (ps_expr (pe_meth (pv 0) T.c_Machine T.M_Machine_fetch_from G_Machine_fetch_from (hr.mono (by decide)) T.b_Machine_fetch_from .nil pass0 (pa_cons (pv 1) pa_nil)))))), ?_⟩
  simp only [r_tSeq, r_tCut]
  refine ⟨fun σ H' => ∃ (ρ' : Addr → Role), σ = [some (.ref p), some (.int pl)] ∧ Mod A H' F p { C with m := { C.m with wrong := C.m.wrong + 1 } } ρ', ?_, ?_⟩
  · have h1 := M.mach
    simp [h1, machF, T.c_Machine, T.n_Machine_wrong_guesses, T.n_Machine_thrown_away, T.n_Machine_slots]
    exact ⟨ρ, M.wMach { C with m := { C.m with wrong := C.m.wrong + 1 } } rfl rfl rfl rfl rfl rfl⟩
  rintro σ1 H1 ⟨ρ1, rfl, M1⟩
  refine ⟨fun σ H' => ∃ (ρ' : Addr → Role), σ = [some (.ref p), some (.int pl)] ∧ Mod A H' F p { C with m := { C.m with wrong := C.m.wrong + 1, thrown := C.m.thrown + C.q.length } } ρ', ?_, ?_⟩
  · have h1 := M1.mach
    have h2 := (M1.lst .slots).1
    simp [h1, h2, machF, T.c_Machine, T.n_Machine_wrong_guesses, T.n_Machine_thrown_away, T.n_Machine_slots]
    exact ⟨ρ1, M1.wMach { C with m := { C.m with wrong := C.m.wrong + 1, thrown := C.m.thrown + C.q.length } } rfl rfl rfl rfl rfl rfl⟩
  rintro σ2 H2 ⟨ρ2, rfl, M2⟩
  have h1 := M2.mach
  simp [h1, machF, T.c_Machine, T.n_Machine_wrong_guesses, T.n_Machine_thrown_away, T.n_Machine_slots]
  exact ⟨F, p, _, ρ2, pl, rfl, M2, fun H' ρ' la' M' => k H' ρ' la' M'⟩
def sp_cb (A : Ad) : Sp := fun vs H Q _ => ∃ (F : Hp) (p : Addr) (C : CS) (ρ : Addr → Role) (a : Addr) (d : SD), vs = [.ref p, .ref a] ∧ Mod A H F p C ρ ∧ C.T a = some d ∧ d.goes = (d.x.out.next : Int) ∧ C.m.table ≠ [] ∧
  ∀ (H' : Hp) (ρ' : Addr → Role), Mod A H' F p { C with m := { C.m with table := Sd48.learned C.m.table d.x.pc (d.x.out.next != (d.x.pc + 1) % Sd48.W) } } ρ' → Q .non H'
theorem ok_cb (T : Txt K mg A) : FnOk P w K mg base CX0 1 A.f_Machine_count_branch A.d_Machine_count_branch ["self", "slot"] (sp_cb A) := by
  refine T.F_Machine_count_branch.ok sc_Machine_count_branch (by rintro vs H Q E ⟨F, p, C, ρ, a, d, rfl, _⟩; rfl) (fun cdv Ar outer s H vs Q E hr h => ?_)
  obtain ⟨F, p, C, ρ, a, d, rfl, M, hd, hgo, ht, k⟩ := h
  refine ⟨_, (pss_cons (ps_set (i := 2) sc_Machine_count_branch.nd rfl (Or.inl rfl) (pe_op op_mod (pe_fld (pe_fld (pv 1) rfl) rfl) (pe_callB call_len_h (by rfl) T.z_len PySem.boot_len (pa_cons (pe_fld (pv 0) rfl) pa_nil))))
    (pss_one (ps_if (pt_cmpR op_ne (pe_fld (pv 1) rfl) (pe_fld (pe_fld (pv 1) rfl) rfl) (nomark _)) (pss_one (ps_asg (pe_callB (call_min_h rfl) (by rfl) T.z_min boot_minO (pa_cons (pe_op op_add (pe_ix ix_h (pe_fld (pv 0) rfl) (pv 2) (fun _ _ => rfl)) pe_int) (pa_cons pe_int pa_nil))) (pg_sub (pe_fld (pv 0) rfl) (pv 2) set_list))) (pss_one (ps_asg (pe_callB (call_max_h rfl) (by rfl) T.z_max boot_maxO (pa_cons (pe_op op_sub (pe_ix ix_h (pe_fld (pv 0) rfl) (pv 2) (fun _ _ => rfl)) pe_int) (pa_cons pe_int pa_nil))) (pg_sub (pe_fld (pv 0) rfl) (pv 2) set_list)))))), ?_⟩
  have S := M.slot a d hd
  have h1 := M.mach
  have h2 := (M.lst .counters).1
  have h3 := S.ob
  have h4 := S.ins
  have tl : 0 < C.m.table.length := by
    cases e : C.m.table with
    | nil => exact absurd e ht
    | cons _ _ => simp
  have lt := Nat.mod_lt d.x.pc tl
  have e := List.getElem?_eq_getElem lt
  have e2 : ((d.x.pc : Int) % (C.m.table.length : Int)) = ((d.x.pc % C.m.table.length : Nat) : Int) := by simp
  have at1 : atI (nv C.m.table) ((d.x.pc : Int) % (C.m.table.length : Int)) = some (.int (C.m.table[d.x.pc % C.m.table.length] : Nat)) := by rw [e2]; exact at_nv e
  have ix1 : ixN C.m.table.length ((d.x.pc : Int) % (C.m.table.length : Int)) = some (d.x.pc % C.m.table.length) := by rw [e2]; exact ix_nat lt
  have fin : ∀ n : Nat, (Sd48.learned C.m.table d.x.pc (d.x.out.next != (d.x.pc + 1) % Sd48.W)) = C.m.table.set (d.x.pc % C.m.table.length) n → Q .non (upd H (C.la .counters) (.lst ((nv C.m.table).set (d.x.pc % C.m.table.length) (.int (n : Int))))) := by
    intro n hn
    refine k _ ρ ?_
    rw [hn, nv_set]
    exact M.wList .counters { C with m := { C.m with table := C.m.table.set (d.x.pc % C.m.table.length) n } } rfl rfl rfl (by intro k hk; cases k <;> first | rfl | exact absurd rfl hk) rfl rfl rfl
  simp [h1, h2, h3, h4, machF, slotF, insF, at1, ix1, tl, hgo, T.c_Instruction, T.c_Slot, T.c_Machine, T.n_Instruction_place, T.n_Slot_goes_on, T.n_Instruction_following, T.n_Slot_instruction, T.n_Machine_counters]
  have eg : C.m.table.getD (d.x.pc % C.m.table.length) 0 = C.m.table[d.x.pc % C.m.table.length] := by rw [List.getD_eq_getElem?_getD, e]; rfl
  have on : ((d.x.pc : Int) + 1) % (Sd48.W : Int) = (((d.x.pc + 1) % Sd48.W : Nat) : Int) := by simp
  rw [on]
  by_cases c : d.x.out.next = (d.x.pc + 1) % Sd48.W
  · rw [if_pos (by rw [c])]
    have := fin (C.m.table[d.x.pc % C.m.table.length] - 1) (by
      unfold Sd48.learned
      rw [if_neg ht]
      simp [c, e])
    have en : ((C.m.table[d.x.pc % C.m.table.length] - 1 : Nat) : Int) = if (C.m.table[d.x.pc % C.m.table.length] : Int) - 1 < 0 then 0 else (C.m.table[d.x.pc % C.m.table.length] : Int) - 1 := by split <;> omega
    rw [← en]
    exact this
  · rw [if_neg (show ¬ ((d.x.out.next : Int) = (((d.x.pc + 1) % Sd48.W : Nat) : Int)) from fun z => c (Int.ofNat.inj z))]
    have := fin (min 3 (C.m.table[d.x.pc % C.m.table.length] + 1)) (by
      unfold Sd48.learned
      rw [if_neg ht]
      have : (d.x.out.next != (d.x.pc + 1) % Sd48.W) = true := by simpa using c
      simp [this, e])
    have en : ((min 3 (C.m.table[d.x.pc % C.m.table.length] + 1) : Nat) : Int) = if 3 < (C.m.table[d.x.pc % C.m.table.length] : Int) + 1 then 3 else (C.m.table[d.x.pc % C.m.table.length] : Int) + 1 := by split <;> omega
    rw [← en]
    exact this
def tabOf (C : CS) (d : SD) : List Nat := if Sd48.among (Sd48.ins d.x.word).op 14 16 = true then Sd48.learned C.m.table d.x.pc (d.x.out.next != (d.x.pc + 1) % Sd48.W) else C.m.table
def sp_kr (A : Ad) : Sp := fun vs H Q _ => ∃ (F : Hp) (p : Addr) (C : CS) (ρ : Addr → Role) (a : Addr) (d : SD), vs = [.ref p, .ref a] ∧ Mod A H F p C ρ ∧ C.T a = some d ∧ d.goes = (d.x.out.next : Int) ∧ ArchOk C.m.arch ∧ d.x.out.cell < 1024 ∧
  ∀ (H' : Hp) (ρ' : Addr → Role), Mod A H' F p { C with m := { C.m with arch := Sd48.done (Sd48.ins d.x.word) d.x.out C.m.arch, table := tabOf C d } } ρ' → Q .non H'
theorem ok_kr (T : Txt K mg A) : FnOk P w K mg base CX0 3 A.f_Machine_keep_result A.d_Machine_keep_result ["self", "slot"] (sp_kr A) := by
  have G_Machine_count_branch : FnOk P w K mg base CX0 1 _ _ _ _ := ok_cb T
  refine T.F_Machine_keep_result.ok sc_Machine_keep_result (by rintro vs H Q E ⟨F, p, C, ρ, a, d, rfl, _⟩; rfl) (fun cdv Ar outer s H vs Q E hr h => ?_)
  obtain ⟨F, p, C, ρ, a, d, rfl, M, hd, hgo, hA, hc, k⟩ := h
  refine ⟨_, (pss_cons (ps_cut (ps_if (pt_cmpR op_ne (pe_fld (pe_fld (pv 1) rfl) rfl) pe_int (nomark _)) (pss_one (ps_asg (pe_fld (pv 1) rfl) (pg_sub (pe_fld (pv 0) rfl) (pe_fld (pe_fld (pv 1) rfl) rfl) set_list))) pss_nil))
    (pss_cons (ps_cut (ps_if (pt_cmpR op_eq (pe_fld (pv 1) rfl) (pe_k T.v_STORE) (nomark _)) (pss_one (ps_asg (pe_fld (pv 1) rfl) (pg_sub (pe_fld (pv 0) rfl) (pe_fld (pv 1) rfl) set_list))) pss_nil))
    (pss_one (ps_if (PW.pt (pw_and (pt_val (pe_fld (pe_fld (pv 1) rfl) rfl)) (pw_and1 (pt_lst (pe_fld (pv 0) rfl) (fun _ => rfl))))) (pss_one (ps_expr (pe_meth (pv 0) T.c_Machine T.M_Machine_count_branch G_Machine_count_branch (hr.mono (by decide)) T.b_Machine_count_branch .nil pass0 (pa_cons (pv 1) pa_nil)))) pss_nil)))), ?_⟩
  have S := M.slot a d hd
  have h1 := M.mach
  have h3 := S.ob
  have h4 := S.ins
  simp only [r_tSeq, r_tCut]
  refine ⟨fun σ H' => ∃ (ρ' : Addr → Role), σ = [some (.ref p), some (.ref a)] ∧ Mod A H' F p { C with m := { C.m with arch := { C.m.arch with regs := if Sd48.dest (Sd48.ins d.x.word) = 0 then C.m.arch.regs else C.m.arch.regs.set (Sd48.dest (Sd48.ins d.x.word)) d.x.out.value } } } ρ', ?_, ?_⟩
  · have dl := dest_lt d.x.word
    have ix : ixN C.m.arch.regs.length (Sd48.dest (Sd48.ins d.x.word) : Int) = some (Sd48.dest (Sd48.ins d.x.word)) := ix_nat (by rw [hA.regs]; exact dl)
    have h2 := (M.lst .regs).1
    simp [h1, h2, h3, h4, machF, slotF, insF, ix, T.c_Instruction, T.c_Slot, T.c_Machine, T.n_Instruction_written, T.n_Slot_value, T.n_Instruction_op, T.n_Slot_op, T.n_Instruction_branches, T.n_Machine_counters, T.n_Slot_instruction, T.n_Machine_regs, T.n_Machine_cells, T.n_Slot_cell]
    by_cases c : Sd48.dest (Sd48.ins d.x.word) = 0
    · rw [if_pos (by omega), if_pos c]
      exact ⟨ρ, M⟩
    · rw [if_neg (by omega), if_neg c, nv_set]
      exact ⟨ρ, M.wList .regs { C with m := { C.m with arch := { C.m.arch with regs := C.m.arch.regs.set (Sd48.dest (Sd48.ins d.x.word)) d.x.out.value } } } rfl rfl rfl (by intro k hk; cases k <;> first | rfl | exact absurd rfl hk) rfl rfl rfl⟩
  rintro σ1 H1 ⟨ρ1, rfl, M1⟩
  refine ⟨fun σ H' => ∃ (ρ' : Addr → Role), σ = [some (.ref p), some (.ref a)] ∧ Mod A H' F p { C with m := { C.m with arch := Sd48.done (Sd48.ins d.x.word) d.x.out C.m.arch } } ρ', ?_, ?_⟩
  · have S := M1.slot a d hd
    have h1 := M1.mach
    have h3 := S.ob
    have h4 := S.ins
    have ix : ixN C.m.arch.cells.length (d.x.out.cell : Int) = some d.x.out.cell := ix_nat (by rw [hA.cells]; exact hc)
    have h2 := (M1.lst .cells).1
    simp [h1, h2, h3, h4, machF, slotF, insF, ix, T.c_Instruction, T.c_Slot, T.c_Machine, T.n_Instruction_written, T.n_Slot_value, T.n_Instruction_op, T.n_Slot_op, T.n_Instruction_branches, T.n_Machine_counters, T.n_Slot_instruction, T.n_Machine_regs, T.n_Machine_cells, T.n_Slot_cell]
    by_cases c : (Sd48.ins d.x.word).op = 13
    · rw [if_pos (by omega), nv_set]
      have h := M1.wList .cells { C with m := { C.m with arch := Sd48.done (Sd48.ins d.x.word) d.x.out C.m.arch } } rfl rfl rfl (by intro k hk; cases k <;> first | rfl | exact absurd rfl hk) rfl rfl rfl
      have e : lv { C with m := { C.m with arch := Sd48.done (Sd48.ins d.x.word) d.x.out C.m.arch } } .cells = nv (C.m.arch.cells.set d.x.out.cell d.x.out.value) := by
        rw [lv_cells]
        unfold Sd48.done
        simp [c]
      rw [e] at h
      exact ⟨ρ1, h⟩
    · rw [if_neg (by omega)]
      refine ⟨ρ1, M1.ghost _ rfl rfl rfl ?_ rfl rfl rfl⟩
      funext n
      cases n <;> first | rfl | skip
      show nv (Sd48.done (Sd48.ins d.x.word) d.x.out C.m.arch).cells = nv C.m.arch.cells
      unfold Sd48.done
      simp [c]
  rintro σ2 H2 ⟨ρ2, rfl, M2⟩
  have S2 := M2.slot a d hd
  have g1 := M2.mach
  have g2 := (M2.lst .counters).1
  have g3 := S2.ob
  have g4 := S2.ins
  simp [g1, g2, g3, g4, machF, slotF, insF, nv_nil, T.c_Instruction, T.c_Slot, T.c_Machine, T.n_Instruction_written, T.n_Slot_value, T.n_Instruction_op, T.n_Slot_op, T.n_Instruction_branches, T.n_Machine_counters, T.n_Slot_instruction, T.n_Machine_regs, T.n_Machine_cells, T.n_Slot_cell]
  have k' : ∀ H' ρ', Mod A H' F p { C with m := { C.m with arch := Sd48.done (Sd48.ins d.x.word) d.x.out C.m.arch, table := tabOf C d } } ρ' → Q .non H' := k
  unfold tabOf at k'
  by_cases c : Sd48.among (Sd48.ins d.x.word).op 14 16 = true
  · rw [if_pos c]
    simp only [if_pos c] at k'
    by_cases ct : C.m.table = []
    · have e1 : nv C.m.table = [] := by rw [ct]; rfl
      rw [if_pos e1]
      refine k' H2 ρ2 ?_
      have : Sd48.learned C.m.table d.x.pc (d.x.out.next != (d.x.pc + 1) % Sd48.W) = C.m.table := by
        unfold Sd48.learned
        rw [if_pos ct, ct]
      rw [this]
      exact M2
    · have e1 : ¬ nv C.m.table = [] := by
        intro z
        apply ct
        cases e : C.m.table with
        | nil => rfl
        | cons y r => rw [e] at z; cases z
      rw [if_neg e1]
      exact ⟨F, p, _, ρ2, a, d, rfl, M2, hd, hgo, ct, fun H' ρ' M' => k' H' ρ' M'⟩
  · rw [if_neg c]
    simp only [if_neg c] at k'
    exact k' H2 ρ2 M2
theorem learned_ok {t : List Nat} {pc : Nat} {y : Bool} (h : ∀ x ∈ t, x ≤ 3) : (Sd48.learned t pc y).length = t.length ∧ ∀ x ∈ Sd48.learned t pc y, x ≤ 3 := by
  unfold Sd48.learned
  split
  · rename_i c
    rw [c]
    exact ⟨rfl, fun x hx => by simp at hx⟩
  · simp only
    refine ⟨List.length_set, fun x hx => ?_⟩
    rcases List.mem_or_eq_of_mem_set hx with z | z
    · exact h x z
    · rw [z]
      split
      · omega
      · have : t.getD (pc % t.length) 0 ≤ 3 := by
          rw [List.getD_eq_getElem?_getD]
          cases e : t[pc % t.length]? with
          | none => simp
          | some v => exact h v (List.mem_of_getElem? e)
        omega
theorem tab_ok {C : CS} (h : R C) (d : SD) : (tabOf C d).length = C.m.cfg.table ∧ ∀ x ∈ tabOf C d, x ≤ 3 := by
  unfold tabOf
  split
  · have := learned_ok (pc := d.x.pc) (y := d.x.out.next != (d.x.pc + 1) % Sd48.W) h.tableW
    exact ⟨this.1.trans h.table, this.2⟩
  · exact ⟨h.table, h.tableW⟩
/-- one that may leave: what there is behind it -/
theorem retires_step {m : Sd48.M} {x : Sd48.Slot} {r : List Sd48.Slot} (n : Nat) (hs : m.slots = x :: r) (ph : x.phase = 3) (hh : x.out.halt_ = 0) :
    Sd48.retires (n + 1) m = if x.guess = x.out.next then Sd48.retires n { m with arch := Sd48.done (Sd48.ins x.word) x.out m.arch, slots := r, retired := m.retired + 1, table := if Sd48.among (Sd48.ins x.word).op 14 16 = true then Sd48.learned m.table x.pc (x.out.next != (x.pc + 1) % Sd48.W) else m.table }
      else { m with arch := Sd48.done (Sd48.ins x.word) x.out m.arch, slots := [], retired := m.retired + 1, table := if Sd48.among (Sd48.ins x.word).op 14 16 = true then Sd48.learned m.table x.pc (x.out.next != (x.pc + 1) % Sd48.W) else m.table, fetchPc := x.out.next, thrown := m.thrown + r.length, wrong := m.wrong + 1 } := by
  conv => lhs; unfold Sd48.retires
  rw [hs]
  simp only
  rw [if_neg (by omega), if_neg (by omega)]
def sp_leave (A : Ad) : Sp := fun vs H Q _ => ∃ (F : Hp) (p : Addr) (C : CS) (ρ : Addr → Role), vs = [.ref p] ∧ Mod A H F p C ρ ∧ R C ∧
  ∀ (H' : Hp) (ρ' : Addr → Role) (C' : CS), Mod A H' F p C' ρ' → R C' → C'.m = Sd48.retires C.m.cfg.retire C.m → Q .non H'
def invL (A : Ad) (F : Hp) (p : Addr) (m : Sd48.M) (σ : L2.St) (H : Hp) : Prop := ∃ (ρ : Addr → Role) (C : CS) (n : Nat) (v : Option V), σ = [some (.ref p), some (.int (n : Int)), v] ∧ Mod A H F p C ρ ∧ R C ∧ Sd48.retires n C.m = m
theorem SlotR.of {m m' : Sd48.M} {k : Nat} {x : Sd48.Slot} {d : SD} (h : SlotR m k x d) (e1 : m'.prog = m.prog) (e2 : m'.arch = m.arch) (e3 : m'.slots = m.slots) : SlotR m' k x d :=
  ⟨h.dx, by rw [e1]; exact h.sure, by rw [e2, e3]; exact h.ops, by rw [e2, e3]; exact h.mis, h.guess, h.gone, h.goes0, h.goes⟩
theorem Chain.of {m m' : Sd48.M} {fp : Int} (h : Chain m fp) (e2 : m'.arch = m.arch) (e3 : m'.slots = m.slots) (e4 : m'.fetchPc = m.fetchPc) : Chain m' fp :=
  ⟨by rw [e3]; exact h.nx, by rw [e2, e3]; exact h.hd, by rw [e2, e3, e4]; exact h.hd0, by rw [e3, e4]; exact h.tl, by rw [e3, e4]; exact h.fp⟩
/-- numbers that only count -/
theorem R.scal {C : CS} (h : R C) (a b c d e : Nat) : R { C with m := { C.m with halt_ := a, cycles := b, retired := c, thrown := d, wrong := e } } := by
  refine ⟨h.len, h.nd, fun k a x h1 h2 => ?_, h.wf, h.rds, h.setL, h.set0, h.set1, h.set2, h.free, h.arch, h.table, h.tableW, h.progW, h.progL, h.room, h.roomS, h.chain.of rfl rfl rfl⟩
  obtain ⟨d, h3, S⟩ := h.at_ k a x h1 h2
  exact ⟨d, h3, S.of rfl rfl rfl⟩
theorem ok_leave (T : Txt K mg A) : FnOk P w K mg base CX0 5 A.f_Machine_let_leave A.d_Machine_let_leave ["self"] (sp_leave A) := by
  have G_Machine_keep_result : FnOk P w K mg base CX0 3 _ _ _ _ := ok_kr T
  have G_Machine_throw_away : FnOk P w K mg base CX0 3 _ _ _ _ := ok_ta T
  refine T.F_Machine_let_leave.ok sc_Machine_let_leave (by rintro vs H Q E ⟨F, p, C, ρ, rfl, _⟩; rfl) (fun cdv Ar outer s H vs Q E hr h => ?_)
  obtain ⟨F, p, C, ρ, rfl, M, hR, k⟩ := h
  refine ⟨_, (pss_cons (ps_set (i := 1) sc_Machine_let_leave.nd rfl (Or.inl rfl) (pe_fld (pv 0) rfl))
    (pss_one (ps_while PassesOwn.never (PW.pt (pw_and (pt_cmpR op_gt (pv 1) pe_int (nomark _)) (pw_and (pt_lst (pe_fld (pv 0) rfl) (fun _ => rfl)) (pw_and1 (pt_cmpR op_eq (pe_fld (pe_ix ix_h (pe_fld (pv 0) rfl) pe_int (fun _ _ => rfl)) rfl) (pe_k T.v_DONE) (nomark _)))))) (pss_cons (ps_set (i := 2) sc_Machine_let_leave.nd rfl (Or.inl rfl) (pe_ix ix_h (pe_fld (pv 0) rfl) pe_int (fun _ _ => rfl)))
    (pss_cons (ps_if (pt_cmpR op_ne (pe_fld (pv 2) rfl) pe_int (nomark _)) (pss_cons (ps_fld (pv 0) (pe_fld (pv 2) rfl) rfl)
    (pss_one ps_retN)) pss_nil)
    (pss_cons (ps_expr (pe_bm PySem.F.plainAttrs_list PySem.F.slot_list_pop PySem.F.type_list_pop mt_popAt (pe_fld (pv 0) rfl) (pa_cons pe_int pa_nil)))
    (pss_cons (ps_aug (i := 1) sc_Machine_let_leave.nd rfl (Or.inl rfl) pe_int ip_sub)
    (pss_cons (ps_fldaug (pv 0) pe_int in_add)
    (pss_cons (ps_expr (pe_meth (pv 0) T.c_Machine T.M_Machine_keep_result G_Machine_keep_result (hr.mono (by decide)) T.b_Machine_keep_result .nil pass0 (pa_cons (pv 2) pa_nil)))
    (pss_one (ps_if (pt_cmpR op_ne (pe_fld (pv 2) rfl) (pe_fld (pv 2) rfl) (nomark _)) (pss_cons (ps_expr (pe_meth (pv 0) T.c_Machine T.M_Machine_throw_away G_Machine_throw_away (hr.mono (by decide)) T.b_Machine_throw_away .nil pass0 (pa_cons (pe_fld (pv 2) rfl) pa_nil)))
    (pss_one ps_retN)) pss_nil))))))))))), ?_⟩
  have h1 := M.mach
  simp [h1, machF, T.c_Machine, T.c_Slot, T.n_Machine_most_leaving, T.n_Machine_slots, T.n_Machine_have_left, T.n_Slot_state, T.n_Slot_stop, T.n_Machine_stopped, T.n_Slot_guess, T.n_Slot_goes_on]
  refine while_h (invL A F p (Sd48.retires C.m.cfg.retire C.m)) (fun σ _ => cnt 1 σ) ⟨ρ, C, C.m.cfg.retire, none, rfl, M, hR, rfl⟩ ?_
  rintro σ H' ⟨ρ', C', n, v, rfl, M', R', hret⟩
  have g1 := M'.mach
  have g2 := (M'.lst .slots).1
  have kk := fun H2 ρ2 C2 M2 R2 (e : C2.m = Sd48.retires n C'.m) => k H2 ρ2 C2 M2 R2 (e.trans hret)
  simp [g1, g2, machF, T.c_Machine, T.c_Slot, T.n_Machine_most_leaving, T.n_Machine_slots, T.n_Machine_have_left, T.n_Slot_state, T.n_Slot_stop, T.n_Machine_stopped, T.n_Slot_guess, T.n_Slot_goes_on]
  cases n with
  | zero =>
    rw [if_neg (by omega)]
    exact kk H' ρ' C' M' R' rfl
  | succ n =>
    rw [if_pos (by omega)]
    have len := R'.len
    cases eq : C'.q with
    | nil =>
      rw [if_pos rfl]
      refine kk H' ρ' C' M' R' ?_
      have : C'.m.slots = [] := by
        rw [eq] at len
        exact List.eq_nil_of_length_eq_zero len.symm
      unfold Sd48.retires
      rw [this]
    | cons a q' =>
      rw [if_neg (by simp)]
      obtain ⟨x, d, hx, hd, S⟩ := R'.slot (i := 0) (a := a) (by rw [eq]; rfl)
      have dx := S.dx
      cases es : C'.m.slots with
      | nil => rw [es] at hx; simp at hx
      | cons x' r =>
        have : x' = x := by rw [es] at hx; simpa using hx
        subst this
        have SA := M'.slot a d hd
        have g3 := SA.ob
        have at0 : atI (V.ref a :: List.map V.ref q') 0 = some (V.ref a) := atI_nat (j := 0) rfl
        have wf := R'.wf x' (by rw [es]; exact List.mem_cons_self)
        simp [at0, g3, slotF, dx, T.c_Machine, T.c_Slot, T.n_Machine_most_leaving, T.n_Machine_slots, T.n_Machine_have_left, T.n_Slot_state, T.n_Slot_stop, T.n_Machine_stopped, T.n_Slot_guess, T.n_Slot_goes_on]
        by_cases ph : x'.phase = 3
        · rw [if_pos (by omega)]
          refine nextW_of ?_
          have g2' : H' (C'.la .slots) = some (.lst (V.ref a :: List.map V.ref q')) := by rw [g2, lv_slots, eq]; rfl
          have npa : p ≠ a := M'.p_ne (by rw [SA.rl]; simp)
          have nps : p ≠ C'.la .slots := M'.p_ne (by rw [(M'.lst .slots).2]; simp)
          have nas : a ≠ C'.la .slots := fun z => by have := (M'.lst .slots).2; rw [← z, SA.rl] at this; cases this
          have ty := ty_lst (K := K) g2'
          simp [g1, g2', g3, slotF, machF, dx, at0, ty, upd_ne nps, upd_ne nas, T.c_Machine, T.c_Slot, T.n_Machine_most_leaving, T.n_Machine_slots, T.n_Machine_have_left, T.n_Slot_state, T.n_Slot_stop, T.n_Machine_stopped, T.n_Slot_guess, T.n_Slot_goes_on]
          by_cases hh : x'.out.halt_ = 0
          · rw [if_pos hh]
            have six : seqIndex? 0 (q'.length + 1) = some 0 := by unfold seqIndex?; simp
            rw [six]
            simp only [r_onO, List.getElem?_cons_zero, List.eraseIdx_cons_zero]
            have M1 := M'.wList .slots { C' with q := q' } rfl rfl rfl (by intro k hk; cases k <;> first | rfl | exact absurd rfl hk) rfl rfl rfl
            have M2 := M1.wMach { C' with m := { C'.m with retired := C'.m.retired + 1 }, q := q' } rfl rfl rfl rfl rfl rfl
            have nosure : d.sure = 0 := by
              rcases Nat.eq_zero_or_pos d.sure with z | z
              · exact z
              · have := S.sure
                have := (wf.sure (by omega)).2
                omega
            have goes := S.goes (by omega) nosure
            refine ⟨F, p, _, ρ', a, d, rfl, M2, hd, by rw [dx]; exact goes, R'.arch, by rw [dx]; exact wf.cell, fun H3 ρ3 M3 => ?_⟩
            rw [dx] at M3
            have SA3 := M3.slot a d hd
            have f1 := SA3.ob
            have f2 := M3.mach
            have eg : (d.guess = (x'.out.next : Int)) ↔ x'.guess = x'.out.next := by
              cases el : x'.last with
              | false =>
                rw [S.guess el]
                omega
              | true =>
                rw [S.gone el nosure, wf.gone el]
                have := wf.next
                omega
            have hret2 : Sd48.retires (n + 1) C'.m = _ := retires_step n es ph hh
            have tb : tabOf { C' with m := { C'.m with retired := C'.m.retired + 1 }, q := q' } d = if Sd48.among (Sd48.ins x'.word).op 14 16 = true then Sd48.learned C'.m.table x'.pc (x'.out.next != (x'.pc + 1) % Sd48.W) else C'.m.table := by
              unfold tabOf
              rw [dx]
            have tbo := tab_ok R' d
            have tb2 : tabOf C' d = tabOf { C' with m := { C'.m with retired := C'.m.retired + 1 }, q := q' } d := rfl
            rw [tb2] at tbo
            simp [f1, f2, slotF, machF, dx, goes, T.c_Machine, T.c_Slot, T.n_Machine_most_leaving, T.n_Machine_slots, T.n_Machine_have_left, T.n_Slot_state, T.n_Slot_stop, T.n_Machine_stopped, T.n_Slot_guess, T.n_Slot_goes_on]
            by_cases c : x'.guess = x'.out.next
            · rw [if_pos (eg.mpr c)]
              rw [if_pos c] at hret2
              refine ⟨⟨ρ3, { C' with m := { C'.m with arch := Sd48.done (Sd48.ins x'.word) x'.out C'.m.arch, slots := r, retired := C'.m.retired + 1, table := tabOf { C' with m := { C'.m with retired := C'.m.retired + 1 }, q := q' } d }, q := q' }, n, _, rfl, ?_, ?_, ?_⟩, ?_⟩
              · exact M3.ghost _ rfl rfl rfl rfl rfl rfl rfl
              · exact R'.leave eq es ph c tbo.1 tbo.2 _
              · rw [← hret, hret2, tb]
              · show (n : Int).toNat < ((n : Int) + 1).toNat
                omega
            · rw [if_neg fun z => c (eg.mp z)]
              rw [if_neg c] at hret2
              refine ⟨F, p, _, ρ3, (x'.out.next : Int), rfl, M3, fun H4 ρ4 la4 M4 => ?_⟩
              refine kk H4 ρ4 { C' with m := { C'.m with arch := Sd48.done (Sd48.ins x'.word) x'.out C'.m.arch, slots := [], retired := C'.m.retired + 1, table := tabOf { C' with m := { C'.m with retired := C'.m.retired + 1 }, q := q' } d, fetchPc := x'.out.next, thrown := C'.m.thrown + q'.length, wrong := C'.m.wrong + 1 }, la := la4, q := [], set := List.replicate 16 none, free := freeOf C'.m.cfg [], fp := (x'.out.next : Int) } ?_ ?_ ?_
              · exact M4.ghost _ rfl rfl rfl rfl rfl rfl rfl
              · exact R.empty rfl rfl rfl rfl (R'.arch.done wf) tbo.1 tbo.2 R'.progW R'.progL R'.roomS rfl rfl wf.next
              · rw [hret2, tb]
                have : q'.length = r.length := by rw [eq, es] at len; simpa using len
                rw [this]
          · rw [if_neg hh]
            refine kk _ ρ' _ (M'.wMach { C' with m := { C'.m with halt_ := x'.out.halt_ } } rfl rfl rfl rfl rfl rfl) (R'.scal x'.out.halt_ C'.m.cycles C'.m.retired C'.m.thrown C'.m.wrong) ?_
            unfold Sd48.retires
            rw [es]
            simp only
            rw [if_neg (by omega), if_pos hh, es]
        · rw [if_neg (by omega)]
          refine kk H' ρ' C' M' R' ?_
          unfold Sd48.retires
          rw [es]
          simp only
          rw [if_pos ph]
end Ooo
namespace Ooo
open PySem L2 Ex
variable {P : Program} {w : World} {K : PySem.W.Frag} {mg : Str → Option Value} {base : Heap} {A : Ad}
/-- what the last setter of r says: the value that is there, or that it isn't -/
def Setter (C : CS) (a r : Nat) (av : Option Nat) : Prop := r < 16 ∧ C.set.length = 16 ∧ C.m.arch.regs.length = 16 ∧
  ((C.set[r]? = some none ∧ ∃ v, C.m.arch.regs[r]? = some v ∧ av = some v) ∨
   (∃ b e, C.set[r]? = some (some b) ∧ b ≠ a ∧ C.T b = some e ∧ ((e.x.phase = 3 ∧ av = some e.x.out.value) ∨ (e.x.phase ≠ 3 ∧ av = none))))
/-- the same slot with other readers -/
structure SameR (e e' : SD) : Prop where
  x : e'.x = e.x
  sure : e'.sure = e.sure
  ops : e'.ops = e.ops
  mis : e'.missing = e.missing
  guess : e'.guess = e.guess
  goes : e'.goes = e.goes
theorem SameR.rfl' {e : SD} : SameR e e := ⟨rfl, rfl, rfl, rfl, rfl, rfl⟩
theorem SameR.trans {e e1 e2 : SD} (h : SameR e e1) (h' : SameR e1 e2) : SameR e e2 := ⟨h'.x.trans h.x, h'.sure.trans h.sure, h'.ops.trans h.ops, h'.mis.trans h.mis, h'.guess.trans h.guess, h'.goes.trans h.goes⟩
def Took (C : CS) (a : Nat) (d : SD) (w : Bool) (r : Nat) (av : Option Nat) (T' : Nat → Option SD) : Prop :=
  (∃ d', T' a = some d' ∧ d'.x = d.x ∧ d'.sure = d.sure ∧ d'.guess = d.guess ∧ d'.goes = d.goes ∧ d'.rds = d.rds ∧ d'.ia = d.ia ∧ d'.idx = d.idx ∧
    (match av with
      | some v => (d'.ops = fun w' => if w' = w then (v : Int) else d.ops w') ∧ d'.missing = d.missing
      | none => d'.ops = d.ops ∧ d'.missing = d.missing + 1)) ∧
  ∀ b e, b ≠ a → C.T b = some e → ∃ e', T' b = some e' ∧ SameR e e' ∧ e'.rds.map Prod.snd = e.rds.map Prod.snd ++ (if C.set[r]? = some (some b) ∧ av = none then [(a, w)] else [])
def sp_to (A : Ad) : Sp := fun vs H Q _ => ∃ (F : Hp) (p : Addr) (C : CS) (ρ : Addr → Role) (a r : Nat) (w : Bool) (d : SD) (av : Option Nat), vs = [.ref p, .ref a, .int (bi w), .int (r : Int)] ∧ Mod A H F p C ρ ∧ C.T a = some d ∧ d.rds.length ≤ 1000 ∧ Setter C a r av ∧ (∀ b e, C.T b = some e → C.set[r]? = some (some b) → e.x.phase ≠ 3 → e.rds.length < 1000) ∧
  ∀ (H' : Hp) (ρ' : Addr → Role) (T' : Nat → Option SD), Mod A H' F p (C.wT T') ρ' → Took C a d w r av T' → Q .non H'
theorem ok_to (T : Txt K mg A) : FnOk P w K mg base CX0 1 A.f_Machine_take_operand A.d_Machine_take_operand ["self", "slot", "which", "read"] (sp_to A) := by
  refine T.F_Machine_take_operand.ok sc_Machine_take_operand (by rintro vs H Q E ⟨F, p, C, ρ, a, r, w, d, av, rfl, _⟩; rfl) (fun cdv Ar outer s H vs Q E hr h => ?_)
  obtain ⟨F, p, C, ρ, a, r, w', d, av, rfl, M, hd, hl, ⟨hr16, hs16, hg16, hset⟩, hrl, k⟩ := h
  refine ⟨_, (pss_cons (ps_set (i := 4) sc_Machine_take_operand.nd rfl (Or.inl rfl) (pe_ix ix_h (pe_fld (pv 0) rfl) (pv 3) (fun _ _ => rfl)))
    (pss_one (ps_if (pt_cmpR op_isN (pv 4) pe_non (nomark _)) (pss_one (ps_asg (pe_ix ix_h (pe_fld (pv 0) rfl) (pv 3) (fun _ _ => rfl)) (pg_sub (pe_fld (pv 1) rfl) (pv 2) set_list))) (pss_one (ps_if (pt_cmpR op_eq (pe_fld (pv 4) rfl) (pe_k T.v_DONE) (nomark _)) (pss_one (ps_asg (pe_fld (pv 4) rfl) (pg_sub (pe_fld (pv 1) rfl) (pv 2) set_list))) (pss_cons (ps_expr (pe_bm PySem.F.plainAttrs_list PySem.F.slot_list_append PySem.F.type_list_append mt_append (pe_fld (pv 4) rfl) (pa_cons (pe_tup (pa_cons (pv 1) (pa_cons (pv 2) pa_nil))) pa_nil)))
    (pss_one (ps_fldaug (pv 1) pe_int in_add)))))))), ?_⟩
  have S := M.slot a d hd
  have h1 := M.mach
  have h2 := (M.lst .setters).1
  have h3 := (M.lst .regs).1
  have h4 := S.ob
  have h5 := S.ops
  have ixw : ixN 2 (bi w') = some (if w' then 1 else 0) := by cases w' <;> decide
  have eq1 : ∀ v : Int, ([V.int (d.ops false), V.int (d.ops true)].set (if w' then 1 else 0) (V.int v)) = [V.int (if false = w' then v else d.ops false), V.int (if true = w' then v else d.ops true)] := by intro v; cases w' <;> rfl
  rcases hset with ⟨hs0, v, hv, rfl⟩ | ⟨b, e, hsb, hba, he, hcase⟩
  · have at1 : atI (C.set.map oa) (r : Int) = some .non := atI_nat (by rw [List.getElem?_map, hs0]; rfl)
    have at2 : atI (nv C.m.arch.regs) (r : Int) = some (.int (v : Int)) := at_nv hv
    have M1 := M.wOps hd (fun w2 => if w2 = w' then (v : Int) else d.ops w2)
    simp [h1, h2, h3, h4, h5, machF, slotF, at1, at2, ixw, T.c_Machine, T.c_Slot, T.n_Machine_setters, T.n_Slot_operands, T.n_Machine_regs, T.n_Slot_state, T.n_Slot_value, T.n_Slot_missing, T.n_Slot_readers]
    rw [eq1]
    refine k _ ρ _ M1 ⟨⟨_, updT_same, rfl, rfl, rfl, rfl, rfl, rfl, rfl, rfl, rfl⟩, fun b e hb he => ⟨e, (updT_ne hb).trans he, SameR.rfl', ?_⟩⟩
    rw [if_neg (by simp)]
    simp
  · have at1 : atI (C.set.map oa) (r : Int) = some (.ref b) := atI_nat (by rw [List.getElem?_map, hsb]; rfl)
    have Sb := M.slot b e he
    have g1 := Sb.ob
    simp [h1, h2, h3, h4, h5, g1, machF, slotF, at1, ixw, T.c_Machine, T.c_Slot, T.n_Machine_setters, T.n_Slot_operands, T.n_Machine_regs, T.n_Slot_state, T.n_Slot_value, T.n_Slot_missing, T.n_Slot_readers]
    rcases hcase with ⟨ph, rfl⟩ | ⟨ph, rfl⟩
    · rw [if_pos (by omega), eq1]
      have M1 := M.wOps hd (fun w2 => if w2 = w' then (e.x.out.value : Int) else d.ops w2)
      refine k _ ρ _ M1 ⟨⟨_, updT_same, rfl, rfl, rfl, rfl, rfl, rfl, rfl, rfl, rfl⟩, fun b e hb he => ⟨e, (updT_ne hb).trans he, SameR.rfl', ?_⟩⟩
      rw [if_neg (by simp)]
      simp
    · rw [if_neg (by omega)]
      have g2 := Sb.rds
      refine ⟨ty_lst g2, by decide, fun t ht => ?_⟩
      have M1 := M.alloc ht (.tup [.ref a, .int (bi w')]) .tup
      have M2 := M1.wRds he (t := t) (b := a) (w := w') upd_same setR_same
      have M3 := M2.wSlot ((updT_ne hba.symm).trans hd) { d with missing := d.missing + 1 } rfl rfl rfl rfl rfl rfl rfl rfl rfl rfl
      have nrt : e.ra ≠ t := ne_of_none g2 ht
      have nat' : a ≠ t := ne_of_none h4 ht
      have nar : a ≠ e.ra := fun z => by have := Sb.rrds; rw [← z, S.rl] at this; cases this
      have bl : e.rds.length < sizeLine := Nat.lt_of_lt_of_le (hrl b e he hsb ph) (by decide)
      simp [g2, h4, slotF, upd_ne nrt, upd_ne nat', upd_ne nar, bl, T.c_Machine, T.c_Slot, T.n_Machine_setters, T.n_Slot_operands, T.n_Machine_regs, T.n_Slot_state, T.n_Slot_value, T.n_Slot_missing, T.n_Slot_readers]
      simp only [CS.wT_T, CS.wT_wT] at M3
      refine k _ _ _ M3 ⟨⟨_, updT_same, rfl, rfl, rfl, rfl, rfl, rfl, rfl, rfl, rfl⟩, fun c f hc hf => ?_⟩
      by_cases e1 : c = b
      · subst e1
        rw [he] at hf; cases hf
        refine ⟨_, (updT_ne hc).trans updT_same, ⟨rfl, rfl, rfl, rfl, rfl, rfl⟩, ?_⟩
        rw [if_pos ⟨hsb, rfl⟩]
        simp
      · refine ⟨f, ((updT_ne hc).trans (updT_ne e1)).trans hf, SameR.rfl', ?_⟩
        rw [if_neg]
        · simp
        · rintro ⟨z, _⟩
          rw [hsb] at z
          cases z
          exact e1 rfl
end Ooo
namespace Ooo
open PySem L2 Ex
variable {P : Program} {w : World} {K : PySem.W.Frag} {mg : Str → Option Value} {base : Heap} {A : Ad}
theorem R.setter {C : CS} (h : R C) {a r : Nat} (ha : C.T a = none) (hr : r < 16) : Setter C a r (Sd48.avail C.m.arch C.m.slots r) := by
  have hl := h.setL
  refine ⟨hr, hl, h.arch.regs, ?_⟩
  by_cases h0 : r = 0
  · subst h0
    exact .inl ⟨h.set0, 0, h.arch.reg0, avail_zero _ _⟩
  have tl : C.m.slots.take C.m.slots.length = C.m.slots := List.take_length
  rcases avail_take C.m.arch C.m.slots h0 C.m.slots.length with ⟨j, y, s, hy, e⟩ | ⟨no, e⟩
  · rw [tl] at e
    obtain ⟨b, q1, q2⟩ := h.set1 r j s
    obtain ⟨d, hd, S⟩ := h.at_ j b y q1 hy
    refine .inr ⟨b, d, q2, (fun z => by rw [z, ha] at hd; cases hd), hd, ?_⟩
    rw [S.dx, e]
    by_cases c : y.phase = 3
    · exact .inl ⟨c, if_pos c⟩
    · exact .inr ⟨c, if_neg c⟩
  · rw [tl] at e
    cases eo : C.set[r]? with
    | none =>
      have := List.getElem?_eq_none_iff.mp eo
      omega
    | some o =>
      cases o with
      | none =>
        have hg := h.arch.regs
        have e2 := List.getElem?_eq_getElem (l := C.m.arch.regs) (i := r) (by omega)
        refine .inl ⟨rfl, _, e2, ?_⟩
        rw [e]
        unfold Sd48.reg
        rw [if_neg h0, List.getD_eq_getElem?_getD, e2]
        rfl
      | some b =>
        obtain ⟨d, hd, p3, hv⟩ := h.set2 r b no eo
        exact .inr ⟨b, d, rfl, (fun z => by rw [z, ha] at hd; cases hd), hd, .inl ⟨p3, by rw [e, hv]⟩⟩
theorem R.setter_le {C : CS} (h : R C) {r b : Nat} {e : SD} (he : C.T b = some e) (hs : C.set[r]? = some (some b)) (ph : e.x.phase ≠ 3) : e.rds.length ≤ 128 := by
  by_cases h0 : r = 0
  · subst h0
    rw [h.set0] at hs; cases hs
  rcases avail_take C.m.arch C.m.slots h0 C.m.slots.length with ⟨j, y, s, hy, _⟩ | ⟨no, _⟩
  · obtain ⟨b', q1, q2⟩ := h.set1 r j s
    rw [hs] at q2; cases q2
    obtain ⟨d, hd, S⟩ := h.at_ j b y q1 hy
    rw [he] at hd; cases hd
    exact h.rds_le q1 hy (by rw [← S.dx]; exact ph) he
  · obtain ⟨d, hd, p3, _⟩ := h.set2 r b no hs
    rw [he] at hd; cases hd
    exact absurd p3 ph
/-- the object of a slot to be -/
theorem Mod.wNew {H F : Hp} {p : Addr} {C : CS} {ρ : Addr → Role} (h : Mod A H F p C ρ) {c : Addr} (o : HO) (hr : ρ c = .slot) (hT : C.T c = none) : Mod A (upd H c o) F p C ρ := by
  refine ⟨h.liveW _, h.frameW _ (by rw [hr]; simp), by rw [upd_ne (h.p_ne (by rw [hr]; simp))]; exact h.mach, h.rmach, fun n => ?_, fun a d e => ?_, h.plen, h.progW _ (by rw [hr]; simp)⟩
  · rw [upd_ne (h.ml_ne n (by rw [hr]; simp))]
    exact h.lst n
  · refine (h.slot a d e).keep fun y u ey hy hs => ⟨?_, rfl⟩
    rw [upd_ne]
    · exact ey
    · intro z
      have := hs (by rw [z]; exact hr)
      rw [← z, this, e] at hT
      cases hT
theorem guess_eq {m : Sd48.M} {pc word : Nat} (h : (Sd48.ins word).op ≠ 18) : guessI m.table pc word = (Sd48.guessed m (Sd48.ins word) pc : Int) := by
  unfold guessI Sd48.guessed gj
  simp only [decide_eq_true_eq]
  rw [if_neg h, if_neg h]
  split
  · rfl
  split
  · rfl
  · rfl
theorem Setter.wT {C : CS} {a r : Nat} {av : Option Nat} {T' : Nat → Option SD} (h : Setter C a r av) (hT : ∀ b e, b ≠ a → C.T b = some e → ∃ e', T' b = some e' ∧ e'.x = e.x) : Setter (C.wT T') a r av := by
  obtain ⟨h1, h2, h3, h4⟩ := h
  refine ⟨h1, h2, h3, ?_⟩
  rcases h4 with z | ⟨b, e, z1, z2, z3, z4⟩
  · exact .inl z
  · obtain ⟨e', y1, y2⟩ := hT b e z2 z3
    refine .inr ⟨b, e', z1, z2, y1, ?_⟩
    rw [y2]
    exact z4
def sp_f1 (A : Ad) : Sp := fun vs H Q _ => ∃ (F : Hp) (p : Addr) (C : CS) (ρ : Addr → Role), vs = [.ref p] ∧ Mod A H F p C ρ ∧ R C ∧ (∀ y ∈ C.m.slots, y.last = false) ∧ C.m.slots.length < 64 ∧
  ∀ (H' : Hp) (ρ' : Addr → Role) (C' : CS), Mod A H' F p C' ρ' → R C' → C'.m = Sd48.fetched C.m → Q .non H'
theorem ok_f1 (T : Txt K mg A) : FnOk P w K mg base CX0 9 A.f_Machine_fetch_one A.d_Machine_fetch_one ["self"] (sp_f1 A) := by
  have G_behind_program : FnOk P w K mg base CX0 6 _ _ _ _ := ok_beh T
  have G_Machine_guessed : FnOk P w K mg base CX0 3 _ _ _ _ := ok_gs T
  have G_Slot_init : FnOk P w K mg base CX0 1 _ _ _ _ := ok_Slot T
  have G_Machine_take_operand : FnOk P w K mg base CX0 1 _ _ _ _ := ok_to T
  refine T.F_Machine_fetch_one.ok sc_Machine_fetch_one (by rintro vs H Q E ⟨F, p, C, ρ, rfl, _⟩; rfl) (fun cdv Ar outer s H vs Q E hr h => ?_)
  obtain ⟨F, p, C, ρ, rfl, M, hR, hno, hroom, k⟩ := h
  refine ⟨_, (pss_cons (ps_cut (ps_set (i := 1) sc_Machine_fetch_one.nd rfl (Or.inl rfl) (pe_fld (pv 0) rfl)))
    (pss_cons (ps_cut (ps_set (i := 2) sc_Machine_fetch_one.nd rfl (Or.inl rfl) (pe_ifExp (pt_cmpR op_lt (pv 1) (pe_callB call_len_h (by rfl) T.z_len PySem.boot_len (pa_cons (pe_fld (pv 0) rfl) pa_nil)) (nomark _)) (pe_ix ix_h (pe_fld (pv 0) rfl) (pv 1) (fun _ _ => rfl)) (pe_call G_behind_program (hr.mono (by decide)) rfl T.m_behind_program T.F_behind_program.kp T.b_behind_program .nil pass0 (pa_cons (pv 1) pa_nil)))))
    (pss_cons (ps_cut (ps_set (i := 3) sc_Machine_fetch_one.nd rfl (Or.inl rfl) (pe_make T.K_Slot G_Slot_init (hr.mono (by decide)) rfl T.g_Slot T.b_Slot_init .nil pass0 (pa_cons (pv 2) (pa_cons (pe_meth (pv 0) T.c_Machine T.M_Machine_guessed G_Machine_guessed (hr.mono (by decide)) T.b_Machine_guessed .nil pass0 (pa_cons (pv 2) pa_nil)) pa_nil)))))
    (pss_cons (ps_cut (ps_expr (pe_meth (pv 0) T.c_Machine T.M_Machine_take_operand G_Machine_take_operand (hr.mono (by decide)) T.b_Machine_take_operand .nil pass0 (pa_cons (pv 3) (pa_cons pe_int (pa_cons (pe_fld (pv 2) rfl) pa_nil))))))
    (pss_cons (ps_cut (ps_expr (pe_meth (pv 0) T.c_Machine T.M_Machine_take_operand G_Machine_take_operand (hr.mono (by decide)) T.b_Machine_take_operand .nil pass0 (pa_cons (pv 3) (pa_cons pe_int (pa_cons (pe_fld (pv 2) rfl) pa_nil))))))
    (pss_cons (ps_cut (ps_if (pt_cmpR op_ne (pe_fld (pv 2) rfl) pe_int (nomark _)) (pss_one (ps_asg (pv 3) (pg_sub (pe_fld (pv 0) rfl) (pe_fld (pv 2) rfl) set_list))) pss_nil))
    (pss_cons (ps_cut (ps_expr (pe_bm PySem.F.plainAttrs_list PySem.F.slot_list_append PySem.F.type_list_append mt_append (pe_fld (pv 0) rfl) (pa_cons (pv 3) pa_nil))))
    (pss_one (ps_fld (pv 0) (pe_fld (pv 3) rfl) rfl))))))))), ?_⟩
  obtain ⟨hfp, hW⟩ := hR.chain.fp fun y hy => hno y (List.mem_of_getLast? hy)
  have N := new_ok C.m
  generalize hx : newSlot C.m = x at N
  generalize hsu : sureOf C.m.prog C.m.fetchPc (wordAt C.m) = su at N
  have wfx : WF C.m.prog x := by rw [← hx]; exact New.wf hR.progW hW
  simp only [r_tSeq, r_tCut]
  refine ⟨fun σ H' => σ = [some (.ref p), some (.int (C.m.fetchPc : Int)), none, none] ∧ H' = H, ?_, ?_⟩
  · have h1 := M.mach
    simp [h1, machF, hfp, T.c_Machine, T.c_Slot, T.c_Instruction, T.n_Machine_fetch_place, T.n_Slot_guess, T.n_Instruction_first, T.n_Instruction_second, T.n_Instruction_written, T.n_Machine_prog, T.n_Machine_setters, T.n_Machine_slots]
  rintro σ1 H1 ⟨rfl, rfl⟩
  refine ⟨fun σ H' => ∃ (ρ' : Addr → Role) (ia idx : Addr), σ = [some (.ref p), some (.int (C.m.fetchPc : Int)), some (.ref ia), none] ∧ Mod A H' F p C ρ' ∧ H' ia = some (.ins A.C_Instruction idx (insF x.pc x.word su)) ∧ ρ' ia = .ins, ?_, ?_⟩
  · have h1 := M.mach
    have h2 := (M.lst .prog).1
    have plen := M.plen
    simp [h1, h2, machF, T.c_Machine, T.c_Slot, T.c_Instruction, T.n_Machine_fetch_place, T.n_Slot_guess, T.n_Instruction_first, T.n_Instruction_second, T.n_Instruction_written, T.n_Machine_prog, T.n_Machine_setters, T.n_Machine_slots]
    by_cases c : C.m.fetchPc < C.pa.length
    · rw [if_pos c]
      have e1 := List.getElem?_eq_getElem c
      have e2 := List.getElem?_eq_getElem (l := C.m.prog) (i := C.m.fetchPc) (by omega)
      have at1 : atI (List.map V.ref C.pa) (C.m.fetchPc : Int) = some (.ref C.pa[C.m.fetchPc]) := atI_nat (by rw [List.getElem?_map, e1]; rfl)
      obtain ⟨⟨dx, q1⟩, q2⟩ := M.prog _ _ _ e1 e2
      rw [at1]
      have ew : wordAt C.m = C.m.prog[C.m.fetchPc] := by
        unfold wordAt
        rw [if_neg (by omega), List.getD_eq_getElem?_getD, e2]
        rfl
      refine ⟨_, rfl, ρ, _, rfl, M, ⟨dx, ?_⟩, q2⟩
      rw [N.pc, N.word, ← hsu, ew]
      exact q1
    · rw [if_neg c]
      have ew : wordAt C.m = 0 := by
        unfold wordAt
        rw [if_pos (by omega)]
      have es : su = 5 := by
        rw [← hsu]
        unfold sureOf
        rw [if_pos (by omega)]
      refine ⟨C.m.fetchPc, rfl, fun y dx hy hdx ne => ?_⟩
      have M1 := M.alloc hdx (.own y) .no
      have M2 := M1.alloc (c := y) (by rw [upd_ne ne.symm]; exact hy) (.ins A.C_Instruction dx (insF C.m.fetchPc 0 5)) .ins
      refine ⟨_, y, rfl, M2, ⟨dx, ?_⟩, setR_same⟩
      rw [N.pc, N.word, ew, es]
      exact upd_same
  rintro σ2 H2 ⟨ρ2, ia, idx, rfl, M2, hia, ria⟩
  refine ⟨fun σ H' => ∃ (ρ' : Addr → Role) (a : Addr) (d : SD), σ = [some (.ref p), some (.int (C.m.fetchPc : Int)), some (.ref ia), some (.ref a)] ∧ Mod A H' F p (C.wT (updT C.T a d)) ρ' ∧ C.T a = none ∧ d.x = x ∧ d.sure = su ∧ d.guess = guessI C.m.table x.pc x.word ∧ d.goes = (((x.pc + 1) % Sd48.W : Nat) : Int) ∧ d.ops = (fun _ => 0) ∧ d.missing = 0 ∧ d.rds = [] ∧ d.ia = ia ∧ d.idx = idx, ?_, ?_⟩
  · have h1 := M2.mach
    simp [h1, machF, T.c_Machine, T.c_Slot, T.c_Instruction, T.n_Machine_fetch_place, T.n_Slot_guess, T.n_Instruction_first, T.n_Instruction_second, T.n_Instruction_written, T.n_Machine_prog, T.n_Machine_setters, T.n_Machine_slots]
    refine ⟨F, p, C, ρ2, ia, idx, x.pc, x.word, su, rfl, M2, hia, fun a dx ha hdx ne => ?_⟩
    have haT : C.T a = none := by
      cases e : C.T a with
      | none => rfl
      | some e' =>
        have := (M2.slot a e' e).ob
        rw [ha] at this; cases this
    have M21 := M2.alloc hdx (.own a) .no
    have M22 := M21.alloc (c := a) (by rw [upd_ne fun z => ne z.symm]; exact ha) (.ins A.C_Slot dx []) .slot
    have nia : ia ≠ a := ne_of_none hia ha
    have nid : ia ≠ dx := ne_of_none hia hdx
    refine ⟨a, dx, ia, idx, su, guessI C.m.table x.pc x.word, x, rfl, upd_same, by rw [upd_ne nia, upd_ne nid]; exact hia, N.phase, N.left, N.halt, N.value, N.cell, fun o r ho hr' hor => ⟨rfl, ?_⟩⟩
    have M23 := M22.alloc ho (.lst [.int 0, .int 0]) (.ops a)
    have M24 := M23.alloc (c := r) (by rw [upd_ne fun z => hor z.symm]; exact hr') (.lst []) (.rds a)
    have nao : a ≠ o := fun z => by rw [← z, upd_same] at ho; cases ho
    have nar : a ≠ r := fun z => by rw [← z, upd_same] at hr'; cases hr'
    have nio : ia ≠ o := fun z => by rw [← z, upd_ne nia, upd_ne nid, hia] at ho; cases ho
    have nir : ia ≠ r := fun z => by rw [← z, upd_ne nia, upd_ne nid, hia] at hr'; cases hr'
    have ra : setR (setR (setR (setR ρ2 dx .no) a .slot) o (.ops a)) r (.rds a) a = .slot := by rw [setR_ne nar, setR_ne nao, setR_same]
    have M25 := M24.wNew (c := a) (.ins A.C_Slot dx (slotF ⟨ia, idx, dx, o, r, x, su, guessI C.m.table x.pc x.word, (((x.pc + 1) % Sd48.W : Nat) : Int), fun _ => 0, 0, []⟩)) ra haT
    refine ⟨_, ⟨ia, idx, dx, o, r, x, su, guessI C.m.table x.pc x.word, (((x.pc + 1) % Sd48.W : Nat) : Int), fun _ => 0, 0, []⟩, M25.nSlot ?_, haT, rfl, rfl, rfl, by simp, rfl, rfl, rfl, rfl, rfl⟩
    refine ⟨upd_same, ra, ?_, ?_, ?_, ?_, fun r hr => by simp at hr, ?_, ?_⟩
    · rw [upd_ne nao.symm, upd_ne hor, upd_same]
    · rw [setR_ne hor, setR_same]
    · rw [upd_ne nar.symm, upd_same]; rfl
    · rw [setR_same]
    · rw [upd_ne nia, upd_ne nir, upd_ne nio, upd_ne nia, upd_ne nid]; exact hia
    · rw [setR_ne nir, setR_ne nio, setR_ne nia, setR_ne nid]; exact ria
  rintro σ3 H3 ⟨ρ3, a, d, rfl, M3, ha, d1, d2, d3, d4, d5, d6, d7, d8, d9⟩
  have lt0 := rd_lt x.word false
  have lt1 := rd_lt x.word true
  have se0 := hR.setter ha lt0
  have se1 := hR.setter ha lt1
  have neT : ∀ b e, C.T b = some e → b ≠ a := fun b e he z => by rw [z, ha] at he; cases he
  have up : ∀ b e, b ≠ a → C.T b = some e → ∃ e', updT C.T a d b = some e' ∧ e'.x = e.x := fun b e hb he => ⟨e, (updT_ne hb).trans he, rfl⟩
  generalize hav0 : Sd48.avail C.m.arch C.m.slots (rd (Sd48.ins x.word) false) = av0 at se0
  generalize hav1 : Sd48.avail C.m.arch C.m.slots (rd (Sd48.ins x.word) true) = av1 at se1
  refine ⟨fun σ H' => ∃ (ρ' : Addr → Role) (T' : Nat → Option SD), σ = [some (.ref p), some (.int (C.m.fetchPc : Int)), some (.ref ia), some (.ref a)] ∧ Mod A H' F p (C.wT T') ρ' ∧ Took (C.wT (updT C.T a d)) a d false (rd (Sd48.ins x.word) false) av0 T', ?_, ?_⟩
  · have h1 := M3.mach
    have h2 := (M3.slot a d updT_same).ins
    rw [d8, d9, d1, d2] at h2
    simp [h1, h2, machF, insF, T.c_Machine, T.c_Slot, T.c_Instruction, T.n_Machine_fetch_place, T.n_Slot_guess, T.n_Instruction_first, T.n_Instruction_second, T.n_Instruction_written, T.n_Machine_prog, T.n_Machine_setters, T.n_Machine_slots]
    refine ⟨F, p, _, ρ3, a, rd (Sd48.ins x.word) false, false, d, av0, rfl, M3, updT_same, by rw [d7]; simp, se0.wT up, fun b e he hs ph => ?_, fun H' ρ' T' M' tk => ⟨ρ', T', M', tk⟩⟩
    have hb : b ≠ a := by
      intro z
      obtain ⟨_, _, _, q⟩ := se0
      rcases q with ⟨q, _⟩ | ⟨b', e', q, q2, _⟩
      · have : C.set[rd (Sd48.ins x.word) false]? = some (some b) := hs
        rw [q] at this; cases this
      · have : C.set[rd (Sd48.ins x.word) false]? = some (some b) := hs
        rw [q] at this; cases this
        exact q2 z
    have := hR.setter_le (e := e) ((updT_ne hb).symm.trans he) hs ph
    omega
  rintro σ4 H4 ⟨ρ4, T4, rfl, M4, tk4⟩
  obtain ⟨⟨d', td', e1, e2, e3, e4, e5, e6, e7, e8⟩, oth⟩ := tk4
  refine ⟨fun σ H' => ∃ (ρ' : Addr → Role) (T' : Nat → Option SD), σ = [some (.ref p), some (.int (C.m.fetchPc : Int)), some (.ref ia), some (.ref a)] ∧ Mod A H' F p (C.wT T') ρ' ∧ Took (C.wT T4) a d' true (rd (Sd48.ins x.word) true) av1 T', ?_, ?_⟩
  · have h1 := M4.mach
    have h2 := (M4.slot a d' td').ins
    rw [e6, e7, e1, e2, d8, d9, d1, d2] at h2
    simp [h1, h2, machF, insF, T.c_Machine, T.c_Slot, T.c_Instruction, T.n_Machine_fetch_place, T.n_Slot_guess, T.n_Instruction_first, T.n_Instruction_second, T.n_Instruction_written, T.n_Machine_prog, T.n_Machine_setters, T.n_Machine_slots]
    refine ⟨F, p, _, ρ4, a, rd (Sd48.ins x.word) true, true, d', av1, rfl, M4, td', by rw [e5, d7]; simp, se1.wT fun b e hb he => ?_, fun b e he hs ph => ?_, fun H' ρ' T' M' tk => ⟨ρ', T', M', tk⟩⟩
    · obtain ⟨e', q1, q2, _⟩ := oth b e hb ((updT_ne hb).trans he)
      exact ⟨e', q1, q2.x⟩
    · have hb : b ≠ a := by
        intro z
        obtain ⟨_, _, _, q⟩ := se1
        rcases q with ⟨q, _⟩ | ⟨b', e', q, q2, _⟩
        · have : C.set[rd (Sd48.ins x.word) true]? = some (some b) := hs
          rw [q] at this; cases this
        · have : C.set[rd (Sd48.ins x.word) true]? = some (some b) := hs
          rw [q] at this; cases this
          exact q2 z
      obtain ⟨_, _, _, q⟩ := se1
      rcases q with ⟨q, _⟩ | ⟨b', eb, q, q2, q3, _⟩
      · have : C.set[rd (Sd48.ins x.word) true]? = some (some b) := hs
        rw [q] at this; cases this
      · have : C.set[rd (Sd48.ins x.word) true]? = some (some b) := hs
        rw [q] at this; cases this
        obtain ⟨e', y1, y2, y3⟩ := oth b eb hb ((updT_ne hb).trans q3)
        have : e' = e := Option.some.inj (y1.symm.trans he)
        subst this
        have := hR.setter_le q3 q (by rw [← y2.x]; exact ph)
        have y4 := congrArg List.length y3
        rw [List.length_map, List.length_append, List.length_map] at y4
        split at y4 <;> simp at y4 <;> omega
  rintro σ5 H5 ⟨ρ5, T5, rfl, M5, tk5⟩
  obtain ⟨⟨d'', td'', f1, f2, f3, f4, f5, f6, f7, f8⟩, oth5⟩ := tk5
  have fx : d''.x = x := f1.trans (e1.trans d1)
  have fs : d''.sure = su := f2.trans (e2.trans d2)
  have fg : d''.guess = guessI C.m.table x.pc x.word := f3.trans (e3.trans d3)
  have fo : d''.goes = (((x.pc + 1) % Sd48.W : Nat) : Int) := f4.trans (e4.trans d4)
  have fr : d''.rds = [] := f5.trans (e5.trans d7)
  refine ⟨fun σ H' => ∃ (ρ' : Addr → Role), σ = [some (.ref p), some (.int (C.m.fetchPc : Int)), some (.ref ia), some (.ref a)] ∧ Mod A H' F p { C.wT T5 with set := if Sd48.dest (Sd48.ins x.word) = 0 then C.set else C.set.set (Sd48.dest (Sd48.ins x.word)) (some a) } ρ', ?_, ?_⟩
  · have h1 := M5.mach
    have h2 := (M5.slot a d'' td'').ins
    rw [f6, f7, fx, fs, e6, e7, d8, d9] at h2
    have h3 := (M5.lst .setters).1
    have dl := dest_lt x.word
    have ix : ixN C.set.length (Sd48.dest (Sd48.ins x.word) : Int) = some (Sd48.dest (Sd48.ins x.word)) := ix_nat (by rw [hR.setL]; exact dl)
    have e0 : (C.wT T5).set = C.set := rfl
    simp [h1, h2, h3, machF, insF, e0, ix, T.c_Machine, T.c_Slot, T.c_Instruction, T.n_Machine_fetch_place, T.n_Slot_guess, T.n_Instruction_first, T.n_Instruction_second, T.n_Instruction_written, T.n_Machine_prog, T.n_Machine_setters, T.n_Machine_slots]
    by_cases c : Sd48.dest (Sd48.ins x.word) = 0
    · rw [if_pos (by omega), if_pos c]
      exact ⟨ρ5, M5⟩
    · rw [if_neg (by omega), if_neg c]
      have := M5.wList .setters { C.wT T5 with set := C.set.set (Sd48.dest (Sd48.ins x.word)) (some a) } rfl rfl rfl (by intro k hk; cases k <;> first | rfl | exact absurd rfl hk) rfl rfl rfl
      rw [lv_setters, List.map_set] at this
      exact ⟨ρ5, this⟩
  rintro σ6 H6 ⟨ρ6, rfl, M6⟩
  generalize hst : (if Sd48.dest (Sd48.ins x.word) = 0 then C.set else C.set.set (Sd48.dest (Sd48.ins x.word)) (some a)) = st at M6
  refine ⟨fun σ H' => ∃ (ρ' : Addr → Role), σ = [some (.ref p), some (.int (C.m.fetchPc : Int)), some (.ref ia), some (.ref a)] ∧ Mod A H' F p { C.wT T5 with set := st, q := C.q ++ [a] } ρ', ?_, ?_⟩
  · have h1 := M6.mach
    have h2 := (M6.lst .slots).1
    have ty := ty_lst (K := K) h2
    have ql : C.q.length < sizeLine := by
      have := hR.len
      have : C.q.length < 64 := by omega
      exact Nat.lt_of_lt_of_le this (by decide)
    have e0 : (C.wT T5).q = C.q := rfl
    simp [h1, h2, machF, ty, e0, ql, T.c_Machine, T.c_Slot, T.c_Instruction, T.n_Machine_fetch_place, T.n_Slot_guess, T.n_Instruction_first, T.n_Instruction_second, T.n_Instruction_written, T.n_Machine_prog, T.n_Machine_setters, T.n_Machine_slots]
    have := M6.wList .slots { C.wT T5 with set := st, q := C.q ++ [a] } rfl rfl rfl (by intro k hk; cases k <;> first | rfl | exact absurd rfl hk) rfl rfl rfl
    rw [lv_slots, List.map_append] at this
    exact ⟨ρ6, this⟩
  rintro σ7 H7 ⟨ρ7, rfl, M7⟩
  have h1 := M7.mach
  have h2 := (M7.slot a d'' td'').ob
  simp [h1, h2, machF, slotF, T.c_Machine, T.c_Slot, T.c_Instruction, T.n_Machine_fetch_place, T.n_Slot_guess, T.n_Instruction_first, T.n_Instruction_second, T.n_Instruction_written, T.n_Machine_prog, T.n_Machine_setters, T.n_Machine_slots]
  have fpS : x.last = false → newPc C.m = x.guess ∧ d''.guess = (x.guess : Int) := by
    intro l
    obtain ⟨g1, g2⟩ := N.guess l
    refine ⟨g2, ?_⟩
    rw [fg, g1]
    refine guess_eq fun z => ?_
    rw [N.last, z] at l
    simp at l
  refine k _ ρ7 { C with m := { C.m with slots := C.m.slots ++ [x], fetchPc := newPc C.m }, q := C.q ++ [a], T := T5, set := st, fp := d''.guess } (M7.wMach { C with m := { C.m with slots := C.m.slots ++ [x], fetchPc := newPc C.m }, q := C.q ++ [a], T := T5, set := st, fp := d''.guess } rfl rfl rfl rfl rfl rfl) ?_ (by rw [fetched_eq, hx])
  refine hR.fetch ha hno hroom N.pc wfx ?_ td'' ?_ fr ?_ hst.symm fpS
  · rw [N.phase]
    split
    · exact .inr rfl
    · exact .inl rfl
  · refine ⟨fx, by rw [fs]; exact N.sure, fun w v hv => ?_, ?_, fun l => (fpS l).2, fun l z => ?_, fun _ => fo, fun z1 z2 => ?_⟩
    · rw [List.take_length] at hv
      cases w with
      | false =>
        rw [hav0] at hv
        subst hv
        have : d'.ops false = (v : Int) := by rw [e8.1]; rfl
        cases av1 with
        | none => rw [f8.1]; exact this
        | some v1 => rw [f8.1]; exact this
      | true =>
        rw [hav1] at hv
        subst hv
        rw [f8.1]
        rfl
    · rw [List.take_length]
      unfold pn
      rw [hav0, hav1]
      cases av0 with
      | none =>
        cases av1 with
        | none => rw [f8.2, e8.2, d6]; rfl
        | some v1 => rw [f8.2, e8.2, d6]; rfl
      | some v0 =>
        cases av1 with
        | none => rw [f8.2, e8.2, d6]; rfl
        | some v1 => rw [f8.2, e8.2, d6]; rfl
    · rw [fs] at z
      rw [fg]
      unfold guessI
      rw [N.last, z] at l
      have : (Sd48.ins x.word).op = 18 := by simpa using l
      rw [if_pos this]
    · rw [fs] at z2
      have := N.phase
      rw [if_pos z2] at this
      exact absurd this z1
  · intro b e he
    have hb := neT b e he
    obtain ⟨e', q1, q2, q3⟩ := oth b e hb ((updT_ne hb).trans he)
    obtain ⟨e'', r1, r2, r3⟩ := oth5 b e' hb q1
    have sr := q2.trans r2
    refine ⟨e'', r1, sr.x, sr.sure, sr.ops, sr.mis, sr.guess, sr.goes, ?_⟩
    rw [r3, q3]
    unfold nw
    rw [hav0, hav1, List.append_assoc]
    rfl
def sp_fe (A : Ad) : Sp := fun vs H Q _ => ∃ (F : Hp) (p : Addr) (C : CS) (ρ : Addr → Role), vs = [.ref p] ∧ Mod A H F p C ρ ∧ R C ∧ Q (.bl (C.m.slots.any fun x => x.last)) H
theorem ok_fe (T : Txt K mg A) : FnOk P w K mg base CX0 1 A.f_Machine_fetching_ended A.d_Machine_fetching_ended ["self"] (sp_fe A) := by
  refine T.F_Machine_fetching_ended.ok sc_Machine_fetching_ended (by rintro vs H Q E ⟨F, p, C, ρ, rfl, _⟩; rfl) (fun cdv Ar outer s H vs Q E hr h => ?_)
  obtain ⟨F, p, C, ρ, rfl, M, hR, k⟩ := h
  refine ⟨_, (pss_cons (ps_if (pt_not (pt_lst (pe_fld (pv 0) rfl) (fun _ => rfl))) (pss_one (ps_ret pe_bl)) pss_nil)
    (pss_cons (ps_set (i := 1) sc_Machine_fetching_ended.nd rfl (Or.inl rfl) (pe_fld (pe_ix ix_h (pe_fld (pv 0) rfl) (pe_un un_neg pe_int) (fun _ _ => rfl)) rfl))
    (pss_one (ps_ret (pe_or (pe_cmpR op_eq (pe_fld (pv 1) rfl) (pe_k T.v_JUMP_TO_VALUE) (nomark _)) (pe_one (pe_cmpR op_ne (pe_fld (pv 1) rfl) pe_int (nomark _)))))))), ?_⟩
  have h1 := M.mach
  have h2 := (M.lst .slots).1
  have len := hR.len
  simp [h1, h2, machF, T.c_Slot, T.c_Machine, T.c_Instruction, T.n_Slot_instruction, T.n_Machine_slots, T.n_Instruction_op, T.n_Slot_op, T.n_Instruction_sure_stop]
  rcases List.eq_nil_or_concat C.q with eq | ⟨q', a, eq⟩
  · rw [if_pos eq]
    have : C.m.slots = [] := by
      rw [eq] at len
      exact List.eq_nil_of_length_eq_zero len.symm
    rw [this] at k
    exact k
  · rw [List.concat_eq_append] at eq
    have hq : C.q[q'.length]? = some a := by rw [eq]; simp
    obtain ⟨x, d, hx, hd, S⟩ := hR.slot hq
    have dx := S.dx
    have SA := M.slot a d hd
    have g1 := SA.ob
    have g2 := SA.ins
    have hlast : C.m.slots.getLast? = some x := by
      rw [List.getLast?_eq_getElem?]
      have : C.m.slots.length - 1 = q'.length := by rw [← len, eq]; simp
      rw [this]
      exact hx
    have wf := hR.wf x (List.mem_of_getElem? hx)
    have any : (C.m.slots.any fun x => x.last) = x.last := by
      cases e : x.last with
      | true => exact List.any_eq_true.mpr ⟨x, List.mem_of_getElem? hx, e⟩
      | false =>
        rw [List.any_eq_false]
        intro y hy
        obtain ⟨j, hj⟩ := List.getElem?_of_mem hy
        have jl := (List.getElem?_eq_some_iff.mp hj).1
        by_cases c : j = q'.length
        · subst c
          rw [hx] at hj; cases hj
          simp [e]
        · have : j + 1 < C.m.slots.length := by
            have : C.m.slots.length = q'.length + 1 := by rw [← len, eq]; simp
            omega
          simp [(hR.chain.nx j y _ hj (List.getElem?_eq_getElem this)).1]
    have atl : atI (C.q.map V.ref) (-1) = some (V.ref a) := by
      rw [eq, List.map_append]
      exact atI_last _ _
    rw [if_neg (by rw [eq]; simp)]
    simp [atl, g1, g2, slotF, insF, dx, T.c_Slot, T.c_Machine, T.c_Instruction, T.n_Slot_instruction, T.n_Machine_slots, T.n_Instruction_op, T.n_Slot_op, T.n_Instruction_sure_stop]
    rw [any] at k
    have wl := wf.last
    rw [← S.sure] at wl
    by_cases c : (Sd48.ins x.word).op = 18
    · rw [if_pos (by omega)]
      rw [wl, c] at k
      simpa using k
    · rw [if_neg (by omega)]
      have e1 : ((Sd48.ins x.word).op == 18) = false := by simpa using c
      have e2 : (d.sure != 0) = !decide (d.sure = 0) := by
        cases h : decide (d.sure = 0) <;> simp at h <;> simp [h]
      rw [wl, e1, Bool.or_false, e2] at k
      exact k
def minI (a b : Int) : Int := if b < a then b else a
def invF (A : Ad) (F : Hp) (p : Addr) (c : Sd48.Cfg) (m : Sd48.M) (σ : L2.St) (H : Hp) : Prop := ∃ (ρ : Addr → Role) (C : CS) (n : Nat), σ = [some (.ref p), some (.int (minI (n : Int) ((c.slots : Int) - C.m.slots.length)))] ∧ Mod A H F p C ρ ∧ R C ∧ Sd48.fetches n C.m = m ∧ C.m.cfg = c
def sp_fetch (A : Ad) : Sp := fun vs H Q _ => ∃ (F : Hp) (p : Addr) (C : CS) (ρ : Addr → Role), vs = [.ref p] ∧ Mod A H F p C ρ ∧ R C ∧
  ∀ (H' : Hp) (ρ' : Addr → Role) (C' : CS), Mod A H' F p C' ρ' → R C' → C'.m = Sd48.fetches C.m.cfg.fetch C.m → Q .non H'
theorem ok_fetch (T : Txt K mg A) : FnOk P w K mg base CX0 11 A.f_Machine_fetch A.d_Machine_fetch ["self"] (sp_fetch A) := by
  have G_Machine_fetching_ended : FnOk P w K mg base CX0 1 _ _ _ _ := ok_fe T
  have G_Machine_fetch_one : FnOk P w K mg base CX0 9 _ _ _ _ := ok_f1 T
  refine T.F_Machine_fetch.ok sc_Machine_fetch (by rintro vs H Q E ⟨F, p, C, ρ, rfl, _⟩; rfl) (fun cdv Ar outer s H vs Q E hr h => ?_)
  obtain ⟨F, p, C, ρ, rfl, M, hR, k⟩ := h
  refine ⟨_, (pss_cons (ps_set (i := 1) sc_Machine_fetch.nd rfl (Or.inl rfl) (pe_callB (call_min_h rfl) (by rfl) T.z_min boot_minO (pa_cons (pe_fld (pv 0) rfl) (pa_cons (pe_op op_sub (pe_fld (pv 0) rfl) (pe_callB call_len_h (by rfl) T.z_len PySem.boot_len (pa_cons (pe_fld (pv 0) rfl) pa_nil))) pa_nil))))
    (pss_one (ps_while PassesOwn.never (PW.pt (pw_and (pt_cmpR op_gt (pv 1) pe_int (nomark _)) (pw_and1 (pt_not (pt_val (pe_meth0 (pv 0) T.c_Machine T.M_Machine_fetching_ended G_Machine_fetching_ended (hr.mono (by decide)) T.b_Machine_fetching_ended .nil pass0)))))) (pss_cons (ps_expr (pe_meth0 (pv 0) T.c_Machine T.M_Machine_fetch_one G_Machine_fetch_one (hr.mono (by decide)) T.b_Machine_fetch_one .nil pass0))
    (pss_one (ps_aug (i := 1) sc_Machine_fetch.nd rfl (Or.inl rfl) pe_int ip_sub)))))), ?_⟩
  have h1 := M.mach
  have h2 := (M.lst .slots).1
  have len := hR.len
  simp [h1, h2, machF, T.c_Machine, T.n_Machine_most_fetched, T.n_Machine_most_slots, T.n_Machine_slots]
  refine while_h (invF A F p C.m.cfg (Sd48.fetches C.m.cfg.fetch C.m)) (fun σ _ => cnt 1 σ) ⟨ρ, C, C.m.cfg.fetch, by rw [← len]; rfl, M, hR, rfl, rfl⟩ ?_
  rintro σ H' ⟨ρ', C', n, rfl, M', R', hf, hc⟩
  have g1 := M'.mach
  have kk := fun (e : C'.m = Sd48.fetches n C'.m) => k H' ρ' C' M' R' (e.trans hf)
  simp [g1, machF, T.c_Machine, T.n_Machine_most_fetched, T.n_Machine_most_slots, T.n_Machine_slots]
  by_cases c : 0 < minI (n : Int) ((C.m.cfg.slots : Int) - C'.m.slots.length)
  · rw [if_pos c]
    refine ⟨F, p, C', ρ', rfl, M', R', ?_⟩
    have c' : 0 < n ∧ C'.m.slots.length < C.m.cfg.slots := by
      unfold minI at c
      split at c <;> omega
    obtain ⟨n, rfl⟩ : ∃ j, n = j + 1 := ⟨n - 1, by omega⟩
    by_cases ca : (C'.m.slots.any fun x => x.last) = true
    · rw [ca]
      simp
      refine kk ?_
      unfold Sd48.fetches
      rw [if_pos (.inr ca)]
    · have ca' : (C'.m.slots.any fun x => x.last) = false := by simpa using ca
      rw [ca']
      simp
      refine nextW_of ?_
      simp [g1, machF, T.c_Machine, T.n_Machine_most_fetched, T.n_Machine_most_slots, T.n_Machine_slots]
      have rS := R'.roomS
      rw [hc] at rS
      refine ⟨F, p, C', ρ', rfl, M', R', fun y hy => ?_, by omega, fun H2 ρ2 C2 M2 R2 m2 => ?_⟩
      · have := List.any_eq_false.mp ca' y hy
        simpa using this
      · have l2 : C2.m.slots.length = C'.m.slots.length + 1 := by rw [m2, fetched_eq]; simp
        have e2 : minI ((n + 1 : Nat) : Int) ((C.m.cfg.slots : Int) - C'.m.slots.length) - 1 = minI (n : Int) ((C.m.cfg.slots : Int) - C2.m.slots.length) := by
          rw [l2]
          unfold minI
          split <;> split <;> omega
        have e3 : ((n + 1 : Nat) : Int) = (n : Int) + 1 := by simp
        rw [e3] at e2
        refine ⟨⟨ρ2, C2, n, ?_, M2, R2, ?_, ?_⟩, ?_⟩
        · rw [e2]
        · rw [← hf, m2]
          conv => rhs; unfold Sd48.fetches
          rw [if_neg]
          rintro (z | z)
          · rw [hc] at z; omega
          · exact ca z
        · rw [m2, fetched_eq]; exact hc
        · unfold cnt
          simp
          rw [e3] at c
          omega
  · rw [if_neg c]
    refine kk ?_
    cases n with
    | zero => rfl
    | succ n =>
      unfold Sd48.fetches
      rw [if_pos]
      left
      rw [hc]
      unfold minI at c
      split at c <;> omega
end Ooo
namespace Ooo
open PySem L2 Ex
variable {P : Program} {w : World} {K : PySem.W.Frag} {mg : Str → Option Value} {base : Heap} {A : Ad}
theorem begun_congr {m m' : Sd48.M} (h1 : m'.arch = m.arch) (h2 : m'.cfg = m.cfg) (older : List Sd48.Slot) (x : Sd48.Slot) (y : List Sd48.Slot) : Sd48.begun m' older x y = Sd48.begun m older x y := by
  unfold Sd48.begun
  rw [h1, h2]
theorem issued_congr {m m' : Sd48.M} (h1 : m'.arch = m.arch) (h2 : m'.cfg = m.cfg) : ∀ (l older : List Sd48.Slot), Sd48.issued m' older l = Sd48.issued m older l
  | [], older => rfl
  | x :: r, older => by
    unfold Sd48.issued
    rw [begun_congr h1 h2]
    exact issued_congr h1 h2 r _
def sp_cyc (A : Ad) : Sp := fun vs H Q _ => ∃ (F : Hp) (p : Addr) (C : CS) (ρ : Addr → Role), vs = [.ref p] ∧ Mod A H F p C ρ ∧ R C ∧ C.m.halt_ = 0 ∧
  ∀ (H' : Hp) (ρ' : Addr → Role) (C' : CS), Mod A H' F p C' ρ' → R C' → C'.m = Sd48.cycle C.m → Q .non H'
theorem ok_cyc (T : Txt K mg A) : FnOk P w K mg base CX0 13 A.f_Machine_run_cycle A.d_Machine_run_cycle ["self"] (sp_cyc A) := by
  have G_Machine_let_leave : FnOk P w K mg base CX0 5 _ _ _ _ := ok_leave T
  have G_Machine_let_run_on : FnOk P w K mg base CX0 3 _ _ _ _ := ok_run_on T
  have G_Machine_let_begin : FnOk P w K mg base CX0 9 _ _ _ _ := ok_begin T
  have G_Machine_fetch : FnOk P w K mg base CX0 11 _ _ _ _ := ok_fetch T
  refine T.F_Machine_run_cycle.ok sc_Machine_run_cycle (by rintro vs H Q E ⟨F, p, C, ρ, rfl, _⟩; rfl) (fun cdv Ar outer s H vs Q E hr h => ?_)
  obtain ⟨F, p, C, ρ, rfl, M, hR, hh, k⟩ := h
  refine ⟨_, (pss_cons (ps_fldaug (pv 0) pe_int in_add)
    (pss_cons (ps_expr (pe_meth0 (pv 0) T.c_Machine T.M_Machine_let_leave G_Machine_let_leave (hr.mono (by decide)) T.b_Machine_let_leave .nil pass0))
    (pss_one (ps_if (pt_cmpR op_eq (pe_fld (pv 0) rfl) pe_int (nomark _)) (pss_cons (ps_expr (pe_meth0 (pv 0) T.c_Machine T.M_Machine_let_run_on G_Machine_let_run_on (hr.mono (by decide)) T.b_Machine_let_run_on .nil pass0))
    (pss_cons (ps_expr (pe_meth0 (pv 0) T.c_Machine T.M_Machine_let_begin G_Machine_let_begin (hr.mono (by decide)) T.b_Machine_let_begin .nil pass0))
    (pss_one (ps_expr (pe_meth0 (pv 0) T.c_Machine T.M_Machine_fetch G_Machine_fetch (hr.mono (by decide)) T.b_Machine_fetch .nil pass0))))) pss_nil)))), ?_⟩
  have h1 := M.mach
  have M1 := M.wMach { C with m := { C.m with cycles := C.m.cycles + 1 } } rfl rfl rfl rfl rfl rfl
  have R1 := hR.scal C.m.halt_ (C.m.cycles + 1) C.m.retired C.m.thrown C.m.wrong
  simp [h1, machF, T.c_Machine, T.n_Machine_cycles_run, T.n_Machine_stopped]
  refine ⟨F, p, _, ρ, rfl, M1, R1, fun H2 ρ2 C2 M2 R2 m2 => ?_⟩
  have g1 := M2.mach
  simp [g1, machF, T.c_Machine, T.n_Machine_cycles_run, T.n_Machine_stopped]
  have ec : Sd48.cycle C.m = if C2.m.halt_ ≠ 0 then C2.m else Sd48.fetches C2.m.cfg.fetch { C2.m with slots := Sd48.issued C2.m [] (Sd48.sent C2.m.cfg.buses (C2.m.slots.map Sd48.ticked)) } := by
    unfold Sd48.cycle
    rw [if_neg (by omega), m2]
  by_cases c : C2.m.halt_ = 0
  · rw [if_pos c]
    rw [if_neg (by omega)] at ec
    refine ⟨F, p, C2, ρ2, rfl, M2, R2, fun H3 ρ3 C3 M3 R3 m3 => ?_⟩
    have g2 := M3.mach
    simp [g2, machF, T.c_Machine, T.n_Machine_cycles_run, T.n_Machine_stopped]
    refine ⟨F, p, C3, ρ3, rfl, M3, R3, fun H4 ρ4 C4 M4 R4 m4 => ?_⟩
    have g3 := M4.mach
    simp [g3, machF, T.c_Machine, T.n_Machine_cycles_run, T.n_Machine_stopped]
    refine ⟨F, p, C4, ρ4, rfl, M4, R4, fun H5 ρ5 C5 M5 R5 m5 => ?_⟩
    refine k H5 ρ5 C5 M5 R5 ?_
    have e1 : Sd48.issued C3.m [] C3.m.slots = Sd48.issued C2.m [] (Sd48.sent C2.m.cfg.buses (C2.m.slots.map Sd48.ticked)) := by
      have a1 : C3.m.arch = C2.m.arch := by rw [m3]
      have a2 : C3.m.cfg = C2.m.cfg := by rw [m3]
      have a3 : C3.m.slots = Sd48.sent C2.m.cfg.buses (C2.m.slots.map Sd48.ticked) := by rw [m3]
      rw [a3]
      exact issued_congr a1 a2 _ _
    have e2 : C4.m = { C2.m with slots := Sd48.issued C2.m [] (Sd48.sent C2.m.cfg.buses (C2.m.slots.map Sd48.ticked)) } := by
      rw [m4, e1, m3]
    rw [ec, m5, e2]
  · rw [if_neg c]
    rw [if_pos c] at ec
    exact k H2 ρ2 C2 M2 R2 ec.symm
theorem run_halt {m : Sd48.M} (h : m.halt_ ≠ 0) : ∀ n, Sd48.run n m = m
  | 0 => rfl
  | n + 1 => by
    unfold Sd48.run
    have : Sd48.cycle m = m := by unfold Sd48.cycle; rw [if_pos h]
    rw [this]
    exact run_halt h n
def invR (A : Ad) (F : Hp) (p : Addr) (m : Sd48.M) (σ : L2.St) (H : Hp) : Prop := ∃ (ρ : Addr → Role) (C : CS) (n : Nat), σ = [some (.ref p), some (.int (n : Int))] ∧ Mod A H F p C ρ ∧ R C ∧ Sd48.run n C.m = m
def sp_run (A : Ad) : Sp := fun vs H Q _ => ∃ (F : Hp) (p : Addr) (C : CS) (ρ : Addr → Role) (n : Nat), vs = [.ref p, .int (n : Int)] ∧ Mod A H F p C ρ ∧ R C ∧
  ∀ (H' : Hp) (ρ' : Addr → Role) (C' : CS), Mod A H' F p C' ρ' → R C' → C'.m = Sd48.run n C.m → Q .non H'
theorem ok_run (T : Txt K mg A) : FnOk P w K mg base CX0 15 A.f_Machine_run_cycles A.d_Machine_run_cycles ["self", "cycles"] (sp_run A) := by
  have G_Machine_run_cycle : FnOk P w K mg base CX0 13 _ _ _ _ := ok_cyc T
  refine T.F_Machine_run_cycles.ok sc_Machine_run_cycles (by rintro vs H Q E ⟨F, p, C, ρ, n, rfl, _⟩; rfl) (fun cdv Ar outer s H vs Q E hr h => ?_)
  obtain ⟨F, p, C, ρ, n0, rfl, M, hR, k⟩ := h
  refine ⟨_, (pss_one (ps_while PassesOwn.never (PW.pt (pw_and (pt_cmpR op_gt (pv 1) pe_int (nomark _)) (pw_and1 (pt_cmpR op_eq (pe_fld (pv 0) rfl) pe_int (nomark _))))) (pss_cons (ps_expr (pe_meth0 (pv 0) T.c_Machine T.M_Machine_run_cycle G_Machine_run_cycle (hr.mono (by decide)) T.b_Machine_run_cycle .nil pass0))
    (pss_one (ps_aug (i := 1) sc_Machine_run_cycles.nd rfl (Or.inl rfl) pe_int ip_sub))))), ?_⟩
  refine while_h (invR A F p (Sd48.run n0 C.m)) (fun σ _ => cnt 1 σ) ⟨ρ, C, n0, rfl, M, hR, rfl⟩ ?_
  rintro σ H' ⟨ρ', C', n, rfl, M', R', hm⟩
  have g1 := M'.mach
  have kk := fun (e : C'.m = Sd48.run n C'.m) => k H' ρ' C' M' R' (e.trans hm)
  simp [g1, machF, T.c_Machine, T.n_Machine_stopped]
  cases n with
  | zero =>
    rw [if_neg (by omega)]
    exact kk rfl
  | succ n =>
    rw [if_pos (by omega)]
    by_cases c : C'.m.halt_ = 0
    · rw [if_pos c]
      refine nextW_of ?_
      simp [g1, machF, T.c_Machine, T.n_Machine_stopped]
      refine ⟨F, p, C', ρ', rfl, M', R', c, fun H2 ρ2 C2 M2 R2 m2 => ?_⟩
      refine ⟨⟨ρ2, C2, n, ?_, M2, R2, ?_⟩, ?_⟩
      · rfl
      · rw [m2]
        exact hm
      · unfold cnt
        simp
    · rw [if_neg c]
      refine kk ?_
      rw [run_halt c]
def sp_next (A : Ad) : Sp := fun vs H Q _ => ∃ (F : Hp) (p : Addr) (C : CS) (ρ : Addr → Role), vs = [.ref p] ∧ Mod A H F p C ρ ∧ R C ∧ Q (.int (C.m.arch.pc : Int)) H
theorem ok_next (T : Txt K mg A) : FnOk P w K mg base CX0 1 A.f_Machine_next_to_leave A.d_Machine_next_to_leave ["self"] (sp_next A) := by
  refine T.F_Machine_next_to_leave.ok sc_Machine_next_to_leave (by rintro vs H Q E ⟨F, p, C, ρ, rfl, _⟩; rfl) (fun cdv Ar outer s H vs Q E hr h => ?_)
  obtain ⟨F, p, C, ρ, rfl, M, hR, k⟩ := h
  refine ⟨_, (pss_one (ps_ret (pe_ifExp (pt_lst (pe_fld (pv 0) rfl) (fun _ => rfl)) (pe_fld (pe_fld (pe_ix ix_h (pe_fld (pv 0) rfl) pe_int (fun _ _ => rfl)) rfl) rfl) (pe_fld (pv 0) rfl)))), ?_⟩
  have h1 := M.mach
  have h2 := (M.lst .slots).1
  have len := hR.len
  simp [h1, h2, machF, T.c_Machine, T.c_Instruction, T.c_Slot, T.n_Machine_slots, T.n_Instruction_place, T.n_Machine_fetch_place, T.n_Slot_instruction]
  cases eq : C.q with
  | nil =>
    rw [if_pos rfl]
    have e : C.m.slots = [] := by
      rw [eq] at len
      exact List.eq_nil_of_length_eq_zero len.symm
    have := (hR.chain.fp (by rw [e]; intro x hx; simp at hx)).1
    rw [this, ← hR.chain.hd0 e]
    exact k
  | cons a q' =>
    rw [if_neg (by simp)]
    obtain ⟨x, d, hx, hd, S⟩ := hR.slot (i := 0) (a := a) (by rw [eq]; rfl)
    have dx := S.dx
    have SA := M.slot a d hd
    have g1 := SA.ob
    have g2 := SA.ins
    have at0 : atI (V.ref a :: List.map V.ref q') 0 = some (V.ref a) := atI_nat (j := 0) rfl
    simp [at0, g1, g2, slotF, insF, dx, T.c_Machine, T.c_Instruction, T.c_Slot, T.n_Machine_slots, T.n_Instruction_place, T.n_Machine_fetch_place, T.n_Slot_instruction]
    rw [← hR.chain.hd x hx]
    exact k
end Ooo
namespace Ooo
open PySem L2 Ex
variable {P : Program} {w : World} {K : PySem.W.Frag} {mg : Str → Option Value} {base : Heap} {A : Ad}
/-- a machine that is being made -/
structure Pre (A : Ad) (H F : Hp) (x dx : Addr) (fs : List (Str × V)) (ρ : Addr → Role) (G : Addr → HO → Role → Prop) : Prop where
  live : ∀ b, ρ b ≠ .no → H b ≠ none
  frm : ∀ b o, F b = some o → H b = some o ∧ ρ b = .frame
  mach : H x = some (.ins A.C_Machine dx fs)
  rm : ρ x = .mach
  g : ∀ a o r, G a o r → H a = some o ∧ ρ a = r ∧ r ≠ .mach ∧ r ≠ .frame
section
variable {H F : Hp} {x dx : Addr} {fs : List (Str × V)} {ρ : Addr → Role} {G : Addr → HO → Role → Prop}
theorem Pre.alloc (h : Pre A H F x dx fs ρ G) {c : Addr} (hc : H c = none) (o : HO) {r : Role} (hr : r ≠ .mach ∧ r ≠ .frame) : Pre A (upd H c o) F x dx fs (setR ρ c r) (fun a o' r' => (a = c ∧ o' = o ∧ r' = r) ∨ G a o' r') := by
  have ne : ∀ {b : Addr} {u : HO}, H b = some u → b ≠ c := fun e => ne_of_none e hc
  refine ⟨fun b hb => ?_, fun b u e => ?_, by rw [upd_ne (ne h.mach)]; exact h.mach, by rw [setR_ne (ne h.mach)]; exact h.rm, ?_⟩
  · by_cases e : b = c
    · rw [e, upd_same]; simp
    · rw [upd_ne e]
      rw [setR_ne e] at hb
      exact h.live b hb
  · obtain ⟨h1, h2⟩ := h.frm b u e
    rw [upd_ne (ne h1), setR_ne (ne h1)]
    exact ⟨h1, h2⟩
  · rintro a o' r' (⟨rfl, rfl, rfl⟩ | z)
    · exact ⟨upd_same, setR_same, hr⟩
    · obtain ⟨h1, h2⟩ := h.g a o' r' z
      rw [upd_ne (ne h1), setR_ne (ne h1)]
      exact ⟨h1, h2⟩
theorem Pre.weak (h : Pre A H F x dx fs ρ G) {G' : Addr → HO → Role → Prop} (hg : ∀ a o r, G' a o r → G a o r) : Pre A H F x dx fs ρ G' := ⟨h.live, h.frm, h.mach, h.rm, fun a o r z => h.g a o r (hg a o r z)⟩
theorem Pre.temp (h : Pre A H F x dx fs ρ G) {c : Addr} (hc : H c = none) (o : HO) : Pre A (upd H c o) F x dx fs (setR ρ c .no) G := (h.alloc hc o (r := .no) ⟨by simp, by simp⟩).weak fun _ _ _ z => .inr z
theorem Pre.set (h : Pre A H F x dx fs ρ G) (fs' : List (Str × V)) : Pre A (upd H x (.ins A.C_Machine dx fs')) F x dx fs' ρ G := by
  refine ⟨fun b hb => ?_, fun b u e => ?_, upd_same, h.rm, fun a o r z => ?_⟩
  · by_cases e : b = x
    · rw [e, upd_same]; simp
    · rw [upd_ne e]; exact h.live b hb
  · obtain ⟨h1, h2⟩ := h.frm b u e
    have : b ≠ x := fun z => by rw [z, h.rm] at h2; cases h2
    rw [upd_ne this]
    exact ⟨h1, h2⟩
  · obtain ⟨h1, h2, h3⟩ := h.g a o r z
    have : a ≠ x := fun z => by rw [z, h.rm] at h2; exact h3.1 h2.symm
    rw [upd_ne this]
    exact ⟨h1, h2, h3⟩
theorem Pre.wr (h : Pre A H F x dx fs ρ G) {c : Addr} {r : Role} (hc : ρ c = r) (hr : r ≠ .mach ∧ r ≠ .frame) (o : HO) : Pre A (upd H c o) F x dx fs ρ (fun a o' r' => (a = c ∧ o' = o ∧ r' = r) ∨ (G a o' r' ∧ a ≠ c)) := by
  refine ⟨fun b hb => ?_, fun b u e => ?_, ?_, h.rm, ?_⟩
  · by_cases e : b = c
    · rw [e, upd_same]; simp
    · rw [upd_ne e]; exact h.live b hb
  · obtain ⟨h1, h2⟩ := h.frm b u e
    have : b ≠ c := fun z => by rw [z, hc] at h2; exact hr.2 h2
    rw [upd_ne this]
    exact ⟨h1, h2⟩
  · rw [upd_ne fun z => hr.1 (by rw [← hc, ← z]; exact h.rm)]; exact h.mach
  · rintro a o' r' (⟨rfl, rfl, rfl⟩ | ⟨z, ne⟩)
    · exact ⟨upd_same, hc, hr⟩
    · rw [upd_ne ne]
      exact h.g a o' r' z
theorem Pre.start (hx : H x = some (.ins A.C_Machine dx fs)) (hF : ∀ b o, F b = some o → H b = some o ∧ b ≠ x) : Pre A H F x dx fs (fun b => if b = x then .mach else if (F b).isSome then .frame else .no) (fun _ _ _ => False) := by
  refine ⟨fun b hb => ?_, fun b o e => ?_, hx, if_pos rfl, fun _ _ _ z => z.elim⟩
  · by_cases e : b = x
    · rw [e, hx]; simp
    · have hb' : (if b = x then Role.mach else if (F b).isSome then .frame else .no) ≠ .no := hb
      rw [if_neg e] at hb'
      cases q : F b with
      | none => rw [q] at hb'; simp at hb'
      | some o => rw [(hF b o q).1]; simp
  · obtain ⟨h1, h2⟩ := hF b o e
    refine ⟨h1, ?_⟩
    show (if b = x then Role.mach else if (F b).isSome then .frame else .no) = .frame
    rw [if_neg h2, e]
    rfl
end
/-- the attributes ahead of fetch_from -/
def pre14 (v0 v1 v2 v3 v4 v5 v6 v7 v8 v9 v10 v11 v12 v13 : V) : List (Str × V) := [("prog", v0), ("cells", v1), ("regs", v2), ("most_fetched", v3), ("most_leaving", v4), ("most_passed_on", v5), ("most_slots", v6), ("units", v7), ("counters", v8), ("stopped", v9), ("cycles_run", v10), ("have_left", v11), ("thrown_away", v12), ("wrong_guesses", v13)]
def sp_ff0 (A : Ad) : Sp := fun vs H Q _ => ∃ (F : Hp) (x dx : Addr) (ρ : Addr → Role) (G : Addr → HO → Role → Prop) (v0 v1 v2 v3 v4 v5 v6 v8 v9 v10 v11 v12 v13 : V) (lu : Addr) (us : List V) (pl : Int), vs = [.ref x, .int pl] ∧ Pre A H F x dx (pre14 v0 v1 v2 v3 v4 v5 v6 (.ref lu) v8 v9 v10 v11 v12 v13) ρ G ∧ G lu (.lst us) (.ml .units) ∧
  ∀ (H' : Hp) (ρ' : Addr → Role) (ls lt lf : Addr), Pre A H' F x dx (F_Machine v0 v1 v2 v3 v4 v5 v6 (.ref lu) v8 v9 v10 v11 v12 v13 (.ref ls) (.ref lt) (.ref lf) (.int pl)) ρ' (fun a o r => (a = lf ∧ o = .lst us ∧ r = .ml .free) ∨ (a = lt ∧ o = .lst (List.replicate 16 .non) ∧ r = .ml .setters) ∨ (a = ls ∧ o = .lst [] ∧ r = .ml .slots) ∨ G a o r) → Q .non H'
theorem ok_ff0 (T : Txt K mg A) : FnOk P w K mg base CX0 1 A.f_Machine_fetch_from A.d_Machine_fetch_from ["self", "place"] (sp_ff0 A) := by
  refine T.F_Machine_fetch_from.ok sc_Machine_fetch_from (by rintro vs H Q E ⟨F, x, dx, ρ, G, _, _, _, _, _, _, _, _, _, _, _, _, _, lu, us, pl, rfl, _⟩; rfl) (fun cdv Ar outer s H vs Q E hr h => ?_)
  obtain ⟨F, x, dx, ρ, G, v0, v1, v2, v3, v4, v5, v6, v8, v9, v10, v11, v12, v13, lu, us, pl, rfl, M, hu, k⟩ := h
  refine ⟨_, (pss_cons (ps_cut (ps_fld (pv 0) (pe_lst pa_nil) rfl))
    (pss_cons (ps_cut (ps_fld (pv 0) (pe_op op_rep (pe_lst (pa_cons pe_non pa_nil)) pe_int) rfl))
    (pss_cons (ps_cut (ps_fld (pv 0) (pe_callTy call_list_h (by rfl) T.z_list boot_listO (pa_cons (pe_fld (pv 0) rfl) pa_nil)) rfl))
    (pss_one (ps_fld (pv 0) (pv 1) rfl))))), ?_⟩
  have s1 : 1 ≤ sizeLine := by decide
  have s16 : 16 ≤ sizeLine := by decide
  simp only [r_tSeq, r_tCut]
  refine ⟨fun σ H' => ∃ (ρ' : Addr → Role) (ls : Addr), σ = [some (.ref x), some (.int pl)] ∧ Pre A H' F x dx (putF "slots" (.ref ls) (pre14 v0 v1 v2 v3 v4 v5 v6 (.ref lu) v8 v9 v10 v11 v12 v13)) ρ' (fun a o r => (a = ls ∧ o = .lst [] ∧ r = .ml .slots) ∨ G a o r), ?_, ?_⟩
  · simp
    intro y hy
    have M1 := M.alloc hy (.lst []) (r := .ml .slots) ⟨by simp, by simp⟩
    have h1 := M1.mach
    have nf : (pre14 v0 v1 v2 v3 v4 v5 v6 (.ref lu) v8 v9 v10 v11 v12 v13).length < 1000 := by show 14 < 1000; decide
    simp [h1, nf, T.c_Machine, T.n_Machine_slots, T.n_Machine_setters, T.n_Machine_free_units, T.n_Machine_fetch_place, T.n_Machine_units]
    exact ⟨_, y, M1.set _⟩
  rintro σ1 H1 ⟨ρ1, ls, rfl, M1⟩
  refine ⟨fun σ H' => ∃ (ρ' : Addr → Role) (lt : Addr), σ = [some (.ref x), some (.int pl)] ∧ Pre A H' F x dx (putF "setters" (.ref lt) (putF "slots" (.ref ls) (pre14 v0 v1 v2 v3 v4 v5 v6 (.ref lu) v8 v9 v10 v11 v12 v13))) ρ' (fun a o r => (a = lt ∧ o = .lst (List.replicate 16 .non) ∧ r = .ml .setters) ∨ (a = ls ∧ o = .lst [] ∧ r = .ml .slots) ∨ G a o r), ?_, ?_⟩
  · simp [s1]
    intro y hy
    have M2 := M1.temp hy (.lst [.non])
    simp [s16]
    intro z hz
    have M3 := M2.alloc hz (.lst (List.replicate 16 .non)) (r := .ml .setters) ⟨by simp, by simp⟩
    have h1 := M1.mach
    have nxy : x ≠ y := ne_of_none M1.mach hy
    have nxz : x ≠ z := ne_of_none M2.mach hz
    have nf : (putF "slots" (.ref ls) (pre14 v0 v1 v2 v3 v4 v5 v6 (.ref lu) v8 v9 v10 v11 v12 v13)).length < 1000 := by simp [pre14]
    simp [h1, nf, upd_ne nxy, upd_ne nxz, T.c_Machine, T.n_Machine_slots, T.n_Machine_setters, T.n_Machine_free_units, T.n_Machine_fetch_place, T.n_Machine_units]
    exact ⟨_, z, M3.set _⟩
  rintro σ2 H2 ⟨ρ2, lt, rfl, M2⟩
  refine ⟨fun σ H' => ∃ (ρ' : Addr → Role) (lf : Addr), σ = [some (.ref x), some (.int pl)] ∧ Pre A H' F x dx (putF "free_units" (.ref lf) (putF "setters" (.ref lt) (putF "slots" (.ref ls) (pre14 v0 v1 v2 v3 v4 v5 v6 (.ref lu) v8 v9 v10 v11 v12 v13)))) ρ' (fun a o r => (a = lf ∧ o = .lst us ∧ r = .ml .free) ∨ (a = lt ∧ o = .lst (List.replicate 16 .non) ∧ r = .ml .setters) ∨ (a = ls ∧ o = .lst [] ∧ r = .ml .slots) ∨ G a o r), ?_, ?_⟩
  · have h1 := M2.mach
    have h2 := (M2.g lu _ _ (.inr (.inr hu))).1
    have lk : (putF "setters" (.ref lt) (putF "slots" (.ref ls) (pre14 v0 v1 v2 v3 v4 v5 v6 (.ref lu) v8 v9 v10 v11 v12 v13))).lookup (Str.ofString "units") = some (.ref lu) := by simp [pre14]; kernel_rfl
    have nf : (putF "setters" (.ref lt) (putF "slots" (.ref ls) (pre14 v0 v1 v2 v3 v4 v5 v6 (.ref lu) v8 v9 v10 v11 v12 v13))).length < 1000 := by simp [pre14]
    simp [h1, h2, lk, T.c_Machine, T.n_Machine_slots, T.n_Machine_setters, T.n_Machine_free_units, T.n_Machine_fetch_place, T.n_Machine_units]
    intro y hy
    have M3 := M2.alloc hy (.lst us) (r := .ml .free) ⟨by simp, by simp⟩
    have nxy : x ≠ y := ne_of_none M2.mach hy
    simp [h1, nf, upd_ne nxy, T.c_Machine, T.n_Machine_slots, T.n_Machine_setters, T.n_Machine_free_units, T.n_Machine_fetch_place, T.n_Machine_units]
    exact ⟨_, y, M3.set _⟩
  rintro σ3 H3 ⟨ρ3, lf, rfl, M3⟩
  have h1 := M3.mach
  have nf : (putF "free_units" (.ref lf) (putF "setters" (.ref lt) (putF "slots" (.ref ls) (pre14 v0 v1 v2 v3 v4 v5 v6 (.ref lu) v8 v9 v10 v11 v12 v13)))).length < 1000 := by simp [pre14]
  simp [h1, nf, T.c_Machine, T.n_Machine_slots, T.n_Machine_setters, T.n_Machine_free_units, T.n_Machine_fetch_place, T.n_Machine_units]
  have e : putF "fetch_place" (.int pl) (putF "free_units" (.ref lf) (putF "setters" (.ref lt) (putF "slots" (.ref ls) (pre14 v0 v1 v2 v3 v4 v5 v6 (.ref lu) v8 v9 v10 v11 v12 v13)))) = F_Machine v0 v1 v2 v3 v4 v5 v6 (.ref lu) v8 v9 v10 v11 v12 v13 (.ref ls) (.ref lt) (.ref lf) (.int pl) := by simp [pre14]
  have M4 := M3.set (putF "fetch_place" (.int pl) (putF "free_units" (.ref lf) (putF "setters" (.ref lt) (putF "slots" (.ref ls) (pre14 v0 v1 v2 v3 v4 v5 v6 (.ref lu) v8 v9 v10 v11 v12 v13)))))
  refine k _ ρ3 ls lt lf ?_
  rw [e] at M4 ⊢
  exact M4
def cfgL (c : Sd48.Cfg) : List Nat := [c.fetch, c.retire, c.buses, c.slots, c.alu, c.mul, c.div, c.mem, c.table]
/-- the instructions of the program's first words -/
def GIns (A : Ad) (prog pa pd : List Nat) (a : Addr) (o : HO) (r : Role) : Prop := ∃ (k w : Nat) (dx : Addr), pa[k]? = some a ∧ pd[k]? = some dx ∧ prog[k]? = some w ∧ o = .ins A.C_Instruction dx (insF k w (sureOf prog k w)) ∧ r = .ins
theorem sure_in {prog : List Nat} {k w : Nat} (h : prog[k]? = some w) : sureOf prog k w = sureW w := by
  have := (List.getElem?_eq_some_iff.mp h).1
  unfold sureOf sureW
  rw [if_neg (by omega)]
def sp_Mach (A : Ad) : Sp := fun vs H Q _ => ∃ (F : Hp) (x dx lp lc lg : Addr) (prog cells : List Nat) (c : Sd48.Cfg), vs = [.ref x, .ref lp, .ref lc, .ref lg] ∧ H x = some (.ins A.C_Machine dx []) ∧ (∀ b o, F b = some o → H b = some o ∧ b ≠ x) ∧ F lp = some (.lst (nv prog)) ∧ F lc = some (.lst (nv cells)) ∧ F lg = some (.lst (nv (cfgL c))) ∧
  (∀ y ∈ prog, y < Sd48.W) ∧ (∀ y ∈ cells, y < Sd48.W) ∧ prog.length ≤ 1024 ∧ cells.length ≤ 1024 ∧ c.slots ≤ 64 ∧ c.table ≤ 256 ∧
  ∀ (H' : Hp) (ρ' : Addr → Role) (C' : CS), Mod A H' F x C' ρ' → R C' → C'.m = Sd48.start c prog cells → Q .non H'
theorem ok_Mach (T : Txt K mg A) : FnOk P w K mg base CX0 7 A.f_Machine_init A.d_Machine_init ["self", "prog", "cells", "cfg"] (sp_Mach A) := by
  have G_Instruction_init : FnOk P w K mg base CX0 4 _ _ _ _ := ok_Ins T
  have G_Machine_fetch_from : FnOk P w K mg base CX0 1 _ _ _ _ := ok_ff0 T
  refine T.F_Machine_init.ok sc_Machine_init (by rintro vs H Q E ⟨F, x, dx, lp, lc, lg, prog, cells, c, rfl, _⟩; rfl) (fun cdv Ar outer s H vs Q E hr h => ?_)
  obtain ⟨F, x, dx, lp, lc, lg, prog, cells, c, rfl, hx, hF, flp, flc, flg, hpW, hcW, hpl, hcl, hs64, ht, k⟩ := h
  refine ⟨_, (pss_cons (ps_cut (ps_fld (pv 0) (pe_lc (own := [("place", 4), ("word", 5)]) rfl sc_Machine_init.nd (pi_enumH rfl T.z_enumerate (pa_cons (pv 1) pa_nil)) (blkOk_by (show blkC ["self", "prog", "cells", "cfg", "place", "word"] (defScope s_Machine_init) _ [("place", 4), ("word", 5)] = true by decide +kernel)) (fun _ _ _ _ _ => (pg_tupH (n := 2) rfl (pgs_cons (pg_name (i := 4) sc_Machine_init.nd rfl (Or.inl rfl)) (pgs_cons (pg_name (i := 5) sc_Machine_init.nd rfl (Or.inl rfl)) pgs_nil)))) (fun _ _ _ _ _ => pts_nil) (fun _ _ _ _ _ => (pe_make T.K_Instruction G_Instruction_init (hr.mono (by decide)) rfl T.g_Instruction T.b_Instruction_init .nil pass0 (pa_cons (pv 4) (pa_cons (pv 5) pa_nil))))) rfl))
    (pss_cons (ps_cut (ps_fld (pv 0) (pe_op op_cat (pe_callTy call_list_h (by rfl) T.z_list boot_listO (pa_cons (pv 2) pa_nil)) (pe_op op_rep (pe_lst (pa_cons pe_int pa_nil)) (pe_op op_sub (pe_k T.v_CELLS) (pe_callB call_len_h (by rfl) T.z_len PySem.boot_len (pa_cons (pv 2) pa_nil))))) rfl))
    (pss_cons (ps_cut (ps_fld (pv 0) (pe_op op_rep (pe_lst (pa_cons pe_int pa_nil)) pe_int) rfl))
    (pss_cons (ps_fld (pv 0) (pe_ix ix_h (pv 3) pe_int (fun _ _ => rfl)) rfl)
    (pss_cons (ps_fld (pv 0) (pe_ix ix_h (pv 3) pe_int (fun _ _ => rfl)) rfl)
    (pss_cons (ps_fld (pv 0) (pe_ix ix_h (pv 3) pe_int (fun _ _ => rfl)) rfl)
    (pss_cons (ps_fld (pv 0) (pe_ix ix_h (pv 3) pe_int (fun _ _ => rfl)) rfl)
    (pss_cons (ps_cut (ps_fld (pv 0) (pe_slice sl_h (pv 3) (po_some pe_int) (po_some pe_int)) rfl))
    (pss_cons (ps_cut (ps_fld (pv 0) (pe_op op_rep (pe_lst (pa_cons pe_int pa_nil)) (pe_ix ix_h (pv 3) pe_int (fun _ _ => rfl))) rfl))
    (pss_cons (ps_fld (pv 0) pe_int rfl)
    (pss_cons (ps_fld (pv 0) pe_int rfl)
    (pss_cons (ps_fld (pv 0) pe_int rfl)
    (pss_cons (ps_fld (pv 0) pe_int rfl)
    (pss_cons (ps_fld (pv 0) pe_int rfl)
    (pss_one (ps_expr (pe_meth (pv 0) T.c_Machine T.M_Machine_fetch_from G_Machine_fetch_from (hr.mono (by decide)) T.b_Machine_fetch_from .nil pass0 (pa_cons pe_int pa_nil)))))))))))))))))), ?_⟩
  have M := Pre.start hx hF
  generalize (fun b => if b = x then Role.mach else if (F b).isSome then .frame else .no) = ρ at M
  simp only [r_tSeq, r_tCut]
  refine ⟨fun σ H' => ∃ (ρ' : Addr → Role) (l0 : Addr) (pa pd : List Nat), σ = [some (.ref x), some (.ref lp), some (.ref lc), some (.ref lg), none, none] ∧ pa.length = prog.length ∧ pd.length = prog.length ∧ Pre A H' F x dx (putF "prog" (.ref l0) []) ρ' (fun a o r => (a = l0 ∧ o = .lst (pa.map V.ref) ∧ r = .ml .prog) ∨ GIns A prog pa pd a o r), ?_, ?_⟩
  · have h1 := (M.frm lp _ flp).1
    simp [h1]
    intro D hD
    have hDl : D ≠ lp := fun z => by rw [z, h1] at hD; cases hD
    have M0 := M.alloc hD (.lst []) (r := .ml .prog) ⟨by simp, by simp⟩
    refine lc_enumH (xs := nv prog) (fun i H' => ∃ (ρ' : Addr → Role) (pa pd : List Nat), pa.length = i ∧ pd.length = i ∧ Pre A H' F x dx [] ρ' (fun a o r => (a = D ∧ o = .lst (pa.map V.ref) ∧ r = .ml .prog) ∨ GIns A prog pa pd a o r)) ?_ ?_ ?_ ?_
    · refine ⟨_, [], [], rfl, rfl, M0.weak ?_⟩
      rintro a o r (z | ⟨k, w, dx', z, _⟩)
      · exact .inl z
      · simp at z
    · rintro i H' _ ⟨ρ', pa, pd, _, _, M'⟩
      exact (M'.frm lp _ flp).1
    · rintro i v t H' hv ⟨ρ', pa, pd, hpa, hpd, M'⟩ ht
      obtain ⟨w, hw, rfl⟩ : ∃ w, prog[i]? = some w ∧ v = .int (w : Int) := by
        unfold nv at hv
        rw [List.getElem?_map] at hv
        cases e : prog[i]? with
        | none => rw [e] at hv; cases hv
        | some w => rw [e] at hv; exact ⟨w, rfl, (Option.some.inj hv).symm⟩
      have M1 := M'.temp ht (.tup [.int (i : Int), .int (w : Int)])
      simp [wipe]
      generalize upd H' t (.tup [.int (i : Int), .int (w : Int)]) = H1 at M1 ⊢
      generalize setR ρ' t .no = ρ1 at M1
      intro y dy hy hdy ne
      have wW := hpW w (List.mem_of_getElem? hw)
      have eW : Sd48.W = 4294967296 := by decide
      refine ⟨y, dy, i, w, rfl, upd_same, by omega, ?_⟩
      rw [upd_upd]
      have M2 := M1.temp hdy (.own y)
      have M3 := M2.alloc (c := y) (by rw [upd_ne fun z => ne z.symm]; exact hy) (.ins A.C_Instruction dy (insF i w (sureW w))) (r := .ins) ⟨by simp, by simp⟩
      generalize upd (upd H1 dy (.own y)) y (.ins A.C_Instruction dy (insF i w (sureW w))) = H3 at M3 ⊢
      generalize setR (setR ρ1 dy .no) y .ins = ρ3 at M3
      obtain ⟨g1, g2, _⟩ := M3.g D _ _ (.inr (.inl ⟨rfl, rfl, rfl⟩))
      have M4 := M3.wr g2 ⟨by simp, by simp⟩ (.lst (pa.map V.ref ++ [.ref y]))
      have il : i < 1024 := by
        have := (List.getElem?_eq_some_iff.mp hw).1
        omega
      refine ⟨rfl, _, g1, ?_, ρ3, pa ++ [y], by simp [hpa], pd ++ [dy], by simp [hpd], M4.weak ?_⟩
      · rw [List.length_map, hpa]
        exact Nat.lt_of_lt_of_le il (by decide)
      · rintro a o r (⟨rfl, rfl, rfl⟩ | ⟨k, w', dx', z1, z2, z3, rfl, rfl⟩)
        · exact .inl ⟨rfl, by simp, rfl⟩
        · have old : (fun a o' r' => (a = y ∧ o' = HO.ins A.C_Instruction dy (insF i w (sureW w)) ∧ r' = Role.ins) ∨ (a = D ∧ o' = HO.lst (List.map V.ref pa) ∧ r' = Role.ml LN.prog) ∨ GIns A prog pa pd a o' r') a (.ins A.C_Instruction dx' (insF k w' (sureOf prog k w'))) .ins := by
            by_cases ck : k < i
            · rw [List.getElem?_append_left (by omega)] at z1 z2
              exact .inr (.inr ⟨k, w', dx', z1, z2, z3, rfl, rfl⟩)
            · have kl : k < (pa ++ [y]).length := (List.getElem?_eq_some_iff.mp z1).1
              rw [List.length_append, List.length_singleton] at kl
              have ek : k = i := by omega
              subst ek
              rw [hw] at z3; cases z3
              rw [List.getElem?_append_right (by omega), hpa, Nat.sub_self] at z1
              rw [List.getElem?_append_right (by omega), hpd, Nat.sub_self] at z2
              simp at z1 z2
              subst z1 z2
              exact .inl ⟨rfl, by rw [sure_in hw], rfl⟩
          refine .inr ⟨old, ?_⟩
          intro z
          have := (M3.g a _ _ old).2.1
          rw [z, g2] at this
          cases this
    · rintro H' ⟨ρ', pa, pd, hpa, hpd, M'⟩
      have h1 := M'.mach
      simp [h1, T.c_Machine, T.n_Machine_prog, T.n_Machine_cells, T.n_Machine_regs, T.n_Machine_most_fetched, T.n_Machine_most_leaving, T.n_Machine_most_passed_on, T.n_Machine_most_slots, T.n_Machine_units, T.n_Machine_counters, T.n_Machine_stopped, T.n_Machine_cycles_run, T.n_Machine_have_left, T.n_Machine_thrown_away, T.n_Machine_wrong_guesses]
      refine ⟨ρ', D, pa, by rw [hpa]; simp, pd, by rw [hpd]; simp, ?_⟩
      exact M'.set _
  rintro σ0 H0 ⟨ρ0, l0, pa, pd, rfl, hpa, hpd, M0⟩
  generalize hG0 : (fun (a : Addr) (o : HO) (r : Role) => (a = l0 ∧ o = .lst (pa.map V.ref) ∧ r = .ml .prog) ∨ GIns A prog pa pd a o r) = G0 at M0
  have s1 : 1 ≤ sizeLine := by decide
  have s16 : 16 ≤ sizeLine := by decide
  have s1k : 1024 ≤ sizeLine := by decide
  have sS : ∀ n, n ≤ 1024 → n ≤ sizeLine := fun n hn => Nat.le_trans hn (by decide)
  have catR : ∀ n : Nat, List.replicate n (V.int 0) = nv (List.replicate n 0) := fun n => by unfold nv; simp
  have catR1 : ∀ n : Nat, List.replicate n (V.int 1) = nv (List.replicate n 1) := fun n => by unfold nv; simp
  -- self.cells
  refine ⟨fun σ H' => ∃ (ρ' : Addr → Role) (G' : Addr → HO → Role → Prop) (l1 : Addr), σ = [some (.ref x), some (.ref lp), some (.ref lc), some (.ref lg), none, none] ∧ Pre A H' F x dx [("prog", .ref l0), ("cells", .ref l1)] ρ' G' ∧ (∀ a o r, G0 a o r → G' a o r) ∧ G' l1 (.lst (nv (cells ++ List.replicate (1024 - cells.length) 0))) (.ml .cells), ?_, ?_⟩
  · have h1 := (M0.frm lc _ flc).1
    have h2 := M0.mach
    simp [h1, h2, s1]
    intro y hy
    have M1 := M0.temp hy (.lst (nv cells))
    generalize hH1 : upd H0 y (.lst (nv cells)) = H1 at M1 ⊢
    have hy1 : H1 y = some (.lst (nv cells)) := by rw [← hH1]; exact upd_same
    intro z hz
    have M2 := M1.temp hz (.lst [.int 0])
    have h3 := (M2.frm lc _ flc).1
    have nyz : y ≠ z := ne_of_none hy1 hz
    have ec : ((1024 : Int) - (cells.length : Int)).toNat = 1024 - cells.length := by omega
    simp [h3, ec]
    refine ⟨by omega, by omega, by omega, fun u hu => ?_⟩
    rw [catR]
    have M3 := M2.temp hu (.lst (nv (List.replicate (1024 - cells.length) 0)))
    have nyu : y ≠ u := fun e => by rw [← e, upd_ne nyz, hy1] at hu; cases hu
    have ecc : nv cells ++ nv (List.replicate (1024 - cells.length) 0) = nv (cells ++ List.replicate (1024 - cells.length) 0) := by unfold nv; rw [List.map_append]
    simp [hy1, upd_ne nyz, upd_ne nyu]
    refine ⟨by omega, fun v hv => ?_⟩
    rw [ecc]
    have M4 := M3.alloc hv (.lst (nv (cells ++ List.replicate (1024 - cells.length) 0))) (r := .ml .cells) ⟨by simp, by simp⟩
    have g1 := M4.mach
    simp [g1, T.c_Machine, T.n_Machine_prog, T.n_Machine_cells, T.n_Machine_regs, T.n_Machine_most_fetched, T.n_Machine_most_leaving, T.n_Machine_most_passed_on, T.n_Machine_most_slots, T.n_Machine_units, T.n_Machine_counters, T.n_Machine_stopped, T.n_Machine_cycles_run, T.n_Machine_have_left, T.n_Machine_thrown_away, T.n_Machine_wrong_guesses]
    exact ⟨_, _, v, M4.set _, fun a o r z => .inr z, .inl ⟨rfl, rfl, rfl⟩⟩
  rintro σ1 H1 ⟨ρ1, G1, l1, rfl, M1, sub1, gc⟩
  -- self.regs
  refine ⟨fun σ H' => ∃ (ρ' : Addr → Role) (G' : Addr → HO → Role → Prop) (l2 : Addr), σ = [some (.ref x), some (.ref lp), some (.ref lc), some (.ref lg), none, none] ∧ Pre A H' F x dx [("prog", .ref l0), ("cells", .ref l1), ("regs", .ref l2)] ρ' G' ∧ (∀ a o r, G1 a o r → G' a o r) ∧ G' l2 (.lst (nv (List.replicate 16 0))) (.ml .regs), ?_, ?_⟩
  · simp [s1]
    intro y hy
    have M2 := M1.temp hy (.lst [.int 0])
    simp [s16]
    intro z hz
    have M3 := M2.alloc hz (.lst (nv (List.replicate 16 0))) (r := .ml .regs) ⟨by simp, by simp⟩
    have h1 := M1.mach
    have nxy : x ≠ y := ne_of_none M1.mach hy
    have nxz : x ≠ z := ne_of_none M2.mach hz
    simp [h1, upd_ne nxy, upd_ne nxz, T.c_Machine, T.n_Machine_prog, T.n_Machine_cells, T.n_Machine_regs, T.n_Machine_most_fetched, T.n_Machine_most_leaving, T.n_Machine_most_passed_on, T.n_Machine_most_slots, T.n_Machine_units, T.n_Machine_counters, T.n_Machine_stopped, T.n_Machine_cycles_run, T.n_Machine_have_left, T.n_Machine_thrown_away, T.n_Machine_wrong_guesses]
    exact ⟨_, _, z, M3.set _, fun a o r z => .inr z, .inl ⟨rfl, rfl, rfl⟩⟩
  rintro σ2 H2 ⟨ρ2, G2, l2, rfl, M2, sub2, gr⟩
  -- the numbers of cfg
  have f1 := (M2.frm lg _ flg).1
  have f2 := M2.mach
  have nlx : lg ≠ x := fun z => by have := (M2.frm lg _ flg).2; rw [z, M2.rm] at this; cases this
  have c0 : atI (nv (cfgL c)) 0 = some (.int (c.fetch : Int)) := atI_nat (j := 0) rfl
  have c1 : atI (nv (cfgL c)) 1 = some (.int (c.retire : Int)) := atI_nat (j := 1) rfl
  have c2 : atI (nv (cfgL c)) 2 = some (.int (c.buses : Int)) := atI_nat (j := 2) rfl
  have c3 : atI (nv (cfgL c)) 3 = some (.int (c.slots : Int)) := atI_nat (j := 3) rfl
  have c8 : atI (nv (cfgL c)) 8 = some (.int (c.table : Int)) := atI_nat (j := 8) rfl
  have cu : cutV (nv (cfgL c)) (some 4) (some 8) = nv [c.alu, c.mul, c.div, c.mem] := rfl
  simp [f1, f2, upd_ne nlx, c0, c1, c2, c3, T.c_Machine, T.n_Machine_prog, T.n_Machine_cells, T.n_Machine_regs, T.n_Machine_most_fetched, T.n_Machine_most_leaving, T.n_Machine_most_passed_on, T.n_Machine_most_slots, T.n_Machine_units, T.n_Machine_counters, T.n_Machine_stopped, T.n_Machine_cycles_run, T.n_Machine_have_left, T.n_Machine_thrown_away, T.n_Machine_wrong_guesses]
  simp only [r_tCut]
  have M3 := M2.set [("prog", .ref l0), ("cells", .ref l1), ("regs", .ref l2), ("most_fetched", .int (c.fetch : Int)), ("most_leaving", .int (c.retire : Int)), ("most_passed_on", .int (c.buses : Int)), ("most_slots", .int (c.slots : Int))]
  refine ⟨fun σ H' => ∃ (ρ' : Addr → Role) (G' : Addr → HO → Role → Prop) (l7 : Addr), σ = [some (.ref x), some (.ref lp), some (.ref lc), some (.ref lg), none, none] ∧ Pre A H' F x dx [("prog", .ref l0), ("cells", .ref l1), ("regs", .ref l2), ("most_fetched", .int (c.fetch : Int)), ("most_leaving", .int (c.retire : Int)), ("most_passed_on", .int (c.buses : Int)), ("most_slots", .int (c.slots : Int)), ("units", .ref l7)] ρ' G' ∧ (∀ a o r, G2 a o r → G' a o r) ∧ G' l7 (.lst (nv [c.alu, c.mul, c.div, c.mem])) (.ml .units), ?_, ?_⟩
  · generalize upd H2 x (HO.ins A.C_Machine dx [("prog", V.ref l0), ("cells", V.ref l1), ("regs", V.ref l2), ("most_fetched", V.int (c.fetch : Int)), ("most_leaving", V.int (c.retire : Int)), ("most_passed_on", V.int (c.buses : Int)), ("most_slots", V.int (c.slots : Int))]) = H3 at M3 ⊢
    have g1 := (M3.frm lg _ flg).1
    have g2 := M3.mach
    simp [g1, cu]
    intro y hy
    have M4 := M3.alloc hy (.lst (nv [c.alu, c.mul, c.div, c.mem])) (r := .ml .units) ⟨by simp, by simp⟩
    have nxy : x ≠ y := ne_of_none g2 hy
    simp [g2, upd_ne nxy, T.c_Machine, T.n_Machine_prog, T.n_Machine_cells, T.n_Machine_regs, T.n_Machine_most_fetched, T.n_Machine_most_leaving, T.n_Machine_most_passed_on, T.n_Machine_most_slots, T.n_Machine_units, T.n_Machine_counters, T.n_Machine_stopped, T.n_Machine_cycles_run, T.n_Machine_have_left, T.n_Machine_thrown_away, T.n_Machine_wrong_guesses]
    exact ⟨_, _, y, M4.set _, fun a o r z => .inr z, .inl ⟨rfl, rfl, rfl⟩⟩
  rintro σ7 H7 ⟨ρ7, G7, l7, rfl, M7, sub7, gu⟩
  refine ⟨fun σ H' => ∃ (ρ' : Addr → Role) (G' : Addr → HO → Role → Prop) (l8 : Addr), σ = [some (.ref x), some (.ref lp), some (.ref lc), some (.ref lg), none, none] ∧ Pre A H' F x dx [("prog", .ref l0), ("cells", .ref l1), ("regs", .ref l2), ("most_fetched", .int (c.fetch : Int)), ("most_leaving", .int (c.retire : Int)), ("most_passed_on", .int (c.buses : Int)), ("most_slots", .int (c.slots : Int)), ("units", .ref l7), ("counters", .ref l8)] ρ' G' ∧ (∀ a o r, G7 a o r → G' a o r) ∧ G' l8 (.lst (nv (List.replicate c.table 1))) (.ml .counters), ?_, ?_⟩
  · have g2 := M7.mach
    simp [s1]
    intro y hy
    have M8 := M7.temp hy (.lst [.int 1])
    have g1 := (M8.frm lg _ flg).1
    simp [g1, c8]
    have t1 : (c.table : Int) < 9223372036854775808 := by omega
    have t2 : c.table ≤ sizeLine := by omega
    simp [t1, t2]
    intro z hz
    rw [catR1]
    have M9 := M8.alloc hz (.lst (nv (List.replicate c.table 1))) (r := .ml .counters) ⟨by simp, by simp⟩
    have nxy : x ≠ y := ne_of_none M7.mach hy
    have nxz : x ≠ z := ne_of_none M8.mach hz
    simp [g2, upd_ne nxy, upd_ne nxz, T.c_Machine, T.n_Machine_prog, T.n_Machine_cells, T.n_Machine_regs, T.n_Machine_most_fetched, T.n_Machine_most_leaving, T.n_Machine_most_passed_on, T.n_Machine_most_slots, T.n_Machine_units, T.n_Machine_counters, T.n_Machine_stopped, T.n_Machine_cycles_run, T.n_Machine_have_left, T.n_Machine_thrown_away, T.n_Machine_wrong_guesses]
    exact ⟨_, _, z, M9.set _, fun a o r z => .inr z, .inl ⟨rfl, rfl, rfl⟩⟩
  rintro σ8 H8 ⟨ρ8, G8, l8, rfl, M8, sub8, gt⟩
  have e2 := M8.mach
  simp [e2, T.c_Machine, T.n_Machine_prog, T.n_Machine_cells, T.n_Machine_regs, T.n_Machine_most_fetched, T.n_Machine_most_leaving, T.n_Machine_most_passed_on, T.n_Machine_most_slots, T.n_Machine_units, T.n_Machine_counters, T.n_Machine_stopped, T.n_Machine_cycles_run, T.n_Machine_have_left, T.n_Machine_thrown_away, T.n_Machine_wrong_guesses]
  have M9 := M8.set (pre14 (.ref l0) (.ref l1) (.ref l2) (.int (c.fetch : Int)) (.int (c.retire : Int)) (.int (c.buses : Int)) (.int (c.slots : Int)) (.ref l7) (.ref l8) (.int 0) (.int 0) (.int 0) (.int 0) (.int 0))
  refine ⟨F, x, dx, ρ8, G8, .ref l0, .ref l1, .ref l2, .int (c.fetch : Int), .int (c.retire : Int), .int (c.buses : Int), .int (c.slots : Int), .ref l8, .int 0, .int 0, .int 0, .int 0, .int 0, l7, _, 0, rfl, M9, sub8 _ _ _ gu, fun H' ρ' ls lt lf M' => ?_⟩
  have up8 : ∀ a o r, G8 a o r → H' a = some o ∧ ρ' a = r := fun a o r z => by
    have := M'.g a o r (.inr (.inr (.inr z)))
    exact ⟨this.1, this.2.1⟩
  have up7 : ∀ a o r, G7 a o r → H' a = some o ∧ ρ' a = r := fun a o r z => up8 a o r (sub8 a o r z)
  have up2 : ∀ a o r, G2 a o r → H' a = some o ∧ ρ' a = r := fun a o r z => up7 a o r (sub7 a o r z)
  have up1 : ∀ a o r, G1 a o r → H' a = some o ∧ ρ' a = r := fun a o r z => up2 a o r (sub2 a o r z)
  have up0 : ∀ a o r, G0 a o r → H' a = some o ∧ ρ' a = r := fun a o r z => up1 a o r (sub1 a o r z)
  have eu : nv [c.alu, c.mul, c.div, c.mem] = (freeOf c []).map V.int := by
    unfold freeOf
    simp [busy_nil, nv, Sd48.units]
  have gS := M'.g ls _ _ (.inr (.inr (.inl ⟨rfl, rfl, rfl⟩)))
  have gT := M'.g lt _ _ (.inr (.inl ⟨rfl, rfl, rfl⟩))
  have gF := M'.g lf _ _ (.inl ⟨rfl, rfl, rfl⟩)
  refine k H' ρ' ⟨Sd48.start c prog cells, dx, fun n => match n with | .prog => l0 | .cells => l1 | .regs => l2 | .units => l7 | .counters => l8 | .slots => ls | .setters => lt | .free => lf, [], fun _ => none, List.replicate 16 none, freeOf c [], 0, pa⟩ ?_ ?_ rfl
  · refine ⟨M'.live, M'.frm, M'.mach, M'.rm, fun n => ?_, (fun a d z => by cases z), hpa, fun kk a w h1 h2 => ?_⟩
    · cases n with
      | prog => exact up0 _ _ _ (by rw [← hG0]; exact .inl ⟨rfl, rfl, rfl⟩)
      | cells => exact up1 _ _ _ gc
      | regs => exact up2 _ _ _ gr
      | units => exact up7 _ _ _ gu
      | counters => exact up8 _ _ _ gt
      | slots => exact ⟨gS.1, gS.2.1⟩
      | setters => exact ⟨gT.1, gT.2.1⟩
      | free =>
        show H' lf = some (.lst ((freeOf c []).map V.int)) ∧ ρ' lf = .ml .free
        rw [← eu]
        exact ⟨gF.1, gF.2.1⟩
    · have hk : kk < pd.length := by
        have h1' : pa[kk]? = some a := h1
        have := (List.getElem?_eq_some_iff.mp h1').1
        omega
      have := up0 a (.ins A.C_Instruction pd[kk] (insF kk w (sureOf prog kk w))) .ins (by rw [← hG0]; exact .inr ⟨kk, w, _, h1, List.getElem?_eq_getElem hk, h2, rfl, rfl⟩)
      exact ⟨⟨_, this.1⟩, this.2⟩
  · refine R.empty rfl rfl rfl rfl ?_ ?_ ?_ hpW hpl hs64 rfl rfl (by show 0 < Sd48.W; decide)
    · have lenC : (cells ++ List.replicate (1024 - cells.length) 0).length = 1024 := by simp; omega
      refine ⟨rfl, rfl, ?_, lenC, ?_⟩
      · intro y hy
        have : y = 0 := List.eq_of_mem_replicate hy
        rw [this]; decide
      · intro y hy
        have hy' : y ∈ cells ++ List.replicate (1024 - cells.length) 0 := hy
        rcases List.mem_append.mp hy' with z | z
        · exact hcW y z
        · rw [List.eq_of_mem_replicate z]; decide
    · exact List.length_replicate
    · intro y hy
      rw [List.eq_of_mem_replicate hy]; decide
end Ooo
namespace Ooo
open PySem L2 Ex
variable {P : Program} {w : World} {K : PySem.W.Frag} {mg : Str → Option Value} {base : Heap} {A : Ad}
def iv (ns : List Int) : List V := ns.map V.int
theorem iv_get {ns : List Int} {k : Nat} {z : Int} (h : ns[k]? = some z) : (iv ns)[k]? = some (.int z) := by unfold iv; simp [h]
@[simp] theorem iv_len {ns : List Int} : (iv ns).length = ns.length := by unfold iv; simp
/-- the reader stands at pr -/
def RdAt (A : Ad) (H : Hp) (pr dr a : Addr) (k : Nat) : Prop := H pr = some (.ins A.C_Reader dr (F_Reader (.ref a) (.int (k : Int))))
def sp_RI (A : Ad) : Sp := fun vs H Q _ => ∃ (pr dr a : Addr), vs = [.ref pr, .ref a] ∧ H pr = some (.ins A.C_Reader dr []) ∧ Q .non (upd H pr (.ins A.C_Reader dr (F_Reader (.ref a) (.int 0))))
theorem ok_RI (T : Txt K mg A) : FnOk P w K mg base CX0 1 A.f_Reader_init A.d_Reader_init ["self", "numbers"] (sp_RI A) := by
  refine T.F_Reader_init.ok sc_Reader_init (by rintro vs H Q E ⟨pr, dr, a, rfl, _⟩; rfl) (fun cdv Ar outer s H vs Q E hr h => ?_)
  obtain ⟨pr, dr, a, rfl, h1, k⟩ := h
  refine ⟨_, (pss_cons (ps_fld (pv 0) (pv 1) rfl)
    (pss_one (ps_fld (pv 0) pe_int rfl))), ?_⟩
  simp [h1, T.c_Reader, T.n_Reader_numbers, T.n_Reader_at]
  exact k
def sp_RE (A : Ad) (K : PySem.W.Frag) : Sp := fun vs H Q _ => ∃ (pr dr a : Addr) (n : Nat) (ns : List Int), vs = [.ref pr] ∧ RdAt A H pr dr a n ∧ SqL K H a (iv ns) ∧ Q (.bl (decide (ns.length ≤ n))) H
theorem ok_RE (T : Txt K mg A) : FnOk P w K mg base CX0 1 A.f_Reader_at_end A.d_Reader_at_end ["self"] (sp_RE A K) := by
  refine T.F_Reader_at_end.ok sc_Reader_at_end (by rintro vs H Q E ⟨pr, dr, a, n, ns, rfl, _⟩; rfl) (fun cdv Ar outer s H vs Q E hr h => ?_)
  obtain ⟨pr, dr, a, n, ns, rfl, h1, hS, k⟩ := h
  have h1 : H pr = _ := h1
  refine ⟨_, (pss_one (ps_ret (pe_cmpR op_ge (pe_fld (pv 0) rfl) (pe_callB call_len_seq (by rfl) T.z_len PySem.boot_len (pa_cons (pe_fld (pv 0) rfl) pa_nil)) (nomark _)))), ?_⟩
  simp [h1, T.c_Reader, T.n_Reader_at, T.n_Reader_numbers]
  refine ⟨_, .inl hS, ?_⟩
  simpa using k
def sp_RN (A : Ad) (K : PySem.W.Frag) : Sp := fun vs H Q _ => ∃ (pr dr a : Addr) (n : Nat) (ns : List Int) (z : Int), vs = [.ref pr] ∧ RdAt A H pr dr a n ∧ SqL K H a (iv ns) ∧ ns[n]? = some z ∧ Q (.int z) (upd H pr (.ins A.C_Reader dr (F_Reader (.ref a) (.int ((n + 1 : Nat) : Int)))))
theorem ok_RN (T : Txt K mg A) : FnOk P w K mg base CX0 1 A.f_Reader_take_number A.d_Reader_take_number ["self"] (sp_RN A K) := by
  refine T.F_Reader_take_number.ok sc_Reader_take_number (by rintro vs H Q E ⟨pr, dr, a, n, ns, z, rfl, _⟩; rfl) (fun cdv Ar outer s H vs Q E hr h => ?_)
  obtain ⟨pr, dr, a, n, ns, z, rfl, h1, hS, hz, k⟩ := h
  have h1 : H pr = _ := h1
  refine ⟨_, (pss_cons (ps_set (i := 1) sc_Reader_take_number.nd rfl (Or.inl rfl) (pe_ix ix_list (pe_fld (pv 0) rfl) (pe_fld (pv 0) rfl) (fun _ _ => rfl)))
    (pss_cons (ps_fldaug (pv 0) pe_int in_add)
    (pss_one (ps_ret (pv 1))))), ?_⟩
  simp [h1, T.c_Reader, T.n_Reader_at, T.n_Reader_numbers]
  refine ⟨_, hS, _, atI_nat (iv_get hz), ?_⟩
  simp [h1, T.c_Reader, T.n_Reader_at, T.n_Reader_numbers]
  exact k
theorem cut_mid (xs : List V) (j n : Nat) (h : j + n ≤ xs.length) : cutV xs (some (j : Int)) (some ((j : Int) + (n : Int))) = (xs.drop j).take n := by
  have e : (j : Int) + (n : Int) = ((j + n : Nat) : Int) := by simp
  unfold cutV
  rw [e, HT.sIx_nat, HT.sIx_nat, Nat.min_eq_left h, Nat.min_eq_left (by omega)]
  congr 1
  omega
def sp_RR (A : Ad) (K : PySem.W.Frag) : Sp := fun vs H Q _ => ∃ (pr dr a : Addr) (n : Nat) (ns row : List Int), vs = [.ref pr] ∧ RdAt A H pr dr a n ∧ SqL K H a (iv ns) ∧ ns[n]? = some (row.length : Int) ∧ (ns.drop (n + 1)).take row.length = row ∧ n + 1 + row.length ≤ ns.length ∧
  ∀ l, H l = none → Q (.ref l) (upd (upd H l (.lst (iv row))) pr (.ins A.C_Reader dr (F_Reader (.ref a) (.int ((n + 1 + row.length : Nat) : Int)))))
theorem ok_RR (T : Txt K mg A) : FnOk P w K mg base CX0 3 A.f_Reader_take_row A.d_Reader_take_row ["self"] (sp_RR A K) := by
  have G_Reader_take_number : FnOk P w K mg base CX0 1 _ _ _ _ := ok_RN T
  refine T.F_Reader_take_row.ok sc_Reader_take_row (by rintro vs H Q E ⟨pr, dr, a, n, ns, row, rfl, _⟩; rfl) (fun cdv Ar outer s H vs Q E hr h => ?_)
  obtain ⟨pr, dr, a, n, ns, row, rfl, h0, hS, hz, hrow, hle, k⟩ := h
  have h1 : H pr = _ := h0
  refine ⟨_, (pss_cons (ps_set (i := 1) sc_Reader_take_row.nd rfl (Or.inl rfl) (pe_meth0 (pv 0) T.c_Reader T.M_Reader_take_number G_Reader_take_number (hr.mono (by decide)) T.b_Reader_take_number .nil pass0))
    (pss_cons (ps_set (i := 2) sc_Reader_take_row.nd rfl (Or.inl rfl) (pe_slice sl_list (pe_fld (pv 0) rfl) (po_some (pe_fld (pv 0) rfl)) (po_some (pe_op op_add (pe_fld (pv 0) rfl) (pv 1)))))
    (pss_cons (ps_fldaug (pv 0) (pv 1) in_add)
    (pss_one (ps_ret (pv 2)))))), ?_⟩
  simp [h1, T.c_Reader, T.n_Reader_at, T.n_Reader_numbers]
  refine ⟨pr, dr, a, n, ns, _, rfl, h0, hS, hz, ?_⟩
  simp [h1, T.c_Reader, T.n_Reader_at, T.n_Reader_numbers]
  refine ⟨_, sq_upd hS h1, fun l hl => ?_⟩
  have e1 : (n : Int) + 1 = ((n + 1 : Nat) : Int) := by simp
  rw [e1, cut_mid _ _ _ (by rw [iv_len]; omega)]
  have e2 : ((iv ns).drop (n + 1)).take row.length = iv row := by
    unfold iv
    rw [← List.map_drop, ← List.map_take, hrow]
  rw [e2]
  have npl : pr ≠ l := fun z => by rw [← z, upd_same] at hl; cases hl
  have hl' : H l = none := by rw [upd_ne npl.symm] at hl; exact hl
  simp [upd_ne npl, T.c_Reader, T.n_Reader_at, T.n_Reader_numbers]
  have k' := k l hl'
  have eH : upd (upd (upd H pr (.ins A.C_Reader dr (F_Reader (.ref a) (.int ((n + 1 : Nat) : Int))))) l (.lst (iv row))) pr (.ins A.C_Reader dr (F_Reader (.ref a) (.int ((n + 1 + row.length : Nat) : Int)))) = upd (upd H l (.lst (iv row))) pr (.ins A.C_Reader dr (F_Reader (.ref a) (.int ((n + 1 + row.length : Nat) : Int)))) := by
    funext b
    unfold upd
    by_cases c1 : b = pr
    · rw [if_pos c1, if_pos c1]
    · rw [if_neg c1, if_neg c1, if_neg c1]
  rw [← eH] at k'
  simpa using k'
def limI : List (Int × Int) := [(1, 4), (1, 4), (1, 4), (1, 64), (1, 4), (1, 4), (1, 4), (1, 4), (0, 256)]
def asTold (g : List Int) : Bool := (g.zip limI).all fun x => decide (x.2.1 ≤ x.1) && decide (x.1 ≤ x.2.2)
theorem paired_get {R : Addr → Int × Int → Prop} : ∀ {as : List Addr} {ps : List (Int × Int)} {i : Nat} {b : Addr}, Paired R as ps → as[i]? = some b → ∃ pr, ps[i]? = some pr ∧ R b pr
  | _, _, _, _, .nil, h => by simp at h
  | _, _, 0, _, .cons r _, h => by simp at h; subst h; exact ⟨_, rfl, r⟩
  | _, _, i + 1, b, .cons _ t, h => by
    obtain ⟨pr, h1, h2⟩ := paired_get (i := i) (b := b) t (by simpa using h)
    exact ⟨pr, by simpa using h1, h2⟩
theorem paired_len {R : Addr → Int × Int → Prop} : ∀ {as : List Addr} {ps : List (Int × Int)}, Paired R as ps → as.length = ps.length
  | _, _, .nil => rfl
  | _, _, .cons _ t => by simp [paired_len t]
def upTo (g : List Int) (i : Nat) : Prop := (((g.zip limI).take i).all fun x => decide (x.2.1 ≤ x.1) && decide (x.1 ≤ x.2.2)) = true
def sp_it (A : Ad) : Sp := fun vs H Q _ => ∃ (lg : Addr) (g : List Int), vs = [.ref lg] ∧ H lg = some (.lst (iv g)) ∧ g.length = 9 ∧ ∀ H', Same H H' → Q (.bl (asTold g)) H'
theorem ok_it (T : Txt K mg A) : FnOk P w K mg base CX0 1 A.f_is_as_told A.d_is_as_told ["cfg"] (sp_it A) := by
  refine T.F_is_as_told.ok sc_is_as_told (by rintro vs H Q E ⟨lg, g, rfl, _⟩; rfl) (fun cdv Ar outer s H vs Q E hr h => ?_)
  obtain ⟨lg, g, rfl, h1, hg, k⟩ := h
  refine ⟨_, (pss_cons (ps_for PassesOwn.never rfl (Zt.pi_zipT rfl T.z_zip (pa_cons (pv 0) (pa_cons (pe_glob (v := .ref A.t_CFG_RANGES) rfl T.g_CFG_RANGES rfl) pa_nil))) (pg_tupH (n := 2) rfl (pgs_cons (pg_name (i := 1) sc_is_as_told.nd rfl (Or.inl rfl)) (pgs_cons (pg_name (i := 2) sc_is_as_told.nd rfl (Or.inl rfl)) pgs_nil))) (pss_one (ps_if (PW.pt (pw_or (pt_cmpR op_lt (pv 1) (pe_ix ix_tup (pv 2) pe_int (fun _ _ => rfl)) (nomark _)) (pw_or1 (pt_cmpR op_gt (pv 1) (pe_ix ix_tup (pv 2) pe_int (fun _ _ => rfl)) (nomark _))))) (pss_one (ps_ret pe_bl)) pss_nil)))
    (pss_one (ps_ret pe_bl))), ?_⟩
  obtain ⟨as, hT, hP⟩ := T.q_CFG_RANGES
  have len := paired_len hP
  simp [h1]
  refine ⟨⟨_, hT.sq⟩, ?_⟩
  refine Zt.loop_zipT (xs := iv g) (ys := as.map V.ref) (fun i σ H' => ∃ v1 v2 : Option V, σ = [some (.ref lg), v1, v2] ∧ Same H H' ∧ upTo g i) ⟨none, none, rfl, Same.refl _, rfl⟩ ?_ (by rw [iv_len, List.length_map, len, hg]; exact Nat.le_refl _) ?_ ?_
  · rintro i σ H' _ ⟨v1, v2, rfl, sm, _⟩
    exact ⟨sm _ _ h1, hT.sq⟩
  · rintro i x y t σ H' hx hy ⟨v1, v2, rfl, sm, ha⟩ ht
    obtain ⟨z, hz, rfl⟩ : ∃ z, g[i]? = some z ∧ x = .int z := by
      unfold iv at hx
      rw [List.getElem?_map] at hx
      cases e : g[i]? with
      | none => rw [e] at hx; cases hx
      | some z => rw [e] at hx; exact ⟨z, rfl, (Option.some.inj hx).symm⟩
    obtain ⟨b, hb, rfl⟩ : ∃ b, as[i]? = some b ∧ y = .ref b := by
      rw [List.getElem?_map] at hy
      cases e : as[i]? with
      | none => rw [e] at hy; cases hy
      | some z => rw [e] at hy; exact ⟨z, rfl, (Option.some.inj hy).symm⟩
    obtain ⟨pr, hpr, hB⟩ := paired_get hP hb
    have zi : (g.zip limI)[i]? = some (z, pr) := by
      rw [List.getElem?_zip_eq_some]
      exact ⟨hz, hpr⟩
    have tk : (g.zip limI).take (i + 1) = (g.zip limI).take i ++ [(z, pr)] := by rw [List.take_succ, zi]; rfl
    have sm' : Same H (upd H' t (.tup [.int z, .ref b])) := fun c o e => by
      have := sm c o e
      rw [upd_ne (ne_of_none this ht)]
      exact this
    have no : (decide (pr.1 ≤ z) && decide (z ≤ pr.2)) = false → asTold g = false := by
      intro h
      unfold asTold
      rw [List.all_eq_false]
      exact ⟨(z, pr), List.mem_of_getElem? zi, by simpa using h⟩
    have htup : upd H' t (.tup [.int z, .ref b]) t = some (.tup [.int z, .ref b]) := upd_same
    generalize upd H' t (.tup [.int z, .ref b]) = H1 at sm' htup ⊢
    simp [htup]
    refine ⟨_, hB.sq, _, rfl, ?_⟩
    simp
    by_cases c1 : z < pr.1
    · rw [if_pos c1]
      have := k H1 sm'
      rw [no (by simp; omega)] at this
      exact this
    · rw [if_neg c1]
      refine ⟨_, hB.sq, _, rfl, ?_⟩
      simp
      by_cases c2 : pr.2 < z
      · rw [if_pos c2]
        have := k H1 sm'
        rw [no (by simp; omega)] at this
        exact this
      · rw [if_neg c2]
        refine ⟨sm', ?_⟩
        unfold upTo at ha ⊢
        rw [tk, List.all_append, ha]
        simp
        omega
  · rintro σ H' ⟨v1, v2, rfl, sm, ha⟩
    simp
    have := k H' sm
    have e : asTold g = true := by
      unfold asTold
      unfold upTo at ha
      rw [List.take_of_length_le (by rw [List.length_zip, iv_len, hg]; exact Nat.min_le_left _ _)] at ha
      exact ha
    rw [e] at this
    exact this
end Ooo
namespace Ooo
open PySem L2 Ex
variable {P : Program} {w : World} {K : PySem.W.Frag} {mg : Str → Option Value} {base : Heap} {A : Ad}
section
variable {H F : Hp} {p c : Addr} {C : CS} {ρ : Addr → Role}
theorem Mod.allocF (h : Mod A H F p C ρ) (hc : H c = none) (o : HO) : Mod A (upd H c o) (upd F c o) p C (setR ρ c .frame) := by
  have h' := h.alloc hc o .frame
  refine ⟨h'.live, fun b u e => ?_, h'.mach, h'.rmach, h'.lst, h'.slot, h'.plen, h'.prog⟩
  by_cases e1 : b = c
  · subst e1
    rw [upd_same] at e ⊢
    exact ⟨e, setR_same⟩
  · rw [upd_ne e1] at e
    exact h'.frm b u e
theorem Mod.wF (h : Mod A H F p C ρ) {o0 : HO} (hF : F c = some o0) (o : HO) : Mod A (upd H c o) (upd F c o) p C ρ := by
  have rc := (h.frm c o0 hF).2
  refine ⟨h.liveW _, fun b u e => ?_, by rw [upd_ne (h.p_ne (by rw [rc]; simp))]; exact h.mach, h.rmach, fun n => ?_, fun a d e => ?_, h.plen, h.progW _ (by rw [rc]; simp)⟩
  · by_cases e1 : b = c
    · subst e1
      rw [upd_same] at e ⊢
      exact ⟨e, rc⟩
    · rw [upd_ne e1] at e ⊢
      exact h.frm b u e
  · rw [upd_ne (h.ml_ne n (by rw [rc]; simp))]
    exact h.lst n
  · exact (h.slot a d e).off (by rw [rc]; simp) (by rw [rc]; simp) (by rw [rc]; simp) (by rw [rc]; simp) (by rw [rc]; simp)
theorem Mod.freeF (h : Mod A H F p C ρ) (hc : H c = none) : F c = none := by
  cases e : F c with
  | none => rfl
  | some o =>
    have := (h.frm c o e).1
    rw [hc] at this; cases this
end
/-- a call is answered in a new list -/
def AnsK (A : Ad) (F : Hp) (p : Addr) (C : CS) (c : List (List Int)) (Q : VK) : Prop := ∀ (H' : Hp) (ρ' : Addr → Role) (C' : CS) (l : Addr), F l = none → Mod A H' (upd F l (.lst (iv (Sd48Neutral.step (some C.m) c).2))) p C' ρ' → R C' → some C'.m = (Sd48Neutral.step (some C.m) c).1 → Q (.ref l) H'
theorem iv_ints (l : List Nat) : iv (Sd48Neutral.ints l) = nv l := by
  unfold iv Sd48Neutral.ints nv
  rw [List.map_map]
  rfl
theorem regs_eq {s : Sd48.Arch} (ok : ArchOk s) : (List.range 16).map (Sd48.reg s) = s.regs := by
  apply List.ext_getElem?
  intro i
  have hl := ok.regs
  rw [List.getElem?_map]
  by_cases c : i < 16
  · rw [List.getElem?_range c, List.getElem?_eq_getElem (show i < s.regs.length by omega)]
    show some (Sd48.reg s i) = _
    unfold Sd48.reg
    by_cases h0 : i = 0
    · subst h0
      have := ok.reg0
      rw [List.getElem?_eq_getElem (show 0 < s.regs.length by omega)] at this
      rw [if_pos rfl, this]
    · rw [if_neg h0, List.getD_eq_getElem?_getD, List.getElem?_eq_getElem (show i < s.regs.length by omega)]
      rfl
  · rw [List.getElem?_eq_none (by simp; omega), List.getElem?_eq_none (by omega)]
    rfl
theorem between_iff (z : Int) (a b : Nat) : Sd48.between z a b = true ↔ (a : Int) ≤ z ∧ z ≤ (b : Int) := by
  unfold Sd48.between
  simp
def sp_ra (A : Ad) : Sp := fun vs H Q _ => ∃ (F : Hp) (p : Addr) (C : CS) (ρ : Addr → Role) (z : Int), vs = [.ref p, .int z] ∧ Mod A H F p C ρ ∧ R C ∧ AnsK A F p C [[1, z]] Q
theorem ok_ra (T : Txt K mg A) : FnOk P w K mg base CX0 17 A.f_run_answer A.d_run_answer ["machine", "cycles"] (sp_ra A) := by
  have G_Machine_run_cycles : FnOk P w K mg base CX0 15 _ _ _ _ := ok_run T
  refine T.F_run_answer.ok sc_run_answer (by rintro vs H Q E ⟨F, p, C, ρ, z, rfl, _⟩; rfl) (fun cdv Ar outer s H vs Q E hr h => ?_)
  obtain ⟨F, p, C, ρ, z, rfl, M, hR, k⟩ := h
  refine ⟨_, (pss_cons (ps_if (PW.pt (pw_or (pt_cmpR op_lt (pv 1) pe_int (nomark _)) (pw_or1 (pt_cmpR op_gt (pv 1) (pe_k T.v_MOST_CYCLES) (nomark _))))) (pss_one (ps_ret (pe_lst (pa_cons (pe_k T.v_OUT_OF_RANGE) pa_nil)))) pss_nil)
    (pss_cons (ps_expr (pe_meth (pv 0) T.c_Machine T.M_Machine_run_cycles G_Machine_run_cycles (hr.mono (by decide)) T.b_Machine_run_cycles .nil pass0 (pa_cons (pv 1) pa_nil)))
    (pss_one (ps_ret (pe_lst (pa_cons (pe_fld (pv 0) rfl) pa_nil)))))), ?_⟩
  have s1 : 1 ≤ sizeLine := by decide
  have st : Sd48Neutral.step (some C.m) [[1, z]] = if Sd48.between z 0 1000000 = false then (some C.m, [-2]) else (some (Sd48.run z.toNat C.m), [((Sd48.run z.toNat C.m).halt_ : Int)]) := by
    unfold Sd48Neutral.step Sd48Neutral.callOf Sd48.does
    simp only
    split <;> rfl
  have no : Sd48.between z 0 1000000 = false → ∀ q, H q = none → Q (.ref q) (upd H q (.lst [.int (-2)])) := by
    intro hb q hq
    rw [if_pos hb] at st
    refine k _ (setR ρ q .frame) C q (M.freeF hq) ?_ hR (by rw [st])
    rw [st]
    exact M.allocF hq (.lst (iv [-2]))
  have h1 := M.mach
  simp [s1]
  by_cases c1 : z < 0
  · rw [if_pos c1]
    exact no (by
      cases e : Sd48.between z 0 1000000 with
      | false => rfl
      | true => have := (between_iff _ _ _).mp e; omega)
  rw [if_neg c1]
  by_cases c2 : 1000000 < z
  · rw [if_pos c2]
    exact no (by
      cases e : Sd48.between z 0 1000000 with
      | false => rfl
      | true => have := (between_iff _ _ _).mp e; omega)
  rw [if_neg c2]
  have hb : Sd48.between z 0 1000000 = true := (between_iff _ _ _).mpr ⟨by omega, by omega⟩
  rw [if_neg (by rw [hb]; simp)] at st
  simp [h1, machF, T.c_Machine, T.n_Machine_stopped]
  have ez : z = ((z.toNat : Nat) : Int) := by omega
  refine ⟨F, p, C, ρ, z.toNat, by rw [← ez], M, hR, fun H2 ρ2 C2 M2 R2 m2 => ?_⟩
  have g1 := M2.mach
  simp [g1, machF, s1, T.c_Machine, T.n_Machine_stopped]
  intro q hq
  refine k _ (setR ρ2 q .frame) C2 q (M2.freeF hq) ?_ R2 (by rw [st, m2])
  rw [st, ← m2]
  exact M2.allocF hq (.lst (iv [(C2.m.halt_ : Int)]))
def sp_ca (A : Ad) : Sp := fun vs H Q _ => ∃ (F : Hp) (p : Addr) (C : CS) (ρ : Addr → Role) (a n : Int), vs = [.ref p, .int a, .int n] ∧ Mod A H F p C ρ ∧ R C ∧ AnsK A F p C [[3, a, n]] Q
theorem ok_ca (T : Txt K mg A) : FnOk P w K mg base CX0 1 A.f_cells_answer A.d_cells_answer ["machine", "a", "n"] (sp_ca A) := by
  refine T.F_cells_answer.ok sc_cells_answer (by rintro vs H Q E ⟨F, p, C, ρ, a, n, rfl, _⟩; rfl) (fun cdv Ar outer s H vs Q E hr h => ?_)
  obtain ⟨F, p, C, ρ, a, n, rfl, M, hR, k⟩ := h
  refine ⟨_, (pss_cons (ps_if (PW.pt (pw_or (pt_cmpR op_lt (pv 1) pe_int (nomark _)) (pw_or (pt_cmpR op_lt (pv 2) pe_int (nomark _)) (pw_or1 (pt_cmpR op_gt (pe_op op_add (pv 1) (pv 2)) (pe_k T.v_CELLS) (nomark _)))))) (pss_one (ps_ret (pe_lst (pa_cons (pe_k T.v_OUT_OF_RANGE) pa_nil)))) pss_nil)
    (pss_one (ps_ret (pe_op op_cat (pe_lst (pa_cons (pv 2) pa_nil)) (pe_slice sl_h (pe_fld (pv 0) rfl) (po_some (pv 1)) (po_some (pe_op op_add (pv 1) (pv 2)))))))), ?_⟩
  have s1 : 1 ≤ sizeLine := by decide
  have st : Sd48Neutral.step (some C.m) [[3, a, n]] = if (Sd48.between a 0 1024 && Sd48.between n 0 1024) = false then (some C.m, [-2]) else if (1024 : Int) < a + n then (some C.m, [-2]) else (some C.m, n :: Sd48Neutral.ints ((C.m.arch.cells.drop a.toNat).take n.toNat)) := by
    unfold Sd48Neutral.step Sd48Neutral.callOf Sd48.does
    simp only
    split
    · rfl
    · split <;> rfl
  have no : Sd48Neutral.step (some C.m) [[3, a, n]] = (some C.m, [-2]) → ∀ q, H q = none → Q (.ref q) (upd H q (.lst [.int (-2)])) := by
    intro st q hq
    refine k _ (setR ρ q .frame) C q (M.freeF hq) ?_ hR (by rw [st])
    rw [st]
    exact M.allocF hq (.lst (iv [-2]))
  have bad : ∀ z : Int, ¬ (0 ≤ z ∧ z ≤ 1024) → Sd48.between z 0 1024 = false := by
    intro z hz
    cases e : Sd48.between z 0 1024 with
    | false => rfl
    | true => exact absurd ((between_iff _ _ _).mp e) (by simpa using hz)
  have h1 := M.mach
  have h2 := (M.lst .cells).1
  simp [s1]
  by_cases c1 : a < 0
  · rw [if_pos c1]
    exact no (by rw [st, if_pos (by rw [bad a (by omega)]; rfl)])
  rw [if_neg c1]
  by_cases c2 : n < 0
  · rw [if_pos c2]
    exact no (by rw [st, if_pos (by rw [bad n (by omega)]; simp)])
  rw [if_neg c2]
  by_cases c3 : 1024 < a + n
  · rw [if_pos c3]
    refine no ?_
    rw [st]
    split <;> simp [c3]
  rw [if_neg c3]
  have ba : Sd48.between a 0 1024 = true := (between_iff _ _ _).mpr ⟨by omega, by omega⟩
  have bn : Sd48.between n 0 1024 = true := (between_iff _ _ _).mpr ⟨by omega, by omega⟩
  rw [if_neg (by rw [ba, bn]; simp), if_neg c3] at st
  intro l hl
  have M1 := M.alloc hl (.lst [.int n]) .no
  generalize hH1 : upd H l (.lst [.int n]) = H1 at M1 ⊢
  have hl1 : H1 l = some (.lst [.int n]) := by rw [← hH1]; exact upd_same
  generalize setR ρ l .no = ρ1 at M1
  have g1 := M1.mach
  have g2 := (M1.lst .cells).1
  simp [g1, g2, machF, T.c_Machine, T.n_Machine_cells]
  intro y hy
  have ea : a = ((a.toNat : Nat) : Int) := by omega
  have en : n = ((n.toNat : Nat) : Int) := by omega
  have cl := hR.arch.cells
  have ecut : cutV (nv C.m.arch.cells) (some a) (some (a + n)) = nv ((C.m.arch.cells.drop a.toNat).take n.toNat) := by
    rw [ea, en, cut_mid _ _ _ (by rw [length_nv]; omega)]
    unfold nv
    rw [← List.map_drop, ← List.map_take]
    rfl
  rw [ecut]
  have M2 := M1.alloc hy (.lst (nv ((C.m.arch.cells.drop a.toNat).take n.toNat))) .no
  have nly : l ≠ y := ne_of_none hl1 hy
  have lk : min n.toNat (1024 - a.toNat) ≤ 1024 := by omega
  have s2k : 1025 ≤ sizeLine := by decide
  simp [hl1, upd_ne nly, cl]
  refine ⟨by omega, fun q hq => ?_⟩
  refine k _ (setR (setR ρ1 y .no) q .frame) C q (M2.freeF hq) ?_ hR (by rw [st])
  rw [st]
  have := M2.allocF hq (.lst (iv (n :: Sd48Neutral.ints ((C.m.arch.cells.drop a.toNat).take n.toNat))))
  have e3 : iv (n :: Sd48Neutral.ints ((C.m.arch.cells.drop a.toNat).take n.toNat)) = V.int n :: nv ((C.m.arch.cells.drop a.toNat).take n.toNat) := by
    rw [← iv_ints]
    rfl
  rw [e3] at this ⊢
  exact this
def modT (cs : List Nat) (i : Nat) : List V := nv ((cs.map (· % Sd48.W)).take i)
theorem modT_succ {cs : List Nat} {i w : Nat} (h : cs[i]? = some w) : modT cs (i + 1) = modT cs i ++ [.int ((w % Sd48.W : Nat) : Int)] := by
  unfold modT nv
  rw [List.take_succ, List.getElem?_map, h, List.map_append]
  rfl
theorem modT_len {cs : List Nat} {i : Nat} : (modT cs i).length ≤ i := by
  unfold modT
  rw [length_nv, List.length_take]
  omega
def sp_ga (A : Ad) : Sp := fun vs H Q _ => ∃ (F : Hp) (p : Addr) (C : CS) (ρ : Addr → Role), vs = [.ref p] ∧ Mod A H F p C ρ ∧ R C ∧ AnsK A F p C [[4]] Q
theorem ok_ga (T : Txt K mg A) : FnOk P w K mg base CX0 3 A.f_told_answer A.d_told_answer ["machine"] (sp_ga A) := by
  have G_wrapped : FnOk P w K mg base CX0 1 _ _ _ _ := ok_wrapped T
  have G_Machine_next_to_leave : FnOk P w K mg base CX0 1 _ _ _ _ := ok_next T
  refine T.F_told_answer.ok sc_told_answer (by rintro vs H Q E ⟨F, p, C, ρ, rfl, _⟩; rfl) (fun cdv Ar outer s H vs Q E hr h => ?_)
  obtain ⟨F, p, C, ρ, rfl, M, hR, k⟩ := h
  refine ⟨_, (pss_cons (ps_set (i := 1) sc_told_answer.nd rfl (Or.inl rfl) (pe_lst (pa_cons (pe_fld (pv 0) rfl) (pa_cons (pe_fld (pv 0) rfl) (pa_cons (pe_fld (pv 0) rfl) (pa_cons (pe_fld (pv 0) rfl) pa_nil))))))
    (pss_one (ps_ret (pe_op op_cat (pe_op op_cat (pe_lst (pa_cons (pe_fld (pv 0) rfl) pa_nil)) (pe_lc (own := [("count", 2)]) rfl sc_told_answer.nd (pi_lstH (pv 1)) (blkOk_by (show blkC ["machine", "counts", "count"] (defScope s_told_answer) _ [("count", 2)] = true by decide +kernel)) (fun _ _ _ _ _ => (pg_name (i := 2) sc_told_answer.nd rfl (Or.inl rfl))) (fun _ _ _ _ _ => pts_nil) (fun _ _ _ _ _ => (pe_call G_wrapped (hr.mono (by decide)) rfl T.m_wrapped T.F_wrapped.kp T.b_wrapped .nil pass0 (pa_cons (pv 2) pa_nil))))) (pe_lst (pa_cons (pe_callB call_len_h (by rfl) T.z_len PySem.boot_len (pa_cons (pe_fld (pv 0) rfl) pa_nil)) (pa_cons (pe_meth0 (pv 0) T.c_Machine T.M_Machine_next_to_leave G_Machine_next_to_leave (hr.mono (by decide)) T.b_Machine_next_to_leave .nil pass0) pa_nil))))))), ?_⟩
  have s4 : 4 ≤ sizeLine := by decide
  have s1 : 1 ≤ sizeLine := by decide
  have h1 := M.mach
  have st : Sd48Neutral.step (some C.m) [[4]] = (some C.m, (C.m.halt_ : Int) :: Sd48Neutral.ints [C.m.cycles % Sd48.W, C.m.retired % Sd48.W, C.m.thrown % Sd48.W, C.m.wrong % Sd48.W, C.m.slots.length, C.m.arch.pc]) := rfl
  have len := hR.len
  have s2 : 2 ≤ sizeLine := by decide
  have s5 : 5 ≤ sizeLine := by decide
  have s7 : 7 ≤ sizeLine := by decide
  simp [h1, machF, s4, s1, T.c_Machine, T.n_Machine_cycles_run, T.n_Machine_have_left, T.n_Machine_thrown_away, T.n_Machine_wrong_guesses, T.n_Machine_stopped, T.n_Machine_slots]
  intro l1 hl1
  generalize hcs : [C.m.cycles, C.m.retired, C.m.thrown, C.m.wrong] = cs
  have ecs : [V.int (C.m.cycles : Int), V.int (C.m.retired : Int), V.int (C.m.thrown : Int), V.int (C.m.wrong : Int)] = nv cs := by rw [← hcs]; rfl
  rw [ecs]
  have M1 := M.alloc hl1 (.lst (nv cs)) .no
  have g1 : upd H l1 (.lst (nv cs)) l1 = some (.lst (nv cs)) := upd_same
  generalize upd H l1 (.lst (nv cs)) = H1 at M1 g1 ⊢
  generalize setR ρ l1 .no = ρ1 at M1
  have g2 := M1.mach
  simp [g2, machF, T.c_Machine, T.n_Machine_cycles_run, T.n_Machine_have_left, T.n_Machine_thrown_away, T.n_Machine_wrong_guesses, T.n_Machine_stopped, T.n_Machine_slots]
  intro l2 hl2
  have M2 := M1.alloc hl2 (.lst [.int (C.m.halt_ : Int)]) .no
  have g3 : upd H1 l2 (.lst [.int (C.m.halt_ : Int)]) l2 = some (.lst [.int (C.m.halt_ : Int)]) := upd_same
  have g4 : upd H1 l2 (.lst [.int (C.m.halt_ : Int)]) l1 = some (.lst (nv cs)) := by rw [upd_ne (ne_of_none g1 hl2)]; exact g1
  generalize upd H1 l2 (.lst [.int (C.m.halt_ : Int)]) = H2 at M2 g3 g4 ⊢
  generalize setR ρ1 l2 .no = ρ2 at M2
  simp [g4]
  intro D hD
  have nD1 : l1 ≠ D := ne_of_none g4 hD
  have nD2 : l2 ≠ D := ne_of_none g3 hD
  refine lc_listH (xs := nv cs) (fun i H' => H' = upd H2 D (.lst (modT cs i))) rfl ?_ ?_ ?_
  · rintro i H' _ rfl
    rw [upd_ne nD1]
    exact g4
  · rintro i x H' hx rfl
    obtain ⟨w, hw, rfl⟩ : ∃ w, cs[i]? = some w ∧ x = .int (w : Int) := by
      unfold nv at hx
      rw [List.getElem?_map] at hx
      cases e : cs[i]? with
      | none => rw [e] at hx; cases hx
      | some w => rw [e] at hx; exact ⟨w, rfl, (Option.some.inj hx).symm⟩
    have eW : ((w : Int) % 4294967296) = ((w % Sd48.W : Nat) : Int) := by
      have : Sd48.W = 4294967296 := by decide
      rw [this]
      omega
    have cl : cs.length = 4 := by rw [← hcs]; rfl
    have hil : i < 4 := by
      have := (List.getElem?_eq_some_iff.mp hw).1
      omega
    have ml := modT_len (cs := cs) (i := i)
    simp [wipe]
    refine ⟨by omega, ?_⟩
    rw [eW, modT_succ hw]
  · rintro H' rfl
    have emod : modT cs (nv cs).length = nv (cs.map (· % Sd48.W)) := by
      unfold modT
      rw [List.take_of_length_le (by simp)]
    rw [emod]
    have M3 := M2.alloc hD (.lst (nv (cs.map (· % Sd48.W)))) .no
    have g5 : upd H2 D (.lst (nv (cs.map (· % Sd48.W)))) D = some (.lst (nv (cs.map (· % Sd48.W)))) := upd_same
    have g6 : upd H2 D (.lst (nv (cs.map (· % Sd48.W)))) l2 = some (.lst [.int (C.m.halt_ : Int)]) := by rw [upd_ne nD2]; exact g3
    generalize upd H2 D (.lst (nv (cs.map (· % Sd48.W)))) = H3 at M3 g5 g6 ⊢
    generalize setR ρ2 D .no = ρ3 at M3
    have cl : cs.length = 4 := by rw [← hcs]; rfl
    simp [g5, g6, cl, s5]
    intro q hq
    have M4 := M3.alloc hq (.lst (V.int (C.m.halt_ : Int) :: nv (cs.map (· % Sd48.W)))) .no
    have g7 : upd H3 q (.lst (V.int (C.m.halt_ : Int) :: nv (cs.map (· % Sd48.W)))) q = some (.lst (V.int (C.m.halt_ : Int) :: nv (cs.map (· % Sd48.W)))) := upd_same
    generalize upd H3 q (.lst (V.int (C.m.halt_ : Int) :: nv (cs.map (· % Sd48.W)))) = H4 at M4 g7 ⊢
    generalize setR ρ3 q .no = ρ4 at M4
    have g8 := M4.mach
    have g9 := (M4.lst .slots).1
    simp [g8, g9, machF, T.c_Machine, T.n_Machine_cycles_run, T.n_Machine_have_left, T.n_Machine_thrown_away, T.n_Machine_wrong_guesses, T.n_Machine_stopped, T.n_Machine_slots]
    refine ⟨F, p, C, ρ4, rfl, M4, hR, s2, fun r hr' => ?_⟩
    have M5 := M4.alloc hr' (.lst [V.int (C.q.length : Int), V.int (C.m.arch.pc : Int)]) .no
    have nqr : q ≠ r := ne_of_none g7 hr'
    simp [upd_ne nqr, g7, cl, s7]
    intro u hu
    refine k _ (setR (setR ρ4 r .no) u .frame) C u (M5.freeF hu) ?_ hR (by rw [st])
    rw [st]
    have := M5.allocF hu (.lst (iv ((C.m.halt_ : Int) :: Sd48Neutral.ints [C.m.cycles % Sd48.W, C.m.retired % Sd48.W, C.m.thrown % Sd48.W, C.m.wrong % Sd48.W, C.m.slots.length, C.m.arch.pc])))
    have e3 : iv ((C.m.halt_ : Int) :: Sd48Neutral.ints [C.m.cycles % Sd48.W, C.m.retired % Sd48.W, C.m.thrown % Sd48.W, C.m.wrong % Sd48.W, C.m.slots.length, C.m.arch.pc]) = V.int (C.m.halt_ : Int) :: (nv (cs.map (· % Sd48.W)) ++ [V.int (C.q.length : Int), V.int (C.m.arch.pc : Int)]) := by
      rw [← hcs, len]
      rfl
    rw [e3] at this ⊢
    exact this
def sp_sa (A : Ad) : Sp := fun vs H Q _ => ∃ (F : Hp) (p : Addr) (C : CS) (ρ : Addr → Role) (z : Int), vs = [.ref p, .int z] ∧ Mod A H F p C ρ ∧ R C ∧ AnsK A F p C [[5, z]] Q
theorem ok_sa (T : Txt K mg A) : FnOk P w K mg base CX0 1 A.f_slot_answer A.d_slot_answer ["machine", "k"] (sp_sa A) := by
  refine T.F_slot_answer.ok sc_slot_answer (by rintro vs H Q E ⟨F, p, C, ρ, z, rfl, _⟩; rfl) (fun cdv Ar outer s H vs Q E hr h => ?_)
  obtain ⟨F, p, C, ρ, z, rfl, M, hR, k⟩ := h
  refine ⟨_, (pss_cons (ps_if (PW.pt (pw_or (pt_cmpR op_lt (pv 1) pe_int (nomark _)) (pw_or1 (pt_cmpR op_gt (pv 1) (pe_k T.v_LAST_SLOT) (nomark _))))) (pss_one (ps_ret (pe_lst (pa_cons (pe_k T.v_OUT_OF_RANGE) pa_nil)))) pss_nil)
    (pss_cons (ps_if (pt_cmpR op_ge (pv 1) (pe_callB call_len_h (by rfl) T.z_len PySem.boot_len (pa_cons (pe_fld (pv 0) rfl) pa_nil)) (nomark _)) (pss_one (ps_ret (pe_lst (pa_cons (pe_k T.v_NO_SUCH_SLOT) pa_nil)))) pss_nil)
    (pss_cons (ps_set (i := 2) sc_slot_answer.nd rfl (Or.inl rfl) (pe_ix ix_h (pe_fld (pv 0) rfl) (pv 1) (fun _ _ => rfl)))
    (pss_one (ps_ret (pe_lst (pa_cons pe_int (pa_cons (pe_fld (pe_fld (pv 2) rfl) rfl) (pa_cons (pe_fld (pe_fld (pv 2) rfl) rfl) (pa_cons (pe_fld (pv 2) rfl) (pa_cons (pe_fld (pv 2) rfl) (pa_cons (pe_fld (pv 2) rfl) pa_nil)))))))))))), ?_⟩
  have s1 : 1 ≤ sizeLine := by decide
  have s6 : 6 ≤ sizeLine := by decide
  have st : Sd48Neutral.step (some C.m) [[5, z]] = if Sd48.between z 0 63 = false then (some C.m, [-2]) else (match C.m.slots[z.toNat]? with
    | some x => (some C.m, [0, (x.pc : Int), (x.word : Int), (x.phase : Int), (x.left : Int), (x.out.value : Int)])
    | none => (some C.m, [-3])) := by
    unfold Sd48Neutral.step Sd48Neutral.callOf Sd48.does
    simp only
    split
    · rfl
    · cases e : C.m.slots[z.toNat]? with
      | none => rfl
      | some x => rfl
  have bad : ∀ z : Int, ¬ (0 ≤ z ∧ z ≤ 63) → Sd48.between z 0 63 = false := by
    intro z hz
    cases e : Sd48.between z 0 63 with
    | false => rfl
    | true => exact absurd ((between_iff _ _ _).mp e) (by simpa using hz)
  have fin : ∀ (ans : List Int), Sd48Neutral.step (some C.m) [[5, z]] = (some C.m, ans) → ∀ q, H q = none → Q (.ref q) (upd H q (.lst (iv ans))) := by
    intro ans st q hq
    refine k _ (setR ρ q .frame) C q (M.freeF hq) ?_ hR (by rw [st])
    rw [st]
    exact M.allocF hq (.lst (iv ans))
  have h1 := M.mach
  have h2 := (M.lst .slots).1
  have len := hR.len
  simp [s1, s6, h1, h2, machF, T.c_Machine, T.c_Instruction, T.c_Slot, T.n_Machine_slots, T.n_Instruction_place, T.n_Instruction_word, T.n_Slot_state, T.n_Slot_cycles_left, T.n_Slot_value, T.n_Slot_instruction]
  by_cases c1 : z < 0
  · rw [if_pos c1]
    exact fin [-2] (by rw [st, if_pos (bad z (by omega))])
  rw [if_neg c1]
  by_cases c2 : 63 < z
  · rw [if_pos c2]
    exact fin [-2] (by rw [st, if_pos (bad z (by omega))])
  rw [if_neg c2]
  have bz : Sd48.between z 0 63 = true := (between_iff _ _ _).mpr ⟨by omega, by omega⟩
  rw [if_neg (by rw [bz]; simp)] at st
  by_cases c3 : (C.q.length : Int) ≤ z
  · rw [if_pos c3]
    refine fin [-3] ?_
    rw [st, List.getElem?_eq_none (by omega)]
  rw [if_neg c3]
  have hq : z.toNat < C.q.length := by omega
  obtain ⟨x, d, hx, hd, S⟩ := hR.slot (List.getElem?_eq_getElem hq)
  have dx := S.dx
  have SA := M.slot _ d hd
  have g1 := SA.ob
  have g2 := SA.ins
  have ez : z = ((z.toNat : Nat) : Int) := by omega
  have at1 : atI (C.q.map V.ref) z = some (V.ref C.q[z.toNat]) := by
    exact at_of ez (by rw [List.getElem?_map, List.getElem?_eq_getElem hq]; rfl)
  simp [at1, g1, g2, slotF, insF, dx, T.c_Machine, T.c_Instruction, T.c_Slot, T.n_Machine_slots, T.n_Instruction_place, T.n_Instruction_word, T.n_Slot_state, T.n_Slot_cycles_left, T.n_Slot_value, T.n_Slot_instruction]
  exact fin [0, (x.pc : Int), (x.word : Int), (x.phase : Int), (x.left : Int), (x.out.value : Int)] (by rw [st, hx])
end Ooo
namespace Ooo
open PySem L2 Ex
variable {P : Program} {w : World} {K : PySem.W.Frag} {mg : Str → Option Value} {base : Heap} {A : Ad}
def rdO (A : Ad) (dr a : Addr) (n : Nat) : HO := .ins A.C_Reader dr (F_Reader (.ref a) (.int (n : Int)))
def sp_cl (A : Ad) (K : PySem.W.Frag) : Sp := fun vs H Q _ => ∃ (F : Hp) (p : Addr) (C : CS) (ρ : Addr → Role) (pr dr a : Addr) (n : Nat) (ns : List Int) (c : List (List Int)) (l r : List Int), vs = [.ref p, .ref pr] ∧ Mod A H F p C ρ ∧ R C ∧ F pr = some (rdO A dr a n) ∧ SqL K F a (iv ns) ∧ CallIs c l ∧ ns.drop n = l ++ r ∧
  AnsK A (upd F pr (rdO A dr a (n + l.length))) p C c Q
theorem drop_get {ns l : List Int} {n : Nat} (h : ns.drop n = l) (j : Nat) : ns[n + j]? = l[j]? := by
  rw [← h, List.getElem?_drop]
theorem ok_cl (T : Txt K mg A) : FnOk P w K mg base CX0 19 A.f_call_answer A.d_call_answer ["machine", "reader"] (sp_cl A K) := by
  have G_Reader_take_number : FnOk P w K mg base CX0 1 _ _ _ _ := ok_RN T
  have G_run_answer : FnOk P w K mg base CX0 17 _ _ _ _ := ok_ra T
  have G_cells_answer : FnOk P w K mg base CX0 1 _ _ _ _ := ok_ca T
  have G_told_answer : FnOk P w K mg base CX0 3 _ _ _ _ := ok_ga T
  have G_slot_answer : FnOk P w K mg base CX0 1 _ _ _ _ := ok_sa T
  refine T.F_call_answer.ok sc_call_answer (by rintro vs H Q E ⟨F, p, C, ρ, pr, dr, a, n, ns, c, l, r, rfl, _⟩; rfl) (fun cdv Ar outer s H vs Q E hr h => ?_)
  obtain ⟨F, p, C, ρ, pr, dr, a, n, ns, c, l, r, rfl, M, hR, hF, hS, hc, hns, k⟩ := h
  refine ⟨_, (pss_cons (ps_set (i := 2) sc_call_answer.nd rfl (Or.inl rfl) (pe_meth0 (pv 1) T.c_Reader T.M_Reader_take_number G_Reader_take_number (hr.mono (by decide)) T.b_Reader_take_number .nil pass0))
    (pss_cons (ps_if (pt_cmpR op_eq (pv 2) (pe_k T.v_RUN) (nomark _)) (pss_one (ps_ret (pe_call G_run_answer (hr.mono (by decide)) rfl T.m_run_answer T.F_run_answer.kp T.b_run_answer .nil pass0 (pa_cons (pv 0) (pa_cons (pe_meth0 (pv 1) T.c_Reader T.M_Reader_take_number G_Reader_take_number (hr.mono (by decide)) T.b_Reader_take_number .nil pass0) pa_nil))))) pss_nil)
    (pss_cons (ps_if (pt_cmpR op_eq (pv 2) (pe_k T.v_REGS) (nomark _)) (pss_one (ps_ret (pe_op op_cat (pe_lst (pa_cons pe_int pa_nil)) (pe_fld (pv 0) rfl)))) pss_nil)
    (pss_cons (ps_if (pt_cmpR op_eq (pv 2) (pe_k T.v_TELL_CELLS) (nomark _)) (pss_cons (ps_set (i := 3) sc_call_answer.nd rfl (Or.inl rfl) (pe_meth0 (pv 1) T.c_Reader T.M_Reader_take_number G_Reader_take_number (hr.mono (by decide)) T.b_Reader_take_number .nil pass0))
    (pss_one (ps_ret (pe_call G_cells_answer (hr.mono (by decide)) rfl T.m_cells_answer T.F_cells_answer.kp T.b_cells_answer .nil pass0 (pa_cons (pv 0) (pa_cons (pv 3) (pa_cons (pe_meth0 (pv 1) T.c_Reader T.M_Reader_take_number G_Reader_take_number (hr.mono (by decide)) T.b_Reader_take_number .nil pass0) pa_nil))))))) pss_nil)
    (pss_cons (ps_if (pt_cmpR op_eq (pv 2) (pe_k T.v_TOLD) (nomark _)) (pss_one (ps_ret (pe_call G_told_answer (hr.mono (by decide)) rfl T.m_told_answer T.F_told_answer.kp T.b_told_answer .nil pass0 (pa_cons (pv 0) pa_nil)))) pss_nil)
    (pss_cons (ps_if (pt_cmpR op_eq (pv 2) (pe_k T.v_SLOT) (nomark _)) (pss_one (ps_ret (pe_call G_slot_answer (hr.mono (by decide)) rfl T.m_slot_answer T.F_slot_answer.kp T.b_slot_answer .nil pass0 (pa_cons (pv 0) (pa_cons (pe_meth0 (pv 1) T.c_Reader T.M_Reader_take_number G_Reader_take_number (hr.mono (by decide)) T.b_Reader_take_number .nil pass0) pa_nil))))) pss_nil)
    (pss_one ps_never))))))), ?_⟩
  have s1 : 1 ≤ sizeLine := by decide
  have s17 : 17 ≤ sizeLine := by decide
  have h1 : H pr = some (rdO A dr a n) := (M.frm pr _ hF).1
  have hS1 : SqL K H a (iv ns) := sq_keep hS fun o e => (M.frm a o e).1
  have M1 := M.wF hF (rdO A dr a (n + 1))
  have F1 : upd F pr (rdO A dr a (n + 1)) pr = some (rdO A dr a (n + 1)) := upd_same
  have S1 : SqL K (upd F pr (rdO A dr a (n + 1))) a (iv ns) := sq_upd hS hF
  have step : ∀ z, ns[n]? = some z → sp_RN A K [.ref pr] H (fun v H1 => v = .int z ∧ H1 = upd H pr (rdO A dr a (n + 1))) E0 := fun z hz => ⟨pr, dr, a, n, ns, z, rfl, h1, hS1, hz, rfl, rfl⟩
  have two : ∀ {F' : Hp} {H' : Hp} (m : Nat), F' pr = some (rdO A dr a m) → SqL K F' a (iv ns) → Mod A H' F' p C ρ → ∀ z, ns[m]? = some z → ∀ Q' : VK, Q' (.int z) (upd H' pr (rdO A dr a (m + 1))) → sp_RN A K [.ref pr] H' Q' E0 := by
    intro F' H' m e1 e2 e3 z hz Q' q
    exact ⟨pr, dr, a, m, ns, z, rfl, (e3.frm pr _ e1).1, sq_keep e2 fun o e => (e3.frm a o e).1, hz, q⟩
  have h1' := h1
  unfold rdO at h1'
  simp [h1', T.c_Machine, T.n_Machine_regs]
  cases hc with
  | run z =>
    refine two n hF hS M 1 (drop_get hns 0) _ ?_
    generalize upd H pr (rdO A dr a (n + 1)) = H1 at M1 ⊢
    have g1 : H1 pr = some (.ins A.C_Reader dr (F_Reader (.ref a) (.int ((n + 1 : Nat) : Int)))) := (M1.frm pr _ F1).1
    have g2 := M1.mach
    simp [g1, T.c_Machine, T.n_Machine_regs]
    refine two (n + 1) F1 S1 M1 z (drop_get hns 1) _ ?_
    have M2 := M1.wF F1 (rdO A dr a (n + 1 + 1))
    rw [upd_upd] at M2
    exact ⟨_, p, C, ρ, z, rfl, M2, hR, k⟩
  | regs =>
    refine two n hF hS M 2 (drop_get hns 0) _ ?_
    generalize upd H pr (rdO A dr a (n + 1)) = H1 at M1 ⊢
    have g1 : H1 pr = some (.ins A.C_Reader dr (F_Reader (.ref a) (.int ((n + 1 : Nat) : Int)))) := (M1.frm pr _ F1).1
    have g2 := M1.mach
    simp [g1, T.c_Machine, T.n_Machine_regs]
    refine ⟨s1, fun l1 hl1 => ?_⟩
    have M2 := M1.alloc hl1 (.lst [.int 0]) .no
    have g3 : upd H1 l1 (.lst [.int 0]) l1 = some (.lst [.int 0]) := upd_same
    generalize upd H1 l1 (.lst [.int 0]) = H2 at M2 g3 ⊢
    generalize setR ρ l1 .no = ρ2 at M2
    have g4 := M2.mach
    have g5 := (M2.lst .regs).1
    have rl := hR.arch.regs
    simp [g3, g4, g5, machF, rl, s17, T.c_Machine, T.n_Machine_regs]
    intro q hq
    have st : Sd48Neutral.step (some C.m) [[2]] = (some C.m, 0 :: Sd48Neutral.ints C.m.arch.regs) := by
      unfold Sd48Neutral.step Sd48Neutral.callOf Sd48.does
      simp only
      rw [regs_eq hR.arch]
    refine k _ (setR ρ2 q .frame) C q (M2.freeF hq) ?_ hR (by rw [st])
    rw [st]
    have := M2.allocF hq (.lst (iv (0 :: Sd48Neutral.ints C.m.arch.regs)))
    have e3 : iv (0 :: Sd48Neutral.ints C.m.arch.regs) = V.int 0 :: nv C.m.arch.regs := by
      rw [← iv_ints]
      rfl
    rw [e3] at this ⊢
    exact this
  | cells x y =>
    refine two n hF hS M 3 (drop_get hns 0) _ ?_
    generalize upd H pr (rdO A dr a (n + 1)) = H1 at M1 ⊢
    have g1 : H1 pr = some (.ins A.C_Reader dr (F_Reader (.ref a) (.int ((n + 1 : Nat) : Int)))) := (M1.frm pr _ F1).1
    have g2 := M1.mach
    simp [g1, T.c_Machine, T.n_Machine_regs]
    refine two (n + 1) F1 S1 M1 x (drop_get hns 1) _ ?_
    have M2 := M1.wF F1 (rdO A dr a (n + 1 + 1))
    rw [upd_upd] at M2
    have F2 : upd F pr (rdO A dr a (n + 1 + 1)) pr = some (rdO A dr a (n + 1 + 1)) := upd_same
    have S2 : SqL K (upd F pr (rdO A dr a (n + 1 + 1))) a (iv ns) := sq_upd hS hF
    generalize upd H1 pr (rdO A dr a (n + 1 + 1)) = H2 at M2 ⊢
    have g3 : H2 pr = some (.ins A.C_Reader dr (F_Reader (.ref a) (.int ((n + 1 + 1 : Nat) : Int)))) := (M2.frm pr _ F2).1
    simp [g3, T.c_Machine, T.n_Machine_regs]
    refine two (n + 1 + 1) F2 S2 M2 y (drop_get hns 2) _ ?_
    have M3 := M2.wF F2 (rdO A dr a (n + 1 + 1 + 1))
    rw [upd_upd] at M3
    exact ⟨_, p, C, ρ, x, y, rfl, M3, hR, k⟩
  | told =>
    refine two n hF hS M 4 (drop_get hns 0) _ ?_
    generalize upd H pr (rdO A dr a (n + 1)) = H1 at M1 ⊢
    have g1 : H1 pr = some (.ins A.C_Reader dr (F_Reader (.ref a) (.int ((n + 1 : Nat) : Int)))) := (M1.frm pr _ F1).1
    have g2 := M1.mach
    simp [g1, T.c_Machine, T.n_Machine_regs]
    exact ⟨_, p, C, ρ, rfl, M1, hR, k⟩
  | slot z =>
    refine two n hF hS M 5 (drop_get hns 0) _ ?_
    generalize upd H pr (rdO A dr a (n + 1)) = H1 at M1 ⊢
    have g1 : H1 pr = some (.ins A.C_Reader dr (F_Reader (.ref a) (.int ((n + 1 : Nat) : Int)))) := (M1.frm pr _ F1).1
    have g2 := M1.mach
    simp [g1, T.c_Machine, T.n_Machine_regs]
    refine two (n + 1) F1 S1 M1 z (drop_get hns 1) _ ?_
    have M2 := M1.wF F1 (rdO A dr a (n + 1 + 1))
    rw [upd_upd] at M2
    exact ⟨_, p, C, ρ, z, rfl, M2, hR, k⟩
theorem limits_eq (g : List Int) (h : g.length = 9) : asTold g = ((g.zip Sd48.limits).all fun x => Sd48.between x.1 x.2.1 x.2.2) := by
  match g, h with
  | [a, b, c, d, e, f, g, h, t], _ => rfl
theorem cfg_some {g : List Int} (h : g.length = 9) (ha : asTold g = true) : ∃ c, Sd48.cfgRead g = some c ∧ g = (cfgL c).map (fun (x : Nat) => (x : Int)) ∧ c.slots ≤ 64 ∧ c.table ≤ 256 := by
  have hl := limits_eq g h
  rw [ha] at hl
  match g, h with
  | [a, b, c, d, e, f, g, i, t], h =>
    unfold Sd48.cfgRead
    rw [if_pos ⟨h, hl.symm⟩]
    refine ⟨_, rfl, ?_⟩
    unfold asTold limI at ha
    simp at ha
    unfold cfgL
    simp
    omega
theorem cfg_none {g : List Int} (h : g.length = 9) (ha : asTold g = false) : Sd48.cfgRead g = none := by
  have hl := limits_eq g h
  rw [ha] at hl
  unfold Sd48.cfgRead
  rw [if_neg]
  rintro ⟨_, z⟩
  rw [z] at hl
  cases hl
def sp_ans (K : PySem.W.Frag) : Sp := fun vs H Q _ => ∃ (a : Addr) (ns : List Int), vs = [.ref a] ∧ SqL K H a (iv ns) ∧ PySd48.answers_asked ns = true ∧ ∀ (H' : Hp) (l : Addr), H' l = some (.lst (iv (PySd48.answers ns))) → Q (.ref l) H'
/-- where the reader stands -/
def rdAt (pr : Addr) (H : Hp) : Nat := match H pr with
  | some (.ins _ _ fs) => (match fs.lookup (Str.ofString "at") with
    | some (.int z) => z.toNat
    | _ => 0)
  | _ => 0
/-- a heap without one thing -/
def but (x : Addr) (F : Hp) : Hp := fun b => if b = x then none else F b
theorem but_sq {x a : Addr} {F : Hp} {xs : List V} (h : SqL K (but x F) a xs) : SqL K F a xs := sq_keep h fun o e => by
  unfold but at e
  split at e
  · cases e
  · exact e
def invA (A : Ad) (K : PySem.W.Frag) (pm pr dr a : Addr) (ns out : List Int) (lt : Addr) (σ : L2.St) (H : Hp) : Prop := ∃ (F : Hp) (C : CS) (ρ : Addr → Role) (n : Nat) (rest sofar : List Int) (cs : List (List (List Int))) (v1 v2 v3 v4 : Option V),
  σ = [some (.ref a), some (.ref pr), v1, v2, v3, some (.ref pm), some (.ref lt), v4] ∧ Mod A H F pm C ρ ∧ R C ∧ F pr = some (rdO A dr a n) ∧ SqL K (but lt F) a (iv ns) ∧ F lt = some (.lst (iv sofar)) ∧ ns.drop n = rest ∧ n ≤ ns.length ∧ RestIs rest cs ∧ out = sofar ++ PyFlat.told (PyFlat.played Sd48Neutral.step (some C.m) cs)
theorem row_at {ns row t : List Int} {n : Nat} (h : ns.drop n = (row.length : Int) :: (row ++ t)) : ns[n]? = some (row.length : Int) ∧ (ns.drop (n + 1)).take row.length = row ∧ n + 1 + row.length ≤ ns.length ∧ ns.drop (n + 1 + row.length) = t := by
  have h1 : ns.drop (n + 1) = row ++ t := by
    have := congrArg (List.drop 1) h
    simpa [List.drop_drop, Nat.add_comm] using this
  refine ⟨?_, ?_, ?_, ?_⟩
  · have := drop_get h 0
    simpa using this
  · rw [h1]; simp
  · have := congrArg List.length h
    rw [List.length_drop, List.length_cons, List.length_append] at this
    omega
  · have := congrArg (List.drop row.length) h1
    simpa [List.drop_drop, Nat.add_comm, Nat.add_assoc, Nat.add_left_comm] using this
theorem call_pos {c : List (List Int)} {l : List Int} (h : CallIs c l) : 0 < l.length := by cases h <;> simp
theorem played_cons {S : Type} (f : S → List (List Int) → S × List Int) (s : S) (c : List (List Int)) (r : List (List (List Int))) : PyFlat.played f s (c :: r) = (f s c).2 :: PyFlat.played f (f s c).1 r := rfl
theorem rest_nil {x : List Int} {cs : List (List (List Int))} (h : RestIs x cs) (e : x = []) : cs = [] := by
  cases h with
  | nil => rfl
  | cons h t =>
    have := call_pos h
    have e2 := congrArg List.length e
    rw [List.length_append, List.length_nil] at e2
    omega
theorem rest_cons {x : List Int} {cs : List (List (List Int))} (h : RestIs x cs) (e : x ≠ []) : ∃ c l r cs', cs = c :: cs' ∧ x = l ++ r ∧ CallIs c l ∧ RestIs r cs' := by
  cases h with
  | nil => exact absurd rfl e
  | cons h t => exact ⟨_, _, _, _, rfl, rfl, h, t⟩
theorem iv_nats {p : List Int} (h : ∀ z ∈ p, 0 ≤ z ∧ z < 4294967296) : iv p = nv (Sd48Neutral.nats p) ∧ ∀ y ∈ Sd48Neutral.nats p, y < Sd48.W := by
  constructor
  · unfold iv nv Sd48Neutral.nats
    rw [List.map_map]
    apply List.map_congr_left
    intro z hz
    have := (h z hz).1
    show V.int z = V.int ((z.toNat : Nat) : Int)
    congr 1
    omega
  · intro y hy
    obtain ⟨z, hz, rfl⟩ := List.mem_map.mp hy
    have := h z hz
    have eW : Sd48.W = 4294967296 := by decide
    rw [eW]
    omega
theorem rdAt_of {pr dr a : Addr} {H : Hp} {n : Nat} (h : H pr = some (rdO A dr a n)) : rdAt pr H = n := by
  unfold rdAt
  rw [h]
  unfold rdO
  simp
theorem ok_answers (T : Txt K mg A) : FnOk P w K mg base CX0 21 A.f_answers A.d_answers ["calls"] (sp_ans K) := by
  have G_Reader_init : FnOk P w K mg base CX0 1 _ _ _ _ := ok_RI T
  have G_Reader_at_end : FnOk P w K mg base CX0 1 _ _ _ _ := ok_RE T
  have G_Reader_take_number : FnOk P w K mg base CX0 1 _ _ _ _ := ok_RN T
  have G_Reader_take_row : FnOk P w K mg base CX0 3 _ _ _ _ := ok_RR T
  have G_is_as_told : FnOk P w K mg base CX0 1 _ _ _ _ := ok_it T
  have G_Machine_init : FnOk P w K mg base CX0 7 _ _ _ _ := ok_Mach T
  have G_call_answer : FnOk P w K mg base CX0 19 _ _ _ _ := ok_cl T
  refine T.F_answers.ok sc_answers (by rintro vs H Q E ⟨a, ns, rfl, _⟩; rfl) (fun cdv Ar outer s H vs Q E hr h => ?_)
  obtain ⟨a, ns, rfl, hS, hask, k⟩ := h
  obtain ⟨p, l, g, rest, cs, hA⟩ := asked_of hask
  refine ⟨_, (pss_cons (ps_set (i := 1) sc_answers.nd rfl (Or.inl rfl) (pe_make T.K_Reader G_Reader_init (hr.mono (by decide)) rfl T.g_Reader T.b_Reader_init .nil pass0 (pa_cons (pv 0) pa_nil)))
    (pss_cons (ps_expr (pe_meth0 (pv 1) T.c_Reader T.M_Reader_take_number G_Reader_take_number (hr.mono (by decide)) T.b_Reader_take_number .nil pass0))
    (pss_cons (ps_set (i := 2) sc_answers.nd rfl (Or.inl rfl) (pe_meth0 (pv 1) T.c_Reader T.M_Reader_take_row G_Reader_take_row (hr.mono (by decide)) T.b_Reader_take_row .nil pass0))
    (pss_cons (ps_set (i := 3) sc_answers.nd rfl (Or.inl rfl) (pe_meth0 (pv 1) T.c_Reader T.M_Reader_take_row G_Reader_take_row (hr.mono (by decide)) T.b_Reader_take_row .nil pass0))
    (pss_cons (ps_set (i := 4) sc_answers.nd rfl (Or.inl rfl) (pe_meth0 (pv 1) T.c_Reader T.M_Reader_take_row G_Reader_take_row (hr.mono (by decide)) T.b_Reader_take_row .nil pass0))
    (pss_cons (ps_if (pt_not (pt_val (pe_call G_is_as_told (hr.mono (by decide)) rfl T.m_is_as_told T.F_is_as_told.kp T.b_is_as_told .nil pass0 (pa_cons (pv 4) pa_nil)))) (pss_one (ps_ret (pe_lst (pa_cons pe_int (pa_cons (pe_k T.v_BEGIN_REFUSED) pa_nil))))) pss_nil)
    (pss_cons (ps_set (i := 5) sc_answers.nd rfl (Or.inl rfl) (pe_make T.K_Machine G_Machine_init (hr.mono (by decide)) rfl T.g_Machine T.b_Machine_init .nil pass0 (pa_cons (pv 2) (pa_cons (pv 3) (pa_cons (pv 4) pa_nil)))))
    (pss_cons (ps_set (i := 6) sc_answers.nd rfl (Or.inl rfl) (pe_lst (pa_cons pe_int (pa_cons pe_int pa_nil))))
    (pss_cons (ps_while PassesOwn.never (pt_not (pt_val (pe_meth0 (pv 1) T.c_Reader T.M_Reader_at_end G_Reader_at_end (hr.mono (by decide)) T.b_Reader_at_end .nil pass0))) (pss_cons (ps_set (i := 7) sc_answers.nd rfl (Or.inl rfl) (pe_call G_call_answer (hr.mono (by decide)) rfl T.m_call_answer T.F_call_answer.kp T.b_call_answer .nil pass0 (pa_cons (pv 5) (pa_cons (pv 1) pa_nil))))
    (pss_cons (ps_expr (pe_bm PySem.F.plainAttrs_list PySem.F.slot_list_append PySem.F.type_list_append mt_append (pv 6) (pa_cons (pe_callB call_len_h (by rfl) T.z_len PySem.boot_len (pa_cons (pv 7) pa_nil)) pa_nil)))
    (pss_one (ps_expr (pe_bm PySem.F.plainAttrs_list PySem.F.slot_list_extend PySem.F.type_list_extend mt_extend (pv 6) (pa_cons (pv 7) pa_nil)))))))
    (pss_one (ps_ret (pv 6)))))))))))), ?_⟩
  simp
  intro pr dr hpr hdr nd
  refine ⟨pr, dr, a, rfl, upd_same, rfl, ?_⟩
  simp
  have S1 : SqL K (upd H dr (.own pr)) a (iv ns) := sq_new hS hdr
  have S2 : SqL K (upd (upd H dr (.own pr)) pr (rdO A dr a 0)) a (iv ns) := sq_new S1 (by rw [upd_ne fun z => nd z.symm]; exact hpr)
  have g1 : upd (upd H dr (.own pr)) pr (rdO A dr a 0) pr = some (rdO A dr a 0) := upd_same
  have row : ∀ (H' : Hp) (n : Nat) (row t : List Int) (Q' : VK), H' pr = some (rdO A dr a n) → SqL K H' a (iv ns) → ns.drop n = (row.length : Int) :: (row ++ t) →
      (∀ lr H'', H' lr = none → H'' lr = some (.lst (iv row)) → H'' pr = some (rdO A dr a (n + 1 + row.length)) → SqL K H'' a (iv ns) → (∀ b o, H' b = some o → b ≠ pr → H'' b = some o) → Q' (.ref lr) H'') → sp_RR A K [.ref pr] H' Q' E0 := by
    intro H' n row t Q' e1 e2 e3 q
    obtain ⟨r1, r2, r3, _⟩ := row_at e3
    refine ⟨pr, dr, a, n, ns, row, rfl, e1, e2, r1, r2, r3, fun lr hlr => ?_⟩
    have npl : pr ≠ lr := ne_of_none e1 hlr
    refine q lr _ hlr (by rw [upd_ne npl.symm, upd_same]) upd_same (sq_upd (sq_new e2 hlr) (by rw [upd_ne npl]; exact e1)) fun b o hb nb => ?_
    rw [upd_ne nb, upd_ne (ne_of_none hb hlr)]
    exact hb
  have d0 := hA.eq
  have d1 : ns.drop 1 = (p.length : Int) :: (p ++ ((l.length : Int) :: (l ++ ((g.length : Int) :: (g ++ rest))))) := by rw [d0]; rfl
  have d2 := (row_at d1).2.2.2
  have d3 := (row_at d2).2.2.2
  have d4 := (row_at d3).2.2.2
  have n4 := (row_at d3).2.2.1
  show sp_RN A K [V.ref pr] (upd (upd H dr (.own pr)) pr (rdO A dr a 0)) _ E0
  generalize upd (upd H dr (.own pr)) pr (rdO A dr a 0) = H0 at S2 g1 ⊢
  refine ⟨pr, dr, a, 0, ns, 0, rfl, g1, S2, by rw [d0]; rfl, ?_⟩
  have S3 : SqL K (upd H0 pr (rdO A dr a (0 + 1))) a (iv ns) := sq_upd S2 g1
  have g2 : upd H0 pr (rdO A dr a (0 + 1)) pr = some (rdO A dr a 1) := upd_same
  simp
  show sp_RR A K [V.ref pr] (upd H0 pr (rdO A dr a (0 + 1))) _ E0
  generalize upd H0 pr (rdO A dr a (0 + 1)) = H1 at S3 g2 ⊢
  refine row H1 1 p _ _ g2 S3 d1 fun lp H2 flp hlp r2 S4 keep2 => ?_
  have r2' := r2
  unfold rdO at r2'
  simp [r2']
  refine row H2 _ l _ _ r2 S4 d2 fun lc H3 flc hlc r3 S5 keep3 => ?_
  have r3' := r3
  unfold rdO at r3'
  simp [r3']
  refine row H3 _ g _ _ r3 S5 d3 fun lg H4 flg hlg r4 S6 keep4 => ?_
  have nlp : lp ≠ pr := fun z => by rw [z, r2] at hlp; cases hlp
  have nlc : lc ≠ pr := fun z => by rw [z, r3] at hlc; cases hlc
  have hlp4 : H4 lp = some (.lst (iv p)) := keep4 _ _ (keep3 _ _ hlp nlp) nlp
  have hlc4 : H4 lc = some (.lst (iv l)) := keep4 _ _ hlc nlc
  refine ⟨lg, g, rfl, hlg, hA.gL, fun H5 sm5 => ?_⟩
  have s2 : 2 ≤ sizeLine := by decide
  have sB : 1000301 ≤ sizeLine := by decide
  obtain ⟨ivp, pW⟩ := iv_nats hA.pW
  obtain ⟨ivl, lW⟩ := iv_nats hA.lW
  simp
  by_cases ct : asTold g = true
  · rw [if_pos ct]
    obtain ⟨c, hc, gc, c64, c256⟩ := cfg_some hA.gL ct
    intro pm dm hpm hdm ndm
    have ivg : iv g = nv (cfgL c) := by
      rw [gc]
      unfold iv nv
      rw [List.map_map]
      rfl
    have st0 : Sd48Neutral.step none [[0, (p.length : Int), (l.length : Int)], p, l, g] = (some (Sd48.start c (Sd48Neutral.nats p) (Sd48Neutral.nats l)), [0]) := by
      have b1 : Sd48.sized (p.length : Int) = true := (between_iff _ _ _).mpr ⟨by omega, by have := hA.pL; omega⟩
      have b2 : Sd48.sized (l.length : Int) = true := (between_iff _ _ _).mpr ⟨by omega, by have := hA.lL; omega⟩
      unfold Sd48Neutral.step Sd48Neutral.callOf Sd48.does
      simp only
      rw [b1, b2, hc]
      rfl
    refine ⟨H5, pm, dm, lp, lc, lg, Sd48Neutral.nats p, Sd48Neutral.nats l, c, rfl, upd_same, fun b o e => ?_, by rw [← ivp]; exact sm5 _ _ hlp4, by rw [← ivl]; exact sm5 _ _ hlc4, by rw [← ivg]; exact sm5 _ _ hlg, pW, lW, ?_, ?_, c64, c256, fun H6 ρ6 C6 M6 R6 m6 => ?_⟩
    · rw [upd_ne (ne_of_none e hpm), upd_ne (ne_of_none e hdm)]
      exact ⟨e, ne_of_none e hpm⟩
    · unfold Sd48Neutral.nats; rw [List.length_map]; exact hA.pL
    · unfold Sd48Neutral.nats; rw [List.length_map]; exact hA.lL
    refine ⟨rfl, s2, fun lt hlt => ?_⟩
    have M7 := M6.allocF hlt (.lst (iv [1, 0]))
    have nprl : pr ≠ lt := ne_of_none ((M6.frm pr _ (sm5 _ _ r4)).1) hlt
    have F7 : upd H5 lt (.lst (iv [1, 0])) pr = some (rdO A dr a (1 + 1 + p.length + 1 + l.length + 1 + g.length)) := by rw [upd_ne nprl]; exact sm5 _ _ r4
    have S7 : SqL K (but lt (upd H5 lt (.lst (iv [1, 0])))) a (iv ns) := sq_keep (sm5.seq S6) fun o e => by
      have ne : a ≠ lt := ne_of_none e (M6.freeF hlt)
      unfold but
      rw [if_neg ne, upd_ne ne]
      exact e
    refine while_h (invA A K pm pr dr a ns (PySd48.answers ns) lt) (fun _ H => ns.length - rdAt pr H) ⟨_, C6, _, _, rest, [1, 0], cs, _, _, _, _, rfl, M7, R6, F7, S7, upd_same, d4, n4, hA.rest, ?_⟩ ?_
    · rw [hA.ans, played_cons, told_cons, st0, m6]
      rfl
    rintro σ H' ⟨F, C, ρ, n, rest, sofar, cs, v1, v2, v3, v4, rfl, M, hR, hF, hSqB, hFl, hdr', hn, hrest, hout⟩
    have hSq : SqL K F a (iv ns) := but_sq hSqB
    have f1 := (M.frm pr _ hF).1
    have fl := (M.frm lt _ hFl).1
    have f1' := f1
    unfold rdO at f1'
    have SqH : SqL K H' a (iv ns) := sq_keep hSq fun o e => (M.frm a o e).1
    have lenB := hA.len
    simp [f1']
    refine ⟨pr, dr, a, n, ns, rfl, f1, SqH, ?_⟩
    by_cases ce : ns.length ≤ n
    · rw [decide_eq_true ce]
      simp
      refine k H' lt ?_
      have e0 : cs = [] := rest_nil hrest (by rw [← hdr']; exact List.drop_of_length_le ce)
      rw [hout, e0]
      simpa [PyFlat.played, PyFlat.told] using fl
    · rw [decide_eq_false ce]
      simp
      refine nextW_of ?_
      obtain ⟨cc, lw, r, cs', rfl, rfl, hcall, hrest'⟩ := rest_cons hrest (fun z => by
        rw [z] at hdr'
        have := congrArg List.length hdr'
        rw [List.length_drop] at this
        simp at this
        omega)
      rw [played_cons, told_cons] at hout
      have ln : n + lw.length ≤ ns.length ∧ 0 < lw.length ∧ ns.drop (n + lw.length) = r := by
        have h1 := congrArg List.length hdr'
        rw [List.length_drop, List.length_append] at h1
        refine ⟨by omega, call_pos hcall, ?_⟩
        rw [← List.drop_drop, hdr']
        simp
      simp
      refine ⟨F, pm, C, ρ, pr, dr, a, n, ns, cc, lw, r, rfl, M, hR, hF, hSq, hcall, hdr', fun H2 ρ2 C2 la hla M2 R2 m2 => ?_⟩
      generalize hans : (Sd48Neutral.step (some C.m) cc).2 = ans at M2 hout
      have npl : pr ≠ lt := fun z => by rw [z, hFl] at hF; cases hF
      have nll : lt ≠ la := fun z => by rw [← z, upd_ne npl.symm, hFl] at hla; cases hla
      have npa : pr ≠ la := fun z => by rw [← z, upd_same] at hla; cases hla
      have Fl2 : upd (upd F pr (rdO A dr a (n + lw.length))) la (.lst (iv ans)) lt = some (.lst (iv sofar)) := by rw [upd_ne nll, upd_ne npl.symm]; exact hFl
      have q1 := (M2.frm lt _ Fl2).1
      have q2 := (M2.frm la _ upd_same).1
      have ty1 := ty_lst (K := K) q1
      have lenO := congrArg List.length hout
      rw [List.length_append, List.length_cons, List.length_append] at lenO
      have b1 : sofar.length < sizeLine := by omega
      simp [q1, q2, ty1, b1]
      have M3 := M2.wF Fl2 (.lst (iv sofar ++ [.int (ans.length : Int)]))
      have Fl3 : upd (upd (upd F pr (rdO A dr a (n + lw.length))) la (.lst (iv ans))) lt (.lst (iv sofar ++ [.int (ans.length : Int)])) lt = some (.lst (iv sofar ++ [.int (ans.length : Int)])) := upd_same
      have q3 := (M3.frm lt _ Fl3).1
      have ty2 := ty_lst (K := K) q3
      have M4 := M3.wF Fl3 (.lst (iv sofar ++ V.int (ans.length : Int) :: iv ans))
      rw [upd_upd, upd_upd] at M4
      refine ⟨ty2, ?_⟩
      simp [upd_ne nll.symm, q2]
      have Fp : upd (upd (upd F pr (rdO A dr a (n + lw.length))) la (.lst (iv ans))) lt (.lst (iv sofar ++ V.int (ans.length : Int) :: iv ans)) pr = some (rdO A dr a (n + lw.length)) := by rw [upd_ne npl, upd_ne npa, upd_same]
      have Hp' := (M4.frm pr _ Fp).1
      have fla : F la = none := by rw [upd_ne npa.symm] at hla; exact hla
      refine ⟨by omega, ⟨_, C2, ρ2, n + lw.length, r, sofar ++ (ans.length : Int) :: ans, cs', v1, v2, v3, some (.ref la), rfl, M4, R2, Fp, ?_, ?_, ln.2.2, ln.1, hrest', ?_⟩, ?_⟩
      · have up : ∀ o, (∃ xs, o = .lst xs) ∨ (∃ ob xs, o = .frz ob (.lst xs)) → but lt F a = some o → but lt (upd (upd (upd F pr (rdO A dr a (n + lw.length))) la (.lst (iv ans))) lt (.lst (iv sofar ++ V.int (ans.length : Int) :: iv ans))) a = some o := by
          intro o ho e
          unfold but at e ⊢
          by_cases e1 : a = lt
          · rw [if_pos e1] at e; cases e
          · rw [if_neg e1] at e ⊢
            have e2 : a ≠ pr := by
              intro z
              rw [z, hF] at e
              rcases ho with ⟨xs, rfl⟩ | ⟨ob, xs, rfl⟩ <;> cases e
            have e3 : a ≠ la := fun z => by rw [z, fla] at e; cases e
            rw [upd_ne e1, upd_ne e3, upd_ne e2]
            exact e
        rcases hSqB with (h | ⟨o, h⟩) | h
        · exact .inl (.inl (up _ (.inl ⟨_, rfl⟩) h))
        · exact .inl (.inr ⟨o, up _ (.inr ⟨_, _, rfl⟩) h⟩)
        · exact .inr h
      · rw [upd_same]
        unfold iv
        simp
      · rw [hout, m2]
        simp
      · rw [rdAt_of Hp', rdAt_of f1]
        omega
  · rw [if_neg ct]
    refine ⟨s2, fun q hq => ?_⟩
    have ct' : asTold g = false := by simpa using ct
    refine k _ q ?_
    have st0 : Sd48Neutral.step none [[0, (p.length : Int), (l.length : Int)], p, l, g] = (none, [-3]) := by
      have b1 : Sd48.sized (p.length : Int) = true := (between_iff _ _ _).mpr ⟨by omega, by have := hA.pL; omega⟩
      have b2 : Sd48.sized (l.length : Int) = true := (between_iff _ _ _).mpr ⟨by omega, by have := hA.lL; omega⟩
      unfold Sd48Neutral.step Sd48Neutral.callOf Sd48.does
      simp only
      rw [b1, b2, cfg_none hA.gL ct']
      rfl
    have : cs = [] := by
      rcases hA.one with z | z
      · exact z
      · rw [st0] at z; cases z
    rw [hA.ans, this]
    unfold PyFlat.played
    rw [told_cons, st0]
    exact upd_same
end Ooo
namespace Ooo
open PySem L2 Ex
set_option maxHeartbeats 0 in
theorem txt_mk {K : PySem.W.Frag} {h : Heap} {mg : Str → Option Value} {C_Instruction C_Slot C_Machine C_Reader f_wrapped f_signed f_calculated f_jumps f_signed_half f_sure_stop f_first_read f_second_read f_written f_Instruction_init f_behind_program f_Slot_init f_Slot_pass_on f_Machine_init f_Machine_fetch_from f_Machine_next_to_leave f_Machine_run_cycles f_Machine_run_cycle f_Machine_let_leave f_Machine_throw_away f_Machine_keep_result f_Machine_count_branch f_Machine_let_run_on f_Machine_let_begin f_Machine_begin_slot f_Machine_work_out f_Machine_work_out_cell f_Machine_loaded f_Machine_fetch f_Machine_fetching_ended f_Machine_fetch_one f_Machine_take_operand f_Machine_guessed f_Machine_guesses_jump f_Reader_init f_Reader_at_end f_Reader_take_number f_Reader_take_row f_is_as_told f_run_answer f_cells_answer f_told_answer f_slot_answer f_call_answer f_answers t_UNITS t_CYCLES t_CFG_RANGES : Addr} {od0 an0 od1 an1 od2 an2 od3 an3 od4 an4 od5 an5 od6 an6 od7 an7 od8 an8 od9 an9 od10 an10 od11 an11 od12 an12 od13 an13 od14 an14 od15 an15 od16 an16 od17 an17 od18 an18 od19 an19 od20 an20 od21 an21 od22 an22 od23 an23 od24 an24 od25 an25 od26 an26 od27 an27 od28 an28 od29 an29 od30 an30 od31 an31 od32 an32 od33 an33 od34 an34 od35 an35 od36 an36 od37 an37 od38 an38 od39 an39 od40 an40 od41 an41 od42 an42 od43 an43 od44 an44 : Option Addr} {sl0 sl1 sl2 sl3 sl4 sl5 sl6 sl7 sl8 sl9 sl10 sl11 sl12 sl13 sl14 sl15 sl16 sl17 sl18 sl19 sl20 sl21 sl22 sl23 sl24 sl25 sl26 sl27 sl28 sl29 sl30 sl31 sl32 sl33 sl34 sl35 sl36 sl37 sl38 sl39 sl40 sl41 sl42 sl43 sl44 : Array (Option Value)} {oc0 kV0 dc0 pm0 cd0 ct0 oc1 kV1 dc1 pm1 cd1 ct1 oc2 kV2 dc2 pm2 cd2 ct2 oc3 kV3 dc3 pm3 cd3 ct3 oc4 kV4 dc4 pm4 cd4 ct4 oc5 kV5 dc5 pm5 cd5 ct5 oc6 kV6 dc6 pm6 cd6 ct6 oc7 kV7 dc7 pm7 cd7 ct7 oc8 kV8 dc8 pm8 cd8 ct8 oc9 kV9 dc9 pm9 cd9 ct9 oc10 kV10 dc10 pm10 cd10 ct10 oc11 kV11 dc11 pm11 cd11 ct11 oc12 kV12 dc12 pm12 cd12 ct12 oc13 kV13 dc13 pm13 cd13 ct13 oc14 kV14 dc14 pm14 cd14 ct14 oc15 kV15 dc15 pm15 cd15 ct15 oc16 kV16 dc16 pm16 cd16 ct16 oc17 kV17 dc17 pm17 cd17 ct17 oc18 kV18 dc18 pm18 cd18 ct18 oc19 kV19 dc19 pm19 cd19 ct19 oc20 kV20 dc20 pm20 cd20 ct20 oc21 kV21 dc21 pm21 cd21 ct21 oc22 kV22 dc22 pm22 cd22 ct22 oc23 kV23 dc23 pm23 cd23 ct23 oc24 kV24 dc24 pm24 cd24 ct24 oc25 kV25 dc25 pm25 cd25 ct25 oc26 kV26 dc26 pm26 cd26 ct26 oc27 kV27 dc27 pm27 cd27 ct27 oc28 kV28 dc28 pm28 cd28 ct28 oc29 kV29 dc29 pm29 cd29 ct29 oc30 kV30 dc30 pm30 cd30 ct30 oc31 kV31 dc31 pm31 cd31 ct31 oc32 kV32 dc32 pm32 cd32 ct32 oc33 kV33 dc33 pm33 cd33 ct33 oc34 kV34 dc34 pm34 cd34 ct34 oc35 kV35 dc35 pm35 cd35 ct35 oc36 kV36 dc36 pm36 cd36 ct36 oc37 kV37 dc37 pm37 cd37 ct37 oc38 kV38 dc38 pm38 cd38 ct38 oc39 kV39 dc39 pm39 cd39 ct39 oc40 kV40 dc40 pm40 cd40 ct40 oc41 kV41 dc41 pm41 cd41 ct41 oc42 kV42 dc42 pm42 cd42 ct42 oc43 kV43 dc43 pm43 cd43 ct43 oc44 kV44 dc44 pm44 cd44 ct44 : Value} {t_DIVIDE t_ADD_IMM t_HIGH_IMM t_LOAD t_STORE t_LINK t_JUMP_TO_VALUE t_STOPPED_BY_WORD t_STOPPED_BY_ZERO t_STOPPED_BY_CELL t_STOPPED_BY_OP t_STOPPED_BEHIND t_WAITS t_RUNS t_HAS_RUN t_DONE t_CELLS t_NO_PLACE t_BEGIN_REFUSED t_OUT_OF_RANGE t_NO_SUCH_SLOT t_MOST_CYCLES t_LAST_SLOT t_RUN t_REGS t_TELL_CELLS t_TOLD t_SLOT : Tok} {es_UNITS : Array DictEntry} {en_UNITS : Nat} {es_CYCLES : Array DictEntry} {en_CYCLES : Nat} {ta_CFG_RANGES_0 ta_CFG_RANGES_1 ta_CFG_RANGES_2 ta_CFG_RANGES_3 ta_CFG_RANGES_4 ta_CFG_RANGES_5 ta_CFG_RANGES_6 ta_CFG_RANGES_7 ta_CFG_RANGES_8 : Addr} {tn_CFG_RANGES : Nat} {to_CFG_RANGES : Option Addr} {tl_CFG_RANGES : Array (Option Value)} {tn_CFG_RANGES_0 : Nat} {to_CFG_RANGES_0 : Option Addr} {tl_CFG_RANGES_0 : Array (Option Value)} {tx_CFG_RANGES_0 ty_CFG_RANGES_0 : Tok} {tn_CFG_RANGES_1 : Nat} {to_CFG_RANGES_1 : Option Addr} {tl_CFG_RANGES_1 : Array (Option Value)} {tx_CFG_RANGES_1 ty_CFG_RANGES_1 : Tok} {tn_CFG_RANGES_2 : Nat} {to_CFG_RANGES_2 : Option Addr} {tl_CFG_RANGES_2 : Array (Option Value)} {tx_CFG_RANGES_2 ty_CFG_RANGES_2 : Tok} {tn_CFG_RANGES_3 : Nat} {to_CFG_RANGES_3 : Option Addr} {tl_CFG_RANGES_3 : Array (Option Value)} {tx_CFG_RANGES_3 ty_CFG_RANGES_3 : Tok} {tn_CFG_RANGES_4 : Nat} {to_CFG_RANGES_4 : Option Addr} {tl_CFG_RANGES_4 : Array (Option Value)} {tx_CFG_RANGES_4 ty_CFG_RANGES_4 : Tok} {tn_CFG_RANGES_5 : Nat} {to_CFG_RANGES_5 : Option Addr} {tl_CFG_RANGES_5 : Array (Option Value)} {tx_CFG_RANGES_5 ty_CFG_RANGES_5 : Tok} {tn_CFG_RANGES_6 : Nat} {to_CFG_RANGES_6 : Option Addr} {tl_CFG_RANGES_6 : Array (Option Value)} {tx_CFG_RANGES_6 ty_CFG_RANGES_6 : Tok} {tn_CFG_RANGES_7 : Nat} {to_CFG_RANGES_7 : Option Addr} {tl_CFG_RANGES_7 : Array (Option Value)} {tx_CFG_RANGES_7 ty_CFG_RANGES_7 : Tok} {tn_CFG_RANGES_8 : Nat} {to_CFG_RANGES_8 : Option Addr} {tl_CFG_RANGES_8 : Array (Option Value)} {tx_CFG_RANGES_8 ty_CFG_RANGES_8 : Tok} (X : K.In h) (G : h.Ns mainGlobals mg)
    (aC_Instruction : PySem.W.nsIn K mainGlobals "Instruction" = some (some (.ref C_Instruction)))
    (aC_Slot : PySem.W.nsIn K mainGlobals "Slot" = some (some (.ref C_Slot)))
    (aC_Machine : PySem.W.nsIn K mainGlobals "Machine" = some (some (.ref C_Machine)))
    (aC_Reader : PySem.W.nsIn K mainGlobals "Reader" = some (some (.ref C_Reader)))
    (a_wrapped : PySem.W.nsIn K mainGlobals "wrapped" = some (some (.ref f_wrapped)))
    (l_wrapped : K.lookup f_wrapped = some ⟨oc0, od0, .func (PySem.W.fnOf "wrapped" "wrapped" (defArgs s_wrapped) (defBody s_wrapped) (defScope s_wrapped) .none kV0 dc0 pm0 an0 cd0 ct0), sl0⟩)
    (c_wrapped : PySem.W.codeIn K cd0 "wrapped" = true)
    (k_wrapped : PySem.W.keepIn K (.ref f_wrapped) = true)
    (a_signed : PySem.W.nsIn K mainGlobals "signed" = some (some (.ref f_signed)))
    (l_signed : K.lookup f_signed = some ⟨oc1, od1, .func (PySem.W.fnOf "signed" "signed" (defArgs s_signed) (defBody s_signed) (defScope s_signed) .none kV1 dc1 pm1 an1 cd1 ct1), sl1⟩)
    (c_signed : PySem.W.codeIn K cd1 "signed" = true)
    (k_signed : PySem.W.keepIn K (.ref f_signed) = true)
    (a_calculated : PySem.W.nsIn K mainGlobals "calculated" = some (some (.ref f_calculated)))
    (l_calculated : K.lookup f_calculated = some ⟨oc2, od2, .func (PySem.W.fnOf "calculated" "calculated" (defArgs s_calculated) (defBody s_calculated) (defScope s_calculated) .none kV2 dc2 pm2 an2 cd2 ct2), sl2⟩)
    (c_calculated : PySem.W.codeIn K cd2 "calculated" = true)
    (k_calculated : PySem.W.keepIn K (.ref f_calculated) = true)
    (a_jumps : PySem.W.nsIn K mainGlobals "jumps" = some (some (.ref f_jumps)))
    (l_jumps : K.lookup f_jumps = some ⟨oc3, od3, .func (PySem.W.fnOf "jumps" "jumps" (defArgs s_jumps) (defBody s_jumps) (defScope s_jumps) .none kV3 dc3 pm3 an3 cd3 ct3), sl3⟩)
    (c_jumps : PySem.W.codeIn K cd3 "jumps" = true)
    (k_jumps : PySem.W.keepIn K (.ref f_jumps) = true)
    (a_signed_half : PySem.W.nsIn K mainGlobals "signed_half" = some (some (.ref f_signed_half)))
    (l_signed_half : K.lookup f_signed_half = some ⟨oc4, od4, .func (PySem.W.fnOf "signed_half" "signed_half" (defArgs s_signed_half) (defBody s_signed_half) (defScope s_signed_half) .none kV4 dc4 pm4 an4 cd4 ct4), sl4⟩)
    (c_signed_half : PySem.W.codeIn K cd4 "signed_half" = true)
    (k_signed_half : PySem.W.keepIn K (.ref f_signed_half) = true)
    (a_sure_stop : PySem.W.nsIn K mainGlobals "sure_stop" = some (some (.ref f_sure_stop)))
    (l_sure_stop : K.lookup f_sure_stop = some ⟨oc5, od5, .func (PySem.W.fnOf "sure_stop" "sure_stop" (defArgs s_sure_stop) (defBody s_sure_stop) (defScope s_sure_stop) .none kV5 dc5 pm5 an5 cd5 ct5), sl5⟩)
    (c_sure_stop : PySem.W.codeIn K cd5 "sure_stop" = true)
    (k_sure_stop : PySem.W.keepIn K (.ref f_sure_stop) = true)
    (a_first_read : PySem.W.nsIn K mainGlobals "first_read" = some (some (.ref f_first_read)))
    (l_first_read : K.lookup f_first_read = some ⟨oc6, od6, .func (PySem.W.fnOf "first_read" "first_read" (defArgs s_first_read) (defBody s_first_read) (defScope s_first_read) .none kV6 dc6 pm6 an6 cd6 ct6), sl6⟩)
    (c_first_read : PySem.W.codeIn K cd6 "first_read" = true)
    (k_first_read : PySem.W.keepIn K (.ref f_first_read) = true)
    (a_second_read : PySem.W.nsIn K mainGlobals "second_read" = some (some (.ref f_second_read)))
    (l_second_read : K.lookup f_second_read = some ⟨oc7, od7, .func (PySem.W.fnOf "second_read" "second_read" (defArgs s_second_read) (defBody s_second_read) (defScope s_second_read) .none kV7 dc7 pm7 an7 cd7 ct7), sl7⟩)
    (c_second_read : PySem.W.codeIn K cd7 "second_read" = true)
    (k_second_read : PySem.W.keepIn K (.ref f_second_read) = true)
    (a_written : PySem.W.nsIn K mainGlobals "written" = some (some (.ref f_written)))
    (l_written : K.lookup f_written = some ⟨oc8, od8, .func (PySem.W.fnOf "written" "written" (defArgs s_written) (defBody s_written) (defScope s_written) .none kV8 dc8 pm8 an8 cd8 ct8), sl8⟩)
    (c_written : PySem.W.codeIn K cd8 "written" = true)
    (k_written : PySem.W.keepIn K (.ref f_written) = true)
    (a_Instruction_init : PySem.W.findIn K (.ref C_Instruction) "__init__" = some (some (.ref f_Instruction_init)))
    (i_Instruction_init : PySem.W.isFn K (.ref f_Instruction_init) = true)
    (l_Instruction_init : K.lookup f_Instruction_init = some ⟨oc9, od9, .func (PySem.W.fnOf "__init__" "Instruction.__init__" (defArgs s_Instruction_init) (defBody s_Instruction_init) (defScope s_Instruction_init) .none kV9 dc9 pm9 an9 cd9 ct9), sl9⟩)
    (c_Instruction_init : PySem.W.codeIn K cd9 "Instruction.__init__" = true)
    (k_Instruction_init : PySem.W.keepIn K (.ref f_Instruction_init) = true)
    (a_behind_program : PySem.W.nsIn K mainGlobals "behind_program" = some (some (.ref f_behind_program)))
    (l_behind_program : K.lookup f_behind_program = some ⟨oc10, od10, .func (PySem.W.fnOf "behind_program" "behind_program" (defArgs s_behind_program) (defBody s_behind_program) (defScope s_behind_program) .none kV10 dc10 pm10 an10 cd10 ct10), sl10⟩)
    (c_behind_program : PySem.W.codeIn K cd10 "behind_program" = true)
    (k_behind_program : PySem.W.keepIn K (.ref f_behind_program) = true)
    (a_Slot_init : PySem.W.findIn K (.ref C_Slot) "__init__" = some (some (.ref f_Slot_init)))
    (i_Slot_init : PySem.W.isFn K (.ref f_Slot_init) = true)
    (l_Slot_init : K.lookup f_Slot_init = some ⟨oc11, od11, .func (PySem.W.fnOf "__init__" "Slot.__init__" (defArgs s_Slot_init) (defBody s_Slot_init) (defScope s_Slot_init) .none kV11 dc11 pm11 an11 cd11 ct11), sl11⟩)
    (c_Slot_init : PySem.W.codeIn K cd11 "Slot.__init__" = true)
    (k_Slot_init : PySem.W.keepIn K (.ref f_Slot_init) = true)
    (a_Slot_pass_on : PySem.W.findIn K (.ref C_Slot) "pass_on" = some (some (.ref f_Slot_pass_on)))
    (i_Slot_pass_on : PySem.W.isFn K (.ref f_Slot_pass_on) = true)
    (l_Slot_pass_on : K.lookup f_Slot_pass_on = some ⟨oc12, od12, .func (PySem.W.fnOf "pass_on" "Slot.pass_on" (defArgs s_Slot_pass_on) (defBody s_Slot_pass_on) (defScope s_Slot_pass_on) .none kV12 dc12 pm12 an12 cd12 ct12), sl12⟩)
    (c_Slot_pass_on : PySem.W.codeIn K cd12 "Slot.pass_on" = true)
    (k_Slot_pass_on : PySem.W.keepIn K (.ref f_Slot_pass_on) = true)
    (a_Machine_init : PySem.W.findIn K (.ref C_Machine) "__init__" = some (some (.ref f_Machine_init)))
    (i_Machine_init : PySem.W.isFn K (.ref f_Machine_init) = true)
    (l_Machine_init : K.lookup f_Machine_init = some ⟨oc13, od13, .func (PySem.W.fnOf "__init__" "Machine.__init__" (defArgs s_Machine_init) (defBody s_Machine_init) (defScope s_Machine_init) .none kV13 dc13 pm13 an13 cd13 ct13), sl13⟩)
    (c_Machine_init : PySem.W.codeIn K cd13 "Machine.__init__" = true)
    (k_Machine_init : PySem.W.keepIn K (.ref f_Machine_init) = true)
    (a_Machine_fetch_from : PySem.W.findIn K (.ref C_Machine) "fetch_from" = some (some (.ref f_Machine_fetch_from)))
    (i_Machine_fetch_from : PySem.W.isFn K (.ref f_Machine_fetch_from) = true)
    (l_Machine_fetch_from : K.lookup f_Machine_fetch_from = some ⟨oc14, od14, .func (PySem.W.fnOf "fetch_from" "Machine.fetch_from" (defArgs s_Machine_fetch_from) (defBody s_Machine_fetch_from) (defScope s_Machine_fetch_from) .none kV14 dc14 pm14 an14 cd14 ct14), sl14⟩)
    (c_Machine_fetch_from : PySem.W.codeIn K cd14 "Machine.fetch_from" = true)
    (k_Machine_fetch_from : PySem.W.keepIn K (.ref f_Machine_fetch_from) = true)
    (a_Machine_next_to_leave : PySem.W.findIn K (.ref C_Machine) "next_to_leave" = some (some (.ref f_Machine_next_to_leave)))
    (i_Machine_next_to_leave : PySem.W.isFn K (.ref f_Machine_next_to_leave) = true)
    (l_Machine_next_to_leave : K.lookup f_Machine_next_to_leave = some ⟨oc15, od15, .func (PySem.W.fnOf "next_to_leave" "Machine.next_to_leave" (defArgs s_Machine_next_to_leave) (defBody s_Machine_next_to_leave) (defScope s_Machine_next_to_leave) .none kV15 dc15 pm15 an15 cd15 ct15), sl15⟩)
    (c_Machine_next_to_leave : PySem.W.codeIn K cd15 "Machine.next_to_leave" = true)
    (k_Machine_next_to_leave : PySem.W.keepIn K (.ref f_Machine_next_to_leave) = true)
    (a_Machine_run_cycles : PySem.W.findIn K (.ref C_Machine) "run_cycles" = some (some (.ref f_Machine_run_cycles)))
    (i_Machine_run_cycles : PySem.W.isFn K (.ref f_Machine_run_cycles) = true)
    (l_Machine_run_cycles : K.lookup f_Machine_run_cycles = some ⟨oc16, od16, .func (PySem.W.fnOf "run_cycles" "Machine.run_cycles" (defArgs s_Machine_run_cycles) (defBody s_Machine_run_cycles) (defScope s_Machine_run_cycles) .none kV16 dc16 pm16 an16 cd16 ct16), sl16⟩)
    (c_Machine_run_cycles : PySem.W.codeIn K cd16 "Machine.run_cycles" = true)
    (k_Machine_run_cycles : PySem.W.keepIn K (.ref f_Machine_run_cycles) = true)
    (a_Machine_run_cycle : PySem.W.findIn K (.ref C_Machine) "run_cycle" = some (some (.ref f_Machine_run_cycle)))
    (i_Machine_run_cycle : PySem.W.isFn K (.ref f_Machine_run_cycle) = true)
    (l_Machine_run_cycle : K.lookup f_Machine_run_cycle = some ⟨oc17, od17, .func (PySem.W.fnOf "run_cycle" "Machine.run_cycle" (defArgs s_Machine_run_cycle) (defBody s_Machine_run_cycle) (defScope s_Machine_run_cycle) .none kV17 dc17 pm17 an17 cd17 ct17), sl17⟩)
    (c_Machine_run_cycle : PySem.W.codeIn K cd17 "Machine.run_cycle" = true)
    (k_Machine_run_cycle : PySem.W.keepIn K (.ref f_Machine_run_cycle) = true)
    (a_Machine_let_leave : PySem.W.findIn K (.ref C_Machine) "let_leave" = some (some (.ref f_Machine_let_leave)))
    (i_Machine_let_leave : PySem.W.isFn K (.ref f_Machine_let_leave) = true)
    (l_Machine_let_leave : K.lookup f_Machine_let_leave = some ⟨oc18, od18, .func (PySem.W.fnOf "let_leave" "Machine.let_leave" (defArgs s_Machine_let_leave) (defBody s_Machine_let_leave) (defScope s_Machine_let_leave) .none kV18 dc18 pm18 an18 cd18 ct18), sl18⟩)
    (c_Machine_let_leave : PySem.W.codeIn K cd18 "Machine.let_leave" = true)
    (k_Machine_let_leave : PySem.W.keepIn K (.ref f_Machine_let_leave) = true)
    (a_Machine_throw_away : PySem.W.findIn K (.ref C_Machine) "throw_away" = some (some (.ref f_Machine_throw_away)))
    (i_Machine_throw_away : PySem.W.isFn K (.ref f_Machine_throw_away) = true)
    (l_Machine_throw_away : K.lookup f_Machine_throw_away = some ⟨oc19, od19, .func (PySem.W.fnOf "throw_away" "Machine.throw_away" (defArgs s_Machine_throw_away) (defBody s_Machine_throw_away) (defScope s_Machine_throw_away) .none kV19 dc19 pm19 an19 cd19 ct19), sl19⟩)
    (c_Machine_throw_away : PySem.W.codeIn K cd19 "Machine.throw_away" = true)
    (k_Machine_throw_away : PySem.W.keepIn K (.ref f_Machine_throw_away) = true)
    (a_Machine_keep_result : PySem.W.findIn K (.ref C_Machine) "keep_result" = some (some (.ref f_Machine_keep_result)))
    (i_Machine_keep_result : PySem.W.isFn K (.ref f_Machine_keep_result) = true)
    (l_Machine_keep_result : K.lookup f_Machine_keep_result = some ⟨oc20, od20, .func (PySem.W.fnOf "keep_result" "Machine.keep_result" (defArgs s_Machine_keep_result) (defBody s_Machine_keep_result) (defScope s_Machine_keep_result) .none kV20 dc20 pm20 an20 cd20 ct20), sl20⟩)
    (c_Machine_keep_result : PySem.W.codeIn K cd20 "Machine.keep_result" = true)
    (k_Machine_keep_result : PySem.W.keepIn K (.ref f_Machine_keep_result) = true)
    (a_Machine_count_branch : PySem.W.findIn K (.ref C_Machine) "count_branch" = some (some (.ref f_Machine_count_branch)))
    (i_Machine_count_branch : PySem.W.isFn K (.ref f_Machine_count_branch) = true)
    (l_Machine_count_branch : K.lookup f_Machine_count_branch = some ⟨oc21, od21, .func (PySem.W.fnOf "count_branch" "Machine.count_branch" (defArgs s_Machine_count_branch) (defBody s_Machine_count_branch) (defScope s_Machine_count_branch) .none kV21 dc21 pm21 an21 cd21 ct21), sl21⟩)
    (c_Machine_count_branch : PySem.W.codeIn K cd21 "Machine.count_branch" = true)
    (k_Machine_count_branch : PySem.W.keepIn K (.ref f_Machine_count_branch) = true)
    (a_Machine_let_run_on : PySem.W.findIn K (.ref C_Machine) "let_run_on" = some (some (.ref f_Machine_let_run_on)))
    (i_Machine_let_run_on : PySem.W.isFn K (.ref f_Machine_let_run_on) = true)
    (l_Machine_let_run_on : K.lookup f_Machine_let_run_on = some ⟨oc22, od22, .func (PySem.W.fnOf "let_run_on" "Machine.let_run_on" (defArgs s_Machine_let_run_on) (defBody s_Machine_let_run_on) (defScope s_Machine_let_run_on) .none kV22 dc22 pm22 an22 cd22 ct22), sl22⟩)
    (c_Machine_let_run_on : PySem.W.codeIn K cd22 "Machine.let_run_on" = true)
    (k_Machine_let_run_on : PySem.W.keepIn K (.ref f_Machine_let_run_on) = true)
    (a_Machine_let_begin : PySem.W.findIn K (.ref C_Machine) "let_begin" = some (some (.ref f_Machine_let_begin)))
    (i_Machine_let_begin : PySem.W.isFn K (.ref f_Machine_let_begin) = true)
    (l_Machine_let_begin : K.lookup f_Machine_let_begin = some ⟨oc23, od23, .func (PySem.W.fnOf "let_begin" "Machine.let_begin" (defArgs s_Machine_let_begin) (defBody s_Machine_let_begin) (defScope s_Machine_let_begin) .none kV23 dc23 pm23 an23 cd23 ct23), sl23⟩)
    (c_Machine_let_begin : PySem.W.codeIn K cd23 "Machine.let_begin" = true)
    (k_Machine_let_begin : PySem.W.keepIn K (.ref f_Machine_let_begin) = true)
    (a_Machine_begin_slot : PySem.W.findIn K (.ref C_Machine) "begin_slot" = some (some (.ref f_Machine_begin_slot)))
    (i_Machine_begin_slot : PySem.W.isFn K (.ref f_Machine_begin_slot) = true)
    (l_Machine_begin_slot : K.lookup f_Machine_begin_slot = some ⟨oc24, od24, .func (PySem.W.fnOf "begin_slot" "Machine.begin_slot" (defArgs s_Machine_begin_slot) (defBody s_Machine_begin_slot) (defScope s_Machine_begin_slot) .none kV24 dc24 pm24 an24 cd24 ct24), sl24⟩)
    (c_Machine_begin_slot : PySem.W.codeIn K cd24 "Machine.begin_slot" = true)
    (k_Machine_begin_slot : PySem.W.keepIn K (.ref f_Machine_begin_slot) = true)
    (a_Machine_work_out : PySem.W.findIn K (.ref C_Machine) "work_out" = some (some (.ref f_Machine_work_out)))
    (i_Machine_work_out : PySem.W.isFn K (.ref f_Machine_work_out) = true)
    (l_Machine_work_out : K.lookup f_Machine_work_out = some ⟨oc25, od25, .func (PySem.W.fnOf "work_out" "Machine.work_out" (defArgs s_Machine_work_out) (defBody s_Machine_work_out) (defScope s_Machine_work_out) .none kV25 dc25 pm25 an25 cd25 ct25), sl25⟩)
    (c_Machine_work_out : PySem.W.codeIn K cd25 "Machine.work_out" = true)
    (k_Machine_work_out : PySem.W.keepIn K (.ref f_Machine_work_out) = true)
    (a_Machine_work_out_cell : PySem.W.findIn K (.ref C_Machine) "work_out_cell" = some (some (.ref f_Machine_work_out_cell)))
    (i_Machine_work_out_cell : PySem.W.isFn K (.ref f_Machine_work_out_cell) = true)
    (l_Machine_work_out_cell : K.lookup f_Machine_work_out_cell = some ⟨oc26, od26, .func (PySem.W.fnOf "work_out_cell" "Machine.work_out_cell" (defArgs s_Machine_work_out_cell) (defBody s_Machine_work_out_cell) (defScope s_Machine_work_out_cell) .none kV26 dc26 pm26 an26 cd26 ct26), sl26⟩)
    (c_Machine_work_out_cell : PySem.W.codeIn K cd26 "Machine.work_out_cell" = true)
    (k_Machine_work_out_cell : PySem.W.keepIn K (.ref f_Machine_work_out_cell) = true)
    (a_Machine_loaded : PySem.W.findIn K (.ref C_Machine) "loaded" = some (some (.ref f_Machine_loaded)))
    (i_Machine_loaded : PySem.W.isFn K (.ref f_Machine_loaded) = true)
    (l_Machine_loaded : K.lookup f_Machine_loaded = some ⟨oc27, od27, .func (PySem.W.fnOf "loaded" "Machine.loaded" (defArgs s_Machine_loaded) (defBody s_Machine_loaded) (defScope s_Machine_loaded) .none kV27 dc27 pm27 an27 cd27 ct27), sl27⟩)
    (c_Machine_loaded : PySem.W.codeIn K cd27 "Machine.loaded" = true)
    (k_Machine_loaded : PySem.W.keepIn K (.ref f_Machine_loaded) = true)
    (a_Machine_fetch : PySem.W.findIn K (.ref C_Machine) "fetch" = some (some (.ref f_Machine_fetch)))
    (i_Machine_fetch : PySem.W.isFn K (.ref f_Machine_fetch) = true)
    (l_Machine_fetch : K.lookup f_Machine_fetch = some ⟨oc28, od28, .func (PySem.W.fnOf "fetch" "Machine.fetch" (defArgs s_Machine_fetch) (defBody s_Machine_fetch) (defScope s_Machine_fetch) .none kV28 dc28 pm28 an28 cd28 ct28), sl28⟩)
    (c_Machine_fetch : PySem.W.codeIn K cd28 "Machine.fetch" = true)
    (k_Machine_fetch : PySem.W.keepIn K (.ref f_Machine_fetch) = true)
    (a_Machine_fetching_ended : PySem.W.findIn K (.ref C_Machine) "fetching_ended" = some (some (.ref f_Machine_fetching_ended)))
    (i_Machine_fetching_ended : PySem.W.isFn K (.ref f_Machine_fetching_ended) = true)
    (l_Machine_fetching_ended : K.lookup f_Machine_fetching_ended = some ⟨oc29, od29, .func (PySem.W.fnOf "fetching_ended" "Machine.fetching_ended" (defArgs s_Machine_fetching_ended) (defBody s_Machine_fetching_ended) (defScope s_Machine_fetching_ended) .none kV29 dc29 pm29 an29 cd29 ct29), sl29⟩)
    (c_Machine_fetching_ended : PySem.W.codeIn K cd29 "Machine.fetching_ended" = true)
    (k_Machine_fetching_ended : PySem.W.keepIn K (.ref f_Machine_fetching_ended) = true)
    (a_Machine_fetch_one : PySem.W.findIn K (.ref C_Machine) "fetch_one" = some (some (.ref f_Machine_fetch_one)))
    (i_Machine_fetch_one : PySem.W.isFn K (.ref f_Machine_fetch_one) = true)
    (l_Machine_fetch_one : K.lookup f_Machine_fetch_one = some ⟨oc30, od30, .func (PySem.W.fnOf "fetch_one" "Machine.fetch_one" (defArgs s_Machine_fetch_one) (defBody s_Machine_fetch_one) (defScope s_Machine_fetch_one) .none kV30 dc30 pm30 an30 cd30 ct30), sl30⟩)
    (c_Machine_fetch_one : PySem.W.codeIn K cd30 "Machine.fetch_one" = true)
    (k_Machine_fetch_one : PySem.W.keepIn K (.ref f_Machine_fetch_one) = true)
    (a_Machine_take_operand : PySem.W.findIn K (.ref C_Machine) "take_operand" = some (some (.ref f_Machine_take_operand)))
    (i_Machine_take_operand : PySem.W.isFn K (.ref f_Machine_take_operand) = true)
    (l_Machine_take_operand : K.lookup f_Machine_take_operand = some ⟨oc31, od31, .func (PySem.W.fnOf "take_operand" "Machine.take_operand" (defArgs s_Machine_take_operand) (defBody s_Machine_take_operand) (defScope s_Machine_take_operand) .none kV31 dc31 pm31 an31 cd31 ct31), sl31⟩)
    (c_Machine_take_operand : PySem.W.codeIn K cd31 "Machine.take_operand" = true)
    (k_Machine_take_operand : PySem.W.keepIn K (.ref f_Machine_take_operand) = true)
    (a_Machine_guessed : PySem.W.findIn K (.ref C_Machine) "guessed" = some (some (.ref f_Machine_guessed)))
    (i_Machine_guessed : PySem.W.isFn K (.ref f_Machine_guessed) = true)
    (l_Machine_guessed : K.lookup f_Machine_guessed = some ⟨oc32, od32, .func (PySem.W.fnOf "guessed" "Machine.guessed" (defArgs s_Machine_guessed) (defBody s_Machine_guessed) (defScope s_Machine_guessed) .none kV32 dc32 pm32 an32 cd32 ct32), sl32⟩)
    (c_Machine_guessed : PySem.W.codeIn K cd32 "Machine.guessed" = true)
    (k_Machine_guessed : PySem.W.keepIn K (.ref f_Machine_guessed) = true)
    (a_Machine_guesses_jump : PySem.W.findIn K (.ref C_Machine) "guesses_jump" = some (some (.ref f_Machine_guesses_jump)))
    (i_Machine_guesses_jump : PySem.W.isFn K (.ref f_Machine_guesses_jump) = true)
    (l_Machine_guesses_jump : K.lookup f_Machine_guesses_jump = some ⟨oc33, od33, .func (PySem.W.fnOf "guesses_jump" "Machine.guesses_jump" (defArgs s_Machine_guesses_jump) (defBody s_Machine_guesses_jump) (defScope s_Machine_guesses_jump) .none kV33 dc33 pm33 an33 cd33 ct33), sl33⟩)
    (c_Machine_guesses_jump : PySem.W.codeIn K cd33 "Machine.guesses_jump" = true)
    (k_Machine_guesses_jump : PySem.W.keepIn K (.ref f_Machine_guesses_jump) = true)
    (a_Reader_init : PySem.W.findIn K (.ref C_Reader) "__init__" = some (some (.ref f_Reader_init)))
    (i_Reader_init : PySem.W.isFn K (.ref f_Reader_init) = true)
    (l_Reader_init : K.lookup f_Reader_init = some ⟨oc34, od34, .func (PySem.W.fnOf "__init__" "Reader.__init__" (defArgs s_Reader_init) (defBody s_Reader_init) (defScope s_Reader_init) .none kV34 dc34 pm34 an34 cd34 ct34), sl34⟩)
    (c_Reader_init : PySem.W.codeIn K cd34 "Reader.__init__" = true)
    (k_Reader_init : PySem.W.keepIn K (.ref f_Reader_init) = true)
    (a_Reader_at_end : PySem.W.findIn K (.ref C_Reader) "at_end" = some (some (.ref f_Reader_at_end)))
    (i_Reader_at_end : PySem.W.isFn K (.ref f_Reader_at_end) = true)
    (l_Reader_at_end : K.lookup f_Reader_at_end = some ⟨oc35, od35, .func (PySem.W.fnOf "at_end" "Reader.at_end" (defArgs s_Reader_at_end) (defBody s_Reader_at_end) (defScope s_Reader_at_end) .none kV35 dc35 pm35 an35 cd35 ct35), sl35⟩)
    (c_Reader_at_end : PySem.W.codeIn K cd35 "Reader.at_end" = true)
    (k_Reader_at_end : PySem.W.keepIn K (.ref f_Reader_at_end) = true)
    (a_Reader_take_number : PySem.W.findIn K (.ref C_Reader) "take_number" = some (some (.ref f_Reader_take_number)))
    (i_Reader_take_number : PySem.W.isFn K (.ref f_Reader_take_number) = true)
    (l_Reader_take_number : K.lookup f_Reader_take_number = some ⟨oc36, od36, .func (PySem.W.fnOf "take_number" "Reader.take_number" (defArgs s_Reader_take_number) (defBody s_Reader_take_number) (defScope s_Reader_take_number) .none kV36 dc36 pm36 an36 cd36 ct36), sl36⟩)
    (c_Reader_take_number : PySem.W.codeIn K cd36 "Reader.take_number" = true)
    (k_Reader_take_number : PySem.W.keepIn K (.ref f_Reader_take_number) = true)
    (a_Reader_take_row : PySem.W.findIn K (.ref C_Reader) "take_row" = some (some (.ref f_Reader_take_row)))
    (i_Reader_take_row : PySem.W.isFn K (.ref f_Reader_take_row) = true)
    (l_Reader_take_row : K.lookup f_Reader_take_row = some ⟨oc37, od37, .func (PySem.W.fnOf "take_row" "Reader.take_row" (defArgs s_Reader_take_row) (defBody s_Reader_take_row) (defScope s_Reader_take_row) .none kV37 dc37 pm37 an37 cd37 ct37), sl37⟩)
    (c_Reader_take_row : PySem.W.codeIn K cd37 "Reader.take_row" = true)
    (k_Reader_take_row : PySem.W.keepIn K (.ref f_Reader_take_row) = true)
    (a_is_as_told : PySem.W.nsIn K mainGlobals "is_as_told" = some (some (.ref f_is_as_told)))
    (l_is_as_told : K.lookup f_is_as_told = some ⟨oc38, od38, .func (PySem.W.fnOf "is_as_told" "is_as_told" (defArgs s_is_as_told) (defBody s_is_as_told) (defScope s_is_as_told) .none kV38 dc38 pm38 an38 cd38 ct38), sl38⟩)
    (c_is_as_told : PySem.W.codeIn K cd38 "is_as_told" = true)
    (k_is_as_told : PySem.W.keepIn K (.ref f_is_as_told) = true)
    (a_run_answer : PySem.W.nsIn K mainGlobals "run_answer" = some (some (.ref f_run_answer)))
    (l_run_answer : K.lookup f_run_answer = some ⟨oc39, od39, .func (PySem.W.fnOf "run_answer" "run_answer" (defArgs s_run_answer) (defBody s_run_answer) (defScope s_run_answer) .none kV39 dc39 pm39 an39 cd39 ct39), sl39⟩)
    (c_run_answer : PySem.W.codeIn K cd39 "run_answer" = true)
    (k_run_answer : PySem.W.keepIn K (.ref f_run_answer) = true)
    (a_cells_answer : PySem.W.nsIn K mainGlobals "cells_answer" = some (some (.ref f_cells_answer)))
    (l_cells_answer : K.lookup f_cells_answer = some ⟨oc40, od40, .func (PySem.W.fnOf "cells_answer" "cells_answer" (defArgs s_cells_answer) (defBody s_cells_answer) (defScope s_cells_answer) .none kV40 dc40 pm40 an40 cd40 ct40), sl40⟩)
    (c_cells_answer : PySem.W.codeIn K cd40 "cells_answer" = true)
    (k_cells_answer : PySem.W.keepIn K (.ref f_cells_answer) = true)
    (a_told_answer : PySem.W.nsIn K mainGlobals "told_answer" = some (some (.ref f_told_answer)))
    (l_told_answer : K.lookup f_told_answer = some ⟨oc41, od41, .func (PySem.W.fnOf "told_answer" "told_answer" (defArgs s_told_answer) (defBody s_told_answer) (defScope s_told_answer) .none kV41 dc41 pm41 an41 cd41 ct41), sl41⟩)
    (c_told_answer : PySem.W.codeIn K cd41 "told_answer" = true)
    (k_told_answer : PySem.W.keepIn K (.ref f_told_answer) = true)
    (a_slot_answer : PySem.W.nsIn K mainGlobals "slot_answer" = some (some (.ref f_slot_answer)))
    (l_slot_answer : K.lookup f_slot_answer = some ⟨oc42, od42, .func (PySem.W.fnOf "slot_answer" "slot_answer" (defArgs s_slot_answer) (defBody s_slot_answer) (defScope s_slot_answer) .none kV42 dc42 pm42 an42 cd42 ct42), sl42⟩)
    (c_slot_answer : PySem.W.codeIn K cd42 "slot_answer" = true)
    (k_slot_answer : PySem.W.keepIn K (.ref f_slot_answer) = true)
    (a_call_answer : PySem.W.nsIn K mainGlobals "call_answer" = some (some (.ref f_call_answer)))
    (l_call_answer : K.lookup f_call_answer = some ⟨oc43, od43, .func (PySem.W.fnOf "call_answer" "call_answer" (defArgs s_call_answer) (defBody s_call_answer) (defScope s_call_answer) .none kV43 dc43 pm43 an43 cd43 ct43), sl43⟩)
    (c_call_answer : PySem.W.codeIn K cd43 "call_answer" = true)
    (k_call_answer : PySem.W.keepIn K (.ref f_call_answer) = true)
    (a_answers : PySem.W.nsIn K mainGlobals "answers" = some (some (.ref f_answers)))
    (l_answers : K.lookup f_answers = some ⟨oc44, od44, .func (PySem.W.fnOf "answers" "answers" (defArgs s_answers) (defBody s_answers) (defScope s_answers) .none kV44 dc44 pm44 an44 cd44 ct44), sl44⟩)
    (c_answers : PySem.W.codeIn K cd44 "answers" = true)
    (k_answers : PySem.W.keepIn K (.ref f_answers) = true)
    (pg_Instruction : PySem.W.plainGet K C_Instruction Str.empty = true)
    (hd_Instruction : PySem.W.hasDictIn K C_Instruction = true)
    (po_Instruction : PySem.W.plainOver K C_Instruction = true)
    (sa_Instruction : PySem.W.findIn K (.ref C_Instruction) "__setattr__" = some (some (.builtin "object.__setattr__")))
    (mk_Instruction : PySem.W.makesIn K C_Instruction = true)
    (kc_Instruction : PySem.W.keepIn K (.ref C_Instruction) = true)
    (n_Instruction_place : PySem.W.findIn K (.ref C_Instruction) "place" = some none)
    (n_Instruction_word : PySem.W.findIn K (.ref C_Instruction) "word" = some none)
    (n_Instruction_op : PySem.W.findIn K (.ref C_Instruction) "op" = some none)
    (n_Instruction_imm : PySem.W.findIn K (.ref C_Instruction) "imm" = some none)
    (n_Instruction_first : PySem.W.findIn K (.ref C_Instruction) "first" = some none)
    (n_Instruction_second : PySem.W.findIn K (.ref C_Instruction) "second" = some none)
    (n_Instruction_written : PySem.W.findIn K (.ref C_Instruction) "written" = some none)
    (n_Instruction_following : PySem.W.findIn K (.ref C_Instruction) "following" = some none)
    (n_Instruction_target : PySem.W.findIn K (.ref C_Instruction) "target" = some none)
    (n_Instruction_branches : PySem.W.findIn K (.ref C_Instruction) "branches" = some none)
    (n_Instruction_unit : PySem.W.findIn K (.ref C_Instruction) "unit" = some none)
    (n_Instruction_cycles : PySem.W.findIn K (.ref C_Instruction) "cycles" = some none)
    (n_Instruction_sure_stop : PySem.W.findIn K (.ref C_Instruction) "sure_stop" = some none)
    (pg_Slot : PySem.W.plainGet K C_Slot Str.empty = true)
    (hd_Slot : PySem.W.hasDictIn K C_Slot = true)
    (po_Slot : PySem.W.plainOver K C_Slot = true)
    (sa_Slot : PySem.W.findIn K (.ref C_Slot) "__setattr__" = some (some (.builtin "object.__setattr__")))
    (mk_Slot : PySem.W.makesIn K C_Slot = true)
    (kc_Slot : PySem.W.keepIn K (.ref C_Slot) = true)
    (n_Slot_instruction : PySem.W.findIn K (.ref C_Slot) "instruction" = some none)
    (n_Slot_guess : PySem.W.findIn K (.ref C_Slot) "guess" = some none)
    (n_Slot_op : PySem.W.findIn K (.ref C_Slot) "op" = some none)
    (n_Slot_unit : PySem.W.findIn K (.ref C_Slot) "unit" = some none)
    (n_Slot_stop : PySem.W.findIn K (.ref C_Slot) "stop" = some none)
    (n_Slot_state : PySem.W.findIn K (.ref C_Slot) "state" = some none)
    (n_Slot_goes_on : PySem.W.findIn K (.ref C_Slot) "goes_on" = some none)
    (n_Slot_cycles_left : PySem.W.findIn K (.ref C_Slot) "cycles_left" = some none)
    (n_Slot_value : PySem.W.findIn K (.ref C_Slot) "value" = some none)
    (n_Slot_cell : PySem.W.findIn K (.ref C_Slot) "cell" = some none)
    (n_Slot_operands : PySem.W.findIn K (.ref C_Slot) "operands" = some none)
    (n_Slot_missing : PySem.W.findIn K (.ref C_Slot) "missing" = some none)
    (n_Slot_readers : PySem.W.findIn K (.ref C_Slot) "readers" = some none)
    (pg_Machine : PySem.W.plainGet K C_Machine Str.empty = true)
    (hd_Machine : PySem.W.hasDictIn K C_Machine = true)
    (po_Machine : PySem.W.plainOver K C_Machine = true)
    (sa_Machine : PySem.W.findIn K (.ref C_Machine) "__setattr__" = some (some (.builtin "object.__setattr__")))
    (mk_Machine : PySem.W.makesIn K C_Machine = true)
    (kc_Machine : PySem.W.keepIn K (.ref C_Machine) = true)
    (n_Machine_prog : PySem.W.findIn K (.ref C_Machine) "prog" = some none)
    (n_Machine_cells : PySem.W.findIn K (.ref C_Machine) "cells" = some none)
    (n_Machine_regs : PySem.W.findIn K (.ref C_Machine) "regs" = some none)
    (n_Machine_most_fetched : PySem.W.findIn K (.ref C_Machine) "most_fetched" = some none)
    (n_Machine_most_leaving : PySem.W.findIn K (.ref C_Machine) "most_leaving" = some none)
    (n_Machine_most_passed_on : PySem.W.findIn K (.ref C_Machine) "most_passed_on" = some none)
    (n_Machine_most_slots : PySem.W.findIn K (.ref C_Machine) "most_slots" = some none)
    (n_Machine_units : PySem.W.findIn K (.ref C_Machine) "units" = some none)
    (n_Machine_counters : PySem.W.findIn K (.ref C_Machine) "counters" = some none)
    (n_Machine_stopped : PySem.W.findIn K (.ref C_Machine) "stopped" = some none)
    (n_Machine_cycles_run : PySem.W.findIn K (.ref C_Machine) "cycles_run" = some none)
    (n_Machine_have_left : PySem.W.findIn K (.ref C_Machine) "have_left" = some none)
    (n_Machine_thrown_away : PySem.W.findIn K (.ref C_Machine) "thrown_away" = some none)
    (n_Machine_wrong_guesses : PySem.W.findIn K (.ref C_Machine) "wrong_guesses" = some none)
    (n_Machine_slots : PySem.W.findIn K (.ref C_Machine) "slots" = some none)
    (n_Machine_setters : PySem.W.findIn K (.ref C_Machine) "setters" = some none)
    (n_Machine_free_units : PySem.W.findIn K (.ref C_Machine) "free_units" = some none)
    (n_Machine_fetch_place : PySem.W.findIn K (.ref C_Machine) "fetch_place" = some none)
    (pg_Reader : PySem.W.plainGet K C_Reader Str.empty = true)
    (hd_Reader : PySem.W.hasDictIn K C_Reader = true)
    (po_Reader : PySem.W.plainOver K C_Reader = true)
    (sa_Reader : PySem.W.findIn K (.ref C_Reader) "__setattr__" = some (some (.builtin "object.__setattr__")))
    (mk_Reader : PySem.W.makesIn K C_Reader = true)
    (kc_Reader : PySem.W.keepIn K (.ref C_Reader) = true)
    (n_Reader_numbers : PySem.W.findIn K (.ref C_Reader) "numbers" = some none)
    (n_Reader_at : PySem.W.findIn K (.ref C_Reader) "at" = some none)
    (v_DIVIDE : PySem.W.nsIn K mainGlobals "DIVIDE" = some (some (.int 9 t_DIVIDE)))
    (v_ADD_IMM : PySem.W.nsIn K mainGlobals "ADD_IMM" = some (some (.int 10 t_ADD_IMM)))
    (v_HIGH_IMM : PySem.W.nsIn K mainGlobals "HIGH_IMM" = some (some (.int 11 t_HIGH_IMM)))
    (v_LOAD : PySem.W.nsIn K mainGlobals "LOAD" = some (some (.int 12 t_LOAD)))
    (v_STORE : PySem.W.nsIn K mainGlobals "STORE" = some (some (.int 13 t_STORE)))
    (v_LINK : PySem.W.nsIn K mainGlobals "LINK" = some (some (.int 17 t_LINK)))
    (v_JUMP_TO_VALUE : PySem.W.nsIn K mainGlobals "JUMP_TO_VALUE" = some (some (.int 18 t_JUMP_TO_VALUE)))
    (v_STOPPED_BY_WORD : PySem.W.nsIn K mainGlobals "STOPPED_BY_WORD" = some (some (.int 1 t_STOPPED_BY_WORD)))
    (v_STOPPED_BY_ZERO : PySem.W.nsIn K mainGlobals "STOPPED_BY_ZERO" = some (some (.int 2 t_STOPPED_BY_ZERO)))
    (v_STOPPED_BY_CELL : PySem.W.nsIn K mainGlobals "STOPPED_BY_CELL" = some (some (.int 3 t_STOPPED_BY_CELL)))
    (v_STOPPED_BY_OP : PySem.W.nsIn K mainGlobals "STOPPED_BY_OP" = some (some (.int 4 t_STOPPED_BY_OP)))
    (v_STOPPED_BEHIND : PySem.W.nsIn K mainGlobals "STOPPED_BEHIND" = some (some (.int 5 t_STOPPED_BEHIND)))
    (v_WAITS : PySem.W.nsIn K mainGlobals "WAITS" = some (some (.int 0 t_WAITS)))
    (v_RUNS : PySem.W.nsIn K mainGlobals "RUNS" = some (some (.int 1 t_RUNS)))
    (v_HAS_RUN : PySem.W.nsIn K mainGlobals "HAS_RUN" = some (some (.int 2 t_HAS_RUN)))
    (v_DONE : PySem.W.nsIn K mainGlobals "DONE" = some (some (.int 3 t_DONE)))
    (v_CELLS : PySem.W.nsIn K mainGlobals "CELLS" = some (some (.int 1024 t_CELLS)))
    (v_NO_PLACE : PySem.W.nsIn K mainGlobals "NO_PLACE" = some (some (.int (-1) t_NO_PLACE)))
    (v_BEGIN_REFUSED : PySem.W.nsIn K mainGlobals "BEGIN_REFUSED" = some (some (.int (-3) t_BEGIN_REFUSED)))
    (v_OUT_OF_RANGE : PySem.W.nsIn K mainGlobals "OUT_OF_RANGE" = some (some (.int (-2) t_OUT_OF_RANGE)))
    (v_NO_SUCH_SLOT : PySem.W.nsIn K mainGlobals "NO_SUCH_SLOT" = some (some (.int (-3) t_NO_SUCH_SLOT)))
    (v_MOST_CYCLES : PySem.W.nsIn K mainGlobals "MOST_CYCLES" = some (some (.int 1000000 t_MOST_CYCLES)))
    (v_LAST_SLOT : PySem.W.nsIn K mainGlobals "LAST_SLOT" = some (some (.int 63 t_LAST_SLOT)))
    (v_RUN : PySem.W.nsIn K mainGlobals "RUN" = some (some (.int 1 t_RUN)))
    (v_REGS : PySem.W.nsIn K mainGlobals "REGS" = some (some (.int 2 t_REGS)))
    (v_TELL_CELLS : PySem.W.nsIn K mainGlobals "TELL_CELLS" = some (some (.int 3 t_TELL_CELLS)))
    (v_TOLD : PySem.W.nsIn K mainGlobals "TOLD" = some (some (.int 4 t_TOLD)))
    (v_SLOT : PySem.W.nsIn K mainGlobals "SLOT" = some (some (.int 5 t_SLOT)))
    (g_UNITS : PySem.W.nsIn K mainGlobals "UNITS" = some (some (.ref t_UNITS)))
    (g_CYCLES : PySem.W.nsIn K mainGlobals "CYCLES" = some (some (.ref t_CYCLES)))
    (g_CFG_RANGES : PySem.W.nsIn K mainGlobals "CFG_RANGES" = some (some (.ref t_CFG_RANGES)))
    (l_UNITS : K.lookup t_UNITS = some ⟨.type "dict", none, .dict es_UNITS en_UNITS, #[]⟩)
    (e_UNITS : Paired Ent es_UNITS.toList [(8, 1), (9, 2), (12, 3), (13, 3)])
    (s_UNITS : (t_UNITS == sysModules) = false)
    (l_CYCLES : K.lookup t_CYCLES = some ⟨.type "dict", none, .dict es_CYCLES en_CYCLES, #[]⟩)
    (e_CYCLES : Paired Ent es_CYCLES.toList [(8, 4), (9, 12), (12, 3)])
    (s_CYCLES : (t_CYCLES == sysModules) = false)
    (l_CFG_RANGES : K.lookup t_CFG_RANGES = some ⟨.type "tuple", to_CFG_RANGES, .seq #[.ref ta_CFG_RANGES_0, .ref ta_CFG_RANGES_1, .ref ta_CFG_RANGES_2, .ref ta_CFG_RANGES_3, .ref ta_CFG_RANGES_4, .ref ta_CFG_RANGES_5, .ref ta_CFG_RANGES_6, .ref ta_CFG_RANGES_7, .ref ta_CFG_RANGES_8] tn_CFG_RANGES, tl_CFG_RANGES⟩)
    (l_CFG_RANGES_0 : K.lookup ta_CFG_RANGES_0 = some ⟨.type "tuple", to_CFG_RANGES_0, .seq #[.int 1 tx_CFG_RANGES_0, .int 4 ty_CFG_RANGES_0] tn_CFG_RANGES_0, tl_CFG_RANGES_0⟩)
    (l_CFG_RANGES_1 : K.lookup ta_CFG_RANGES_1 = some ⟨.type "tuple", to_CFG_RANGES_1, .seq #[.int 1 tx_CFG_RANGES_1, .int 4 ty_CFG_RANGES_1] tn_CFG_RANGES_1, tl_CFG_RANGES_1⟩)
    (l_CFG_RANGES_2 : K.lookup ta_CFG_RANGES_2 = some ⟨.type "tuple", to_CFG_RANGES_2, .seq #[.int 1 tx_CFG_RANGES_2, .int 4 ty_CFG_RANGES_2] tn_CFG_RANGES_2, tl_CFG_RANGES_2⟩)
    (l_CFG_RANGES_3 : K.lookup ta_CFG_RANGES_3 = some ⟨.type "tuple", to_CFG_RANGES_3, .seq #[.int 1 tx_CFG_RANGES_3, .int 64 ty_CFG_RANGES_3] tn_CFG_RANGES_3, tl_CFG_RANGES_3⟩)
    (l_CFG_RANGES_4 : K.lookup ta_CFG_RANGES_4 = some ⟨.type "tuple", to_CFG_RANGES_4, .seq #[.int 1 tx_CFG_RANGES_4, .int 4 ty_CFG_RANGES_4] tn_CFG_RANGES_4, tl_CFG_RANGES_4⟩)
    (l_CFG_RANGES_5 : K.lookup ta_CFG_RANGES_5 = some ⟨.type "tuple", to_CFG_RANGES_5, .seq #[.int 1 tx_CFG_RANGES_5, .int 4 ty_CFG_RANGES_5] tn_CFG_RANGES_5, tl_CFG_RANGES_5⟩)
    (l_CFG_RANGES_6 : K.lookup ta_CFG_RANGES_6 = some ⟨.type "tuple", to_CFG_RANGES_6, .seq #[.int 1 tx_CFG_RANGES_6, .int 4 ty_CFG_RANGES_6] tn_CFG_RANGES_6, tl_CFG_RANGES_6⟩)
    (l_CFG_RANGES_7 : K.lookup ta_CFG_RANGES_7 = some ⟨.type "tuple", to_CFG_RANGES_7, .seq #[.int 1 tx_CFG_RANGES_7, .int 4 ty_CFG_RANGES_7] tn_CFG_RANGES_7, tl_CFG_RANGES_7⟩)
    (l_CFG_RANGES_8 : K.lookup ta_CFG_RANGES_8 = some ⟨.type "tuple", to_CFG_RANGES_8, .seq #[.int 0 tx_CFG_RANGES_8, .int 256 ty_CFG_RANGES_8] tn_CFG_RANGES_8, tl_CFG_RANGES_8⟩)
    (z_enumerate : PySem.W.nsIn K mainGlobals "enumerate" = some none)
    (z_len : PySem.W.nsIn K mainGlobals "len" = some none)
    (z_list : PySem.W.nsIn K mainGlobals "list" = some none)
    (z_max : PySem.W.nsIn K mainGlobals "max" = some none)
    (z_min : PySem.W.nsIn K mainGlobals "min" = some none)
    (z_reversed : PySem.W.nsIn K mainGlobals "reversed" = some none)
    (z_zip : PySem.W.nsIn K mainGlobals "zip" = some none) :
    ∃ A : Ad, Txt K mg A ∧ A.f_answers = f_answers := by
  have F_wrapped := fun_mk (st := s_wrapped) l_wrapped c_wrapped k_wrapped
  have b_wrapped := F_wrapped.binds (ps := ["number"]) fun _ _ _ _ _ _ us hl => match us, hl with | [_], _ => rfl
  have F_signed := fun_mk (st := s_signed) l_signed c_signed k_signed
  have b_signed := F_signed.binds (ps := ["number"]) fun _ _ _ _ _ _ us hl => match us, hl with | [_], _ => rfl
  have F_calculated := fun_mk (st := s_calculated) l_calculated c_calculated k_calculated
  have b_calculated := F_calculated.binds (ps := ["op", "first", "second"]) fun _ _ _ _ _ _ us hl => match us, hl with | [_, _, _], _ => rfl
  have F_jumps := fun_mk (st := s_jumps) l_jumps c_jumps k_jumps
  have b_jumps := F_jumps.binds (ps := ["op", "first", "second"]) fun _ _ _ _ _ _ us hl => match us, hl with | [_, _, _], _ => rfl
  have F_signed_half := fun_mk (st := s_signed_half) l_signed_half c_signed_half k_signed_half
  have b_signed_half := F_signed_half.binds (ps := ["word"]) fun _ _ _ _ _ _ us hl => match us, hl with | [_], _ => rfl
  have F_sure_stop := fun_mk (st := s_sure_stop) l_sure_stop c_sure_stop k_sure_stop
  have b_sure_stop := F_sure_stop.binds (ps := ["op"]) fun _ _ _ _ _ _ us hl => match us, hl with | [_], _ => rfl
  have F_first_read := fun_mk (st := s_first_read) l_first_read c_first_read k_first_read
  have b_first_read := F_first_read.binds (ps := ["op", "a"]) fun _ _ _ _ _ _ us hl => match us, hl with | [_, _], _ => rfl
  have F_second_read := fun_mk (st := s_second_read) l_second_read c_second_read k_second_read
  have b_second_read := F_second_read.binds (ps := ["op", "d", "b"]) fun _ _ _ _ _ _ us hl => match us, hl with | [_, _, _], _ => rfl
  have F_written := fun_mk (st := s_written) l_written c_written k_written
  have b_written := F_written.binds (ps := ["op", "d"]) fun _ _ _ _ _ _ us hl => match us, hl with | [_, _], _ => rfl
  have F_Instruction_init := fun_mk (st := s_Instruction_init) l_Instruction_init c_Instruction_init k_Instruction_init
  have b_Instruction_init := F_Instruction_init.binds (ps := ["self", "place", "word"]) fun _ _ _ _ _ _ us hl => match us, hl with | [_, _, _], _ => rfl
  have F_behind_program := fun_mk (st := s_behind_program) l_behind_program c_behind_program k_behind_program
  have b_behind_program := F_behind_program.binds (ps := ["place"]) fun _ _ _ _ _ _ us hl => match us, hl with | [_], _ => rfl
  have F_Slot_init := fun_mk (st := s_Slot_init) l_Slot_init c_Slot_init k_Slot_init
  have b_Slot_init := F_Slot_init.binds (ps := ["self", "instruction", "guess"]) fun _ _ _ _ _ _ us hl => match us, hl with | [_, _, _], _ => rfl
  have F_Slot_pass_on := fun_mk (st := s_Slot_pass_on) l_Slot_pass_on c_Slot_pass_on k_Slot_pass_on
  have b_Slot_pass_on := F_Slot_pass_on.binds (ps := ["self"]) fun _ _ _ _ _ _ us hl => match us, hl with | [_], _ => rfl
  have F_Machine_init := fun_mk (st := s_Machine_init) l_Machine_init c_Machine_init k_Machine_init
  have b_Machine_init := F_Machine_init.binds (ps := ["self", "prog", "cells", "cfg"]) fun _ _ _ _ _ _ us hl => match us, hl with | [_, _, _, _], _ => rfl
  have F_Machine_fetch_from := fun_mk (st := s_Machine_fetch_from) l_Machine_fetch_from c_Machine_fetch_from k_Machine_fetch_from
  have b_Machine_fetch_from := F_Machine_fetch_from.binds (ps := ["self", "place"]) fun _ _ _ _ _ _ us hl => match us, hl with | [_, _], _ => rfl
  have F_Machine_next_to_leave := fun_mk (st := s_Machine_next_to_leave) l_Machine_next_to_leave c_Machine_next_to_leave k_Machine_next_to_leave
  have b_Machine_next_to_leave := F_Machine_next_to_leave.binds (ps := ["self"]) fun _ _ _ _ _ _ us hl => match us, hl with | [_], _ => rfl
  have F_Machine_run_cycles := fun_mk (st := s_Machine_run_cycles) l_Machine_run_cycles c_Machine_run_cycles k_Machine_run_cycles
  have b_Machine_run_cycles := F_Machine_run_cycles.binds (ps := ["self", "cycles"]) fun _ _ _ _ _ _ us hl => match us, hl with | [_, _], _ => rfl
  have F_Machine_run_cycle := fun_mk (st := s_Machine_run_cycle) l_Machine_run_cycle c_Machine_run_cycle k_Machine_run_cycle
  have b_Machine_run_cycle := F_Machine_run_cycle.binds (ps := ["self"]) fun _ _ _ _ _ _ us hl => match us, hl with | [_], _ => rfl
  have F_Machine_let_leave := fun_mk (st := s_Machine_let_leave) l_Machine_let_leave c_Machine_let_leave k_Machine_let_leave
  have b_Machine_let_leave := F_Machine_let_leave.binds (ps := ["self"]) fun _ _ _ _ _ _ us hl => match us, hl with | [_], _ => rfl
  have F_Machine_throw_away := fun_mk (st := s_Machine_throw_away) l_Machine_throw_away c_Machine_throw_away k_Machine_throw_away
  have b_Machine_throw_away := F_Machine_throw_away.binds (ps := ["self", "place"]) fun _ _ _ _ _ _ us hl => match us, hl with | [_, _], _ => rfl
  have F_Machine_keep_result := fun_mk (st := s_Machine_keep_result) l_Machine_keep_result c_Machine_keep_result k_Machine_keep_result
  have b_Machine_keep_result := F_Machine_keep_result.binds (ps := ["self", "slot"]) fun _ _ _ _ _ _ us hl => match us, hl with | [_, _], _ => rfl
  have F_Machine_count_branch := fun_mk (st := s_Machine_count_branch) l_Machine_count_branch c_Machine_count_branch k_Machine_count_branch
  have b_Machine_count_branch := F_Machine_count_branch.binds (ps := ["self", "slot"]) fun _ _ _ _ _ _ us hl => match us, hl with | [_, _], _ => rfl
  have F_Machine_let_run_on := fun_mk (st := s_Machine_let_run_on) l_Machine_let_run_on c_Machine_let_run_on k_Machine_let_run_on
  have b_Machine_let_run_on := F_Machine_let_run_on.binds (ps := ["self"]) fun _ _ _ _ _ _ us hl => match us, hl with | [_], _ => rfl
  have F_Machine_let_begin := fun_mk (st := s_Machine_let_begin) l_Machine_let_begin c_Machine_let_begin k_Machine_let_begin
  have b_Machine_let_begin := F_Machine_let_begin.binds (ps := ["self"]) fun _ _ _ _ _ _ us hl => match us, hl with | [_], _ => rfl
  have F_Machine_begin_slot := fun_mk (st := s_Machine_begin_slot) l_Machine_begin_slot c_Machine_begin_slot k_Machine_begin_slot
  have b_Machine_begin_slot := F_Machine_begin_slot.binds (ps := ["self", "k", "slot"]) fun _ _ _ _ _ _ us hl => match us, hl with | [_, _, _], _ => rfl
  have F_Machine_work_out := fun_mk (st := s_Machine_work_out) l_Machine_work_out c_Machine_work_out k_Machine_work_out
  have b_Machine_work_out := F_Machine_work_out.binds (ps := ["self", "k", "slot", "first", "second"]) fun _ _ _ _ _ _ us hl => match us, hl with | [_, _, _, _, _], _ => rfl
  have F_Machine_work_out_cell := fun_mk (st := s_Machine_work_out_cell) l_Machine_work_out_cell c_Machine_work_out_cell k_Machine_work_out_cell
  have b_Machine_work_out_cell := F_Machine_work_out_cell.binds (ps := ["self", "k", "slot", "cell", "stored"]) fun _ _ _ _ _ _ us hl => match us, hl with | [_, _, _, _, _], _ => rfl
  have F_Machine_loaded := fun_mk (st := s_Machine_loaded) l_Machine_loaded c_Machine_loaded k_Machine_loaded
  have b_Machine_loaded := F_Machine_loaded.binds (ps := ["self", "k", "cell"]) fun _ _ _ _ _ _ us hl => match us, hl with | [_, _, _], _ => rfl
  have F_Machine_fetch := fun_mk (st := s_Machine_fetch) l_Machine_fetch c_Machine_fetch k_Machine_fetch
  have b_Machine_fetch := F_Machine_fetch.binds (ps := ["self"]) fun _ _ _ _ _ _ us hl => match us, hl with | [_], _ => rfl
  have F_Machine_fetching_ended := fun_mk (st := s_Machine_fetching_ended) l_Machine_fetching_ended c_Machine_fetching_ended k_Machine_fetching_ended
  have b_Machine_fetching_ended := F_Machine_fetching_ended.binds (ps := ["self"]) fun _ _ _ _ _ _ us hl => match us, hl with | [_], _ => rfl
  have F_Machine_fetch_one := fun_mk (st := s_Machine_fetch_one) l_Machine_fetch_one c_Machine_fetch_one k_Machine_fetch_one
  have b_Machine_fetch_one := F_Machine_fetch_one.binds (ps := ["self"]) fun _ _ _ _ _ _ us hl => match us, hl with | [_], _ => rfl
  have F_Machine_take_operand := fun_mk (st := s_Machine_take_operand) l_Machine_take_operand c_Machine_take_operand k_Machine_take_operand
  have b_Machine_take_operand := F_Machine_take_operand.binds (ps := ["self", "slot", "which", "read"]) fun _ _ _ _ _ _ us hl => match us, hl with | [_, _, _, _], _ => rfl
  have F_Machine_guessed := fun_mk (st := s_Machine_guessed) l_Machine_guessed c_Machine_guessed k_Machine_guessed
  have b_Machine_guessed := F_Machine_guessed.binds (ps := ["self", "instruction"]) fun _ _ _ _ _ _ us hl => match us, hl with | [_, _], _ => rfl
  have F_Machine_guesses_jump := fun_mk (st := s_Machine_guesses_jump) l_Machine_guesses_jump c_Machine_guesses_jump k_Machine_guesses_jump
  have b_Machine_guesses_jump := F_Machine_guesses_jump.binds (ps := ["self", "place"]) fun _ _ _ _ _ _ us hl => match us, hl with | [_, _], _ => rfl
  have F_Reader_init := fun_mk (st := s_Reader_init) l_Reader_init c_Reader_init k_Reader_init
  have b_Reader_init := F_Reader_init.binds (ps := ["self", "numbers"]) fun _ _ _ _ _ _ us hl => match us, hl with | [_, _], _ => rfl
  have F_Reader_at_end := fun_mk (st := s_Reader_at_end) l_Reader_at_end c_Reader_at_end k_Reader_at_end
  have b_Reader_at_end := F_Reader_at_end.binds (ps := ["self"]) fun _ _ _ _ _ _ us hl => match us, hl with | [_], _ => rfl
  have F_Reader_take_number := fun_mk (st := s_Reader_take_number) l_Reader_take_number c_Reader_take_number k_Reader_take_number
  have b_Reader_take_number := F_Reader_take_number.binds (ps := ["self"]) fun _ _ _ _ _ _ us hl => match us, hl with | [_], _ => rfl
  have F_Reader_take_row := fun_mk (st := s_Reader_take_row) l_Reader_take_row c_Reader_take_row k_Reader_take_row
  have b_Reader_take_row := F_Reader_take_row.binds (ps := ["self"]) fun _ _ _ _ _ _ us hl => match us, hl with | [_], _ => rfl
  have F_is_as_told := fun_mk (st := s_is_as_told) l_is_as_told c_is_as_told k_is_as_told
  have b_is_as_told := F_is_as_told.binds (ps := ["cfg"]) fun _ _ _ _ _ _ us hl => match us, hl with | [_], _ => rfl
  have F_run_answer := fun_mk (st := s_run_answer) l_run_answer c_run_answer k_run_answer
  have b_run_answer := F_run_answer.binds (ps := ["machine", "cycles"]) fun _ _ _ _ _ _ us hl => match us, hl with | [_, _], _ => rfl
  have F_cells_answer := fun_mk (st := s_cells_answer) l_cells_answer c_cells_answer k_cells_answer
  have b_cells_answer := F_cells_answer.binds (ps := ["machine", "a", "n"]) fun _ _ _ _ _ _ us hl => match us, hl with | [_, _, _], _ => rfl
  have F_told_answer := fun_mk (st := s_told_answer) l_told_answer c_told_answer k_told_answer
  have b_told_answer := F_told_answer.binds (ps := ["machine"]) fun _ _ _ _ _ _ us hl => match us, hl with | [_], _ => rfl
  have F_slot_answer := fun_mk (st := s_slot_answer) l_slot_answer c_slot_answer k_slot_answer
  have b_slot_answer := F_slot_answer.binds (ps := ["machine", "k"]) fun _ _ _ _ _ _ us hl => match us, hl with | [_, _], _ => rfl
  have F_call_answer := fun_mk (st := s_call_answer) l_call_answer c_call_answer k_call_answer
  have b_call_answer := F_call_answer.binds (ps := ["machine", "reader"]) fun _ _ _ _ _ _ us hl => match us, hl with | [_, _], _ => rfl
  have F_answers := fun_mk (st := s_answers) l_answers c_answers k_answers
  have b_answers := F_answers.binds (ps := ["calls"]) fun _ _ _ _ _ _ us hl => match us, hl with | [_], _ => rfl
  exact ⟨⟨C_Instruction, C_Slot, C_Machine, C_Reader, f_wrapped, _, f_signed, _, f_calculated, _, f_jumps, _, f_signed_half, _, f_sure_stop, _, f_first_read, _, f_second_read, _, f_written, _, f_Instruction_init, _, f_behind_program, _, f_Slot_init, _, f_Slot_pass_on, _, f_Machine_init, _, f_Machine_fetch_from, _, f_Machine_next_to_leave, _, f_Machine_run_cycles, _, f_Machine_run_cycle, _, f_Machine_let_leave, _, f_Machine_throw_away, _, f_Machine_keep_result, _, f_Machine_count_branch, _, f_Machine_let_run_on, _, f_Machine_let_begin, _, f_Machine_begin_slot, _, f_Machine_work_out, _, f_Machine_work_out_cell, _, f_Machine_loaded, _, f_Machine_fetch, _, f_Machine_fetching_ended, _, f_Machine_fetch_one, _, f_Machine_take_operand, _, f_Machine_guessed, _, f_Machine_guesses_jump, _, f_Reader_init, _, f_Reader_at_end, _, f_Reader_take_number, _, f_Reader_take_row, _, f_is_as_told, _, f_run_answer, _, f_cells_answer, _, f_told_answer, _, f_slot_answer, _, f_call_answer, _, f_answers, _, t_UNITS, t_CYCLES, t_CFG_RANGES⟩, ⟨F_wrapped,
    b_wrapped,
    PySem.W.mg_of X G a_wrapped,
    F_signed,
    b_signed,
    PySem.W.mg_of X G a_signed,
    F_calculated,
    b_calculated,
    PySem.W.mg_of X G a_calculated,
    F_jumps,
    b_jumps,
    PySem.W.mg_of X G a_jumps,
    F_signed_half,
    b_signed_half,
    PySem.W.mg_of X G a_signed_half,
    F_sure_stop,
    b_sure_stop,
    PySem.W.mg_of X G a_sure_stop,
    F_first_read,
    b_first_read,
    PySem.W.mg_of X G a_first_read,
    F_second_read,
    b_second_read,
    PySem.W.mg_of X G a_second_read,
    F_written,
    b_written,
    PySem.W.mg_of X G a_written,
    F_Instruction_init,
    b_Instruction_init,
    ⟨mk_Instruction, a_Instruction_init, i_Instruction_init, kc_Instruction⟩,
    F_behind_program,
    b_behind_program,
    PySem.W.mg_of X G a_behind_program,
    F_Slot_init,
    b_Slot_init,
    ⟨mk_Slot, a_Slot_init, i_Slot_init, kc_Slot⟩,
    F_Slot_pass_on,
    b_Slot_pass_on,
    ⟨a_Slot_pass_on, i_Slot_pass_on, k_Slot_pass_on⟩,
    F_Machine_init,
    b_Machine_init,
    ⟨mk_Machine, a_Machine_init, i_Machine_init, kc_Machine⟩,
    F_Machine_fetch_from,
    b_Machine_fetch_from,
    ⟨a_Machine_fetch_from, i_Machine_fetch_from, k_Machine_fetch_from⟩,
    F_Machine_next_to_leave,
    b_Machine_next_to_leave,
    ⟨a_Machine_next_to_leave, i_Machine_next_to_leave, k_Machine_next_to_leave⟩,
    F_Machine_run_cycles,
    b_Machine_run_cycles,
    ⟨a_Machine_run_cycles, i_Machine_run_cycles, k_Machine_run_cycles⟩,
    F_Machine_run_cycle,
    b_Machine_run_cycle,
    ⟨a_Machine_run_cycle, i_Machine_run_cycle, k_Machine_run_cycle⟩,
    F_Machine_let_leave,
    b_Machine_let_leave,
    ⟨a_Machine_let_leave, i_Machine_let_leave, k_Machine_let_leave⟩,
    F_Machine_throw_away,
    b_Machine_throw_away,
    ⟨a_Machine_throw_away, i_Machine_throw_away, k_Machine_throw_away⟩,
    F_Machine_keep_result,
    b_Machine_keep_result,
    ⟨a_Machine_keep_result, i_Machine_keep_result, k_Machine_keep_result⟩,
    F_Machine_count_branch,
    b_Machine_count_branch,
    ⟨a_Machine_count_branch, i_Machine_count_branch, k_Machine_count_branch⟩,
    F_Machine_let_run_on,
    b_Machine_let_run_on,
    ⟨a_Machine_let_run_on, i_Machine_let_run_on, k_Machine_let_run_on⟩,
    F_Machine_let_begin,
    b_Machine_let_begin,
    ⟨a_Machine_let_begin, i_Machine_let_begin, k_Machine_let_begin⟩,
    F_Machine_begin_slot,
    b_Machine_begin_slot,
    ⟨a_Machine_begin_slot, i_Machine_begin_slot, k_Machine_begin_slot⟩,
    F_Machine_work_out,
    b_Machine_work_out,
    ⟨a_Machine_work_out, i_Machine_work_out, k_Machine_work_out⟩,
    F_Machine_work_out_cell,
    b_Machine_work_out_cell,
    ⟨a_Machine_work_out_cell, i_Machine_work_out_cell, k_Machine_work_out_cell⟩,
    F_Machine_loaded,
    b_Machine_loaded,
    ⟨a_Machine_loaded, i_Machine_loaded, k_Machine_loaded⟩,
    F_Machine_fetch,
    b_Machine_fetch,
    ⟨a_Machine_fetch, i_Machine_fetch, k_Machine_fetch⟩,
    F_Machine_fetching_ended,
    b_Machine_fetching_ended,
    ⟨a_Machine_fetching_ended, i_Machine_fetching_ended, k_Machine_fetching_ended⟩,
    F_Machine_fetch_one,
    b_Machine_fetch_one,
    ⟨a_Machine_fetch_one, i_Machine_fetch_one, k_Machine_fetch_one⟩,
    F_Machine_take_operand,
    b_Machine_take_operand,
    ⟨a_Machine_take_operand, i_Machine_take_operand, k_Machine_take_operand⟩,
    F_Machine_guessed,
    b_Machine_guessed,
    ⟨a_Machine_guessed, i_Machine_guessed, k_Machine_guessed⟩,
    F_Machine_guesses_jump,
    b_Machine_guesses_jump,
    ⟨a_Machine_guesses_jump, i_Machine_guesses_jump, k_Machine_guesses_jump⟩,
    F_Reader_init,
    b_Reader_init,
    ⟨mk_Reader, a_Reader_init, i_Reader_init, kc_Reader⟩,
    F_Reader_at_end,
    b_Reader_at_end,
    ⟨a_Reader_at_end, i_Reader_at_end, k_Reader_at_end⟩,
    F_Reader_take_number,
    b_Reader_take_number,
    ⟨a_Reader_take_number, i_Reader_take_number, k_Reader_take_number⟩,
    F_Reader_take_row,
    b_Reader_take_row,
    ⟨a_Reader_take_row, i_Reader_take_row, k_Reader_take_row⟩,
    F_is_as_told,
    b_is_as_told,
    PySem.W.mg_of X G a_is_as_told,
    F_run_answer,
    b_run_answer,
    PySem.W.mg_of X G a_run_answer,
    F_cells_answer,
    b_cells_answer,
    PySem.W.mg_of X G a_cells_answer,
    F_told_answer,
    b_told_answer,
    PySem.W.mg_of X G a_told_answer,
    F_slot_answer,
    b_slot_answer,
    PySem.W.mg_of X G a_slot_answer,
    F_call_answer,
    b_call_answer,
    PySem.W.mg_of X G a_call_answer,
    F_answers,
    b_answers,
    PySem.W.mg_of X G a_answers,
    ⟨pg_Instruction, hd_Instruction, po_Instruction, sa_Instruction⟩,
    PySem.W.mg_of X G aC_Instruction,
    n_Instruction_place,
    n_Instruction_word,
    n_Instruction_op,
    n_Instruction_imm,
    n_Instruction_first,
    n_Instruction_second,
    n_Instruction_written,
    n_Instruction_following,
    n_Instruction_target,
    n_Instruction_branches,
    n_Instruction_unit,
    n_Instruction_cycles,
    n_Instruction_sure_stop,
    ⟨pg_Slot, hd_Slot, po_Slot, sa_Slot⟩,
    PySem.W.mg_of X G aC_Slot,
    n_Slot_instruction,
    n_Slot_guess,
    n_Slot_op,
    n_Slot_unit,
    n_Slot_stop,
    n_Slot_state,
    n_Slot_goes_on,
    n_Slot_cycles_left,
    n_Slot_value,
    n_Slot_cell,
    n_Slot_operands,
    n_Slot_missing,
    n_Slot_readers,
    ⟨pg_Machine, hd_Machine, po_Machine, sa_Machine⟩,
    PySem.W.mg_of X G aC_Machine,
    n_Machine_prog,
    n_Machine_cells,
    n_Machine_regs,
    n_Machine_most_fetched,
    n_Machine_most_leaving,
    n_Machine_most_passed_on,
    n_Machine_most_slots,
    n_Machine_units,
    n_Machine_counters,
    n_Machine_stopped,
    n_Machine_cycles_run,
    n_Machine_have_left,
    n_Machine_thrown_away,
    n_Machine_wrong_guesses,
    n_Machine_slots,
    n_Machine_setters,
    n_Machine_free_units,
    n_Machine_fetch_place,
    ⟨pg_Reader, hd_Reader, po_Reader, sa_Reader⟩,
    PySem.W.mg_of X G aC_Reader,
    n_Reader_numbers,
    n_Reader_at,
    ⟨_, PySem.W.mg_of X G v_DIVIDE⟩,
    ⟨_, PySem.W.mg_of X G v_ADD_IMM⟩,
    ⟨_, PySem.W.mg_of X G v_HIGH_IMM⟩,
    ⟨_, PySem.W.mg_of X G v_LOAD⟩,
    ⟨_, PySem.W.mg_of X G v_STORE⟩,
    ⟨_, PySem.W.mg_of X G v_LINK⟩,
    ⟨_, PySem.W.mg_of X G v_JUMP_TO_VALUE⟩,
    ⟨_, PySem.W.mg_of X G v_STOPPED_BY_WORD⟩,
    ⟨_, PySem.W.mg_of X G v_STOPPED_BY_ZERO⟩,
    ⟨_, PySem.W.mg_of X G v_STOPPED_BY_CELL⟩,
    ⟨_, PySem.W.mg_of X G v_STOPPED_BY_OP⟩,
    ⟨_, PySem.W.mg_of X G v_STOPPED_BEHIND⟩,
    ⟨_, PySem.W.mg_of X G v_WAITS⟩,
    ⟨_, PySem.W.mg_of X G v_RUNS⟩,
    ⟨_, PySem.W.mg_of X G v_HAS_RUN⟩,
    ⟨_, PySem.W.mg_of X G v_DONE⟩,
    ⟨_, PySem.W.mg_of X G v_CELLS⟩,
    ⟨_, PySem.W.mg_of X G v_NO_PLACE⟩,
    ⟨_, PySem.W.mg_of X G v_BEGIN_REFUSED⟩,
    ⟨_, PySem.W.mg_of X G v_OUT_OF_RANGE⟩,
    ⟨_, PySem.W.mg_of X G v_NO_SUCH_SLOT⟩,
    ⟨_, PySem.W.mg_of X G v_MOST_CYCLES⟩,
    ⟨_, PySem.W.mg_of X G v_LAST_SLOT⟩,
    ⟨_, PySem.W.mg_of X G v_RUN⟩,
    ⟨_, PySem.W.mg_of X G v_REGS⟩,
    ⟨_, PySem.W.mg_of X G v_TELL_CELLS⟩,
    ⟨_, PySem.W.mg_of X G v_TOLD⟩,
    ⟨_, PySem.W.mg_of X G v_SLOT⟩,
    PySem.W.mg_of X G g_UNITS,
    ⟨s_UNITS, by decide, _, _, l_UNITS, e_UNITS⟩,
    PySem.W.mg_of X G g_CYCLES,
    ⟨s_CYCLES, by decide, _, _, l_CYCLES, e_CYCLES⟩,
    PySem.W.mg_of X G g_CFG_RANGES,
    ⟨[ta_CFG_RANGES_0, ta_CFG_RANGES_1, ta_CFG_RANGES_2, ta_CFG_RANGES_3, ta_CFG_RANGES_4, ta_CFG_RANGES_5, ta_CFG_RANGES_6, ta_CFG_RANGES_7, ta_CFG_RANGES_8], ⟨_, _, _, l_CFG_RANGES, rfl, rfl, (by show 9 ≤ sizeLine; decide), .cons rfl (.cons rfl (.cons rfl (.cons rfl (.cons rfl (.cons rfl (.cons rfl (.cons rfl (.cons rfl (.nil)))))))))⟩, .cons ⟨_, _, _, l_CFG_RANGES_0, rfl, rfl, (by show 2 ≤ sizeLine; decide), .cons ⟨_, rfl⟩ (.cons ⟨_, rfl⟩ .nil)⟩ (.cons ⟨_, _, _, l_CFG_RANGES_1, rfl, rfl, (by show 2 ≤ sizeLine; decide), .cons ⟨_, rfl⟩ (.cons ⟨_, rfl⟩ .nil)⟩ (.cons ⟨_, _, _, l_CFG_RANGES_2, rfl, rfl, (by show 2 ≤ sizeLine; decide), .cons ⟨_, rfl⟩ (.cons ⟨_, rfl⟩ .nil)⟩ (.cons ⟨_, _, _, l_CFG_RANGES_3, rfl, rfl, (by show 2 ≤ sizeLine; decide), .cons ⟨_, rfl⟩ (.cons ⟨_, rfl⟩ .nil)⟩ (.cons ⟨_, _, _, l_CFG_RANGES_4, rfl, rfl, (by show 2 ≤ sizeLine; decide), .cons ⟨_, rfl⟩ (.cons ⟨_, rfl⟩ .nil)⟩ (.cons ⟨_, _, _, l_CFG_RANGES_5, rfl, rfl, (by show 2 ≤ sizeLine; decide), .cons ⟨_, rfl⟩ (.cons ⟨_, rfl⟩ .nil)⟩ (.cons ⟨_, _, _, l_CFG_RANGES_6, rfl, rfl, (by show 2 ≤ sizeLine; decide), .cons ⟨_, rfl⟩ (.cons ⟨_, rfl⟩ .nil)⟩ (.cons ⟨_, _, _, l_CFG_RANGES_7, rfl, rfl, (by show 2 ≤ sizeLine; decide), .cons ⟨_, rfl⟩ (.cons ⟨_, rfl⟩ .nil)⟩ (.cons ⟨_, _, _, l_CFG_RANGES_8, rfl, rfl, (by show 2 ≤ sizeLine; decide), .cons ⟨_, rfl⟩ (.cons ⟨_, rfl⟩ .nil)⟩ (.nil)))))))))⟩,
    PySem.W.mg_none_of X G z_enumerate,
    PySem.W.mg_none_of X G z_len,
    PySem.W.mg_none_of X G z_list,
    PySem.W.mg_none_of X G z_max,
    PySem.W.mg_none_of X G z_min,
    PySem.W.mg_none_of X G z_reversed,
    PySem.W.mg_none_of X G z_zip⟩, rfl⟩
end Ooo
namespace Ooo
open PySem L2 Ex
theorem from_txt {P : Program} {w : World} {K : PySem.W.Frag} {mg : Str → Option Value} {A : Ad} {fa : Addr} (T : Txt K mg A) (hfa : mg "answers" = some (.ref fa)) :
    ∃ fd : FuncData, (∀ (s : Shared) (u : Value), BindsTo s fd ⟨[u], []⟩ [("calls", u)]) ∧ ∀ base : Heap, K.In base → base.Ns mainGlobals mg → FnOk P w K mg base CX0 21 fa fd ["calls"] (sp_ans K) := by
  have e := hfa.symm.trans T.m_answers
  cases e
  refine ⟨A.d_answers, fun s u => ?_, fun base _ _ => ok_answers T⟩
  obtain ⟨oc, od, kV, doc, pm, an, cdv, ct, osl, ed, _, _⟩ := T.F_answers.ex
  rw [ed]
  exact .of_eq rfl
theorem ints_inj : ∀ {a b : List Int}, a.map PySem.W.WData.int = b.map PySem.W.WData.int → a = b
  | [], [], _ => rfl
  | [], _ :: _, h => by simp at h
  | _ :: _, [], h => by simp at h
  | x :: a, y :: b, h => by
    rw [List.map_cons, List.map_cons] at h
    injection h with h1 h2
    cases h1
    rw [ints_inj h2]
end Ooo
open PySem PySem.W PyProof.Rows
theorem Ooo.said : PySem.Challenge.rw_outoforder_s01_answers.wellSaid = true := by decide +kernel
theorem Ooo.read {ns : List Int} (h : PySem.Challenge.rw_outoforder_s01_answers.pre [WData.list (ns.map WData.int)] = true) : PySd48.answers_asked ns = true := by
  obtain ⟨a, h1, h2, e⟩ := (OpenSpec.pre_iff Ooo.said _).mp h
  obtain ⟨ms, u⟩ := a
  have e' : [WData.list (ns.map WData.int)] = [WData.list (ms.map WData.int)] := e
  have e2 : ns = ms := Ooo.ints_inj (by injection e' with e3 e4; injection e3)
  rw [e2]
  exact h2
theorem Ooo.told {ns : List Int} (h : PySem.Challenge.rw_outoforder_s01_answers.pre [WData.list (ns.map WData.int)] = true) : PySem.Challenge.rw_outoforder_s01_answers.post [WData.list (ns.map WData.int)] (WData.list ((PySd48.answers ns).map WData.int)) = true := by
  obtain ⟨a, h1, h2, e⟩ := (OpenSpec.pre_iff Ooo.said _).mp h
  obtain ⟨ms, u⟩ := a
  have e' : [WData.list (ns.map WData.int)] = [WData.list (ms.map WData.int)] := e
  have e2 : ns = ms := Ooo.ints_inj (by injection e' with e3 e4; injection e3)
  have := (OpenSpec.post_iff Ooo.said h1 (WData.list ((PySd48.answers ns).map WData.int)) []).mpr (by rw [e2]; rfl)
  rw [e]
  exact this
def PySem.W.Fast.tw10875398852960294230 : Nat := 0
def PySem.W.Fast.tw12252259056133545169 : Nat := 0
def PySem.W.Fast.tw18201542108758109819 : Nat := 0
def PySem.W.Fast.tw16205934146693404578 : Nat := 0
def PySem.W.Fast.tw12115449027083922808 : Nat := 0
def PySem.W.Fast.tw10409619535792392761 : Nat := 0
def PySem.W.Fast.tw7618259690385608374 : Nat := 0
def PySem.W.Fast.tw2460438528712216244 : Nat := 0
def PySem.W.Fast.tw12919252080122853640 : Nat := 0
def PySem.W.Fast.tw7400105651344412946 : Nat := 0
def PySem.W.Fast.tw15971844929043666973 : Nat := 0
def PySem.W.Fast.tw15537254048025280474 : Nat := 0
def PySem.W.Fast.tw15831610293782374646 : Nat := 0
def PySem.W.Fast.tw2069420743481495807 : Nat := 0
def PySem.W.Fast.tw13570865052356040576 : Nat := 0
def PySem.W.Fast.tw2453028236855367475 : Nat := 0
def PySem.W.Fast.tw11165898597077562389 : Nat := 0
def PySem.W.Fast.tw13917289266132679582 : Nat := 0
def PySem.W.Fast.tw7250305646679632646 : Nat := 0
def PySem.W.Fast.tw7336519012076339459 : Nat := 0
def PySem.W.Fast.tw5675828505297499756 : Nat := 0
def PySem.W.Fast.tw4487800080922774982 : Nat := 0
def PySem.W.Fast.tw4228788937046732094 : Nat := 0
def PySem.W.Fast.tw9953359327459859382 : Nat := 0
def PySem.W.Fast.tw5224141067324846599 : Nat := 0
def PySem.W.Fast.tw5961743612311913894 : Nat := 0
def PySem.W.Fast.tw3289784713418669730 : Nat := 0
def PySem.W.Fast.tw11726668638396403892 : Nat := 0
def PySem.W.Fast.tw7269348094993045961 : Nat := 0
def PySem.W.Fast.tw3399139556850904196 : Nat := 0
def PySem.W.Fast.tw5867631343307646502 : Nat := 0
def PySem.W.Fast.tw6573542570404477019 : Nat := 0
def PySem.W.Fast.tw10882687721517727095 : Nat := 0
def PySem.W.Fast.tw12179545730896743755 : Nat := 0
def PySem.W.Fast.tw6857330927894680981 : Nat := 0
def PySem.W.Fast.tw3455787521805927082 : Nat := 0
def PySem.W.Fast.tw14999204692846204230 : Nat := 0
def PySem.W.Fast.tw11556428724303478113 : Nat := 0
def PySem.W.Fast.tw17788329124360028445 : Nat := 0
def PySem.W.Fast.tw18368613767148569598 : Nat := 0
def PySem.W.Fast.tw11734857497513723150 : Nat := 0
def PySem.W.Fast.tw4489010922132853910 : Nat := 0
def PySem.W.Fast.tw11937292598735494697 : Nat := 0
def PySem.W.Fast.tw14685233389047265981 : Nat := 0
def PySem.W.Fast.tw6288711857848566330 : Nat := 0
def PySem.W.Fast.tw11270296972903464715 : Nat := 0
def PySem.W.Fast.tw5763534871123045276 : Nat := 0
def PySem.W.Fast.tw1615107435298356344 : Nat := 0
def PySem.W.Fast.tw18086813267231712479 : Nat := 0
def PySem.W.Fast.tw256838242945158438 : Nat := 0
def PySem.W.Fast.tw12117105710384258229 : Nat := 0
def PySem.W.Fast.tw2604124310813927304 : Nat := 0
def PySem.W.Fast.tw383928535847361674 : Nat := 0
def PySem.W.Fast.tw9755135264464844651 : Nat := 0
def PySem.W.Fast.tw754216649351771889 : Nat := 0
def PySem.W.Fast.tw10843471134601800724 : Nat := 0
def PySem.W.Fast.tw8285681414807432006 : Nat := 0
def PySem.W.Fast.tw2766538951199465819 : Nat := 0
def PySem.W.Fast.tw5692446165718940187 : Nat := 0
def PySem.W.Fast.tw2619038189014222992 : Nat := 0
def PySem.W.Fast.tw14825182252829564461 : Nat := 0
def PySem.W.Fast.tw2440061005282898310 : Nat := 0
def PySem.W.Fast.tw17048330841894725657 : Nat := 0
def PySem.W.Fast.tw8783113900387957427 : Nat := 0
def PySem.W.Fast.tw7369227728300063610 : Nat := 0
def PySem.W.Fast.tw13167097652476383501 : Nat := 0
def PySem.W.Fast.tw3095573099366889072 : Nat := 0
def PySem.W.Fast.tw2744205023206676029 : Nat := 0
def PySem.W.Fast.tw8518947525602954048 : Nat := 0
def PySem.W.Fast.tw4794980860631178801 : Nat := 0
def PySem.W.Fast.tw3075148360943163646 : Nat := 0
def PySem.W.Fast.tw13867433664510704611 : Nat := 0
def PySem.W.Fast.tw2090552518494381172 : Nat := 0
def PySem.W.Fast.tw3631702883144054106 : Nat := 0
def PySem.W.Fast.tw10523667267032204338 : Nat := 0
def PySem.W.Fast.tw8542967412265896138 : Nat := 0
def PySem.W.Fast.tw5150228451424225059 : Nat := 0
def PySem.W.Fast.tw17443798115489399746 : Nat := 0
def PySem.W.Fast.tw15371091703755155480 : Nat := 0
def PySem.W.Fast.tw4039336719288788320 : Nat := 0
def PySem.W.Fast.tw8785078195349177027 : Nat := 0
def PySem.W.Fast.tw13504076541316485992 : Nat := 0
def PySem.W.Fast.tw2615664785291297051 : Nat := 0
def PySem.W.Fast.tw2048938644096546571 : Nat := 0
def PySem.W.Fast.tw14694724116830490510 : Nat := 0
def PySem.W.Fast.tw9101909533829816678 : Nat := 0
def PySem.W.Fast.tw663769272709187431 : Nat := 0
def PySem.W.Fast.tw12783869086480027780 : Nat := 0
def PySem.W.Fast.tw13306501191181309015 : Nat := 0
def PySem.W.Fast.tw5112508887841940080 : Nat := 0
def PySem.W.Fast.tw10553331883931658416 : Nat := 0
def PySem.W.Fast.tw2379973141282614756 : Nat := 0
def PySem.W.Fast.tw2103638760134019028 : Nat := 0
def PySem.W.Fast.tw522732746334851142 : Nat := 0
def PySem.W.Fast.tw12555896312110478095 : Nat := 0
def PySem.W.Fast.tw8373718640127631918 : Nat := 0
def PySem.W.Fast.tw16750724550422230380 : Nat := 0
def PySem.W.Fast.tw10816349472313470446 : Nat := 0
def PySem.W.Fast.tw6369723696036462496 : Nat := 0
def PySem.W.Fast.tw1763698726063332761 : Nat := 0
def PySem.W.Fast.tw541720111460547921 : Nat := 0
def PySem.W.Fast.tw1482924738339518243 : Nat := 0
def PySem.W.Fast.tw2605361660667446797 : Nat := 0
def PySem.W.Fast.tw10922499971204455123 : Nat := 0
def PySem.W.Fast.tw14924969161076782246 : Nat := 0
def PySem.W.Fast.tw1462096606581473790 : Nat := 0
def PySem.W.Fast.tw11959686116478815392 : Nat := 0
def PySem.W.Fast.tw14480482264646404399 : Nat := 0
def PySem.W.Fast.tw2664504054513312082 : Nat := 0
def PySem.W.Fast.tw1818538844105300153 : Nat := 0
def PySem.W.Fast.tw15245853036872985080 : Nat := 0
def PySem.W.Fast.tw17416709079584622827 : Nat := 0
def PySem.W.Fast.tw12412015584574768192 : Nat := 0
def PySem.W.Fast.tw12481306538334313942 : Nat := 0
def PySem.W.Fast.tw1919640843036811962 : Nat := 0
def PySem.W.Fast.tw10703699268756278731 : Nat := 0
def PySem.W.Fast.tw6897699871263328243 : Nat := 0
def PySem.W.Fast.tw410448241945195091 : Nat := 0
def PySem.W.Fast.tw16134500014280391415 : Nat := 0
def PySem.W.Fast.tw17387296674556287298 : Nat := 0
def PySem.W.Fast.tw9766622112173181052 : Nat := 0
def PySem.W.Fast.tw17310167810831152558 : Nat := 0
def PySem.W.Fast.tw14614250335868063018 : Nat := 0
def PySem.W.Fast.tw16519693871891775019 : Nat := 0
def PySem.W.Fast.tw15902716708951400164 : Nat := 0
def PySem.W.Fast.tw9220144285231468073 : Nat := 0
def PySem.W.Fast.tw5246005513997477287 : Nat := 0
def PySem.W.Fast.tw17766928764187725926 : Nat := 0
def PySem.W.Fast.tw14014044891818783516 : Nat := 0
def PySem.W.Fast.tw15757479942791881824 : Nat := 0
def PySem.W.Fast.tw13078420430881715627 : Nat := 0
def PySem.W.Fast.tw17363474411587376389 : Nat := 0
def PySem.W.Fast.tw3543543403573232642 : Nat := 0
def PySem.W.Fast.tw2926618746034909668 : Nat := 0
def PySem.W.Fast.tw13320224657259344976 : Nat := 0
def PySem.W.Fast.tw1226431040179835404 : Nat := 0
def PySem.W.Fast.tw17633190673479909434 : Nat := 0
def PySem.W.Fast.tw17575056455056156053 : Nat := 0
def PySem.W.Fast.tw18269436375508094951 : Nat := 0
def PySem.W.Fast.tw2430157640214295465 : Nat := 0
def PySem.W.Fast.tw6593444894174931354 : Nat := 0
def PySem.W.Fast.tw766426449459475247 : Nat := 0
def PySem.W.Fast.tw13575429900800524476 : Nat := 0
def PySem.W.Fast.tw4525383088309843493 : Nat := 0
def PySem.W.Fast.tw16403026735323749432 : Nat := 0
def PySem.W.Fast.tw12966488750968932761 : Nat := 0
def PySem.W.Fast.tw8717011025484166926 : Nat := 0
def PySem.W.Fast.tw7433094090563322782 : Nat := 0
def PySem.W.Fast.tw8764643382462633577 : Nat := 0
def PySem.W.Fast.tw14961611384534224392 : Nat := 0
def PySem.W.Fast.tw11423909345809570804 : Nat := 0
def PySem.W.Fast.tw11744213836074294653 : Nat := 0
def PySem.W.Fast.tw12743321998185701319 : Nat := 0
def PySem.W.Fast.tw797848285080994413 : Nat := 0
def PySem.W.Fast.tw3255729940139183997 : Nat := 0
def PySem.W.Fast.tw4176362671555646199 : Nat := 0
def PySem.W.Fast.tw3463716557208346707 : Nat := 0
def PySem.W.Fast.tw349573696399314257 : Nat := 0
def PySem.W.Fast.tw11634485312493172351 : Nat := 0
def PySem.W.Fast.tw1250567850121038056 : Nat := 0
def PySem.W.Fast.tw12843046643367331914 : Nat := 0
def PySem.W.Fast.tw157144033168166766 : Nat := 0
def PySem.W.Fast.tw18398349099051807425 : Nat := 0
def PySem.W.Fast.tw15471266140425735617 : Nat := 0
def PySem.W.Fast.tw15830077822127336829 : Nat := 0
def PySem.W.Fast.tw6501604399103455319 : Nat := 0
def PySem.W.Fast.tw2656591981003341587 : Nat := 0
def PySem.W.Fast.tw3688038743845482617 : Nat := 0
def PySem.W.Fast.tw726020011187301044 : Nat := 0
def PySem.W.Fast.tw1286198689363170873 : Nat := 0
def PySem.W.Fast.tw3318861891982399898 : Nat := 0
def PySem.W.Fast.tw12693479610691376410 : Nat := 0
def PySem.W.Fast.tw13177997016497144717 : Nat := 0
def PySem.W.Fast.tw7026455598167892236 : Nat := 0
def PySem.W.Fast.tw13595200747808324491 : Nat := 0
def PySem.W.Fast.tw15247200339592513663 : Nat := 0
def PySem.W.Fast.tw2043304723346924219 : Nat := 0
def PySem.W.Fast.tw7117907488321137954 : Nat := 0
def PySem.W.Fast.tw10234099376888677189 : Nat := 0
def PySem.W.Fast.tw8864269579419863691 : Nat := 0
def PySem.W.Fast.tw13070710399463200573 : Nat := 0
def PySem.W.Fast.tw11202417881036801299 : Nat := 0
def PySem.W.Fast.tw17742856614897620595 : Nat := 0
def PySem.W.Fast.tw4109714359990572924 : Nat := 0
def PySem.W.Fast.tw7960062776989778685 : Nat := 0
def PySem.W.Fast.tw10640976500263161468 : Nat := 0
def PySem.W.Fast.tw12274164703455493385 : Nat := 0
def PySem.W.Fast.tw11041910985038783821 : Nat := 0
def PySem.W.Fast.tw9487058101071663794 : Nat := 0
def PySem.W.Fast.tw3360702504599752131 : Nat := 0
def PySem.W.Fast.tw5863716984787006776 : Nat := 0
def PySem.W.Fast.tw16934335497795980524 : Nat := 0
def PySem.W.Fast.tw360855381421025385 : Nat := 0
def PySem.W.Fast.tw14617595530932162525 : Nat := 0
def PySem.W.Fast.tw6801974250677951001 : Nat := 0
def PySem.W.Fast.tw5095266724574213437 : Nat := 0
def PySem.W.Fast.tw9969566024637881981 : Nat := 0
def PySem.W.Fast.tw13679563033536278156 : Nat := 0
def PySem.W.Fast.tw12070110053443186242 : Nat := 0
def PySem.W.Fast.tw3769506847499333780 : Nat := 0
def PySem.W.Fast.tw12500151554940455334 : Nat := 0
def PySem.W.Fast.tw4145933498729779131 : Nat := 0
def PySem.W.Fast.tw9301832122213113474 : Nat := 0
def PySem.W.Fast.tw16689705564470209354 : Nat := 0
def PySem.W.Fast.tw4416532836466872209 : Nat := 0
def PySem.W.Fast.tw14751061709135195277 : Nat := 0
def PySem.W.Fast.tw5097346258102582322 : Nat := 0
def PySem.W.Fast.tw12394840496313676882 : Nat := 0
def PySem.W.Fast.tw9717803774066179761 : Nat := 0
def PySem.W.Fast.tw8658625222574798561 : Nat := 0
def PySem.W.Fast.tw11455489895504431459 : Nat := 0
def PySem.W.Fast.tw9111525242186533690 : Nat := 0
def PySem.W.Fast.tw3988718844164827506 : Nat := 0
def PySem.W.Fast.tw14073839972907436223 : Nat := 0
def PySem.W.Fast.tw12169079735357487785 : Nat := 0
def PySem.W.Fast.tw2690946242175141866 : Nat := 0
def PySem.W.Fast.tw16221565480096982986 : Nat := 0
def PySem.W.Fast.tw1718869736345894623 : Nat := 0
def PySem.W.Fast.tw9074466842853030153 : Nat := 0
def PySem.W.Fast.tw4893102087856172435 : Nat := 0
def PySem.W.Fast.tw13297459268613408568 : Nat := 0
def PySem.W.Fast.tw4187222934669941648 : Nat := 0
def PySem.W.Fast.tw1916609699475999543 : Nat := 0
def PySem.W.Fast.tw289228499962988072 : Nat := 0
def PySem.W.Fast.tw12894500846241156139 : Nat := 0
def PySem.W.Fast.tw12260091128581420563 : Nat := 0
def PySem.W.Fast.tw10585246100488477192 : Nat := 0
def PySem.W.Fast.tw17352730961908674275 : Nat := 0
def PySem.W.Fast.tw17840097362991469637 : Nat := 0
def PySem.W.Fast.tw2432732225843463629 : Nat := 0
def PySem.W.Fast.tw14026998852384919025 : Nat := 0
def PySem.W.Fast.tw12029805805706062678 : Nat := 0
def PySem.W.Fast.tw14708713183996944529 : Nat := 0
def PySem.W.Fast.tw8427630259070476276 : Nat := 0
def PySem.W.Fast.tw575053649125657085 : Nat := 0
def PySem.W.Fast.tw12997155044071581856 : Nat := 0
def PySem.W.Fast.tw11083918042859867259 : Nat := 0
def PySem.W.Fast.tw3250419345741316887 : Nat := 0
def PySem.W.Fast.tw13642296259122500656 : Nat := 0
def PySem.W.Fast.tw565431769533511359 : Nat := 0
def PySem.W.Fast.tw8785828685976754072 : Nat := 0
def PySem.W.Fast.tw8082382243648917236 : Nat := 0
def PySem.W.Fast.tw17836013623737681261 : Nat := 0
def PySem.W.Fast.tw2266274571994474875 : Nat := 0
def PySem.W.Fast.tw504439539776861532 : Nat := 0
def PySem.W.Fast.tw10623935260293407839 : Nat := 0
def PySem.W.Fast.tw11329843343322550102 : Nat := 0
def PySem.W.Fast.tw7656657420649655370 : Nat := 0
def PySem.W.Fast.tw5189951849954169590 : Nat := 0
def PySem.W.Fast.tw13161428541612444597 : Nat := 0
def PySem.W.Fast.tw8440041602521825511 : Nat := 0
def PySem.W.Fast.tw11839037879143793990 : Nat := 0
def PySem.W.Fast.tw11444449623449276782 : Nat := 0
def PySem.W.Fast.tw4381799228630323575 : Nat := 0
def PySem.W.Fast.tw4436519034969872268 : Nat := 0
def PySem.W.Fast.tw3648327070035466354 : Nat := 0
def PySem.W.Fast.tw3717686367819678492 : Nat := 0
def PySem.W.Fast.tw15481367717227520523 : Nat := 0
def PySem.W.Fast.tw5122506477318725178 : Nat := 0
def PySem.W.Fast.tw13042028553598512144 : Nat := 0
def PySem.W.Fast.tw4509653776721638410 : Nat := 0
def PySem.W.Fast.tw17730714070032457144 : Nat := 0
def PySem.W.Fast.tw16412199926184949705 : Nat := 0
def PySem.W.Fast.tw8678765701853989802 : Nat := 0
def PySem.W.Fast.tw1849065607963186264 : Nat := 0
def PySem.W.Fast.tw1500187032005061775 : Nat := 0
def PySem.W.Fast.tw1089237194068808632 : Nat := 0
def PySem.W.Fast.tw6215264468200067797 : Nat := 0
def PySem.W.Fast.tw961149962813298469 : Nat := 0
def PySem.W.Fast.tw3518782400211287287 : Nat := 0
def PySem.W.Fast.tw3552800044609053467 : Nat := 0
def PySem.W.Fast.tw14392380969018728247 : Nat := 0
def PySem.W.Fast.tw1226860920223815030 : Nat := 0
def PySem.W.Fast.tw4564699950676751072 : Nat := 0
def PySem.W.Fast.tw5431296434274971293 : Nat := 0
def PySem.W.Fast.tw5953179530723794023 : Nat := 0
def PySem.W.Fast.tw14129146813214107223 : Nat := 0
def PySem.W.Fast.tw16205697854797309270 : Nat := 0
def PySem.W.Fast.tw15056865692507969368 : Nat := 0
def PySem.W.Fast.tw2691507295184663377 : Nat := 0
def PySem.W.Fast.tw4596634905987153409 : Nat := 0
def PySem.W.Fast.tw17545944352193036823 : Nat := 0
def PySem.W.Fast.tw18128028724190388764 : Nat := 0
def PySem.W.Fast.tw10362699572564974950 : Nat := 0
def PySem.W.Fast.tw8493366567673998043 : Nat := 0
def PySem.W.Fast.tw5588318353118637357 : Nat := 0
def PySem.W.Fast.tw584645966515511411 : Nat := 0
def PySem.W.Fast.tw16730107616789003147 : Nat := 0
def PySem.W.Fast.tw5684874934655928196 : Nat := 0
def PySem.W.Fast.tw12896611023304220799 : Nat := 0
def PySem.W.Fast.tw5880157194921636515 : Nat := 0
def PySem.W.Fast.tw4216499720980322419 : Nat := 0
def PySem.W.Fast.tw4433781710010667702 : Nat := 0
def PySem.W.Fast.tw5290341602787242875 : Nat := 0
def PySem.W.Fast.tw15094706822097940908 : Nat := 0
def PySem.W.Fast.tw18181981656710070647 : Nat := 0
def PySem.W.Fast.tw16027785096043544931 : Nat := 0
def PySem.W.Fast.tw2191035671379163578 : Nat := 0
def PySem.W.Fast.tw3067973994076683913 : Nat := 0
def PySem.W.Fast.tw17803986486458637935 : Nat := 0
def PySem.W.Fast.tw9019926011314523065 : Nat := 0
def PySem.W.Fast.tw10083325204865561321 : Nat := 0
def PySem.W.Fast.tw5975286437678977337 : Nat := 0
def PySem.W.Fast.tw12426995810336296512 : Nat := 0
def PySem.W.Fast.tw10106985659856354255 : Nat := 0
def PySem.W.Fast.tw18193827852270122713 : Nat := 0
def PySem.W.Fast.tw15672818918580777090 : Nat := 0
def PySem.W.Fast.tw7917534246475040545 : Nat := 0
def PySem.W.Fast.tw7916510891678489162 : Nat := 0
def PySem.W.Fast.tw4250258266372724056 : Nat := 0
def PySem.W.Fast.tw1823690932195644162 : Nat := 0
def PySem.W.Fast.tw17174038620533564988 : Nat := 0
def PySem.W.Fast.tw15681222415064845059 : Nat := 0
def PySem.W.Fast.tw16347821420819904934 : Nat := 0
def PySem.W.Fast.tw2135405691988096280 : Nat := 0
def PySem.W.Fast.tw18418661295387310868 : Nat := 0
def PySem.W.Fast.tw8832116402890184452 : Nat := 0
def PySem.W.Fast.tw2564553132458406902 : Nat := 0
def PySem.W.Fast.tw9990500525120252990 : Nat := 0
def PySem.W.Fast.tw15010625507332935872 : Nat := 0
def PySem.W.Fast.tw8342194528011695604 : Nat := 0
def PySem.W.Fast.tw9630523959030622509 : Nat := 0
def PySem.W.Fast.tw13275449231880892270 : Nat := 0
def PySem.W.Fast.tw14118220561562542165 : Nat := 0
def PySem.W.Fast.tw15341391513128036080 : Nat := 0
def PySem.W.Fast.tw15504612110503143707 : Nat := 0
def PySem.W.Fast.tw10020636521149872033 : Nat := 0
def PySem.W.Fast.tw13202724074761781487 : Nat := 0
def PySem.W.Fast.tw39982612674836456 : Nat := 0
def PySem.W.Fast.tw8200595970310134355 : Nat := 0
def PySem.W.Fast.tw8214243238637569274 : Nat := 0
def PySem.W.Fast.tw8374686647718464267 : Nat := 0
def PySem.W.Fast.tw5340853147000473763 : Nat := 0
def PySem.W.Fast.tw8391886383962486807 : Nat := 0
def PySem.W.Fast.tw4924331299426439890 : Nat := 0
def PySem.W.Fast.tw9388417044414209155 : Nat := 0
def PySem.W.Fast.tw17660599134617363307 : Nat := 0
def PySem.W.Fast.tw5623745865278205430 : Nat := 0
def PySem.W.Fast.tw2635699317794558473 : Nat := 0
def PySem.W.Fast.tw15344492442737499883 : Nat := 0
def PySem.W.Fast.tw4981394733583827380 : Nat := 0
def PySem.W.Fast.tw5560223446510326443 : Nat := 0
def PySem.W.Fast.tw7435737981464339098 : Nat := 0
def PySem.W.Fast.tw9269434004127750357 : Nat := 0
def PySem.W.Fast.tw8651459364653914635 : Nat := 0
def PySem.W.Fast.tw7033455633650215190 : Nat := 0
def PySem.W.Fast.tw3700921658127956551 : Nat := 0
def PySem.W.Fast.tw17767022328981263683 : Nat := 0
def PySem.W.Fast.tw83091816749418488 : Nat := 0
def PySem.W.Fast.tw17600925128626845397 : Nat := 0
def PySem.W.Fast.tw9405275043059533700 : Nat := 0
def PySem.W.Fast.tw12374553296758284983 : Nat := 0
def PySem.W.Fast.tw8662999764122157518 : Nat := 0
def PySem.W.Fast.tw1902230188124421858 : Nat := 0
def PySem.W.Fast.tw1758898991638886992 : Nat := 0
def PySem.W.Fast.tw3031790923255622063 : Nat := 0
def PySem.W.Fast.tw10282296822884062962 : Nat := 0
def PySem.W.Fast.tw4733583793249411230 : Nat := 0
def PySem.W.Fast.tw16423406385586745596 : Nat := 0
def PySem.W.Fast.tw17569643270693393268 : Nat := 0
def PySem.W.Fast.tw6674487182780823058 : Nat := 0
def PySem.W.Fast.tw16979087666337179627 : Nat := 0
def PySem.W.Fast.tw17418719744866622397 : Nat := 0
def PySem.W.Fast.tw11599011992023539169 : Nat := 0
def PySem.W.Fast.tw4216972645226239991 : Nat := 0
def PySem.W.Fast.tw10778585036631014542 : Nat := 0
def PySem.W.Fast.tw18081912003325682130 : Nat := 0
def PySem.W.Fast.tw12814550136892823061 : Nat := 0
def PySem.W.Fast.tw8246080196830969363 : Nat := 0
def PySem.W.Fast.tw2257585534449076195 : Nat := 0
def PySem.W.Fast.tw3030853989480153403 : Nat := 0
def PySem.W.Fast.tw15970836879162831869 : Nat := 0
def PySem.W.Fast.tw9098325087212099650 : Nat := 0
def PySem.W.Fast.tw13940888274694447690 : Nat := 0
def PySem.W.Fast.tw18030533961260420531 : Nat := 0
def PySem.W.Fast.tw5831026417059335378 : Nat := 0
def PySem.W.Fast.tw528303176351187057 : Nat := 0
def PySem.W.Fast.tw8121898006504755576 : Nat := 0
def PySem.W.Fast.tw16294938759186696053 : Nat := 0
def PySem.W.Fast.tw15504728196340378310 : Nat := 0
def PySem.W.Fast.tw10941672241016775485 : Nat := 0
def PySem.W.Fast.tw565696415969407876 : Nat := 0
def PySem.W.Fast.tw8517743565536548267 : Nat := 0
def PySem.W.Fast.tw6430934961549490125 : Nat := 0
def PySem.W.Fast.tw15950208192996792813 : Nat := 0
def PySem.W.Fast.tw5188814363907656308 : Nat := 0
def PySem.W.Fast.tw5773603703088020809 : Nat := 0
def PySem.W.Fast.tw14218918956569944670 : Nat := 0
def PySem.W.Fast.tw16672157260876507727 : Nat := 0
def PySem.W.Fast.tw16127165976507132263 : Nat := 0
def PySem.W.Fast.tw2508186910722484762 : Nat := 0
def PySem.W.Fast.tw671217533713389780 : Nat := 0
def PySem.W.Fast.tw2741560758570360991 : Nat := 0
def PySem.W.Fast.tw3915906023265041067 : Nat := 0
def PySem.W.Fast.tw2675319272659316890 : Nat := 0
def PySem.W.Fast.tw639423113925086082 : Nat := 0
def PySem.W.Fast.tw6290663838011580815 : Nat := 0
def PySem.W.Fast.tw2003783486224143560 : Nat := 0
def PySem.W.Fast.tw4976218436899624570 : Nat := 0
def PySem.W.Fast.tw3842412704746332269 : Nat := 0
def PySem.W.Fast.tw16390017493070049514 : Nat := 0
def PySem.W.Fast.tw15689302845545593401 : Nat := 0
def PySem.W.Fast.tw792736489394457878 : Nat := 0
def PySem.W.Fast.tw1179203782758530870 : Nat := 0
def PySem.W.Fast.tw488743791912148210 : Nat := 0
def PySem.W.Fast.tw3972555787223529162 : Nat := 0
def PySem.W.Fast.tw7239959541149175447 : Nat := 0
def PySem.W.Fast.tw1629183564096452331 : Nat := 0
def PySem.W.Fast.tw12900393536629709752 : Nat := 0
def PySem.W.Fast.tw12349128357048229816 : Nat := 0
def PySem.W.Fast.tw16151045115791133784 : Nat := 0
def PySem.W.Fast.tw10243893818414933536 : Nat := 0
def PySem.W.Fast.tw9656924949142234505 : Nat := 0
def PySem.W.Fast.tw4465033019014777902 : Nat := 0
def PySem.W.Fast.tw2505214027939586507 : Nat := 0
def PySem.W.Fast.tw15006301969211259165 : Nat := 0
def PySem.W.Fast.tw11648548359635963644 : Nat := 0
def PySem.W.Fast.tw9419170327722573071 : Nat := 0
def PySem.W.Fast.tw555894794452656762 : Nat := 0
def PySem.W.Fast.tw5840447848880230178 : Nat := 0
def PySem.W.Fast.tw4890441677609869047 : Nat := 0
def PySem.W.Fast.tw12254872960979794885 : Nat := 0
def PySem.W.Fast.tw5123929064942474628 : Nat := 0
def PySem.W.Fast.tw10706516622721485060 : Nat := 0
def PySem.W.Fast.tw16706105529789601395 : Nat := 0
def PySem.W.Fast.tw5847648982436607701 : Nat := 0
def PySem.W.Fast.tw13836563660592836541 : Nat := 0
def PySem.W.Fast.tw5443040408026517359 : Nat := 0
def PySem.W.Fast.tw14659125308022390827 : Nat := 0
def PySem.W.Fast.tw8626453417756813733 : Nat := 0
def PySem.W.Fast.tw2017263033179981334 : Nat := 0
def PySem.W.Fast.tw16858389537530128946 : Nat := 0
def PySem.W.Fast.tw8304453688179309774 : Nat := 0
def PySem.W.Fast.tw12923064040424202757 : Nat := 0
def PySem.W.Fast.tw2838679334704255409 : Nat := 0
def PySem.W.Fast.tw13999826526345728216 : Nat := 0
def PySem.W.Fast.tw15026689277695914815 : Nat := 0
def PySem.W.Fast.tw17580296856591580412 : Nat := 0
def PySem.W.Fast.tw10707528956554842314 : Nat := 0
def PySem.W.Fast.tw13968934339287342428 : Nat := 0
def PySem.W.Fast.tw16675036596454862283 : Nat := 0
def PySem.W.Fast.tw12371836037384687102 : Nat := 0
def PySem.W.Fast.tw4569236035279906898 : Nat := 0
def PySem.W.Fast.tw7343962798614789893 : Nat := 0
def PySem.W.Fast.tw10988669721791682345 : Nat := 0
def PySem.W.Fast.tw16070168367312389093 : Nat := 0
set_option maxRecDepth 100000 in
set_option maxHeartbeats 0 in
theorem PySem.Challenge.cw_outoforder_s01_answers_holds : PySem.Challenge.rw_outoforder_s01_answers.Holds := by
  w_on; k_headS; (case hw => exact ⟨[.list [.int 0, .int 0, .int 0, .int 9, .int 0, .int 0, .int 0, .int 0, .int 0, .int 0, .int 0, .int 0, .int 0]], by decide +kernel, by decide +kernel⟩)
  k_fillS
  refine Osp.walk (k := 21) (x := "calls") (out := PySd48.answers) (ok := fun ns => PySd48.answers_asked ns = true) rfl Ooo.said (by decide) rfl ⟨rfl, by decide, by decide⟩ (fun w h Y => PySem.W.kIn_of Y) ?F (fun ns h => Ooo.read h) (fun ns h => Ooo.told h) (sp := fun w => Ooo.sp_ans _) (fun w H a ns hl hit hok hO hS => ⟨a, ns, rfl, hS, hok, fun H' l hl => ⟨l, rfl, hl⟩⟩)
  case F =>
    intro w mg fa h KX G hmg
    refine' Exists.elim (Ooo.txt_mk KX G ?aC_Instruction ?aC_Slot ?aC_Machine ?aC_Reader ?a_wrapped ?l_wrapped ?c_wrapped ?k_wrapped ?a_signed ?l_signed ?c_signed ?k_signed ?a_calculated ?l_calculated ?c_calculated ?k_calculated ?a_jumps ?l_jumps ?c_jumps ?k_jumps ?a_signed_half ?l_signed_half ?c_signed_half ?k_signed_half ?a_sure_stop ?l_sure_stop ?c_sure_stop ?k_sure_stop ?a_first_read ?l_first_read ?c_first_read ?k_first_read ?a_second_read ?l_second_read ?c_second_read ?k_second_read ?a_written ?l_written ?c_written ?k_written ?a_Instruction_init ?i_Instruction_init ?l_Instruction_init ?c_Instruction_init ?k_Instruction_init ?a_behind_program ?l_behind_program ?c_behind_program ?k_behind_program ?a_Slot_init ?i_Slot_init ?l_Slot_init ?c_Slot_init ?k_Slot_init ?a_Slot_pass_on ?i_Slot_pass_on ?l_Slot_pass_on ?c_Slot_pass_on ?k_Slot_pass_on ?a_Machine_init ?i_Machine_init ?l_Machine_init ?c_Machine_init ?k_Machine_init ?a_Machine_fetch_from ?i_Machine_fetch_from ?l_Machine_fetch_from ?c_Machine_fetch_from ?k_Machine_fetch_from ?a_Machine_next_to_leave ?i_Machine_next_to_leave ?l_Machine_next_to_leave ?c_Machine_next_to_leave ?k_Machine_next_to_leave ?a_Machine_run_cycles ?i_Machine_run_cycles ?l_Machine_run_cycles ?c_Machine_run_cycles ?k_Machine_run_cycles ?a_Machine_run_cycle ?i_Machine_run_cycle ?l_Machine_run_cycle ?c_Machine_run_cycle ?k_Machine_run_cycle ?a_Machine_let_leave ?i_Machine_let_leave ?l_Machine_let_leave ?c_Machine_let_leave ?k_Machine_let_leave ?a_Machine_throw_away ?i_Machine_throw_away ?l_Machine_throw_away ?c_Machine_throw_away ?k_Machine_throw_away ?a_Machine_keep_result ?i_Machine_keep_result ?l_Machine_keep_result ?c_Machine_keep_result ?k_Machine_keep_result ?a_Machine_count_branch ?i_Machine_count_branch ?l_Machine_count_branch ?c_Machine_count_branch ?k_Machine_count_branch ?a_Machine_let_run_on ?i_Machine_let_run_on ?l_Machine_let_run_on ?c_Machine_let_run_on ?k_Machine_let_run_on ?a_Machine_let_begin ?i_Machine_let_begin ?l_Machine_let_begin ?c_Machine_let_begin ?k_Machine_let_begin ?a_Machine_begin_slot ?i_Machine_begin_slot ?l_Machine_begin_slot ?c_Machine_begin_slot ?k_Machine_begin_slot ?a_Machine_work_out ?i_Machine_work_out ?l_Machine_work_out ?c_Machine_work_out ?k_Machine_work_out ?a_Machine_work_out_cell ?i_Machine_work_out_cell ?l_Machine_work_out_cell ?c_Machine_work_out_cell ?k_Machine_work_out_cell ?a_Machine_loaded ?i_Machine_loaded ?l_Machine_loaded ?c_Machine_loaded ?k_Machine_loaded ?a_Machine_fetch ?i_Machine_fetch ?l_Machine_fetch ?c_Machine_fetch ?k_Machine_fetch ?a_Machine_fetching_ended ?i_Machine_fetching_ended ?l_Machine_fetching_ended ?c_Machine_fetching_ended ?k_Machine_fetching_ended ?a_Machine_fetch_one ?i_Machine_fetch_one ?l_Machine_fetch_one ?c_Machine_fetch_one ?k_Machine_fetch_one ?a_Machine_take_operand ?i_Machine_take_operand ?l_Machine_take_operand ?c_Machine_take_operand ?k_Machine_take_operand ?a_Machine_guessed ?i_Machine_guessed ?l_Machine_guessed ?c_Machine_guessed ?k_Machine_guessed ?a_Machine_guesses_jump ?i_Machine_guesses_jump ?l_Machine_guesses_jump ?c_Machine_guesses_jump ?k_Machine_guesses_jump ?a_Reader_init ?i_Reader_init ?l_Reader_init ?c_Reader_init ?k_Reader_init ?a_Reader_at_end ?i_Reader_at_end ?l_Reader_at_end ?c_Reader_at_end ?k_Reader_at_end ?a_Reader_take_number ?i_Reader_take_number ?l_Reader_take_number ?c_Reader_take_number ?k_Reader_take_number ?a_Reader_take_row ?i_Reader_take_row ?l_Reader_take_row ?c_Reader_take_row ?k_Reader_take_row ?a_is_as_told ?l_is_as_told ?c_is_as_told ?k_is_as_told ?a_run_answer ?l_run_answer ?c_run_answer ?k_run_answer ?a_cells_answer ?l_cells_answer ?c_cells_answer ?k_cells_answer ?a_told_answer ?l_told_answer ?c_told_answer ?k_told_answer ?a_slot_answer ?l_slot_answer ?c_slot_answer ?k_slot_answer ?a_call_answer ?l_call_answer ?c_call_answer ?k_call_answer ?a_answers ?l_answers ?c_answers ?k_answers ?pg_Instruction ?hd_Instruction ?po_Instruction ?sa_Instruction ?mk_Instruction ?kc_Instruction ?n_Instruction_place ?n_Instruction_word ?n_Instruction_op ?n_Instruction_imm ?n_Instruction_first ?n_Instruction_second ?n_Instruction_written ?n_Instruction_following ?n_Instruction_target ?n_Instruction_branches ?n_Instruction_unit ?n_Instruction_cycles ?n_Instruction_sure_stop ?pg_Slot ?hd_Slot ?po_Slot ?sa_Slot ?mk_Slot ?kc_Slot ?n_Slot_instruction ?n_Slot_guess ?n_Slot_op ?n_Slot_unit ?n_Slot_stop ?n_Slot_state ?n_Slot_goes_on ?n_Slot_cycles_left ?n_Slot_value ?n_Slot_cell ?n_Slot_operands ?n_Slot_missing ?n_Slot_readers ?pg_Machine ?hd_Machine ?po_Machine ?sa_Machine ?mk_Machine ?kc_Machine ?n_Machine_prog ?n_Machine_cells ?n_Machine_regs ?n_Machine_most_fetched ?n_Machine_most_leaving ?n_Machine_most_passed_on ?n_Machine_most_slots ?n_Machine_units ?n_Machine_counters ?n_Machine_stopped ?n_Machine_cycles_run ?n_Machine_have_left ?n_Machine_thrown_away ?n_Machine_wrong_guesses ?n_Machine_slots ?n_Machine_setters ?n_Machine_free_units ?n_Machine_fetch_place ?pg_Reader ?hd_Reader ?po_Reader ?sa_Reader ?mk_Reader ?kc_Reader ?n_Reader_numbers ?n_Reader_at ?v_DIVIDE ?v_ADD_IMM ?v_HIGH_IMM ?v_LOAD ?v_STORE ?v_LINK ?v_JUMP_TO_VALUE ?v_STOPPED_BY_WORD ?v_STOPPED_BY_ZERO ?v_STOPPED_BY_CELL ?v_STOPPED_BY_OP ?v_STOPPED_BEHIND ?v_WAITS ?v_RUNS ?v_HAS_RUN ?v_DONE ?v_CELLS ?v_NO_PLACE ?v_BEGIN_REFUSED ?v_OUT_OF_RANGE ?v_NO_SUCH_SLOT ?v_MOST_CYCLES ?v_LAST_SLOT ?v_RUN ?v_REGS ?v_TELL_CELLS ?v_TOLD ?v_SLOT ?g_UNITS ?g_CYCLES ?g_CFG_RANGES ?l_UNITS ?e_UNITS ?s_UNITS ?l_CYCLES ?e_CYCLES ?s_CYCLES ?l_CFG_RANGES ?l_CFG_RANGES_0 ?l_CFG_RANGES_1 ?l_CFG_RANGES_2 ?l_CFG_RANGES_3 ?l_CFG_RANGES_4 ?l_CFG_RANGES_5 ?l_CFG_RANGES_6 ?l_CFG_RANGES_7 ?l_CFG_RANGES_8 ?z_enumerate ?z_len ?z_list ?z_max ?z_min ?z_reversed ?z_zip) (fun A T => Ooo.from_txt T.1 hmg)
    (case aC_Instruction => k_is)
    (case aC_Slot => k_is)
    (case aC_Machine => k_is)
    (case aC_Reader => k_is)
    (case a_wrapped => k_is)
    (case l_wrapped => k_is)
    (case c_wrapped => k_is)
    (case k_wrapped => k_is)
    (case a_signed => k_is)
    (case l_signed => k_is)
    (case c_signed => k_is)
    (case k_signed => k_is)
    (case a_calculated => k_is)
    (case l_calculated => k_is)
    (case c_calculated => k_is)
    (case k_calculated => k_is)
    (case a_jumps => k_is)
    (case l_jumps => k_is)
    (case c_jumps => k_is)
    (case k_jumps => k_is)
    (case a_signed_half => k_is)
    (case l_signed_half => k_is)
    (case c_signed_half => k_is)
    (case k_signed_half => k_is)
    (case a_sure_stop => k_is)
    (case l_sure_stop => k_is)
    (case c_sure_stop => k_is)
    (case k_sure_stop => k_is)
    (case a_first_read => k_is)
    (case l_first_read => k_is)
    (case c_first_read => k_is)
    (case k_first_read => k_is)
    (case a_second_read => k_is)
    (case l_second_read => k_is)
    (case c_second_read => k_is)
    (case k_second_read => k_is)
    (case a_written => k_is)
    (case l_written => k_is)
    (case c_written => k_is)
    (case k_written => k_is)
    (case a_Instruction_init => k_is)
    (case i_Instruction_init => k_is)
    (case l_Instruction_init => k_is)
    (case c_Instruction_init => k_is)
    (case k_Instruction_init => k_is)
    (case a_behind_program => k_is)
    (case l_behind_program => k_is)
    (case c_behind_program => k_is)
    (case k_behind_program => k_is)
    (case a_Slot_init => k_is)
    (case i_Slot_init => k_is)
    (case l_Slot_init => k_is)
    (case c_Slot_init => k_is)
    (case k_Slot_init => k_is)
    (case a_Slot_pass_on => k_is)
    (case i_Slot_pass_on => k_is)
    (case l_Slot_pass_on => k_is)
    (case c_Slot_pass_on => k_is)
    (case k_Slot_pass_on => k_is)
    (case a_Machine_init => k_is)
    (case i_Machine_init => k_is)
    (case l_Machine_init => k_is)
    (case c_Machine_init => k_is)
    (case k_Machine_init => k_is)
    (case a_Machine_fetch_from => k_is)
    (case i_Machine_fetch_from => k_is)
    (case l_Machine_fetch_from => k_is)
    (case c_Machine_fetch_from => k_is)
    (case k_Machine_fetch_from => k_is)
    (case a_Machine_next_to_leave => k_is)
    (case i_Machine_next_to_leave => k_is)
    (case l_Machine_next_to_leave => k_is)
    (case c_Machine_next_to_leave => k_is)
    (case k_Machine_next_to_leave => k_is)
    (case a_Machine_run_cycles => k_is)
    (case i_Machine_run_cycles => k_is)
    (case l_Machine_run_cycles => k_is)
    (case c_Machine_run_cycles => k_is)
    (case k_Machine_run_cycles => k_is)
    (case a_Machine_run_cycle => k_is)
    (case i_Machine_run_cycle => k_is)
    (case l_Machine_run_cycle => k_is)
    (case c_Machine_run_cycle => k_is)
    (case k_Machine_run_cycle => k_is)
    (case a_Machine_let_leave => k_is)
    (case i_Machine_let_leave => k_is)
    (case l_Machine_let_leave => k_is)
    (case c_Machine_let_leave => k_is)
    (case k_Machine_let_leave => k_is)
    (case a_Machine_throw_away => k_is)
    (case i_Machine_throw_away => k_is)
    (case l_Machine_throw_away => k_is)
    (case c_Machine_throw_away => k_is)
    (case k_Machine_throw_away => k_is)
    (case a_Machine_keep_result => k_is)
    (case i_Machine_keep_result => k_is)
    (case l_Machine_keep_result => k_is)
    (case c_Machine_keep_result => k_is)
    (case k_Machine_keep_result => k_is)
    (case a_Machine_count_branch => k_is)
    (case i_Machine_count_branch => k_is)
    (case l_Machine_count_branch => k_is)
    (case c_Machine_count_branch => k_is)
    (case k_Machine_count_branch => k_is)
    (case a_Machine_let_run_on => k_is)
    (case i_Machine_let_run_on => k_is)
    (case l_Machine_let_run_on => k_is)
    (case c_Machine_let_run_on => k_is)
    (case k_Machine_let_run_on => k_is)
    (case a_Machine_let_begin => k_is)
    (case i_Machine_let_begin => k_is)
    (case l_Machine_let_begin => k_is)
    (case c_Machine_let_begin => k_is)
    (case k_Machine_let_begin => k_is)
    (case a_Machine_begin_slot => k_is)
    (case i_Machine_begin_slot => k_is)
    (case l_Machine_begin_slot => k_is)
    (case c_Machine_begin_slot => k_is)
    (case k_Machine_begin_slot => k_is)
    (case a_Machine_work_out => k_is)
    (case i_Machine_work_out => k_is)
    (case l_Machine_work_out => k_is)
    (case c_Machine_work_out => k_is)
    (case k_Machine_work_out => k_is)
    (case a_Machine_work_out_cell => k_is)
    (case i_Machine_work_out_cell => k_is)
    (case l_Machine_work_out_cell => k_is)
    (case c_Machine_work_out_cell => k_is)
    (case k_Machine_work_out_cell => k_is)
    (case a_Machine_loaded => k_is)
    (case i_Machine_loaded => k_is)
    (case l_Machine_loaded => k_is)
    (case c_Machine_loaded => k_is)
    (case k_Machine_loaded => k_is)
    (case a_Machine_fetch => k_is)
    (case i_Machine_fetch => k_is)
    (case l_Machine_fetch => k_is)
    (case c_Machine_fetch => k_is)
    (case k_Machine_fetch => k_is)
    (case a_Machine_fetching_ended => k_is)
    (case i_Machine_fetching_ended => k_is)
    (case l_Machine_fetching_ended => k_is)
    (case c_Machine_fetching_ended => k_is)
    (case k_Machine_fetching_ended => k_is)
    (case a_Machine_fetch_one => k_is)
    (case i_Machine_fetch_one => k_is)
    (case l_Machine_fetch_one => k_is)
    (case c_Machine_fetch_one => k_is)
    (case k_Machine_fetch_one => k_is)
    (case a_Machine_take_operand => k_is)
    (case i_Machine_take_operand => k_is)
    (case l_Machine_take_operand => k_is)
    (case c_Machine_take_operand => k_is)
    (case k_Machine_take_operand => k_is)
    (case a_Machine_guessed => k_is)
    (case i_Machine_guessed => k_is)
    (case l_Machine_guessed => k_is)
    (case c_Machine_guessed => k_is)
    (case k_Machine_guessed => k_is)
    (case a_Machine_guesses_jump => k_is)
    (case i_Machine_guesses_jump => k_is)
    (case l_Machine_guesses_jump => k_is)
    (case c_Machine_guesses_jump => k_is)
    (case k_Machine_guesses_jump => k_is)
    (case a_Reader_init => k_is)
    (case i_Reader_init => k_is)
    (case l_Reader_init => k_is)
    (case c_Reader_init => k_is)
    (case k_Reader_init => k_is)
    (case a_Reader_at_end => k_is)
    (case i_Reader_at_end => k_is)
    (case l_Reader_at_end => k_is)
    (case c_Reader_at_end => k_is)
    (case k_Reader_at_end => k_is)
    (case a_Reader_take_number => k_is)
    (case i_Reader_take_number => k_is)
    (case l_Reader_take_number => k_is)
    (case c_Reader_take_number => k_is)
    (case k_Reader_take_number => k_is)
    (case a_Reader_take_row => k_is)
    (case i_Reader_take_row => k_is)
    (case l_Reader_take_row => k_is)
    (case c_Reader_take_row => k_is)
    (case k_Reader_take_row => k_is)
    (case a_is_as_told => k_is)
    (case l_is_as_told => k_is)
    (case c_is_as_told => k_is)
    (case k_is_as_told => k_is)
    (case a_run_answer => k_is)
    (case l_run_answer => k_is)
    (case c_run_answer => k_is)
    (case k_run_answer => k_is)
    (case a_cells_answer => k_is)
    (case l_cells_answer => k_is)
    (case c_cells_answer => k_is)
    (case k_cells_answer => k_is)
    (case a_told_answer => k_is)
    (case l_told_answer => k_is)
    (case c_told_answer => k_is)
    (case k_told_answer => k_is)
    (case a_slot_answer => k_is)
    (case l_slot_answer => k_is)
    (case c_slot_answer => k_is)
    (case k_slot_answer => k_is)
    (case a_call_answer => k_is)
    (case l_call_answer => k_is)
    (case c_call_answer => k_is)
    (case k_call_answer => k_is)
    (case a_answers => k_is)
    (case l_answers => k_is)
    (case c_answers => k_is)
    (case k_answers => k_is)
    (case pg_Instruction => k_is)
    (case hd_Instruction => k_is)
    (case po_Instruction => k_is)
    (case sa_Instruction => k_is)
    (case mk_Instruction => k_is)
    (case kc_Instruction => k_is)
    (case n_Instruction_place => k_is)
    (case n_Instruction_word => k_is)
    (case n_Instruction_op => k_is)
    (case n_Instruction_imm => k_is)
    (case n_Instruction_first => k_is)
    (case n_Instruction_second => k_is)
    (case n_Instruction_written => k_is)
    (case n_Instruction_following => k_is)
    (case n_Instruction_target => k_is)
    (case n_Instruction_branches => k_is)
    (case n_Instruction_unit => k_is)
    (case n_Instruction_cycles => k_is)
    (case n_Instruction_sure_stop => k_is)
    (case pg_Slot => k_is)
    (case hd_Slot => k_is)
    (case po_Slot => k_is)
    (case sa_Slot => k_is)
    (case mk_Slot => k_is)
    (case kc_Slot => k_is)
    (case n_Slot_instruction => k_is)
    (case n_Slot_guess => k_is)
    (case n_Slot_op => k_is)
    (case n_Slot_unit => k_is)
    (case n_Slot_stop => k_is)
    (case n_Slot_state => k_is)
    (case n_Slot_goes_on => k_is)
    (case n_Slot_cycles_left => k_is)
    (case n_Slot_value => k_is)
    (case n_Slot_cell => k_is)
    (case n_Slot_operands => k_is)
    (case n_Slot_missing => k_is)
    (case n_Slot_readers => k_is)
    (case pg_Machine => k_is)
    (case hd_Machine => k_is)
    (case po_Machine => k_is)
    (case sa_Machine => k_is)
    (case mk_Machine => k_is)
    (case kc_Machine => k_is)
    (case n_Machine_prog => k_is)
    (case n_Machine_cells => k_is)
    (case n_Machine_regs => k_is)
    (case n_Machine_most_fetched => k_is)
    (case n_Machine_most_leaving => k_is)
    (case n_Machine_most_passed_on => k_is)
    (case n_Machine_most_slots => k_is)
    (case n_Machine_units => k_is)
    (case n_Machine_counters => k_is)
    (case n_Machine_stopped => k_is)
    (case n_Machine_cycles_run => k_is)
    (case n_Machine_have_left => k_is)
    (case n_Machine_thrown_away => k_is)
    (case n_Machine_wrong_guesses => k_is)
    (case n_Machine_slots => k_is)
    (case n_Machine_setters => k_is)
    (case n_Machine_free_units => k_is)
    (case n_Machine_fetch_place => k_is)
    (case pg_Reader => k_is)
    (case hd_Reader => k_is)
    (case po_Reader => k_is)
    (case sa_Reader => k_is)
    (case mk_Reader => k_is)
    (case kc_Reader => k_is)
    (case n_Reader_numbers => k_is)
    (case n_Reader_at => k_is)
    (case v_DIVIDE => k_is)
    (case v_ADD_IMM => k_is)
    (case v_HIGH_IMM => k_is)
    (case v_LOAD => k_is)
    (case v_STORE => k_is)
    (case v_LINK => k_is)
    (case v_JUMP_TO_VALUE => k_is)
    (case v_STOPPED_BY_WORD => k_is)
    (case v_STOPPED_BY_ZERO => k_is)
    (case v_STOPPED_BY_CELL => k_is)
    (case v_STOPPED_BY_OP => k_is)
    (case v_STOPPED_BEHIND => k_is)
    (case v_WAITS => k_is)
    (case v_RUNS => k_is)
    (case v_HAS_RUN => k_is)
    (case v_DONE => k_is)
    (case v_CELLS => k_is)
    (case v_NO_PLACE => k_is)
    (case v_BEGIN_REFUSED => k_is)
    (case v_OUT_OF_RANGE => k_is)
    (case v_NO_SUCH_SLOT => k_is)
    (case v_MOST_CYCLES => k_is)
    (case v_LAST_SLOT => k_is)
    (case v_RUN => k_is)
    (case v_REGS => k_is)
    (case v_TELL_CELLS => k_is)
    (case v_TOLD => k_is)
    (case v_SLOT => k_is)
    (case g_UNITS => k_is)
    (case g_CYCLES => k_is)
    (case g_CFG_RANGES => k_is)
    (case l_UNITS => k_is)
    (case e_UNITS => exact .cons ⟨rfl, ⟨_, rfl⟩, ⟨_, rfl⟩⟩ (.cons ⟨rfl, ⟨_, rfl⟩, ⟨_, rfl⟩⟩ (.cons ⟨rfl, ⟨_, rfl⟩, ⟨_, rfl⟩⟩ (.cons ⟨rfl, ⟨_, rfl⟩, ⟨_, rfl⟩⟩ (.nil)))))
    (case s_UNITS => rfl)
    (case l_CYCLES => k_is)
    (case e_CYCLES => exact .cons ⟨rfl, ⟨_, rfl⟩, ⟨_, rfl⟩⟩ (.cons ⟨rfl, ⟨_, rfl⟩, ⟨_, rfl⟩⟩ (.cons ⟨rfl, ⟨_, rfl⟩, ⟨_, rfl⟩⟩ (.nil))))
    (case s_CYCLES => rfl)
    (case l_CFG_RANGES => k_is)
    (case l_CFG_RANGES_0 => k_is)
    (case l_CFG_RANGES_1 => k_is)
    (case l_CFG_RANGES_2 => k_is)
    (case l_CFG_RANGES_3 => k_is)
    (case l_CFG_RANGES_4 => k_is)
    (case l_CFG_RANGES_5 => k_is)
    (case l_CFG_RANGES_6 => k_is)
    (case l_CFG_RANGES_7 => k_is)
    (case l_CFG_RANGES_8 => k_is)
    (case z_enumerate => k_is)
    (case z_len => k_is)
    (case z_list => k_is)
    (case z_max => k_is)
    (case z_min => k_is)
    (case z_reversed => k_is)
    (case z_zip => k_is)
#print axioms PySem.Challenge.cw_outoforder_s01_answers_holds

