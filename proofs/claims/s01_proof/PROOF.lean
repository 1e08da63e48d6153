import PyProof.Rows.All
import Wide.All
import OpenK.AllK
import Wide.FinOn
import PyProof.EqAt
import PyProof.EqKinds
import PyProof.TupleCall
import KE.BitLaws
import Open.SpecLaws
import KE.OsHead
import KE.OsGo
import PySem.Challenge.RW_panelsessions_s01_answers
set_option Elab.async false
set_option linter.all false
set_option maxRecDepth 100000
namespace L2
open PySem PySem.Spec PyProof.Rows
abbrev Key := Sum Int Str
def keyIs : Key → Value → Bool
  | .inl k, v => Value.isInt k v
  | .inr x, v => Value.isStrOf x v
def keyH (w : World) : Key → Int
  | .inl k => hashInt k
  | .inr x => hashStr w x
theorem keyIs_shape : ∀ {k : Key} {v : Value}, keyIs k v = true → (∃ i t, k = Sum.inl i ∧ v = Value.int i t) ∨ (∃ x t, k = Sum.inr x ∧ v = Value.str x t)
  | .inl i, v, h => by
    obtain ⟨t, e⟩ := Value.isInt_shape (k := i) (v := v) h
    exact .inl ⟨i, t, rfl, e⟩
  | .inr x, v, h => by
    obtain ⟨t, e⟩ := Value.isStrOf_shape (x := x) (v := v) h
    exact .inr ⟨x, t, rfl, e⟩
theorem keyIs_int (i : Int) (t : Tok) : keyIs (.inl i) (.int i t) = true := by simp [keyIs, Value.isInt]
theorem keyIs_str (x : Str) (t : Tok) : keyIs (.inr x) (.str x t) = true := by simp [keyIs, Value.isStrOf]
theorem key_ll (a b : Int) : decide ((Sum.inl a : Key) = Sum.inl b) = (a == b) := by
  by_cases e : a = b
  · subst e; simp
  · have h : ¬ (Sum.inl a : Key) = Sum.inl b := fun q => e (Sum.inl.inj q)
    rw [decide_eq_false h]
    exact (beq_eq_false_iff_ne.mpr e).symm
theorem key_rr (a b : Str) : decide ((Sum.inr a : Key) = Sum.inr b) = decide (a = b) := by
  by_cases e : a = b
  · subst e; simp
  · have h : ¬ (Sum.inr a : Key) = Sum.inr b := fun q => e (Sum.inr.inj q)
    rw [decide_eq_false h, decide_eq_false e]
theorem key_lr (a : Int) (b : Str) : decide ((Sum.inl a : Key) = Sum.inr b) = false := decide_eq_false (fun q => nomatch q)
theorem key_rl (a : Str) (b : Int) : decide ((Sum.inr a : Key) = Sum.inl b) = false := decide_eq_false (fun q => nomatch q)
def mixKind (prog : Program) (w : World) : PySem.KeyKind prog w Key where
  is := keyIs
  hash := keyH w
  inj := fun v a b ha hb => by
    rcases keyIs_shape ha with ⟨i, t, rfl, rfl⟩ | ⟨x, t, rfl, rfl⟩
    · rcases keyIs_shape hb with ⟨j, u, rfl, e⟩ | ⟨y, u, rfl, e⟩
      · injection e with e1 _; rw [e1]
      · exact nomatch e
    · rcases keyIs_shape hb with ⟨j, u, rfl, e⟩ | ⟨y, u, rfl, e⟩
      · exact nomatch e
      · injection e with e1 _; rw [e1]
  byValue := fun k v h => by
    rcases keyIs_shape h with ⟨i, t, rfl, rfl⟩ | ⟨x, t, rfl, rfl⟩ <;> rfl
  pyHash := fun hv h => by
    rcases keyIs_shape hv with ⟨i, t, rfl, rfl⟩ | ⟨x, t, rfl, rfl⟩
    · exact wpAny_pyHash_int h
    · exact wpAny_pyHash_str h
  eqBool := fun hu hv h => by
    rcases keyIs_shape hu with ⟨i, t, rfl, rfl⟩ | ⟨x, t, rfl, rfl⟩
    · rcases keyIs_shape hv with ⟨j, u, rfl, rfl⟩ | ⟨y, u, rfl, rfl⟩
      · rw [key_ll] at h; exact wpAny_eqBool_int h
      · rw [key_lr] at h; exact SeqAt.EqAt.int_str i t y u _ _ _ _ h
    · rcases keyIs_shape hv with ⟨j, u, rfl, rfl⟩ | ⟨y, u, rfl, rfl⟩
      · rw [key_rl] at h; exact SeqAt.EqAt.str_int x t j u _ _ _ _ h
      · rw [key_rr] at h; exact wpAny_eqBool_str h
  «strs» := fun k x t v h => by
    rcases keyIs_shape h with ⟨i, u, rfl, e⟩ | ⟨y, u, rfl, e⟩
    · exact nomatch e
    · injection e with e1 _
      subst e1
      cases v <;> rfl
theorem mixKind_int (prog : Program) (w : World) (i : Int) (t : Tok) : (mixKind prog w).is (.inl i) (.int i t) = true := keyIs_int i t
theorem mixKind_str (prog : Program) (w : World) (x : Str) (t : Tok) : (mixKind prog w).is (.inr x) (.str x t) = true := keyIs_str x t
end L2
namespace L2
open PySem PySem.Spec PyProof.Rows
inductive V where
  | non | bl (b : Bool) | int (i : Int) | str (x : Str) | byt (b : Array UInt8) | flt (b : UInt64) | ref (a : Addr) | ty (n : String)
  deriving DecidableEq
def RelV : V → Value → Prop
  | .non, u => u = Value.none
  | .bl b, u => u = Value.bool b
  | .int i, u => ∃ t, u = Value.int i t
  | .str x, u => ∃ t, u = Value.str x t
  | .byt b, u => ∃ t, u = Value.bytes b t
  | .flt b, u => ∃ t, u = Value.float b t
  | .ref a, u => u = Value.ref a
  | .ty n, u => u = Value.type n
abbrev Vals : List V → List Value → Prop := Paired RelV
theorem Vals.length {xs : List V} {us : List Value} (r : Vals xs us) : xs.length = us.length := Paired.length r
theorem Vals.get : ∀ {xs : List V} {us : List Value} {i : Nat} {x : V}, Vals xs us → xs[i]? = some x → ∃ u, us[i]? = some u ∧ RelV x u
  | _, _, _, _, .nil, e => by simp at e
  | _, _, 0, _, .cons r _, e => by simp at e; subst e; exact ⟨_, rfl, r⟩
  | _, _, i + 1, x, .cons _ t, e => by
    obtain ⟨u, h1, h2⟩ := Vals.get (i := i) (x := x) t (by simpa using e)
    exact ⟨u, by simpa using h1, h2⟩
theorem Vals.set {x : V} {u : Value} (r : RelV x u) : ∀ {xs : List V} {us : List Value} (i : Nat), Vals xs us → Vals (xs.set i x) (us.set i u)
  | _, _, _, .nil => .nil
  | _, _, 0, .cons _ t => .cons r t
  | _, _, i + 1, .cons q t => .cons q (Vals.set r i t)
theorem Vals.append : ∀ {xs ys : List V} {us ws : List Value}, Vals xs us → Vals ys ws → Vals (xs ++ ys) (us ++ ws)
  | _, _, _, _, .nil, s => s
  | _, _, _, _, .cons r t, s => .cons r (Vals.append t s)
theorem Vals.take : ∀ {xs : List V} {us : List Value} (n : Nat), Vals xs us → Vals (xs.take n) (us.take n)
  | _, _, 0, _ => .nil
  | _, _, _ + 1, .nil => .nil
  | _, _, n + 1, .cons r t => .cons r (Vals.take n t)
theorem Vals.drop : ∀ {xs : List V} {us : List Value} (n : Nat), Vals xs us → Vals (xs.drop n) (us.drop n)
  | _, _, 0, r => r
  | _, _, _ + 1, .nil => .nil
  | _, _, n + 1, .cons _ t => Vals.drop n t
def RelO : Option V → Option Value → Prop
  | some v, some u => RelV v u
  | none, none => True
  | _, _ => False
def KV {κ : Type} : List (κ × V) → List (κ × Value) → Prop := Paired fun (p : κ × V) (q : κ × Value) => p.1 = q.1 ∧ RelV p.2 q.2
def kV : Key → V
  | .inl i => .int i
  | .inr x => .str x
inductive HO where
  /-- a list -/
  | lst (xs : List V)
  /-- a tuple (never changes) -/
  | tup (xs : List V)
  /-- a dict whose keys are ints and texts; one whose keys are tuples of ints and texts (the empty one is both) -/
  | dK (kvs : List (Key × V)) | dT (kvs : List (List Key × V))
  /-- a set of ints: its members, its size -/
  | set (S : Int → Bool) (n : Nat)
  /-- an instance of the class at C, its dict at dx, its attributes -/
  | ins (C dx : Addr) (fs : List (Str × V))
  /-- the dict of the instance at x -/
  | own (x : Addr)
  /-- the dict of an exception -/
  | xd (fs : List (Str × V))
  /-- a bound method, f of x -/
  | met (f x : Addr)
  /-- a range object lo, lo + 1, .. below hi -/
  | rng (lo hi : Int)
  /-- a thing that is known to the object (the script; a dict while a loop walks it): read, never written while it is so -/
  | frz (o : Obj) (u : HO)
  /-- a code object's table -/
  | tbl (ps : Array Value)
  /-- any other thing, by what is true of its one object (a def of one's own: SetO a S n := HO.ext fun h => ..) -/
  | ext (φ : Heap → Prop)
abbrev Hp := Addr → Option HO
def upd (H : Hp) (a : Addr) (o : HO) : Hp := fun b => if b = a then some o else H b
theorem upd_same {H : Hp} {a : Addr} {o : HO} : upd H a o a = some o := by unfold upd; rw [if_pos rfl]
theorem upd_ne {H : Hp} {a b : Addr} {o : HO} (h : b ≠ a) : upd H a o b = H b := by unfold upd; rw [if_neg h]
theorem upd_upd {H : Hp} {a : Addr} {o u : HO} : upd (upd H a o) a u = upd H a u := by
  funext b; unfold upd; split <;> rfl
theorem ne_of {H : Hp} {a b : Addr} {o u : HO} (h : H a = some o) (h' : H b = some u) (d : o ≠ u) : a ≠ b := by
  intro e; subst e; rw [h] at h'; exact d (Option.some.inj h')
theorem ne_of_none {H : Hp} {a b : Addr} {o : HO} (h : H a = some o) (h' : H b = none) : a ≠ b := by
  intro e; subst e; rw [h] at h'; cases h'
section
variable (P : Program) (w : World)
def ObjOk (H : Hp) (h : Heap) (a : Addr) : HO → Prop
  | .lst xs => xs.length ≤ sizeLine ∧ ∃ (its : List Value) (n : Nat), Vals xs its ∧ h.get? a = some { cls := .type "list", data := .seq its.toArray n }
  | .tup xs => xs.length ≤ sizeLine ∧ ∃ its : List Value, Vals xs its ∧ IsTup h a its.toArray
  | .dK kvs => kvs.length ≤ sizeLine ∧ (a == sysModules) = false ∧ ∃ vs, KV kvs vs ∧ h.DictOf (mixKind P w) a vs
  | .dT kvs => kvs.length ≤ sizeLine ∧ (a == sysModules) = false ∧ ∃ xs : List (List Key × Addr × Value),
      Paired (fun (p : List Key × V) (q : List Key × Addr × Value) => p.1 = q.1 ∧ H q.2.1 = some (.tup (p.1.map kV)) ∧ RelV p.2 q.2.2) kvs xs ∧
      ∃ o es ep, h.get? a = some o ∧ o.ExactDict ∧ o.data = .dict es ep ∧ es.toList = xs.map (entryOfKey (tupleKind (mixKind P w))) ∧ (xs.map (·.1)).Nodup
  | .set S n => h.SetOf (intKind P w) a S n
  | .ins C dx fs => H dx = some (.own a) ∧ fs.length ≤ 1000 ∧ dx ≠ a ∧ h.get? a = some (PySem.W.instObj C dx) ∧
      ∃ mA, h.Ns1 dx mA ∧ (∀ f, RelO (fs.lookup f) (mA f)) ∧ PySem.Within mA (fs.map (·.1))
  | .own _ => ∃ o, h.get? a = some o
  | .xd fs => ∃ mA, h.Ns1 a mA ∧ ∀ f, RelO (fs.lookup f) (mA f)
  | .rng lo hi => ∃ t u v, h.get? a = some { cls := .type "range", data := .fields #[.int lo t, .int hi u, .int 1 v] }
  | .frz o u => h.get? a = some o ∧ ObjOk H h a u
  | .tbl ps => h.get? a = some { cls := .none, data := .fields ps }
  | .met f x => h.get? a = some (PySem.W.methodObj (.ref f) (.ref x))
  | .ext φ => φ h ∧ (∃ o, h.get? a = some o) ∧ ∀ h1 h2 : Heap, φ h1 → (∀ o, h1.get? a = some o → h2.get? a = some o) → φ h2
def HOk (H : Hp) (h : Heap) : Prop := ∀ a o, H a = some o → ObjOk P w H h a o
end
section
variable {P : Program} {w : World} {H H' : Hp} {h h' : Heap} {a : Addr} {o : HO}
theorem ObjOk.lt (x : ObjOk P w H h a o) : a < h.objs.size := by
  cases o with
  | lst xs => obtain ⟨_, _, _, _, e⟩ := x; exact Heap.lt_size e
  | tup xs => obtain ⟨_, _, _, p⟩ := x; exact p.lt
  | dK kvs => obtain ⟨_, _, _, _, o, _, _, e, _⟩ := x; exact Heap.lt_size e
  | dT kvs => obtain ⟨_, _, _, _, o, _, _, e, _⟩ := x; exact Heap.lt_size e
  | set S n => obtain ⟨o, _, _, _, e, _⟩ := x; exact Heap.lt_size e
  | ins C dx fs => obtain ⟨_, _, _, e, _⟩ := x; exact Heap.lt_size e
  | own y => obtain ⟨_, e⟩ := x; exact Heap.lt_size e
  | xd fs => obtain ⟨_, ⟨_, _, _, e, _⟩, _⟩ := x; exact Heap.lt_size e
  | rng lo hi => obtain ⟨_, _, _, e⟩ := x; exact Heap.lt_size e
  | frz ob u => obtain ⟨e, _⟩ := x; exact Heap.lt_size e
  | tbl ps => exact Heap.lt_size (show h.get? a = some _ from x)
  | met f y => exact Heap.lt_size (show h.get? a = some _ from x)
  | ext φ => obtain ⟨_, ⟨_, e⟩, _⟩ := x; exact Heap.lt_size e
theorem Paired.mapP {α β : Type} {F G : α → β → Prop} : ∀ {l₁ : List α} {l₂ : List β}, Paired F l₁ l₂ → (∀ a b, F a b → G a b) → Paired G l₁ l₂
  | _, _, .nil, _ => .nil
  | _, _, .cons r t, f => .cons (f _ _ r) (Paired.mapP t f)
theorem ObjOk.stay (x : ObjOk P w H h a o) (k : ∀ b u, (b = a ∨ H b = some (.own a)) → h.get? b = some u → h'.get? b = some u)
    (ho : ∀ b, H b = some (.own a) → H' b = some (.own a)) (ht : ∀ b xs, H b = some (.tup xs) → H' b = some (.tup xs)) : ObjOk P w H' h' a o := by
  induction o with
  | lst xs => obtain ⟨z, its, n, r, e⟩ := x; exact ⟨z, its, n, r, k _ _ (.inl rfl) e⟩
  | tup xs => obtain ⟨z, its, r, ob, e, c⟩ := x; exact ⟨z, its, r, ob, k _ _ (.inl rfl) e, c⟩
  | dK kvs => obtain ⟨z, y, vs, r, ob, es, ep, e, c⟩ := x; exact ⟨z, y, vs, r, ob, es, ep, k _ _ (.inl rfl) e, c⟩
  | dT kvs =>
    obtain ⟨z, y, xs, r, ob, es, ep, e, c⟩ := x
    exact ⟨z, y, xs, Paired.mapP r fun p q z => ⟨z.1, ht _ _ z.2.1, z.2.2⟩, ob, es, ep, k _ _ (.inl rfl) e, c⟩
  | set S n => obtain ⟨ob, es, ep, t, e, c⟩ := x; exact ⟨ob, es, ep, t, k _ _ (.inl rfl) e, c⟩
  | ins C dx fs =>
    obtain ⟨d, z, ne, e, mA, ⟨od, es, ep, e2, c⟩, r⟩ := x
    exact ⟨ho _ d, z, ne, k _ _ (.inl rfl) e, mA, ⟨od, es, ep, k _ _ (.inr d) e2, c⟩, r⟩
  | own y => obtain ⟨ob, e⟩ := x; exact ⟨ob, k _ _ (.inl rfl) e⟩
  | xd fs => obtain ⟨mA, ⟨od, es, ep, e, c⟩, r⟩ := x; exact ⟨mA, ⟨od, es, ep, k _ _ (.inl rfl) e, c⟩, r⟩
  | rng lo hi => obtain ⟨t, u, v, e⟩ := x; exact ⟨t, u, v, k _ _ (.inl rfl) e⟩
  | frz ob u ih => obtain ⟨e, q⟩ := x; exact ⟨k _ _ (.inl rfl) e, ih q⟩
  | tbl ps =>
    have e : h.get? a = some { cls := .none, data := .fields ps } := x
    show h'.get? a = some { cls := .none, data := .fields ps }
    exact k a _ (.inl rfl) e
  | met f y =>
    have e : h.get? a = some (PySem.W.methodObj (.ref f) (.ref y)) := x
    show h'.get? a = some (PySem.W.methodObj (.ref f) (.ref y))
    exact k a _ (.inl rfl) e
  | ext φ => obtain ⟨p, ⟨o, e⟩, st⟩ := x; exact ⟨st _ _ p fun o q => k _ _ (.inl rfl) q, ⟨o, k _ _ (.inl rfl) e⟩, st⟩
theorem HOk.lt (x : HOk P w H h) (e : H a = some o) : a < h.objs.size := (x a o e).lt
theorem HOk.fresh (x : HOk P w H h) (e : h.objs.size ≤ a) : H a = none := by
  cases q : H a with
  | none => rfl
  | some u => exact absurd (Nat.lt_of_lt_of_le (x.lt q) e) (Nat.lt_irrefl _)
theorem HOk.kept (x : HOk P w H h) (k : ∀ b u, h.get? b = some u → h'.get? b = some u) : HOk P w H h' := fun a o e =>
  (x a o e).stay (fun b u _ q => k b u q) (fun _ q => q) fun _ _ q => q
theorem HOk.laid (x : HOk P w H h) (k : ∀ b u, h.get? b = some u → h'.get? b = some u) (hp : h.objs.size ≤ a) (new : ObjOk P w (upd H a o) h' a o) : HOk P w (upd H a o) h' := fun b u e => by
  have hn := x.fresh hp
  by_cases hb : b = a
  · subst hb; rw [upd_same] at e; cases e; exact new
  · rw [upd_ne hb] at e
    exact (x b u e).stay (fun c v _ q => k c v q) (fun c q => by rw [upd_ne (ne_of_none q hn)]; exact q) fun c xs q => by rw [upd_ne (ne_of_none q hn)]; exact q
end
def Rd (H : Hp) (a : Addr) (u : HO) : Prop := H a = some u ∨ ∃ o, H a = some (.frz o u)
theorem Rd.ok {P : Program} {w : World} {H : Hp} {h : Heap} {a : Addr} {u : HO} (r : Rd H a u) (x : HOk P w H h) : ObjOk P w H h a u := by
  rcases r with r | ⟨o, r⟩
  · exact x a u r
  · obtain ⟨_, q⟩ := x a _ r
    exact q
def Mut : Option HO → Prop
  | some (.lst _) => True
  | some (.dK _) => True
  | some (.dT _) => True
  | some (.set _ _) => True
  | some (.ins _ _ _) => True
  | some (.ext _) => True
  | _ => False
section
variable {P : Program} {w : World} {H : Hp} {h h' : Heap} {x e : Addr} {o' : HO}
theorem HOk.write (ok : HOk P w H h) (mu : Mut (H x)) (he : e = x ∨ H e = some (.own x)) (k : ∀ b u, b ≠ e → h.get? b = some u → h'.get? b = some u) (heo : ∃ u, h'.get? e = some u)
    (new : ObjOk P w (upd H x o') h' x o') : HOk P w (upd H x o') h' := fun b u q => by
  have nown : ∀ c y, H c = some (.own y) → c ≠ x := fun c y r z => by subst z; rw [r] at mu; exact mu
  have ntup : ∀ c xs, H c = some (.tup xs) → c ≠ x := fun c xs r z => by subst z; rw [r] at mu; exact mu
  by_cases hb : b = x
  · subst hb; rw [upd_same] at q; cases q; exact new
  · rw [upd_ne hb] at q
    by_cases hbe : b = e
    · have q' : H b = some (.own x) := by
        rcases he with z | z
        · exact absurd (hbe.trans z) hb
        · rw [hbe]; exact z
      rw [q] at q'; cases q'
      obtain ⟨v, hv⟩ := heo
      exact ⟨v, by rw [hbe]; exact hv⟩
    · refine (ok b u q).stay (fun c v hc r => k c v ?_ r) (fun c r => by rw [upd_ne (nown c b r)]; exact r) fun c xs r => by rw [upd_ne (ntup c xs r)]; exact r
      rcases hc with rfl | hc
      · exact hbe
      · rintro rfl
        rcases he with z | z
        · exact nown c b hc z
        · rw [hc] at z; cases z; exact hb rfl
end
structure Un (fs ex : List Addr) (H H' : Hp) (h h' : Heap) : Prop where
  keep : ∀ b o, h.get? b = some o → H b = none → b ∉ fs → b ∉ ex → h'.get? b = some o
  slot : ∀ b o, h.get? b = some o → H b = none → b ∈ fs → b ∉ ex → ∃ sl, h'.get? b = some { o with slots := sl }
  free : ∀ b o, h.get? b = some o → H b = none → b ∉ ex → H' b = none
  there : ∀ b o, h.get? b = some o → b ∉ ex → ∃ o', h'.get? b = some o'
  tups : ∀ b xs, H b = some (.tup xs) → H' b = some (.tup xs)
  frzs : ∀ b o u, H b = some (.frz o u) → H' b = some (.frz o u)
  tbls : ∀ b ps, H b = some (.tbl ps) → ∃ more, H' b = some (.tbl (ps ++ more))
section
variable {fs fs' ex ex' : List Addr} {H H1 H2 : Hp} {h h1 h2 h' : Heap} {a x e : Addr} {o : HO}
theorem Un.any (u : Un fs ex H H1 h h1) {b : Addr} {ob : Obj} (q : h.get? b = some ob) (n : H b = none) (hx : b ∉ ex) : ∃ sl, h1.get? b = some { ob with slots := sl } := by
  by_cases hb : b ∈ fs
  · exact u.slot b ob q n hb hx
  · exact ⟨ob.slots, u.keep b ob q n hb hx⟩
theorem Un.kept (k : ∀ b u, h.get? b = some u → h'.get? b = some u) : Un fs ex H H h h' :=
  ⟨fun b ob q _ _ _ => k b ob q, fun b ob q _ _ _ => ⟨ob.slots, k b ob q⟩, fun _ _ _ n _ => n, fun b ob q _ => ⟨ob, k b ob q⟩, fun _ _ q => q, fun _ _ _ q => q, fun _ ps q => ⟨#[], by rw [q]; simp⟩⟩
theorem Un.refl : Un fs ex H H h h := Un.kept fun _ _ q => q
theorem Un.laid (k : ∀ b u, h.get? b = some u → h'.get? b = some u) (hp : h.objs.size ≤ a) (hn : H a = none) : Un fs ex H (upd H a o) h h' where
  keep := fun b u q _ _ _ => k b u q
  slot := fun b u q _ _ _ => ⟨u.slots, k b u q⟩
  free := fun b u q n _ => by rw [upd_ne (Nat.ne_of_lt (Nat.lt_of_lt_of_le (Heap.lt_size q) hp))]; exact n
  there := fun b u q _ => ⟨u, k b u q⟩
  tups := fun b xs q => by rw [upd_ne (ne_of_none q hn)]; exact q
  frzs := fun b u xs q => by rw [upd_ne (ne_of_none q hn)]; exact q
  tbls := fun b ps q => ⟨#[], by rw [upd_ne (ne_of_none q hn), q]; simp⟩
theorem Un.write (mu : Mut (H x)) (he : e = x ∨ H e = some (.own x)) (k : ∀ b u, b ≠ e → h.get? b = some u → h'.get? b = some u) (heo : ∃ u, h'.get? e = some u) : Un fs ex H (upd H x o) h h' := by
  have hx : ∀ b, H b = none → b ≠ x := fun b n z => by subst z; rw [n] at mu; exact mu
  have hb : ∀ b, H b = none → b ≠ e := fun b n z => by
    subst z
    rcases he with r | r
    · exact hx b n r
    · rw [n] at r; cases r
  have hm : ∀ b u, H b = some u → ¬ Mut (some u) → b ≠ x := fun b u q nm z => by subst z; rw [q] at mu; exact nm mu
  refine ⟨fun b u q n _ _ => k b u (hb b n) q, fun b u q n _ _ => ⟨u.slots, k b u (hb b n) q⟩, fun b u q n _ => by rw [upd_ne (hx b n)]; exact n, fun b u q _ => ?_,
    fun b xs q => by rw [upd_ne (hm b _ q fun z => z)]; exact q, fun b u xs q => by rw [upd_ne (hm b _ q fun z => z)]; exact q, fun b ps q => ⟨#[], by rw [upd_ne (hm b _ q fun z => z), q]; simp⟩⟩
  by_cases hbe : b = e
  · subst hbe; exact heo
  · exact ⟨u, k b u hbe q⟩
end
def trk (h : Heap) (H : Hp) : List Addr := (List.range h.objs.size).filter fun a => (H a).isSome
def hidT (h : Heap) (H : Hp) : Heap := PySem.W.hideAll h (trk h H)
theorem hidT_size (h : Heap) (H : Hp) : (hidT h H).objs.size = h.objs.size := PySem.W.hideAll_size _ _
theorem hidT_get {h : Heap} {H : Hp} {b : Addr} {o : Obj} (e : h.get? b = some o) (n : H b = none) : (hidT h H).get? b = some o :=
  PySem.W.hideAll_get _ e fun hm => by
    have q : (H b).isSome = true := (List.mem_filter.mp hm).2
    rw [n] at q; simp at q
theorem of_hidT {h : Heap} {H : Hp} {b : Addr} {o : Obj} (e : (hidT h H).get? b = some o) : h.get? b = some o ∧ H b = none := by
  have e' : h.get? b = some o := PySem.W.of_hideAll (trk h H) e
  refine ⟨e', ?_⟩
  cases q : H b with
  | none => rfl
  | some x =>
    have hm : b ∈ trk h H := List.mem_filter.mpr ⟨List.mem_range.mpr (Heap.lt_size e'), by simp [q]⟩
    have z : (hidT h H).get? b = none := PySem.W.hideAll_none (trk h H) hm
    rw [z] at e; cases e
end L2
namespace L2
open PySem PySem.Spec PyProof.Rows
structure Mod (K : PySem.W.Frag) (mg : Str → Option Value) (base : Heap) : Prop where
  kin : K.In base
  glob : base.Ns mainGlobals mg
  blt : ∃ mb, base.Ns builtinsNs mb ∧ ∀ x : Str, x ≠ "__name__" → mb x = bootBuiltins x
  nolimit : base.NoLimit
structure Cx where
  prog : Program
  w : World
  K : PySem.W.Frag
  mg : Str → Option Value
  base : Heap
  A : Around
  N : List Str
  s_0 : Shared
  H_0 : Hp
  env : Env
  outer : List Env
  stack : List Env
  ex : List Addr
  fn : Str → Bool
  calm : Bool
  pn : List (Addr × Obj)
  xe : Value → Shared → Prop
def frs (l : List Env) : List Addr := l.filterMap (·.frame)
abbrev Cx.fs (X : Cx) : List Addr := frs X.outer
def Vis (sc : Scope) (x : Str) : Prop := sc.names.lookup x = some .local ∨ sc.names.lookup x = some .cell ∨ sc.names.lookup x = some .free
def Loc (sc : Scope) (x : Str) : Prop := sc.names.lookup x = some .local ∨ sc.names.lookup x = some .cell
def Look (env : Env) (h : Heap) (m : Str → Option Value) (x : Str) (u : Value) : Prop :=
  (env.kindOf x = some .local ∧ m x = some u) ∨ ((env.kindOf x = some .cell ∨ env.kindOf x = some .free) ∧ ∃ c, env.cells.lookup x = some c ∧ h.IsCell c (some u))
structure Cx.Ok (X : Cx) : Prop where
  mod : Mod X.K X.mg X.base
  kind : X.env.scope.kind = .function
  glob : X.env.globals = mainGlobals
  blt : X.env.builtins = builtinsNs
  above : X.s_0.heap.objs.size ≤ X.env.locals
  inj : ∀ x y c, X.env.cells.lookup x = some c → X.env.cells.lookup y = some c → x = y
  has : ∀ x, (X.env.kindOf x = some .cell ∨ X.env.kindOf x = some .free) → ∃ c, X.env.cells.lookup x = some c
  cab : ∀ x c, X.fn x = true → X.env.cells.lookup x = some c → X.s_0.heap.objs.size ≤ c
  hd : X.calm = true → X.A.handled = none
  frames : X.A.frames = some X.stack
  stk : X.stack = X.outer ∨ (X.stack = X.env :: X.outer ∧ X.env.frame = some X.env.locals)
  exf : ∀ b ∈ X.ex, b ≠ X.env.locals ∧ ∀ x c, X.env.cells.lookup x = some c → c ≠ b
  bs : ∀ b o, X.base.get? b = some o → X.s_0.heap.get? b = some o ∧ X.H_0 b = none
  bsz : X.base.objs.size ≤ X.s_0.heap.objs.size
  noex : ∀ b o, X.base.get? b = some o → b ∉ X.ex
  exfs : ∀ b ∈ X.ex, b ∉ X.fs
  funs : X.s_0.heap.FunFrames X.base X.outer
  frf : ∀ b ∈ X.fs, X.H_0 b = none
structure Inv (X : Cx) (pins : List (Addr × Obj)) (σ : List (Option V)) (H : Hp) (s : Shared) : Prop where
  ok : X.Ok
  os : s.os = X.s_0.os
  bare : AllBare s.gens
  base : Un X.fs X.ex X.H_0 H X.s_0.heap s.heap
  loc : ∃ m, s.heap.Ns X.env.locals m ∧ ∀ (i : Nat) (x : Str) (v : V), X.N[i]? = some x → σ[i]? = some (some v) → Vis X.env.scope x → ∃ u, RelV v u ∧ Look X.env s.heap m x u
  cell : ∀ x c, X.env.cells.lookup x = some c → ∃ v, s.heap.IsCell c v
  free : H X.env.locals = none
  freeC : ∀ x c, X.env.cells.lookup x = some c → H c = none
  pin : ∀ p ∈ X.pn ++ pins, s.heap.get? p.1 = some p.2 ∧ H p.1 = none ∧ p.1 ≠ X.env.locals ∧ p.1 ∉ X.fs ∧ ∀ v, p.2.data ≠ .cell v
  hok : HOk X.prog X.w H s.heap
  len : σ.length = X.N.length
section
variable {X : Cx} {pins : List (Addr × Obj)} {σ : List (Option V)} {H H' : Hp} {s : Shared} {h' : Heap}
theorem Cx.Ok.nofr (ok : X.Ok) {b : Addr} {o : Obj} (e : X.base.get? b = some o) : b ∉ X.fs := fun hb => by
  have := (ok.funs.mem hb).1
  rw [e] at this; cases this
theorem Inv.bs (I : Inv X pins σ H s) : ∀ b o, X.base.get? b = some o → s.heap.get? b = some o ∧ H b = none := fun b o e =>
  ⟨I.base.keep b o (I.ok.bs b o e).1 (I.ok.bs b o e).2 (I.ok.nofr e) (I.ok.noex b o e), I.base.free b o (I.ok.bs b o e).1 (I.ok.bs b o e).2 (I.ok.noex b o e)⟩
theorem Inv.bk (I : Inv X pins σ H s) : ∀ b o, X.base.get? b = some o → s.heap.get? b = some o := fun b o e => (I.bs b o e).1
theorem Inv.mod (I : Inv X pins σ H s) : Mod X.K X.mg X.base := I.ok.mod
theorem Inv.kIn (I : Inv X pins σ H s) : X.K.In s.heap := I.ok.mod.kin.keeps I.bk
theorem Inv.lt (I : Inv X pins σ H s) : X.env.locals < s.heap.objs.size := let ⟨_, hn, _⟩ := I.loc; hn.lt
theorem Inv.sz (I : Inv X pins σ H s) : X.s_0.heap.objs.size ≤ s.heap.objs.size := Nat.le_trans I.ok.above (Nat.le_of_lt I.lt)
theorem Inv.nofs (I : Inv X pins σ H s) {a : Addr} (h : s.heap.objs.size ≤ a) : a ∉ X.fs := fun hb => by
  obtain ⟨_, o, ho, _⟩ := I.ok.funs.mem hb
  exact absurd (Nat.lt_of_lt_of_le (Heap.lt_size ho) (Nat.le_trans I.sz h)) (Nat.lt_irrefl _)
theorem Inv.cne (I : Inv X pins σ H s) : ∀ x c, X.env.cells.lookup x = some c → c ≠ X.env.locals := fun x c e z => by
  obtain ⟨v, o, ho, hd⟩ := I.cell x c e
  obtain ⟨m, ⟨o', es, ep, ho', hd', _⟩, _⟩ := I.loc
  rw [z, ho'] at ho; cases ho; rw [hd'] at hd; cases hd
theorem Inv.funs (I : Inv X pins σ H s) : s.heap.FunFrames X.base X.outer := by
  have all : ∀ (l : List Env), (∀ b ∈ frs l, b ∈ X.fs) → X.s_0.heap.FunFrames X.base l → s.heap.FunFrames X.base l := by
    intro l
    induction l with
    | nil => intro _ _; trivial
    | cons env r ih =>
      intro hs hl
      obtain ⟨hk, ⟨L, o, hf, hn, ho, hd⟩, hr⟩ := hl
      have hL : L ∈ X.fs := hs L (by unfold frs; rw [List.filterMap_cons, hf]; exact List.mem_cons_self)
      obtain ⟨sl, e⟩ := I.base.slot L o ho (I.ok.frf L hL) hL fun z => I.ok.exfs L z hL
      exact ⟨hk, ⟨L, _, hf, hn, e, hd⟩, ih (fun b hb => hs b (by unfold frs; rw [List.filterMap_cons, hf]; exact List.mem_cons_of_mem _ hb)) hr⟩
  exact all X.outer (fun _ hb => hb) I.ok.funs
theorem Inv.stack (I : Inv X pins σ H s) : s.heap.FunFrames X.base X.stack := by
  rcases I.ok.stk with e | ⟨e, hf⟩
  · rw [e]; exact I.funs
  · rw [e]
    obtain ⟨m, hn, _⟩ := I.loc
    refine .cons (by rw [I.ok.kind]; decide) hf hn ?_ I.funs
    exact Heap.get?_none_of_le (Nat.le_trans I.ok.bsz I.ok.above)
theorem Inv.stkSub (I : Inv X pins σ H s) : ∀ b ∈ frs X.stack, b ∈ X.env.locals :: X.fs := fun b hb => by
  rcases I.ok.stk with e | ⟨e, hf⟩
  · rw [e] at hb; exact List.mem_cons_of_mem _ hb
  · rw [e] at hb
    unfold frs at hb
    rw [List.filterMap_cons, hf] at hb
    exact hb
theorem Inv.stkFree (I : Inv X pins σ H s) : ∀ b ∈ frs X.stack, H b = none := fun b hb => by
  rcases List.mem_cons.mp (I.stkSub b hb) with e | hb
  · rw [e]; exact I.free
  · obtain ⟨_, o, ho, _⟩ := I.ok.funs.mem hb
    exact I.base.free b o ho (I.ok.frf b hb) fun z => I.ok.exfs b z hb
theorem Inv.step {g' : Array GenState} {t' : Nat} {d' : Drawn} {ch : List Addr} (I : Inv X pins σ H s)
    (hch : ∀ b ∈ ch, (b ∈ X.ex ∨ X.s_0.heap.objs.size ≤ b) ∧ b ≠ X.env.locals ∧ (∀ x c, X.env.cells.lookup x = some c → c ≠ b) ∧ ∀ p ∈ X.pn ++ pins, p.1 ≠ b)
    (keep : ∀ b o, b ≠ X.env.locals → b ∉ X.fs → b ∉ ch → s.heap.get? b = some o → H b = none → h'.get? b = some o)
    (slot : ∀ b o, b ≠ X.env.locals → b ∈ X.fs → b ∉ ch → s.heap.get? b = some o → H b = none → ∃ sl, h'.get? b = some { o with slots := sl }) (free : ∀ b o, b ∉ ch → s.heap.get? b = some o → H b = none → H' b = none)
    (there : ∀ b o, b ∉ ch → s.heap.get? b = some o → ∃ o', h'.get? b = some o')
    (tups : ∀ b xs, H b = some (.tup xs) → H' b = some (.tup xs)) (frzs : ∀ b o u, H b = some (.frz o u) → H' b = some (.frz o u)) (tbls : ∀ b ps, H b = some (.tbl ps) → ∃ more, H' b = some (.tbl (ps ++ more)))
    (ns : ∀ m, s.heap.Ns X.env.locals m → h'.Ns X.env.locals m) (hok : HOk X.prog X.w H' h') (hg : AllBare g') :
    Inv X pins σ H' { s with heap := h', gens := g', drawn := d', toks := t' } := by
  have neL : ∀ b o, X.s_0.heap.get? b = some o → b ≠ X.env.locals := fun b o e => Nat.ne_of_lt (Nat.lt_of_lt_of_le (Heap.lt_size e) I.ok.above)
  have neC : ∀ b o, X.s_0.heap.get? b = some o → b ∉ X.ex → b ∉ ch := fun b o e hx hb => by
    rcases (hch b hb).1 with z | z
    · exact hx z
    · exact absurd (Nat.lt_of_lt_of_le (Heap.lt_size e) z) (Nat.lt_irrefl _)
  have cellK : ∀ x c, X.env.cells.lookup x = some c → ∀ v, s.heap.IsCell c v → h'.IsCell c v := fun x c e v ⟨o, ho, hd⟩ => by
    have nch : c ∉ ch := fun z => (hch c z).2.2.1 x c e rfl
    by_cases hc : c ∈ X.fs
    · obtain ⟨sl, q⟩ := slot c o (I.cne x c e) hc nch ho (I.freeC x c e)
      exact ⟨_, q, hd⟩
    · exact ⟨o, keep c o (I.cne x c e) hc nch ho (I.freeC x c e), hd⟩
  refine ⟨I.ok, I.os, hg, ⟨fun b o e n hb hx => ?_, fun b o e n hb hx => ?_, fun b o e n hx => ?_, fun b o e hx => ?_, fun b xs e => tups b xs (I.base.tups b xs e), fun b o xs e => frzs b o xs (I.base.frzs b o xs e), fun b ps e => ?_⟩, ?_, fun x c e => ?_, ?_, fun x c e => ?_, fun p hp => ?_, hok, I.len⟩
  · exact keep b o (neL b o e) hb (neC b o e hx) (I.base.keep b o e n hb hx) (I.base.free b o e n hx)
  · obtain ⟨sl, e1⟩ := I.base.slot b o e n hb hx
    obtain ⟨sl', e2⟩ := slot b _ (neL b o e) hb (neC b o e hx) e1 (I.base.free b o e n hx)
    exact ⟨sl', e2⟩
  · obtain ⟨o', e1⟩ := I.base.there b o e hx
    exact free b o' (neC b o e hx) e1 (I.base.free b o e n hx)
  · obtain ⟨o', e1⟩ := I.base.there b o e hx
    exact there b o' (neC b o e hx) e1
  · obtain ⟨m1, e1⟩ := I.base.tbls b ps e
    obtain ⟨m2, e2⟩ := tbls b _ e1
    exact ⟨m1 ++ m2, by rw [e2, Array.append_assoc]⟩
  · obtain ⟨m, hn, hl⟩ := I.loc
    refine ⟨m, ns m hn, fun i x v e1 e2 e3 => ?_⟩
    obtain ⟨u, r, l⟩ := hl i x v e1 e2 e3
    refine ⟨u, r, ?_⟩
    rcases l with l | ⟨k, c, e, z⟩
    · exact .inl l
    · exact .inr ⟨k, c, e, cellK x c e _ z⟩
  · obtain ⟨v, z⟩ := I.cell x c e
    exact ⟨v, cellK x c e v z⟩
  · obtain ⟨m, ⟨o, _, _, ho, _⟩, _⟩ := I.loc
    exact free _ o (fun z => (hch _ z).2.1 rfl) ho I.free
  · obtain ⟨v, o, ho, hd⟩ := I.cell x c e
    exact free c o (fun z => (hch c z).2.2.1 x c e rfl) ho (I.freeC x c e)
  · obtain ⟨e, n, ne, nf, d⟩ := I.pin p hp
    have nch : p.1 ∉ ch := fun z => (hch p.1 z).2.2.2 p hp rfl
    exact ⟨keep p.1 p.2 ne nf nch e n, free p.1 p.2 nch e n, ne, nf, d⟩
theorem Inv.un {t' : Nat} (I : Inv X pins σ H s) (u : Un X.fs [] H H' s.heap h') (hok : HOk X.prog X.w H' h') : Inv X pins σ H' { s with heap := h', toks := t' } := by
  obtain ⟨m, ⟨o, es, ep, ho, r⟩, _⟩ := id I.loc
  obtain ⟨sl, hL⟩ := u.any ho I.free (by simp)
  exact I.step (g' := s.gens) (d' := s.drawn) (ch := []) (fun _ z => nomatch z) (fun b o _ hb _ e n => u.keep b o e n hb (by simp)) (fun b o _ hb _ e n => u.slot b o e n hb (by simp)) (fun b o _ e n => u.free b o e n (by simp)) (fun b o _ e => u.there b o e (by simp)) u.tups u.frzs u.tbls (fun m' hm => by
    obtain ⟨o', es', ep', ho', r'⟩ := hm
    rw [ho] at ho'; cases ho'
    exact ⟨_, es', ep', hL, r'⟩) hok I.bare
theorem Inv.call {g' : Array GenState} {t' : Nat} {d' : Drawn} {ch : List Addr} (I : Inv X pins σ H s) (u : Un (frs X.stack) ch H H' s.heap h') (hok : HOk X.prog X.w H' h') (hg : AllBare g')
    (hch : ∀ b ∈ ch, (b ∈ X.ex ∨ X.s_0.heap.objs.size ≤ b) ∧ b ≠ X.env.locals ∧ (∀ x c, X.env.cells.lookup x = some c → c ≠ b) ∧ ∀ p ∈ X.pn ++ pins, p.1 ≠ b) :
    Inv X pins σ H' { s with heap := h', gens := g', drawn := d', toks := t' } := by
  obtain ⟨m, ⟨o, es, ep, ho, r⟩, _⟩ := id I.loc
  obtain ⟨sl, hL⟩ := u.any ho I.free fun z => (hch _ z).2.1 rfl
  exact I.step (ch := ch) hch (fun b o hL hb hc e n => u.keep b o e n (fun z => (List.mem_cons.mp (I.stkSub b z)).elim hL hb) hc) (fun b o _ _ hc e n => u.any e n hc) (fun b o hc e n => u.free b o e n hc) (fun b o hc e => u.there b o e hc) u.tups u.frzs u.tbls (fun m' hm => by
    obtain ⟨o', es', ep', ho', r'⟩ := hm
    rw [ho] at ho'; cases ho'
    exact ⟨_, es', ep', hL, r'⟩) hok hg
theorem Inv.turned {t' : Nat} {it : Addr} (I : Inv X pins σ H s) (k : ∀ b o, b ≠ it → s.heap.get? b = some o → h'.get? b = some o) (hn : H it = none) (hL : it ≠ X.env.locals)
    (h1 : it ∈ X.ex ∨ X.s_0.heap.objs.size ≤ it) (h2 : ∀ x c, X.env.cells.lookup x = some c → c ≠ it) (h3 : ∀ p ∈ X.pn ++ pins, p.1 ≠ it) : Inv X pins σ H { s with heap := h', toks := t' } := by
  have nit : ∀ b u, H b = some u → b ≠ it := fun b u e z => by rw [z, hn] at e; cases e
  refine I.step (g' := s.gens) (d' := s.drawn) (ch := [it]) (fun b hb => ?_) (fun b o _ _ hc e _ => k b o (fun z => hc (by simp [z])) e) (fun b o _ _ hc e _ => ⟨o.slots, k b o (fun z => hc (by simp [z])) e⟩) (fun _ _ _ _ n => n)
    (fun b o hc e => ⟨o, k b o (fun z => hc (by simp [z])) e⟩) (fun _ _ e => e) (fun _ _ _ e => e) (fun b ps e => ⟨#[], by rw [e]; simp⟩) (fun m hm => ?_) (fun b u e => ?_) I.bare
  · have e : b = it := by simpa using hb
    subst e
    exact ⟨h1, hL, h2, h3⟩
  · obtain ⟨o, es, ep, ho, r⟩ := hm
    exact ⟨o, es, ep, k _ o (Ne.symm hL) ho, r⟩
  · refine (I.hok b u e).stay (fun c v hc q => k c v ?_ q) (fun _ q => q) fun _ _ q => q
    rcases hc with z | z
    · rw [z]; exact nit b u e
    · exact nit c _ z
theorem Inv.tok (I : Inv X pins σ H s) (t : Nat) : Inv X pins σ H { s with toks := t } := I.un (h' := s.heap) (t' := t) Un.refl I.hok
theorem Inv.kept {t' : Nat} (I : Inv X pins σ H s) (k : ∀ b u, s.heap.get? b = some u → h'.get? b = some u) : Inv X pins σ H { s with heap := h', toks := t' } := I.un (Un.kept k) (I.hok.kept k)
theorem Inv.laid {a : Addr} {o : HO} {t' : Nat} (I : Inv X pins σ H s) (k : ∀ b u, s.heap.get? b = some u → h'.get? b = some u) (hp : s.heap.objs.size ≤ a) (new : ObjOk X.prog X.w (upd H a o) h' a o) :
    Inv X pins σ (upd H a o) { s with heap := h', toks := t' } := I.un (Un.laid k hp (I.hok.fresh hp)) (I.hok.laid k hp new)
theorem Inv.write {x e : Addr} {o : HO} {t' : Nat} (I : Inv X pins σ H s) (mu : Mut (H x)) (he : e = x ∨ H e = some (.own x)) (k : ∀ b u, b ≠ e → s.heap.get? b = some u → h'.get? b = some u) (heo : ∃ u, h'.get? e = some u)
    (new : ObjOk X.prog X.w (upd H x o) h' x o) : Inv X pins σ (upd H x o) { s with heap := h', toks := t' } := I.un (Un.write mu he k heo) (I.hok.write mu he k heo new)
theorem Inv.weak {σ' : List (Option V)} (I : Inv X pins σ H s) (hl : σ'.length = σ.length) (w : ∀ (i : Nat) v, σ'[i]? = some (some v) → σ[i]? = some (some v)) : Inv X pins σ' H s :=
  ⟨I.ok, I.os, I.bare, I.base, let ⟨m, hn, hl'⟩ := I.loc; ⟨m, hn, fun i x v e1 e2 e3 => hl' i x v e1 (w i v e2) e3⟩, I.cell, I.free, I.freeC, I.pin, I.hok, hl.trans I.len⟩
theorem Inv.pins_of {pins' : List (Addr × Obj)} (I : Inv X pins σ H s) (h : ∀ p ∈ pins', s.heap.get? p.1 = some p.2 ∧ H p.1 = none ∧ p.1 ≠ X.env.locals ∧ p.1 ∉ X.fs ∧ ∀ v, p.2.data ≠ .cell v) : Inv X pins' σ H s :=
  ⟨I.ok, I.os, I.bare, I.base, I.loc, I.cell, I.free, I.freeC, fun p hp => (List.mem_append.mp hp).elim (fun z => I.pin p (List.mem_append_left _ z)) (h p), I.hok, I.len⟩
theorem nodup_ix {N : List Str} (hN : N.Nodup) {i j : Nat} {x : Str} (a : N[i]? = some x) (b : N[j]? = some x) : i = j := by
  obtain ⟨h1, e1⟩ := List.getElem?_eq_some_iff.mp a
  obtain ⟨h2, e2⟩ := List.getElem?_eq_some_iff.mp b
  exact (List.getElem_inj hN).mp (e1.trans e2.symm)
theorem store_ok2 {M : Model} {A : Around} {E : Value → Shared → Prop} {i : Nat} {x : Str} {v : V} {u : Value} {Q : Unit → Shared → Prop} (I : Inv X pins σ H s) (hN : X.N.Nodup) (hi : X.N[i]? = some x) (hx : Loc X.env.scope x) (r : RelV v u)
    (h : ∀ s', Inv X pins (σ.set i (some v)) H s' → (∃ a, Heap.SameBut a s.heap s'.heap ∧ (a = X.env.locals ∨ X.env.cells.lookup x = some a)) → Q () s') (hf : X.fn x = true ∨ X.env.scope.names.lookup x = some .local := by first | exact .inl rfl | exact .inr rfl | assumption) : wpAny M A (storeName X.env x u) Q E s := by
  obtain ⟨m, hn, hl⟩ := id I.loc
  have hcls : (X.env.scope.kind == .class || (X.env.scope.kind == .module && X.env.locals != X.env.globals)) = false := by rw [I.ok.kind]; rfl
  have hiσ : i < σ.length := by rw [I.len]; exact (List.getElem?_eq_some_iff.mp hi).1
  have cne := I.cne
  have tracked : ∀ {a : Addr} {h' : Heap}, (∃ o, s.heap.get? a = some o ∧ H a = none) → Heap.SameBut a s.heap h' → HOk X.prog X.w H h' := fun {a h'} ha hs b ob e => by
    obtain ⟨_, _, hfree⟩ := ha
    refine (I.hok b ob e).stay (fun c w' hc q => (hs.2 c ?_).trans q) (fun _ q => q) fun _ _ q => q
    rintro rfl
    rcases hc with rfl | hc
    · rw [hfree] at e; cases e
    · rw [hfree] at hc; cases hc
  rcases hx with hk | hk
  · refine wpAny_storeName_local hk hn (fun h' hn' hs => ?_) hcls
    obtain ⟨oL, _, _, hoL, _⟩ := id hn
    refine h _ ⟨I.ok, I.os, I.bare, ⟨fun b o e n hb hx => ?_, fun b o e n hb hx => ?_, I.base.free, fun b o e hx => ?_, I.base.tups, I.base.frzs, I.base.tbls⟩, ⟨_, hn', fun j y v' e1 e2 e3 => ?_⟩, fun y c e => ?_, I.free, I.freeC, fun p hp => ?_, tracked ⟨oL, hoL, I.free⟩ hs, by simpa using I.len⟩ ⟨_, hs, .inl rfl⟩
    · exact (hs.2 b (Nat.ne_of_lt (Nat.lt_of_lt_of_le (Heap.lt_size e) I.ok.above))).trans (I.base.keep b o e n hb hx)
    · obtain ⟨sl, e1⟩ := I.base.slot b o e n hb hx
      exact ⟨sl, (hs.2 b (Nat.ne_of_lt (Nat.lt_of_lt_of_le (Heap.lt_size e) I.ok.above))).trans e1⟩
    · obtain ⟨o', e1⟩ := I.base.there b o e hx
      exact ⟨o', (hs.2 b (Nat.ne_of_lt (Nat.lt_of_lt_of_le (Heap.lt_size e) I.ok.above))).trans e1⟩
    · by_cases hj : j = i
      · subst hj
        rw [hi] at e1; cases e1
        rw [List.getElem?_set_self hiσ] at e2
        cases e2
        exact ⟨u, r, .inl ⟨hk, by simp⟩⟩
      · rw [List.getElem?_set_ne (Ne.symm hj)] at e2
        obtain ⟨u', r', q⟩ := hl j y v' e1 e2 e3
        refine ⟨u', r', ?_⟩
        rcases q with ⟨k, e⟩ | ⟨k, c, e, z⟩
        · refine .inl ⟨k, ?_⟩
          have : y ≠ x := fun e => hj (nodup_ix hN e1 (e ▸ hi))
          simp [this, e]
        · exact .inr ⟨k, c, e, z.sameBut hs (cne y c e)⟩
    · obtain ⟨w', z⟩ := I.cell y c e
      exact ⟨w', z.sameBut hs (cne y c e)⟩
    · obtain ⟨e, n, ne, nf, d⟩ := I.pin p hp
      exact ⟨(hs.2 p.1 ne).trans e, n, ne, nf, d⟩
  · have hfn : X.fn x = true := by
      rcases hf with z | z
      · exact z
      · rw [z] at hk; cases hk
    obtain ⟨c, hc⟩ := I.ok.has x (.inl hk)
    obtain ⟨w', z⟩ := I.cell x c hc
    refine wpAny_storeName_cell I.ok.kind hk hc z (fun h' hc' hs => ?_)
    obtain ⟨oc, hoc, hocd⟩ := id z
    refine h { s with heap := h' } ⟨I.ok, I.os, I.bare, ⟨fun b o e n hb hx => ?_, fun b o e n hb hx => ?_, I.base.free, fun b o e hx => ?_, I.base.tups, I.base.frzs, I.base.tbls⟩, ⟨m, hn.sameBut hs (Ne.symm (cne x c hc)), fun j y v' e1 e2 e3 => ?_⟩, fun y c' e => ?_, I.free, I.freeC, fun p hp => ?_, tracked ⟨oc, hoc, I.freeC x c hc⟩ hs, by simpa using I.len⟩ ⟨c, hs, .inr hc⟩
    · exact (hs.2 b (Nat.ne_of_lt (Nat.lt_of_lt_of_le (Heap.lt_size e) (I.ok.cab x c hfn hc)))).trans (I.base.keep b o e n hb hx)
    · obtain ⟨sl, e1⟩ := I.base.slot b o e n hb hx
      exact ⟨sl, (hs.2 b (Nat.ne_of_lt (Nat.lt_of_lt_of_le (Heap.lt_size e) (I.ok.cab x c hfn hc)))).trans e1⟩
    · obtain ⟨o', e1⟩ := I.base.there b o e hx
      exact ⟨o', (hs.2 b (Nat.ne_of_lt (Nat.lt_of_lt_of_le (Heap.lt_size e) (I.ok.cab x c hfn hc)))).trans e1⟩
    · by_cases hj : j = i
      · subst hj
        rw [hi] at e1; cases e1
        rw [List.getElem?_set_self hiσ] at e2
        cases e2
        exact ⟨u, r, .inr ⟨.inl hk, c, hc, hc'⟩⟩
      · rw [List.getElem?_set_ne (Ne.symm hj)] at e2
        obtain ⟨u', r', q⟩ := hl j y v' e1 e2 e3
        refine ⟨u', r', ?_⟩
        rcases q with q | ⟨k, c', e, z'⟩
        · exact .inl q
        · refine .inr ⟨k, c', e, z'.sameBut hs ?_⟩
          rintro rfl
          exact hj (nodup_ix hN e1 (I.ok.inj _ _ _ e hc ▸ hi))
    · by_cases hcc : c' = c
      · subst hcc; exact ⟨_, hc'⟩
      · obtain ⟨w2, z2⟩ := I.cell y c' e
        exact ⟨w2, z2.sameBut hs hcc⟩
    · obtain ⟨e, n, ne, nf, d⟩ := I.pin p hp
      refine ⟨(hs.2 p.1 ?_).trans e, n, ne, nf, d⟩
      intro q
      rw [q, hoc] at e
      have q' : oc = p.2 := Option.some.inj e
      exact d w' (by rw [← q']; exact hocd)
theorem store_ok {M : Model} {A : Around} {E : Value → Shared → Prop} {i : Nat} {x : Str} {v : V} {u : Value} {Q : Unit → Shared → Prop} (I : Inv X pins σ H s) (hN : X.N.Nodup) (hi : X.N[i]? = some x) (hx : Loc X.env.scope x) (r : RelV v u)
    (h : ∀ s', Inv X pins (σ.set i (some v)) H s' → Q () s') (hf : X.fn x = true ∨ X.env.scope.names.lookup x = some .local := by first | exact .inl rfl | exact .inr rfl | assumption) : wpAny M A (storeName X.env x u) Q E s :=
  store_ok2 I hN hi hx r (fun s' I' _ => h s' I') hf
theorem Inv.call' {s' : Shared} {ch : List Addr} (I : Inv X pins σ H s) (ho : s'.os = s.os) (u : Un (frs X.stack) ch H H' s.heap s'.heap) (hok : HOk X.prog X.w H' s'.heap) (hg : AllBare s'.gens)
    (hch : ∀ b ∈ ch, (b ∈ X.ex ∨ X.s_0.heap.objs.size ≤ b) ∧ b ≠ X.env.locals ∧ (∀ x c, X.env.cells.lookup x = some c → c ≠ b) ∧ ∀ p ∈ X.pn ++ pins, p.1 ≠ b) : Inv X pins σ H' s' := by
  obtain ⟨h', g', d', t', o'⟩ := s'
  have e : o' = s.os := ho
  subst e
  exact I.call (g' := g') (t' := t') (d' := d') u hok hg hch
end
abbrev XK := Value → Option Addr → Hp → Prop
abbrev St := List (Option V)
abbrev VK := V → Hp → Prop
abbrev TE := St → Hp → VK → Prop
abbrev TT := St → Hp → (Bool → Hp → Prop) → Prop
abbrev TA := St → Hp → (List V → Hp → Prop) → Prop
structure Ends where
  nx : St → Hp → Prop
  rt : VK
  bk : St → Hp → Prop := fun _ _ => False
  ct : St → Hp → Prop := fun _ _ => False
abbrev TS := Ends → St → Hp → Prop
def EP (X : Cx) (pins : List (Addr × Obj)) (σ : St) (Q : VK) (u : Value) (s' : Shared) : Prop := ∃ v H', Inv X pins σ H' s' ∧ RelV v u ∧ Q v H'
def TP (X : Cx) (pins : List (Addr × Obj)) (σ : St) (Q : Bool → Hp → Prop) (b : Bool) (s' : Shared) : Prop := ∃ H', Inv X pins σ H' s' ∧ Q b H'
def AP (X : Cx) (pins : List (Addr × Obj)) (σ : St) (Q : List V → Hp → Prop) (us : List Value) (s' : Shared) : Prop := ∃ vs H', Inv X pins σ H' s' ∧ Vals vs us ∧ Q vs H'
def SP (X : Cx) (pins : List (Addr × Obj)) (D : Ends) (f : Flow) (s' : Shared) : Prop :=
  match f with
  | .next => ∃ σ' H', Inv X pins σ' H' s' ∧ D.nx σ' H'
  | .brk => ∃ σ' H', Inv X pins σ' H' s' ∧ D.bk σ' H'
  | .cont => ∃ σ' H', Inv X pins σ' H' s' ∧ D.ct σ' H'
  | .ret u => ∃ v σ' H', Inv X pins σ' H' s' ∧ RelV v u ∧ D.rt v H'
def PE (X : Cx) (e : Expr) (t : TE) : Prop :=
  ∀ (pins : List (Addr × Obj)) (s : Shared) (σ : St) (H : Hp) (Q : VK), Inv X pins σ H s → t σ H Q → wpAny (model X.prog X.w) X.A (eval e X.env) (EP X pins σ Q) X.xe s
def PT (X : Cx) (e : Expr) (t : TT) : Prop :=
  ∀ (pins : List (Addr × Obj)) (s : Shared) (σ : St) (H : Hp) (Q : Bool → Hp → Prop), Inv X pins σ H s → t σ H Q → wpAny (model X.prog X.w) X.A (isTrue e X.env (eval e X.env)) (TP X pins σ Q) X.xe s
def PW (X : Cx) (e : Expr) (t : TT) : Prop :=
  ∀ (whole : Sem Value) (pins : List (Addr × Obj)) (s : Shared) (σ : St) (H : Hp) (Q : Bool → Hp → Prop), Inv X pins σ H s → t σ H Q → wpAny (model X.prog X.w) X.A (isTrue e X.env whole) (TP X pins σ Q) X.xe s
theorem PW.pt {X : Cx} {e : Expr} {t : TT} (h : PW X e t) : PT X e t := h _
def PA (X : Cx) (es : List Expr) (t : TA) : Prop :=
  ∀ (pos : Pos) (pins : List (Addr × Obj)) (s : Shared) (σ : St) (H : Hp) (Q : List V → Hp → Prop), Inv X pins σ H s → t σ H Q → wpAny (model X.prog X.w) X.A (spliced (backTo pos (starEach es X.env))) (AP X pins σ Q) X.xe s
def PS (X : Cx) (st : Stmt) (t : TS) : Prop :=
  ∀ (pins : List (Addr × Obj)) (s : Shared) (σ : St) (H : Hp) (D : Ends), Inv X pins σ H s → t D σ H → wpAny (model X.prog X.w) X.A (exec st X.env) (SP X pins D) X.xe s
def PSs (X : Cx) (st : List Stmt) (t : TS) : Prop :=
  ∀ (pins : List (Addr × Obj)) (s : Shared) (σ : St) (H : Hp) (D : Ends), Inv X pins σ H s → t D σ H → wpAny (model X.prog X.w) X.A (execs st X.env) (SP X pins D) X.xe s
theorem thn {α : Type} {t : Sem α} {Q Q' : α → Shared → Prop} {M : Model} {A : Around} {E : Value → Shared → Prop} {s : Shared} (h : wpAny M A t Q E s) (hQ : ∀ a s, Q a s → Q' a s) : wpAny M A t Q' E s := wpAny_mono h hQ fun _ _ x => x
end L2
namespace L2
open PySem PySem.Spec PyProof.Rows
section
variable {X : Cx}
def tVar (i : Nat) : TE := fun σ H Q => ∃ v, σ[i]? = some (some v) ∧ Q v H
def tC (v : V) : TE := fun _ H Q => Q v H
theorem pe_var {i : Nat} {x : Str} {pos : Pos} (hN : X.N[i]? = some x) (hv : Vis X.env.scope x) (hd : (x == ("__debug__" : Str)) = false := by decide) (hcd : (x == ("__classdict__" : Str)) = false := by decide) : PE X (.Name x pos) (tVar i) := by
  intro pins s σ H Q I h
  obtain ⟨v, e, h⟩ := h
  obtain ⟨m, hn, hl⟩ := I.loc
  obtain ⟨u, r, l⟩ := hl i x v hN e hv
  have fin : EP X pins σ Q u s := ⟨v, H, I, r, h⟩
  rcases l with ⟨hk, hm⟩ | ⟨hk, c, hc, hcell⟩
  · exact wpAny_Name (wpAny_loadName_local I.ok.kind hk hn hm fin) hd
  · rcases hk with hk | hk
    · exact wpAny_Name (wpAny_loadName_cell I.ok.kind hk hc hcell fin) hd
    · exact wpAny_Name (wpAny_loadName_free I.ok.kind hk hc hcell fin hcd) hd
theorem pe_int {i j pos} : PE X (.Constant (.int i) j pos) (tC (.int i)) := fun _ _ _ H _ I h => wpAny_Constant_int ⟨.int i, H, I.tok _, ⟨_, rfl⟩, h⟩
theorem pe_bl {b j pos} : PE X (.Constant (.bool b) j pos) (tC (.bl b)) := fun _ _ _ H _ I h => Constant_bool ⟨.bl b, H, I, rfl, h⟩
theorem pe_non {j pos} : PE X (.Constant .none j pos) (tC .non) := fun _ _ _ H _ I h => Constant_none ⟨.non, H, I, rfl, h⟩
theorem pe_str {x j pos} : PE X (.Constant (.str x) j pos) (tC (.str x)) := fun _ _ _ H _ I h => Calls.Constant_str ⟨.str x, H, I.tok _, ⟨_, rfl⟩, h⟩
def Gl (X : Cx) (x : Str) : Prop := X.env.kindOf x = some .globalImplicit
theorem ld_glob {E : Value → Shared → Prop} {pins : List (Addr × Obj)} {s : Shared} {σ : St} {H : Hp} {x : Str} {u : Value} {pos : Pos} {Q : Value → Shared → Prop} (I : Inv X pins σ H s) (hg : Gl X x) (hm : X.mg x = some u) (h : Q u s)
    (hd : (x == ("__debug__" : Str)) = false := by decide) : wpAny (model X.prog X.w) X.A (eval (.Name x pos) X.env) Q E s :=
  Calls.Name_function_global I.ok.kind hg (Calls.loadGlobal_global (by rw [I.ok.glob]; exact I.mod.glob.keeps I.bk) hm h) hd
theorem ld_blt {E : Value → Shared → Prop} {pins : List (Addr × Obj)} {s : Shared} {σ : St} {H : Hp} {x : Str} {u : Value} {pos : Pos} {Q : Value → Shared → Prop} (I : Inv X pins σ H s) (hg : Gl X x) (hm : X.mg x = none) (hv : bootBuiltins x = some u) (h : Q u s)
    (hn : x ≠ "__name__" := by decide) (hd : (x == ("__debug__" : Str)) = false := by decide) : wpAny (model X.prog X.w) X.A (eval (.Name x pos) X.env) Q E s := by
  obtain ⟨mb, h1, h2⟩ := I.mod.blt
  exact Calls.Name_function_global I.ok.kind hg (Calls.loadGlobal_builtin (by rw [I.ok.glob]; exact I.mod.glob.keeps I.bk) hm (by rw [I.ok.blt]; exact h1.keeps I.bk) ((h2 x hn).trans hv) h) hd
theorem pe_glob {x : Str} {v : V} {u : Value} {pos : Pos} (hg : Gl X x) (hm : X.mg x = some u) (r : RelV v u) (hd : (x == ("__debug__" : Str)) = false := by decide) : PE X (.Name x pos) (tC v) :=
  fun _ _ _ H _ I h => ld_glob I hg hm ⟨v, H, I, r, h⟩ hd
variable {a b : Expr} {ta tb : TE} {pos : Pos}
def PC (X : Cx) (op : CmpOp) (a b : Expr) (t : TE) : Prop :=
  ∀ (pins : List (Addr × Obj)) (s : Shared) (σ : St) (H : Hp) (Q : VK), Inv X pins σ H s → t σ H Q →
    wpAny (model X.prog X.w) X.A (eval a X.env) (fun v s₁ => wpAny (model X.prog X.w) X.A (eval b X.env) (fun u s₂ => wpAny (model X.prog X.w) X.A (compareOp op v u) (EP X pins σ Q) X.xe s₂) X.xe s₁) X.xe s
def tB (t : TE) : TT := fun σ H Q => t σ H fun x H1 => ∃ c, x = .bl c ∧ Q c H1
theorem pt_cmp {op : CmpOp} {t : TE} (h : PC X op a b t) (h1 : behindInMarks op b = false := by first | exact nobehind _ (by decide) (by decide) | rfl) : PT X (.Compare a [op] [b] pos) (tB t) := by
  intro pins s σ H Q I hw
  refine wpAny_isTrue_Compare1 (thn (h pins s σ H _ I hw) fun v s1 h1 => thn h1 fun u s2 h2 => thn h2 fun c s3 ⟨x, H1, I1, r1, q1⟩ => ?_) h1
  obtain ⟨d, rfl, q⟩ := q1
  cases r1
  exact wpAny_truthy_bool ⟨H1, I1, q⟩
theorem pt_val {e : Expr} {t : TE} (h : PE X e t) (he : ∀ whole, isTrue e X.env whole = (do let v ← whole; standAt e.pos; holding [v] (truthy v)) := by intro _; rfl) : PT X e (tB t) := by
  intro pins s σ H Q I hw
  refine isTrue_plain (thn (h pins s σ H _ I hw) fun v s1 ⟨x, H1, I1, r1, q1⟩ => ?_) (he _)
  obtain ⟨d, rfl, q⟩ := q1
  cases r1
  exact wpAny_truthy_bool ⟨H1, I1, q⟩
variable {tA tB' : TT} {rest : List Expr}
def tAnd (t u : TT) : TT := fun σ H Q => t σ H fun c H1 => if c = true then u σ H1 Q else Q false H1
def tOr (t u : TT) : TT := fun σ H Q => t σ H fun c H1 => if c = true then Q true H1 else u σ H1 Q
def tNot (t : TT) : TT := fun σ H Q => t σ H fun c H1 => Q (!c) H1
theorem pw_and1 (ha : PT X a tA) : PW X (.BoolOp .And [a] pos) tA := by
  intro wh pins s σ H Q I h
  refine isTrue_and (thn (ha pins s σ H Q I h) fun c s1 e => ?_)
  cases c with
  | true => exact isTrue_and_nil e
  | false => exact e
theorem pw_or1 (ha : PT X a tA) : PW X (.BoolOp .Or [a] pos) tA := by
  intro wh pins s σ H Q I h
  refine isTrue_or (thn (ha pins s σ H Q I h) fun c s1 e => ?_)
  cases c with
  | false => exact isTrue_or_nil e
  | true => exact e
theorem pw_and (ha : PT X a tA) (hb : PW X (.BoolOp .And (b :: rest) pos) tB') : PW X (.BoolOp .And (a :: b :: rest) pos) (tAnd tA tB') := by
  intro wh pins s σ H Q I h
  refine isTrue_and (thn (ha pins s σ H _ I h) fun c s1 ⟨H1, I1, q1⟩ => ?_)
  cases c with
  | true => exact hb wh pins s1 σ H1 Q I1 q1
  | false => exact ⟨H1, I1, q1⟩
theorem pw_or (ha : PT X a tA) (hb : PW X (.BoolOp .Or (b :: rest) pos) tB') : PW X (.BoolOp .Or (a :: b :: rest) pos) (tOr tA tB') := by
  intro wh pins s σ H Q I h
  refine isTrue_or (thn (ha pins s σ H _ I h) fun c s1 ⟨H1, I1, q1⟩ => ?_)
  cases c with
  | true => exact ⟨H1, I1, q1⟩
  | false => exact hb wh pins s1 σ H1 Q I1 q1
theorem pt_not (ha : PT X a tA) : PT X (.UnaryOp .Not a pos) (tNot tA) := by
  intro pins s σ H Q I h
  exact isTrue_not (ha pins s σ H (fun c H1 => Q (!c) H1) I h)
def tNotV (ta : TE) : TE := fun σ H Q => ta σ H fun x H1 => ∃ c, x = .bl c ∧ Q (.bl (!c)) H1
theorem pe_not (ha : PE X a ta) : PE X (.UnaryOp .Not a pos) (tNotV ta) := by
  intro pins s σ H Q I h
  refine UnaryOp_ (thn (ha pins s σ H _ I h) fun v s1 ⟨x, H1, I1, r1, q1⟩ => ?_)
  obtain ⟨c, rfl, q1⟩ := q1
  cases r1
  exact not_of (wpAny_truthy_bool ⟨.bl (!c), H1, I1, rfl, q1⟩)
def tIf (t : TT) (ta tb : TE) : TE := fun σ H Q => t σ H fun c H1 => if c = true then ta σ H1 Q else tb σ H1 Q
theorem pe_ifExp {c : Expr} (hc : PT X c tA) (ha : PE X a ta) (hb : PE X b tb) : PE X (.IfExp c a b pos) (tIf tA ta tb) := by
  intro pins s σ H Q I h
  refine wpAny_IfExp (thn (hc pins s σ H _ I h) fun d s1 ⟨H1, I1, q1⟩ => ?_)
  cases d with
  | true => exact ha pins s1 σ H1 Q I1 q1
  | false => exact hb pins s1 σ H1 Q I1 q1
end
end L2
namespace L2
open PySem PySem.Spec PyProof.Rows
def SqL (K : PySem.W.Frag) (H : Hp) (a : Addr) (xs : List V) : Prop :=
  Rd H a (.lst xs) ∨
    ∃ (o : Obj) (its : Array Value) (n : Nat), K.lookup a = some o ∧ o.cls = .type "list" ∧ o.dict = none ∧ o.data = .seq its n ∧ its.size ≤ sizeLine ∧ Vals xs its.toList
def SqT (K : PySem.W.Frag) (H : Hp) (a : Addr) (xs : List V) : Prop :=
  Rd H a (.tup xs) ∨
    ∃ (o : Obj) (its : Array Value) (n : Nat), K.lookup a = some o ∧ o.cls = .type "tuple" ∧ o.data = .seq its n ∧ its.size ≤ sizeLine ∧ Vals xs its.toList
def absV : Value → Option V
  | .none => some .non
  | .bool b => some (.bl b)
  | .int i _ => some (.int i)
  | .str x _ => some (.str x)
  | .bytes b _ => some (.byt b)
  | .float b _ => some (.flt b)
  | .ref a => some (.ref a)
  | .type n => some (.ty n)
  | _ => none
theorem RelV.abs {x : V} {u : Value} (r : RelV x u) : absV u = some x := by
  cases x with
  | non => cases r; rfl
  | bl _ => cases r; rfl
  | int _ => obtain ⟨t, rfl⟩ := r; rfl
  | str _ => obtain ⟨t, rfl⟩ := r; rfl
  | byt _ => obtain ⟨t, rfl⟩ := r; rfl
  | flt _ => obtain ⟨t, rfl⟩ := r; rfl
  | ref _ => cases r; rfl
  | ty _ => cases r; rfl
theorem RelV.inj {x y : V} {u : Value} (r : RelV x u) (q : RelV y u) : x = y := Option.some.inj (r.abs.symm.trans q.abs)
theorem Vals.inj : ∀ {xs ys : List V} {us : List Value}, Vals xs us → Vals ys us → xs = ys
  | _, _, _, .nil, .nil => rfl
  | _, _, _, .cons r t, .cons r' t' => by rw [r.inj r', Vals.inj t t']
section
variable {X : Cx} {pins : List (Addr × Obj)} {σ : St} {H : Hp} {s : Shared} {a : Addr} {xs ys : List V}
theorem SqL.of {K : PySem.W.Frag} (h : H a = some (.lst xs)) : SqL K H a xs := .inl (.inl h)
theorem Inv.list (I : Inv X pins σ H s) (h : SqL X.K H a xs) : ∃ its : List Value, Vals xs its ∧ PlainL s.heap a its.toArray ∧ xs.length ≤ sizeLine := by
  rcases h with h | ⟨o, its, n, hk, hc, hd, hs, hz, r⟩
  · obtain ⟨z, its, n, r, e⟩ := h.ok I.hok
    exact ⟨its, r, ⟨_, n, e, rfl, rfl, rfl⟩, z⟩
  · refine ⟨its.toList, r, ⟨o, n, I.kIn a o hk, hc, hd, by simpa using hs⟩, ?_⟩
    have e := r.length
    simp only [Array.length_toList] at e
    omega
theorem Inv.tuple (I : Inv X pins σ H s) (h : SqT X.K H a xs) : ∃ its : List Value, Vals xs its ∧ IsTup s.heap a its.toArray ∧ xs.length ≤ sizeLine := by
  rcases h with h | ⟨o, its, n, hk, hc, hs, hz, r⟩
  · obtain ⟨z, its, r, p⟩ := h.ok I.hok
    exact ⟨its, r, p, z⟩
  · refine ⟨its.toList, r, ⟨o, I.kIn a o hk, hc, n, by simpa using hs⟩, ?_⟩
    have e := r.length
    simp only [Array.length_toList] at e
    omega
theorem Inv.list_inj (I : Inv X pins σ H s) (h : SqL X.K H a xs) (h' : SqL X.K H a ys) : xs = ys := by
  obtain ⟨its, r, ⟨o, n, e, _, _, d⟩, _⟩ := I.list h
  obtain ⟨its', r', ⟨o', n', e', _, _, d'⟩, _⟩ := I.list h'
  rw [e] at e'; cases e'
  rw [d] at d'
  injection d' with d1 _
  have : its = its' := by simpa using congrArg Array.toList d1
  subst this
  exact r.inj r'
end
abbrev Cx.wish (X : Cx) (E : Value → Shared → Prop) : Cx := { X with xe := E }
abbrev Cx.nox (X : Cx) : Cx := X.wish fun _ _ => False
theorem Cx.Ok.wish {X : Cx} (ok : X.Ok) (E : Value → Shared → Prop) : (X.wish E).Ok :=
  ⟨ok.mod, ok.kind, ok.glob, ok.blt, ok.above, ok.inj, ok.has, ok.cab, ok.hd, ok.frames, ok.stk, ok.exf, ok.bs, ok.bsz, ok.noex, ok.exfs, ok.funs, ok.frf⟩
theorem Cx.Ok.unwish {X : Cx} {E : Value → Shared → Prop} (ok : (X.wish E).Ok) : X.Ok :=
  ⟨ok.mod, ok.kind, ok.glob, ok.blt, ok.above, ok.inj, ok.has, ok.cab, ok.hd, ok.frames, ok.stk, ok.exf, ok.bs, ok.bsz, ok.noex, ok.exfs, ok.funs, ok.frf⟩
section
variable {X : Cx} {pins : List (Addr × Obj)} {σ : St} {H : Hp} {s : Shared} {E : Value → Shared → Prop}
theorem Inv.wish (I : Inv X pins σ H s) (E : Value → Shared → Prop) : Inv (X.wish E) pins σ H s := ⟨I.ok.wish E, I.os, I.bare, I.base, I.loc, I.cell, I.free, I.freeC, I.pin, I.hok, I.len⟩
theorem Inv.unwish (I : Inv (X.wish E) pins σ H s) : Inv X pins σ H s := ⟨I.ok.unwish, I.os, I.bare, I.base, I.loc, I.cell, I.free, I.freeC, I.pin, I.hok, I.len⟩
theorem SP.unwish {D : Ends} {f : Flow} {s' : Shared} (h : SP (X.wish E) pins D f s') : SP X pins D f s' := by
  cases f with
  | next => obtain ⟨σ', H', I, q⟩ := h; exact ⟨σ', H', I.unwish, q⟩
  | brk => obtain ⟨σ', H', I, q⟩ := h; exact ⟨σ', H', I.unwish, q⟩
  | cont => obtain ⟨σ', H', I, q⟩ := h; exact ⟨σ', H', I.unwish, q⟩
  | ret u => obtain ⟨v, σ', H', I, r, q⟩ := h; exact ⟨v, σ', H', I.unwish, r, q⟩
theorem PSs.nox {st : List Stmt} {t : TS} (h : PSs X.nox st t) : PSs X st t := fun pins s σ H D I hw =>
  wpAny_mono (h pins s σ H D (I.wish _) hw) (fun _ _ q => q.unwish) fun _ _ z => False.elim z
end
section
variable {X : Cx} {st : Stmt} {rest : List Stmt} {t u : TS} {e : Expr} {te : TE} {pos : Pos}
def tNext : TS := fun D σ H => D.nx σ H
def tSeq (t u : TS) : TS := fun D σ H => t { D with nx := u D } σ H
theorem pss_nil : PSs X [] tNext := fun _ _ σ H _ I h => wpAny_execs_nil ⟨σ, H, I, h⟩
theorem pss_cons (h1 : PS X st t) (h2 : PSs X rest u) : PSs X (st :: rest) (tSeq t u) := by
  intro pins s σ H D I h
  refine wpAny_execs_cons (thn (h1 pins s σ H { D with nx := u D } I h) fun f s1 q => ?_)
  cases f with
  | next =>
    obtain ⟨σ', H', I', q⟩ := q
    exact h2 pins s1 σ' H' D I' q
  | ret v => exact q
  | brk => exact q
  | cont => exact q
theorem pss_one (h1 : PS X st t) : PSs X [st] t := by
  intro pins s σ H D I h
  refine wpAny_execs_cons (thn (h1 pins s σ H D I h) fun f s1 q => ?_)
  cases f with
  | next => exact wpAny_execs_nil q
  | ret v => exact q
  | brk => exact q
  | cont => exact q
theorem Inv.quiet {pins : List (Addr × Obj)} {σ : St} {H : Hp} {s : Shared} (I : Inv X pins σ H s) : interactive X.env = false := by simp [interactive, I.ok.kind]
def tDrop (te : TE) : TS := fun D σ H => te σ H fun _ H1 => D.nx σ H1
theorem ps_expr (he : PE X e te) (hs : swapsWith e none pos.line X.env = pure false := by rfl) : PS X (.Expr e pos) (tDrop te) := by
  intro pins s σ H D I h
  exact wpAny_Expr_any (thn (he pins s σ H _ I h) fun v s1 ⟨x, H1, I1, r1, q1⟩ => ⟨σ, H1, I1, q1⟩) I.quiet hs
def tRet (te : TE) : TS := fun D σ H => te σ H D.rt
theorem ps_ret (he : PE X e te) : PS X (.Return (some e) pos) (tRet te) := by
  intro pins s σ H D I h
  exact wpAny_Return_some (thn (he pins s σ H _ I h) fun v s1 ⟨x, H1, I1, r1, q1⟩ => ⟨x, σ, H1, I1, r1, q1⟩)
def tIfS (c : TT) (t u : TS) : TS := fun D σ H => c σ H fun b H1 => if b = true then t D σ H1 else u D σ H1
theorem ps_if {c : Expr} {a b : List Stmt} {tc : TT} (hc : PT X c tc) (ha : PSs X a t) (hb : PSs X b u) : PS X (.If c a b pos) (tIfS tc t u) := by
  intro pins s σ H D I h
  refine wpAny_If (thn (hc pins s σ H _ I h) fun d s1 ⟨H1, I1, q1⟩ => ?_)
  cases d with
  | true => exact ha pins s1 σ H1 D I1 q1
  | false => exact hb pins s1 σ H1 D I1 q1
end
abbrev TG := V → St → Hp → (St → Hp → Prop) → Prop
def PG (X : Cx) (target : Expr) (t : TG) : Prop :=
  ∀ (pins : List (Addr × Obj)) (s : Shared) (σ : St) (H : Hp) (v : V) (u : Value) (Q : St → Hp → Prop), Inv X pins σ H s → RelV v u → t v σ H Q →
    wpAny (model X.prog X.w) X.A (assign target X.env u) (fun _ s' => ∃ σ' H', Inv X pins σ' H' s' ∧ Q σ' H') X.xe s
abbrev TSet := V → V → V → Hp → (Hp → Prop) → Prop
def PSet (X : Cx) (t : TSet) : Prop :=
  ∀ (pins : List (Addr × Obj)) (s : Shared) (σ : St) (H : Hp) (o i v : V) (ov iv u : Value) (Q : Hp → Prop), Inv X pins σ H s → RelV o ov → RelV i iv → RelV v u → t o i v H Q →
    wpAny (model X.prog X.w) X.A (setItem ov iv u) (fun _ s' => ∃ H', Inv X pins σ H' s' ∧ Q H') X.xe s
abbrev TIp := V → V → Hp → VK → Prop
def PIp (X : Cx) (op : Operator) (t : TIp) : Prop :=
  ∀ (pins : List (Addr × Obj)) (s : Shared) (σ : St) (H : Hp) (x y : V) (v u : Value) (Q : VK), Inv X pins σ H s → RelV x v → RelV y u → t x y H Q →
    wpAny (model X.prog X.w) X.A (inplaceOp op v u) (EP X pins σ Q) X.xe s
section
variable {X : Cx} {pos : Pos}
def gName (i : Nat) : TG := fun v σ H Q => Q (σ.set i (some v)) H
theorem pg_name {i : Nat} {x : Str} (hN : X.N.Nodup) (hi : X.N[i]? = some x) (hx : Loc X.env.scope x) (hf : X.fn x = true ∨ X.env.scope.names.lookup x = some .local := by first | exact .inl rfl | exact .inr rfl | assumption) : PG X (.Name x pos) (gName i) := by
  intro pins s σ H v u Q I r h
  exact wpAny_assign_Name (store_ok I hN hi hx r (fun s' I' => ⟨_, H, I', h⟩) hf)
def gSub (to ti : TE) (t : TSet) : TG := fun v σ H Q => to σ H fun o H1 => ti σ H1 fun i H2 => t o i v H2 fun H3 => Q σ H3
theorem pg_sub {o i : Expr} {to ti : TE} {t : TSet} (ho : PE X o to) (hi : PE X i ti) (hs : PSet X t)
    (ha : ∀ v, assign (.Subscript o i pos) X.env v = (do
      let ov ← holding [v] (eval o X.env)
      let iv ← holding [v, ov] (eval i X.env)
      standAt pos
      holding [v, ov, iv] (setItem ov iv v)
      release [v, ov, iv] []) := by intro _; rfl) : PG X (.Subscript o i pos) (gSub to ti t) := by
  intro pins s σ H v u Q I r h
  rw [ha]
  refine wpAny_bind (wpAny_holding (thn (ho pins s σ H _ I h) fun ov s1 ⟨x, H1, I1, r1, q1⟩ => ?_))
  refine wpAny_bind (wpAny_holding (thn (hi pins s1 σ H1 _ I1 q1) fun iv s2 ⟨y, H2, I2, r2, q2⟩ => ?_))
  refine wpAny_bind (wpAny_standAt (wpAny_bind (wpAny_holding (thn (hs pins s2 σ H2 x y v ov iv u _ I2 r1 r2 r q2) fun _ s3 ⟨H3, I3, q3⟩ => ?_))))
  exact wpAny_release ⟨σ, H3, I3, q3⟩
def tAsg (te : TE) (g : TG) : TS := fun D σ H => te σ H fun x H1 => g x σ H1 D.nx
theorem ps_asg {tg e : Expr} {te : TE} {g : TG} (he : PE X e te) (hg : PG X tg g) (hs : swapsWithSole [tg] e pos.line X.env = pure false := by rfl) (hw : swappedStores [tg] e X.env = pure none := by rfl)
    (h1 : (assignEach [tg] X.env).map (·.2) = [assign tg X.env] := by rfl) : PS X (.Assign [tg] e pos) (tAsg te g) := by
  intro pins s σ H D I h
  refine wpAny_Assign_stores (thn (he pins s σ H _ I h) fun v s1 ⟨x, H1, I1, r1, q1⟩ => ?_) hs hw
  rw [h1]
  exact thn (hg pins s1 σ H1 x v _ I1 r1 q1) fun _ s2 q => q
theorem ps_set {i : Nat} {x : Str} {e : Expr} {te : TE} {pos' : Pos} (hN : X.N.Nodup) (hi : X.N[i]? = some x) (hx : Loc X.env.scope x) (he : PE X e te) (hs : swapsWith e (some (.Name x pos')) pos.line X.env = pure false := by rfl) (hf : X.fn x = true ∨ X.env.scope.names.lookup x = some .local := by first | exact .inl rfl | exact .inr rfl | assumption) :
    PS X (.Assign [.Name x pos'] e pos) (tAsg te (gName i)) := by
  intro pins s σ H D I h
  refine wpAny_Assign_Name (thn (he pins s σ H _ I h) fun v s1 ⟨y, H1, I1, r1, q1⟩ => ?_) hs
  exact store_ok I1 hN hi hx r1 (fun s2 I2 => ⟨_, H1, I2, q1⟩) hf
def tAug (i : Nat) (te : TE) (ti : TIp) : TS := fun D σ H => ∃ x, σ[i]? = some (some x) ∧ te σ H fun y H1 => ti x y H1 fun z H2 => D.nx (σ.set i (some z)) H2
theorem ps_aug {i : Nat} {x : Str} {e : Expr} {te : TE} {op : Operator} {ti : TIp} {pos' : Pos} (hN : X.N.Nodup) (hi : X.N[i]? = some x) (hx : Loc X.env.scope x) (he : PE X e te) (ho : PIp X op ti) (hf : X.fn x = true ∨ X.env.scope.names.lookup x = some .local := by first | exact .inl rfl | exact .inr rfl | assumption) :
    PS X (.AugAssign (.Name x pos') op e pos) (tAug i te ti) := by
  intro pins s σ H D I h
  obtain ⟨v, e1, h⟩ := h
  obtain ⟨m, hn, hl⟩ := I.loc
  have vis : Vis X.env.scope x := by rcases hx with k | k; exact .inl k; exact .inr (.inl k)
  obtain ⟨u, r, l⟩ := hl i x v hi e1 vis
  refine wpAny_AugAssign_Name ?_
  have go : wpAny (model X.prog X.w) X.A (eval e X.env) (fun w s₂ => wpAny (model X.prog X.w) X.A (inplaceOp op u w) (fun r s₃ => wpAny (model X.prog X.w) X.A (storeName X.env x r) (fun _ => SP X pins D .next) X.xe s₃) X.xe s₂) X.xe s := by
    refine thn (he pins s σ H _ I h) fun w s1 ⟨y, H1, I1, r1, q1⟩ => ?_
    refine thn (ho pins s1 σ H1 v y u w _ I1 r r1 q1) fun z s2 ⟨zv, H2, I2, r2, q2⟩ => ?_
    exact store_ok I2 hN hi hx r2 (fun s3 I3 => ⟨_, H2, I3, q2⟩) hf
  rcases l with ⟨hk, hm⟩ | ⟨hk, c, hc, hcell⟩
  · exact wpAny_loadName_local I.ok.kind hk hn hm go
  · rcases hk with hk | hk
    · exact wpAny_loadName_cell I.ok.kind hk hc hcell go
    · rcases hx with k | k
      · have : X.env.scope.names.lookup x = some .free := hk
        rw [k] at this; cases this
      · have : X.env.scope.names.lookup x = some .free := hk
        rw [k] at this; cases this
def ipI (f : Int → Int → Int) : TIp := fun x y H Q => ∃ i j, x = .int i ∧ y = .int j ∧ Q (.int (f i j)) H
theorem ip_add : PIp X .Add (ipI fun i j => i + j) := by
  intro pins s σ H x y v u Q I r1 r2 h
  obtain ⟨i, j, e1, e2, q⟩ := h
  subst e1; subst e2
  obtain ⟨t, rfl⟩ := r1
  obtain ⟨t', rfl⟩ := r2
  exact iadd_int ⟨.int _, H, I.tok _, ⟨_, rfl⟩, q⟩
end
section
variable {X : Cx} {pos : Pos}
def tWhile (c : TT) (tb : TS) : TS := fun D σ H => ∃ W : Nat → St → Hp → Prop, (∃ m, W m σ H) ∧ ∀ m σ H, W m σ H →
  c σ H fun b H1 => if b = true then ∃ N : St → Hp → Prop, (∀ σ' H', N σ' H' → ∃ m', m' < m ∧ W m' σ' H') ∧ tb { D with nx := N, ct := N, bk := D.nx } σ H1 else D.nx σ H1
theorem ps_while {c : Expr} {body : List Stmt} {tc : TT} {tb : TS} (hp : PassesOwn (model X.prog X.w) X.A X.env X.xe) (hc : PT X c tc) (hb : PSs X body tb) : PS X (.While c body [] pos) (tWhile tc tb) := by
  intro pins s σ H D I h
  obtain ⟨W, ⟨m0, w0⟩, turn⟩ := h
  refine wpAny_While (codeAny_whileLoop (fun n s' => ∃ σ' H', Inv X pins σ' H' s' ∧ W n σ' H') ?_ m0 ⟨σ, H, I, w0⟩)
  rintro n s1 ⟨σ1, H1, I1, w1⟩
  refine wpAny_passesOwn hp (thn (hc pins s1 σ1 H1 _ I1 (turn n σ1 H1 w1)) fun b s2 ⟨H2, I2, q2⟩ => ?_)
  cases b with
  | true =>
    obtain ⟨N, hN, q2⟩ := q2
    rw [if_pos rfl]
    refine wpAny_passesOwn hp (thn (hb pins s2 σ1 H2 _ I2 q2) fun f s3 q3 => ?_)
    cases f with
    | next =>
      obtain ⟨σ3, H3, I3, n3⟩ := q3
      obtain ⟨m', hm, w3⟩ := hN σ3 H3 n3
      exact ⟨m', hm, σ3, H3, I3, w3⟩
    | cont =>
      obtain ⟨σ3, H3, I3, n3⟩ := q3
      obtain ⟨m', hm, w3⟩ := hN σ3 H3 n3
      exact ⟨m', hm, σ3, H3, I3, w3⟩
    | brk => exact q3
    | ret v => exact q3
  | false =>
    rw [if_neg Bool.false_ne_true]
    exact wpAny_execs_nil ⟨σ1, H2, I2, q2⟩
end
structure It where
  go : Nat → Hp → Prop
  yld : Nat → Hp → V → Hp → Prop
  stop : Nat → Hp → Prop
def FpOk (X : Cx) (pins : List (Addr × Obj)) (H : Hp) (b : Addr) : Prop :=
  H b = none ∧ b ≠ X.env.locals ∧ b ∉ X.fs ∧ (b ∈ X.ex ∨ X.s_0.heap.objs.size ≤ b) ∧ (∀ x c, X.env.cells.lookup x = some c → c ≠ b) ∧ ∀ p ∈ X.pn ++ pins, p.1 ≠ b
theorem Inv.fpOk {X : Cx} {pins : List (Addr × Obj)} {σ : St} {H H' : Hp} {s : Shared} {b : Addr} (I : Inv X pins σ H s) (hb : s.heap.objs.size ≤ b) (hn : H' b = none) : FpOk X pins H' b := by
  refine ⟨hn, Nat.ne_of_gt (Nat.lt_of_lt_of_le I.lt hb), I.nofs hb, .inr (Nat.le_trans I.sz hb), fun x c e z => ?_, fun p hp z => ?_⟩
  · obtain ⟨v, q⟩ := I.cell x c e
    exact absurd (Nat.lt_of_lt_of_le q.lt (by rw [z]; exact hb)) (Nat.lt_irrefl _)
  · exact absurd (Nat.lt_of_lt_of_le (Heap.lt_size (I.pin p hp).1) (by rw [z]; exact hb)) (Nat.lt_irrefl _)
structure Turn (P : Program) (w : World) (K : PySem.W.Frag) (tg : Expr) (J : It) (fp : List Addr) (it : Addr) (tn : Nat → Heap → Prop) : Prop where
  mem : it ∈ fp
  obj : ∀ i h, tn i h → ∀ b ∈ fp, ∃ o, h.get? b = some o ∧ ∀ v, o.data ≠ .cell v
  keep : ∀ i h h', tn i h → (∀ b ∈ fp, ∀ o, h.get? b = some o → h'.get? b = some o) → tn i h'
  item : ∀ (X : Cx), X.prog = P → X.w = w → X.K = K → X.calm = true → ∀ (i : Nat) (pins : List (Addr × Obj)) (s : Shared) (σ : St) (H : Hp) (E : Value → Shared → Prop), Inv X pins σ H s → (∀ b ∈ fp, FpOk X pins H b) → tn i s.heap → J.go i H →
    wpAny (model P w) X.A (pyNext (.ref it)) (fun r s1 => ∃ u, r = some u ∧
      wpAny (model P w) X.A (letOwnedTupleGo tg (.ref it) u) (fun _ s2 => ∃ x H', Inv X pins σ H' s2 ∧ RelV x u ∧ J.yld i H x H' ∧ tn (i + 1) s2.heap ∧ ∀ b ∈ fp, H' b = none) E s1) E s
  done : ∀ (X : Cx), X.prog = P → X.w = w → X.K = K → X.calm = true → ∀ (i : Nat) (pins : List (Addr × Obj)) (s : Shared) (σ : St) (H : Hp) (E : Value → Shared → Prop), Inv X pins σ H s → (∀ b ∈ fp, FpOk X pins H b) → tn i s.heap → J.stop i H →
    wpAny (model P w) X.A (pyNext (.ref it)) (fun r s1 => r = none ∧ Inv X pins σ H s1) E s
  self : ∀ (A : Around) (i : Nat) (s : Shared) (Q : Value → Shared → Prop) (E : Value → Shared → Prop), tn i s.heap → Q (.ref it) s → wpAny (model P w) A (pyIter (.ref it)) Q E s
abbrev TI := St → Hp → (It → Hp → Prop) → Prop
def PIE (X : Cx) (pins : List (Addr × Obj)) (σ : St) (tg : Expr) (R : It → Hp → Prop) (itv : Value) (s2 : Shared) : Prop :=
  ∃ (it : Addr) (fp : List Addr) (tn : Nat → Heap → Prop) (J : It) (H' : Hp), itv = .ref it ∧ Inv X pins σ H' s2 ∧ Turn X.prog X.w X.K tg J fp it tn ∧ tn 0 s2.heap ∧ (∀ b ∈ fp, FpOk X pins H' b) ∧ R J H'
def PI (X : Cx) (tg iter : Expr) (wi : TI) : Prop :=
  ∀ (pins : List (Addr × Obj)) (s : Shared) (σ : St) (H : Hp) (R : It → Hp → Prop), Inv X pins σ H s → wi σ H R →
    wpAny (model X.prog X.w) X.A (eval iter X.env) (fun v s1 => wpAny (model X.prog X.w) X.A (pyIter v) (PIE X pins σ tg R) X.xe s1) X.xe s
theorem go_of {M : Model} {A : Around} {E : Value → Shared → Prop} {s : Shared} {tg : Expr} {it : Addr} {u : Value} {o : Obj} {n : String} {vs : Array Value} {Q : Unit → Shared → Prop} (ho : s.heap.get? it = some o) (hc : o.cls = .type n) (hd : o.data = .fields vs)
    (hn : ["enumerate", "zip", "dict_itemiterator", "dict_reverseitemiterator", "odict_iterator", "itertools.zip_longest", "itertools.pairwise"].contains n = false) (hQ : Q () s) : wpAny M A (letOwnedTupleGo tg (.ref it) u) Q E s := by
  unfold letOwnedTupleGo
  cases tg <;> first
    | exact wpAny_pure hQ
    | (cases u <;> first
        | exact wpAny_pure hQ
        | (refine wpAny_bind (wpAny_load ho ?_)
           rw [hc, hd]
           show wpAny M A (if (["enumerate", "zip", "dict_itemiterator", "dict_reverseitemiterator", "odict_iterator", "itertools.zip_longest", "itertools.pairwise"].contains n && vs[0]? == some (rawInt _)) = true then _ else _) Q E s
           rw [if_neg (by intro h; rw [hn, Bool.false_and] at h; cases h)]
           exact wpAny_pure hQ))
def Itl (K : PySem.W.Frag) (a : Addr) : It :=
  ⟨fun i H => ∃ xs x, SqL K H a xs ∧ xs[i]? = some x, fun i H x H' => H' = H ∧ ∀ xs, SqL K H a xs → xs[i]? = some x, fun i H => ∃ xs, SqL K H a xs ∧ xs.length ≤ i⟩
def Itr (lo : Int) (n : Nat) : It := ⟨fun i _ => i < n, fun i H x H' => H' = H ∧ x = .int (lo + i), fun i _ => n ≤ i⟩
theorem turn_list {P : Program} {w : World} {K : PySem.W.Frag} {tg : Expr} (a it : Addr) : Turn P w K tg (Itl K a) [it] it (fun i h => h.IsListIter it a i) where
  mem := by simp
  obj := fun i h st b hb => by
    have e : b = it := by simpa using hb
    subst e
    obtain ⟨o, e, c, d⟩ := st
    exact ⟨o, e, fun v z => by rw [d] at z; cases z⟩
  keep := fun i h h' st k => st.at fun o e => k it (by simp) o e
  item := by
    intro X hP hw hK hc i pins s σ H E I hf st hg
    subst hP hw hK
    obtain ⟨xs, x, hq, hx⟩ := hg
    obtain ⟨its, rv, p, hz⟩ := I.list hq
    obtain ⟨u, hu, ru⟩ := rv.get hx
    obtain ⟨f0, f1, f2, f3, f4, f5⟩ := hf it (by simp)
    refine wpAny_pyNext_list_item st p.isList (x := u) (by simpa using hu) fun h' st' sb => ?_
    have I1 : Inv X pins σ H { s with heap := h' } := I.turned (t' := s.toks) (fun b o hb e => (sb.2 b hb).trans e) f0 f1 f3 f4 f5
    obtain ⟨o, e, c, d⟩ := id st'
    exact ⟨u, rfl, go_of (s := { s with heap := h' }) e c d (by decide) ⟨x, H, I1, ru, ⟨rfl, fun ys hy => by rw [I.list_inj hy hq]; exact hx⟩, st', fun b hb => (hf b hb).1⟩⟩
  done := by
    intro X hP hw hK hc i pins s σ H E I hf st hg
    subst hP hw hK
    obtain ⟨xs, hq, hx⟩ := hg
    obtain ⟨its, rv, p, hz⟩ := I.list hq
    obtain ⟨f0, f1, f2, f3, f4, f5⟩ := hf it (by simp)
    have hl := rv.length
    exact wpAny_pyNext_list_end (I.ok.hd hc) st p.isList (by simp; omega) fun h' eb => ⟨rfl, I.turned (t' := s.toks) (fun b o hb e => eb b o hb e) f0 f1 f3 f4 f5⟩
  self := fun _ _ _ _ _ st h => wpAny_pyIter_listiter st h
theorem turn_range {P : Program} {w : World} {K : PySem.W.Frag} {tg : Expr} (it : Addr) (lo : Int) (n : Nat) : Turn P w K tg (Itr lo n) [it] it (fun i h => IsRangeIter h it (lo + (i : Nat) * 1) ((n : Int) - (i : Nat)) 1) where
  mem := by simp
  obj := fun i h st b hb => by
    have e : b = it := by simpa using hb
    subst e
    exact ⟨_, st, fun v z => by
      have z' : Data.fields _ = Data.cell v := z
      cases z'⟩
  keep := fun i h h' st k => k it (by simp) _ st
  item := by
    intro X hP hw hK hc i pins s σ H E I hf st hg
    subst hP hw hK
    obtain ⟨f0, f1, f2, f3, f4, f5⟩ := hf it (by simp)
    have W := Walks.range (prog := X.prog) (w := X.w) (I.ok.hd hc) it lo 1 n
    refine W.item i s _ _ hg st fun v h' tk hv st' kk => ?_
    obtain ⟨t, rfl⟩ := hv
    have I1 : Inv X pins σ H { s with heap := h', toks := tk } := I.turned (fun b o hb e => kk b o (by simpa using hb) e) f0 f1 f3 f4 f5
    refine ⟨_, rfl, go_of (s := { s with heap := h', toks := tk }) (n := "range_iterator") st' rfl rfl (by decide) ⟨.int (lo + i), H, I1, ⟨t, ?_⟩, ⟨rfl, rfl⟩, st', fun b hb => (hf b hb).1⟩⟩
    rw [Int.mul_one]
  done := by
    intro X hP hw hK hc i pins s σ H E I hf st hg
    subst hP hw hK
    obtain ⟨f0, f1, f2, f3, f4, f5⟩ := hf it (by simp)
    exact wpAny_pyNext_range_end (I.ok.hd hc) st (by have : n ≤ i := hg; omega) fun h' eb => ⟨rfl, I.turned (t' := s.toks) (fun b o hb e => eb b o hb e) f0 f1 f3 f4 f5⟩
  self := fun _ _ _ _ _ st h => wpAny_pyIter_rangeiter st h
end L2
namespace L2
open PySem PySem.Spec PyProof.Rows
section
variable {X : Cx} {tg : Expr}
def iList (K : PySem.W.Frag) (tl : TE) : TI := fun σ H R => tl σ H fun x H1 => ∃ a, x = .ref a ∧ (∃ xs, SqL K H1 a xs) ∧ R (Itl K a) H1
theorem pi_list {l : Expr} {tl : TE} (hl : PE X l tl) : PI X tg l (iList X.K tl) := by
  intro pins s σ H R I h
  refine thn (hl pins s σ H _ I h) fun v s1 ⟨x, H1, I1, r1, q1⟩ => ?_
  obtain ⟨a, e, ⟨xs, hq⟩, q⟩ := q1
  subst e
  cases r1
  obtain ⟨its, rv, p, hz⟩ := I1.list hq
  refine wpAny_pyIter_list p.isList ?_
  refine ⟨s1.heap.objs.size, [s1.heap.objs.size], _, _, H1, rfl, I1.kept (t' := s1.toks) fun b o e => Heap.get?_push_of_some _ e, turn_list a _, ⟨_, Heap.get?_push_size _ rfl, rfl, rfl⟩, fun b hb => ?_, q⟩
  have e : b = s1.heap.objs.size := by simpa using hb
  subst e
  exact I1.fpOk (Nat.le_refl _) (I1.hok.fresh (Nat.le_refl _))
theorem range_it {pins : List (Addr × Obj)} {σ : St} {H : Hp} {s : Shared} {R : It → Hp → Prop} {E : Value → Shared → Prop} {lo hi : Int} {t u v : Tok} {tk : Nat} (I : Inv X pins σ H s) (h1 : -(2 ^ 62) ≤ lo) (h2 : lo < 2 ^ 62) (h3 : -(2 ^ 62) ≤ hi) (h4 : hi < 2 ^ 62)
    (q : R (Itr lo (hi - lo).toNat) H) : wpAny (model X.prog X.w) X.A (pyIter (.ref s.heap.objs.size)) (PIE X pins σ tg R) E { s with heap := s.heap.push { cls := .type "range", data := .fields #[.int lo t, .int hi u, .int 1 v] }, toks := tk } := by
  refine wpAny_pyIter_range (IsRange.new ..) (small_one h1 h2 h3 h4) ?_
  have I1 : Inv X pins σ H { s with heap := s.heap.push { cls := .type "range", data := .fields #[.int lo t, .int hi u, .int 1 v] }, toks := tk } := I.kept fun b o e => Heap.get?_push_of_some _ e
  refine ⟨(s.heap.push { cls := .type "range", data := .fields #[.int lo t, .int hi u, .int 1 v] }).objs.size, [(s.heap.push { cls := .type "range", data := .fields #[.int lo t, .int hi u, .int 1 v] }).objs.size], _, _, H, rfl,
    I1.kept (t' := tk) fun b o e => Heap.get?_push_of_some _ e, turn_range _ lo (hi - lo).toNat, ?_, fun b hb => ?_, q⟩
  · have e1 : lo + ((0 : Nat) : Int) * 1 = lo := by simp
    have e2 : (((hi - lo).toNat : Nat) : Int) - ((0 : Nat) : Int) = Builtin.Range.rangeSize lo hi 1 := by rw [rangeSize_one]; split <;> omega
    show IsRangeIter _ _ (lo + ((0 : Nat) : Int) * 1) ((((hi - lo).toNat : Nat) : Int) - ((0 : Nat) : Int)) 1
    rw [e1, e2]
    exact Heap.get?_push_size _ rfl
  · have e : b = (s.heap.push { cls := .type "range", data := .fields #[.int lo t, .int hi u, .int 1 v] }).objs.size := by simpa using hb
    subst e
    exact I1.fpOk (Nat.le_refl _) (I1.hok.fresh (Nat.le_refl _))
def iRng1 (ta : TA) : TI := fun σ H R => ta σ H fun vs H1 => ∃ j : Int, vs = [.int j] ∧ -(2 ^ 62) ≤ j ∧ j < 2 ^ 62 ∧ R (Itr 0 j.toNat) H1
theorem pi_range1 {a : Expr} {ta : TA} {p pos : Pos} (hg : Gl X "range") (hm : X.mg "range" = none) (ha : PA X [a] ta) (hs : starEach [a] X.env = [(false, eval a X.env)] := by rfl) : PI X tg (.Call (.Name "range" p) [a] [] pos) (iRng1 ta) := by
  intro pins s σ H R I h
  refine Call_ (ld_blt I hg hm boot_range (PyProof.Rows.callWith_type1 (thn (ha pos pins s σ H _ I h) fun us s1 ⟨vs, H1, I1, r1, q1⟩ => ?_) hs rfl))
  obtain ⟨j, e, q1, q2, q⟩ := q1
  subst e
  cases r1 with
  | cons r rr =>
    cases rr
    obtain ⟨t, rfl⟩ := r
    exact call_range_1 (range_it I1 (by omega) (by omega) q1 q2 (by simpa using q))
def tFor (wi : TI) (g : TG) (tb : TS) : TS := fun D σ H => wi σ H fun J H1 => ∃ W : Nat → Nat → St → Hp → Prop, (∃ m, W 0 m σ H1) ∧ ∀ i m σ H, W i m σ H →
  (J.stop i H ∧ D.nx σ H) ∨ (J.go i H ∧ ∃ N : St → Hp → Prop, (∀ σ' H', N σ' H' → ∃ m', m' < m ∧ W (i + 1) m' σ' H') ∧ ∀ x H', J.yld i H x H' → g x σ H' fun σ2 H2 => tb { D with nx := N, ct := N, bk := D.nx } σ2 H2)
def pinsAt (fp : List Addr) (h : Heap) : List (Addr × Obj) := fp.filterMap fun b => (h.get? b).map fun o => (b, o)
theorem mem_pinsAt {fp : List Addr} {h : Heap} {b : Addr} {o : Obj} (hb : b ∈ fp) (e : h.get? b = some o) : (b, o) ∈ pinsAt fp h := List.mem_filterMap.mpr ⟨b, hb, by rw [e]; rfl⟩
theorem of_pinsAt {fp : List Addr} {h : Heap} {p : Addr × Obj} (hp : p ∈ pinsAt fp h) : p.1 ∈ fp ∧ h.get? p.1 = some p.2 := by
  obtain ⟨b, hb, e⟩ := List.mem_filterMap.mp hp
  cases q : h.get? b with
  | none => rw [q] at e; cases e
  | some o =>
    rw [q] at e
    have e' : (b, o) = p := Option.some.inj e
    subst e'
    exact ⟨hb, q⟩
theorem Inv.pinned {pins : List (Addr × Obj)} {σ : St} {H : Hp} {s : Shared} {fp : List Addr} (I : Inv X pins σ H s) (hf : ∀ b ∈ fp, FpOk X pins H b) (ho : ∀ b ∈ fp, ∃ o, s.heap.get? b = some o ∧ ∀ v, o.data ≠ .cell v) : Inv X (pins ++ pinsAt fp s.heap) σ H s :=
  I.pins_of fun p hp => (List.mem_append.mp hp).elim (fun z => I.pin p (List.mem_append_right _ z)) fun z => by
    obtain ⟨hb, e⟩ := of_pinsAt z
    obtain ⟨f0, f1, f2, _⟩ := hf p.1 hb
    obtain ⟨o, e', d⟩ := ho p.1 hb
    rw [e] at e'; cases e'
    exact ⟨e, f0, f1, f2, d⟩
theorem Inv.unpinned {pins pl : List (Addr × Obj)} {σ : St} {H : Hp} {s : Shared} (I : Inv X (pins ++ pl) σ H s) : Inv X pins σ H s := I.pins_of fun p hp => I.pin p (List.mem_append_right _ (List.mem_append_left _ hp))
theorem ps_for {iter : Expr} {body : List Stmt} {wi : TI} {g : TG} {tb : TS} {pos : Pos} (hp : PassesOwn (model X.prog X.w) X.A X.env X.xe) (hc : X.calm = true) (hi : PI X tg iter wi) (hg : PG X tg g) (hb : PSs X body tb)
    (hs : ∀ x, foldedSetIterable iter X.env x = pure x := by intro _; rfl) : PS X (.For tg iter body [] pos) (tFor wi g tb) := by
  intro pins s σ H D I h
  refine wpAny_For (thn (hi pins s σ H _ I h) fun v s1 h1 => thn h1 fun itv s2 h2 => ?_) hs
  obtain ⟨it, fp, tn, J, H2, e, I2, T, st2, f2, W, ⟨m0, w0⟩, turn⟩ := h2
  subst e
  -- what stays true of the iterator's objects through the loop
  have stat : ∀ {H' : Hp}, (∀ b ∈ fp, H' b = none) → ∀ b ∈ fp, FpOk X pins H' b := fun hn b hb => ⟨hn b hb, (f2 b hb).2⟩
  refine codeAny_forLoop_any (fun n s' => ∃ i σ' H', Inv X pins σ' H' s' ∧ tn i s'.heap ∧ (∀ b ∈ fp, H' b = none) ∧ W i n σ' H') ?_ m0 ⟨0, σ, H2, I2, st2, fun b hb => (f2 b hb).1, w0⟩
  rintro n s3 ⟨i, σ3, H3, I3, st3, fr3, w3⟩
  rcases turn i n σ3 H3 w3 with ⟨stop, qn⟩ | ⟨go, N, hN, step⟩
  · refine wpAny_passesOwn hp (thn (T.done X rfl rfl rfl hc i pins s3 σ3 H3 X.xe I3 (stat fr3) st3 stop) fun r s4 ⟨hr, I4⟩ => ?_)
    subst hr
    exact wpAny_execs_nil ⟨σ3, H3, I4, qn⟩
  · refine wpAny_passesOwn hp (thn (T.item X rfl rfl rfl hc i pins s3 σ3 H3 X.xe I3 (stat fr3) st3 go) fun r s4 ⟨u, hr, h4⟩ => ?_)
    subst hr
    refine wpAny_passesOwn hp (thn h4 fun _ s5 ⟨x, H5, I5, r5, y5, st5, fr5⟩ => ?_)
    have I5' := I5.pinned (stat fr5) (T.obj _ _ st5)
    refine wpAny_passesOwn hp (thn (hg _ s5 σ3 H5 x u _ I5' r5 (step x H5 y5)) fun _ s6 ⟨σ6, H6, I6, q6⟩ => ?_)
    refine wpAny_passesOwn hp (thn (hb _ s6 σ6 H6 _ I6 q6) fun f s7 q7 => ?_)
    have again : ∀ {σ7 : St} {H7 : Hp}, Inv X (pins ++ pinsAt fp s5.heap) σ7 H7 s7 → N σ7 H7 → ∃ m, m < n ∧ ∃ i σ' H', Inv X pins σ' H' s7 ∧ tn i s7.heap ∧ (∀ b ∈ fp, H' b = none) ∧ W i m σ' H' := fun {σ7 H7} I7 n7 => by
      obtain ⟨m', hm, w7⟩ := hN σ7 H7 n7
      refine ⟨m', hm, i + 1, σ7, H7, I7.unpinned, T.keep _ _ _ st5 fun b hb o e => (I7.pin (b, o) (List.mem_append_right _ (List.mem_append_right _ (mem_pinsAt hb e)))).1, fun b hb => ?_, w7⟩
      obtain ⟨o, e, d⟩ := T.obj _ _ st5 b hb
      exact (I7.pin (b, o) (List.mem_append_right _ (List.mem_append_right _ (mem_pinsAt hb e)))).2.1
    cases f with
    | next => obtain ⟨σ7, H7, I7, n7⟩ := q7; exact again I7 n7
    | cont => obtain ⟨σ7, H7, I7, n7⟩ := q7; exact again I7 n7
    | brk => obtain ⟨σ7, H7, I7, q7⟩ := q7; exact ⟨σ7, H7, I7.unpinned, q7⟩
    | ret v => obtain ⟨x7, σ7, H7, I7, r7, q7⟩ := q7; exact ⟨x7, σ7, H7, I7.unpinned, r7, q7⟩
end
theorem for_list {K : PySem.W.Frag} {a : Addr} {xs : List V} {g : TG} {tb : TS} {D : Ends} {σ : St} {H : Hp} (Pv : Nat → St → Hp → Prop) (h0 : Pv 0 σ H) (hl : ∀ i σ H, i ≤ xs.length → Pv i σ H → SqL K H a xs)
    (hs : ∀ i x σ H, xs[i]? = some x → Pv i σ H → g x σ H fun σ2 H2 => tb { D with nx := Pv (i + 1), ct := Pv (i + 1), bk := D.nx } σ2 H2) (hd : ∀ σ H, Pv xs.length σ H → D.nx σ H) :
    ∃ W : Nat → Nat → St → Hp → Prop, (∃ m, W 0 m σ H) ∧ ∀ i m σ H, W i m σ H →
      ((Itl K a).stop i H ∧ D.nx σ H) ∨ ((Itl K a).go i H ∧ ∃ N : St → Hp → Prop, (∀ σ' H', N σ' H' → ∃ m', m' < m ∧ W (i + 1) m' σ' H') ∧ ∀ x H', (Itl K a).yld i H x H' → g x σ H' fun σ2 H2 => tb { D with nx := N, ct := N, bk := D.nx } σ2 H2) := by
  refine ⟨fun i m σ H => m = xs.length - i ∧ i ≤ xs.length ∧ Pv i σ H, ⟨xs.length, by simp, Nat.zero_le _, h0⟩, ?_⟩
  rintro i m σ H ⟨rfl, hi, p⟩
  have q := hl i σ H hi p
  by_cases hlt : i < xs.length
  · refine .inr ⟨⟨xs, xs[i], q, by simp [hlt]⟩, Pv (i + 1), fun σ' H' p' => ⟨xs.length - (i + 1), by omega, rfl, hlt, p'⟩, fun x H' y => ?_⟩
    obtain ⟨e, y⟩ := y
    subst e
    exact hs i x σ _ (y xs q) p
  · have e : i = xs.length := by omega
    subst e
    exact .inl ⟨⟨xs, q, Nat.le_refl _⟩, hd σ H p⟩
theorem for_range {lo : Int} {n : Nat} {g : TG} {tb : TS} {D : Ends} {σ : St} {H : Hp} (Pv : Nat → St → Hp → Prop) (h0 : Pv 0 σ H)
    (hs : ∀ i σ H, i < n → Pv i σ H → g (.int (lo + i)) σ H fun σ2 H2 => tb { D with nx := Pv (i + 1), ct := Pv (i + 1), bk := D.nx } σ2 H2) (hd : ∀ σ H, Pv n σ H → D.nx σ H) :
    ∃ W : Nat → Nat → St → Hp → Prop, (∃ m, W 0 m σ H) ∧ ∀ i m σ H, W i m σ H →
      ((Itr lo n).stop i H ∧ D.nx σ H) ∨ ((Itr lo n).go i H ∧ ∃ N : St → Hp → Prop, (∀ σ' H', N σ' H' → ∃ m', m' < m ∧ W (i + 1) m' σ' H') ∧ ∀ x H', (Itr lo n).yld i H x H' → g x σ H' fun σ2 H2 => tb { D with nx := N, ct := N, bk := D.nx } σ2 H2) := by
  refine ⟨fun i m σ H => m = n - i ∧ i ≤ n ∧ Pv i σ H, ⟨n, by simp, Nat.zero_le _, h0⟩, ?_⟩
  rintro i m σ H ⟨rfl, hi, p⟩
  by_cases hlt : i < n
  · refine .inr ⟨hlt, Pv (i + 1), fun σ' H' p' => ⟨n - (i + 1), by omega, rfl, hlt, p'⟩, fun x H' y => ?_⟩
    obtain ⟨e, y⟩ := y
    subst e y
    exact hs i σ _ hlt p
  · have e : i = n := by omega
    subst e
    exact .inl ⟨Nat.le_refl _, hd σ H p⟩
end L2
namespace L2
open PySem PySem.Spec PyProof.Rows
abbrev R2 := V → V → Hp → VK → Prop
def OpR (X : Cx) (f : Value → Value → Sem Value) (r : R2) : Prop :=
  ∀ (pins : List (Addr × Obj)) (s : Shared) (σ : St) (H : Hp) (x y : V) (v u : Value) (Q : VK), Inv X pins σ H s → RelV x v → RelV y u → r x y H Q →
    wpAny (model X.prog X.w) X.A (f v u) (EP X pins σ Q) X.xe s
def CallR (X : Cx) (f : Value) (r : List V → Hp → VK → Prop) : Prop :=
  ∀ (pins : List (Addr × Obj)) (s : Shared) (σ : St) (H : Hp) (xs : List V) (us : List Value) (Q : VK), Inv X pins σ H s → Vals xs us → r xs H Q →
    wpAny (model X.prog X.w) X.A (call f us) (EP X pins σ Q) X.xe s
def tOp (r : R2) (ta tb : TE) : TE := fun σ H Q => ta σ H fun x H1 => tb σ H1 fun y H2 => r x y H2 Q
def rI (C : Int → Int → Prop) (g : Int → Int → V) : R2 := fun x y H Q => ∃ i j, x = .int i ∧ y = .int j ∧ C i j ∧ Q (g i j) H
def rI0 (g : Int → Int → V) : R2 := fun x y H Q => ∃ i j, x = .int i ∧ y = .int j ∧ Q (g i j) H
section
variable {X : Cx} {a b c : Expr} {ta tb tc : TE} {pos : Pos}
theorem binT (ha : PE X a ta) (hb : PE X b tb) {pins : List (Addr × Obj)} {s : Shared} {σ : St} {H : Hp} {R : V → V → Hp → Prop} (I : Inv X pins σ H s)
    (h : ta σ H fun x H1 => tb σ H1 fun y H2 => R x y H2) {Q : Value → Shared → Prop} {f : Value → Value → Sem Value}
    (hf : ∀ v u s2 x y H2, Inv X pins σ H2 s2 → RelV x v → RelV y u → R x y H2 → wpAny (model X.prog X.w) X.A (f v u) Q X.xe s2) :
    wpAny (model X.prog X.w) X.A (eval a X.env) (fun v s₁ => wpAny (model X.prog X.w) X.A (eval b X.env) (fun u s₂ => wpAny (model X.prog X.w) X.A (f v u) Q X.xe s₂) X.xe s₁) X.xe s := by
  refine thn (ha pins s σ H _ I h) fun v s1 ⟨x, H1, I1, r1, q1⟩ => ?_
  refine thn (hb pins s1 σ H1 _ I1 q1) fun u s2 ⟨y, H2, I2, r2, q2⟩ => ?_
  exact hf v u s2 x y H2 I2 r1 r2 q2
theorem pe_op {op : Operator} {r : R2} (ho : OpR X (binaryOp op) r) (ha : PE X a ta) (hb : PE X b tb) : PE X (.BinOp a op b pos) (tOp r ta tb) := by
  intro pins s σ H Q I h
  exact wpAny_BinOp (binT ha hb I h fun v u s2 x y H2 I2 rx ry q => ho pins s2 σ H2 x y v u Q I2 rx ry q)
theorem opI {f : Value → Value → Sem Value} {C : Int → Int → Prop} {g : Int → Int → Int}
    (rule : ∀ (i j : Int) (t u : Tok) (s : Shared) (Q : Value → Shared → Prop) (E : Value → Shared → Prop), C i j → Q (.int (g i j) s.toks) { s with toks := s.toks + 1 } → wpAny (model X.prog X.w) X.A (f (.int i t) (.int j u)) Q E s) :
    OpR X f (rI C fun i j => .int (g i j)) := by
  intro pins s σ H x y v u Q I rx ry h
  obtain ⟨i, j, rfl, rfl, hc, q⟩ := h
  obtain ⟨t, rfl⟩ := rx
  obtain ⟨t', rfl⟩ := ry
  exact rule i j t t' s _ _ hc ⟨.int (g i j), H, I.tok _, ⟨_, rfl⟩, q⟩
theorem opI0 {f : Value → Value → Sem Value} {g : Int → Int → Int}
    (rule : ∀ (i j : Int) (t u : Tok) (s : Shared) (Q : Value → Shared → Prop) (E : Value → Shared → Prop), Q (.int (g i j) s.toks) { s with toks := s.toks + 1 } → wpAny (model X.prog X.w) X.A (f (.int i t) (.int j u)) Q E s) :
    OpR X f (rI0 fun i j => .int (g i j)) := by
  intro pins s σ H x y v u Q I rx ry h
  obtain ⟨i, j, rfl, rfl, q⟩ := h
  obtain ⟨t, rfl⟩ := rx
  obtain ⟨t', rfl⟩ := ry
  exact rule i j t t' s _ _ ⟨.int (g i j), H, I.tok _, ⟨_, rfl⟩, q⟩
theorem opB0 {f : Value → Value → Sem Value} {g : Int → Int → Bool}
    (rule : ∀ (i j : Int) (t u : Tok) (s : Shared) (Q : Value → Shared → Prop) (E : Value → Shared → Prop), Q (.bool (g i j)) s → wpAny (model X.prog X.w) X.A (f (.int i t) (.int j u)) Q E s) :
    OpR X f (rI0 fun i j => .bl (g i j)) := by
  intro pins s σ H x y v u Q I rx ry h
  obtain ⟨i, j, rfl, rfl, q⟩ := h
  obtain ⟨t, rfl⟩ := rx
  obtain ⟨t', rfl⟩ := ry
  exact rule i j t t' s _ _ ⟨.bl (g i j), H, I, rfl, q⟩
def CDiv (i j : Int) : Prop := 0 < j ∧ j < 1073741824
def CMul (i j : Int) : Prop := (-(2 ^ 64) < i ∧ i < 2 ^ 64) ∨ (-(2 ^ 64) < j ∧ j < 2 ^ 64)
theorem CMul.ok {i j : Int} (h : CMul i j) : IntMulOk i j := by
  rcases h with ⟨h1, h2⟩ | ⟨h1, h2⟩
  · exact .of_left (intBits_le_64 h1 h2)
  · exact .of_right (intBits_le_64 h1 h2)
theorem two_pow_nn (k : Nat) : (0 : Int) ≤ 2 ^ k := by
  rw [two_pow_cast]
  exact Int.natCast_nonneg _
theorem op_add : OpR X (binaryOp .Add) (rI0 fun i j => .int (i + j)) := opI0 fun _ _ _ _ _ _ _ q => add_int q
theorem op_sub : OpR X (binaryOp .Sub) (rI0 fun i j => .int (i - j)) := opI0 fun _ _ _ _ _ _ _ q => sub_int q
theorem op_mul : OpR X (binaryOp .Mult) (rI CMul fun i j => .int (i * j)) := opI fun _ _ _ _ _ _ _ hc q => mul_int q hc.ok
theorem op_fdiv : OpR X (binaryOp .FloorDiv) (rI CDiv fun i j => .int (i / j)) := opI fun i j _ _ _ _ _ hc q => by
  have h1 : (0 : Int) < j := hc.1
  have h2 : j < 1073741824 := hc.2
  exact floordiv_int (by omega) (by rw [Int.fdiv_eq_ediv_of_nonneg i (by omega)]; exact q) (.inl (PyProof.noPylong_small (by omega)))
theorem op_mod : OpR X (binaryOp .Mod) (rI (fun _ j => 0 < j) fun i j => .int (i % j)) := opI fun i j _ _ _ _ _ hc q => by
  have h1 : (0 : Int) < j := hc
  exact mod_int' (by omega) (by rw [Int.fmod_eq_emod_of_nonneg i (by omega)]; exact q)
theorem op_shr : OpR X (binaryOp .RShift) (rI (fun _ j => 0 ≤ j) fun i j => .int (i / 2 ^ j.toNat)) := opI fun i j _ _ _ _ _ hc q =>
  rshift_int hc (by rw [Int.fdiv_eq_ediv_of_nonneg i (two_pow_nn _)]; exact q)
theorem op_and : OpR X (binaryOp .BitAnd) (rI0 fun i j => .int (Builtin.bitAnd i j)) := opI0 fun _ _ _ _ _ _ _ q => and_int q
theorem op_xor : OpR X (binaryOp .BitXor) (rI0 fun i j => .int (Builtin.bitXor i j)) := opI0 fun _ _ _ _ _ _ _ q => xor_int q
end
def scal : V → V → Bool
  | .non, .non => true | .non, .int _ => true | .int _, .non => true | .non, .bl _ => true | .bl _, .non => true | .non, .str _ => true | .str _, .non => true
  | .int _, .int _ => true | .bl _, .bl _ => true | .str _, .str _ => true | .byt _, .byt _ => true
  | .int _, .str _ => true | .str _, .int _ => true | .bl _, .str _ => true | .str _, .bl _ => true
  | _, _ => false
def rEq : R2 := fun x y H Q => scal x y = true ∧ Q (.bl (decide (x = y))) H
def rNe : R2 := fun x y H Q => scal x y = true ∧ Q (.bl (!decide (x = y))) H
theorem dec_int {i j : Int} : decide (V.int i = V.int j) = (i == j) := by
  rw [Bool.eq_iff_iff]
  simp
theorem dec_bl {i j : Bool} : decide (V.bl i = V.bl j) = (i == j) := by
  rw [Bool.eq_iff_iff]
  simp
theorem dec_str {i j : Str} : decide (V.str i = V.str j) = (i == j) := by
  rw [Bool.eq_iff_iff]
  simp
theorem dec_byt {i j : Array UInt8} : decide (V.byt i = V.byt j) = (i.toList == j.toList) := by
  rw [Bool.eq_iff_iff]
  cases i
  cases j
  simp
section
variable {X : Cx} {a b c : Expr} {ta tb tc : TE} {pos : Pos}
theorem fin_bl {pins : List (Addr × Obj)} {σ : St} {H : Hp} {s : Shared} {Q : VK} {k k' : Bool} (I : Inv X pins σ H s) (q : Q (.bl k) H) (e : k = k') : EP X pins σ Q (.bool k') s := by
  subst e
  exact ⟨.bl k, H, I, rfl, q⟩
theorem op_eq : OpR X (compareOp .Eq) rEq := by
  intro pins s σ H x y v u Q I rx ry h
  obtain ⟨hs, q⟩ := h
  cases x with
  | non =>
    cases rx
    cases y with
    | non => cases ry; exact PySem.EqNone.eq_none_none (fin_bl I q (by simp))
    | bl j => cases ry; exact PySem.EqNone.eq_none_bool (fin_bl I q (by simp))
    | int j => obtain ⟨t', rfl⟩ := ry; exact PySem.EqNone.eq_none_int (fin_bl I q (by simp))
    | str j => obtain ⟨t', rfl⟩ := ry; exact PySem.EqNone.eq_none_str (fin_bl I q (by simp))
    | _ => exact absurd (show false = true from hs) Bool.false_ne_true
  | bl i =>
    cases rx
    cases y with
    | non => cases ry; exact PySem.EqNone.eq_bool_none (fin_bl I q (by simp))
    | bl j => cases ry; exact eq_bool (fin_bl I q dec_bl)
    | str j => obtain ⟨t', rfl⟩ := ry; exact PySem.EqMixed.eq_bool_str (fin_bl I q (by simp))
    | _ => exact absurd (show false = true from hs) Bool.false_ne_true
  | int i =>
    obtain ⟨t, rfl⟩ := rx
    cases y with
    | non => cases ry; exact PySem.EqNone.eq_int_none (fin_bl I q (by simp))
    | int j => obtain ⟨t', rfl⟩ := ry; exact eq_int (fin_bl I q dec_int)
    | str j => obtain ⟨t', rfl⟩ := ry; exact PySem.EqMixed.eq_int_str (fin_bl I q (by simp))
    | _ => exact absurd (show false = true from hs) Bool.false_ne_true
  | str i =>
    obtain ⟨t, rfl⟩ := rx
    cases y with
    | non => cases ry; exact PySem.EqNone.eq_str_none (fin_bl I q (by simp))
    | bl j => cases ry; exact PySem.EqMixed.eq_str_bool (fin_bl I q (by simp))
    | int j => obtain ⟨t', rfl⟩ := ry; exact PySem.EqMixed.eq_str_int (fin_bl I q (by simp))
    | str j => obtain ⟨t', rfl⟩ := ry; exact eq_str (fin_bl I q dec_str)
    | _ => exact absurd (show false = true from hs) Bool.false_ne_true
  | byt i =>
    obtain ⟨t, rfl⟩ := rx
    cases y with
    | byt j => obtain ⟨t', rfl⟩ := ry; exact PySem.W.eq_bytes (fin_bl I q dec_byt)
    | _ => exact absurd (show false = true from hs) Bool.false_ne_true
  | _ => cases y <;> exact absurd (show false = true from hs) Bool.false_ne_true
theorem op_ne : OpR X (compareOp .NotEq) rNe := by
  intro pins s σ H x y v u Q I rx ry h
  obtain ⟨hs, q⟩ := h
  cases x with
  | non =>
    cases rx
    cases y with
    | non => cases ry; exact PySem.EqNone.ne_none_none (fin_bl I q (by simp))
    | bl j => cases ry; exact PySem.EqNone.ne_none_bool (fin_bl I q (by simp))
    | int j => obtain ⟨t', rfl⟩ := ry; exact PySem.EqNone.ne_none_int (fin_bl I q (by simp))
    | str j => obtain ⟨t', rfl⟩ := ry; exact PySem.EqNone.ne_none_str (fin_bl I q (by simp))
    | _ => exact absurd (show false = true from hs) Bool.false_ne_true
  | bl i =>
    cases rx
    cases y with
    | non => cases ry; exact PySem.EqNone.ne_bool_none (fin_bl I q (by simp))
    | bl j => cases ry; exact ne_bool (fin_bl I q (congrArg not dec_bl))
    | str j => obtain ⟨t', rfl⟩ := ry; exact PySem.EqMixed.ne_bool_str (fin_bl I q (by simp))
    | _ => exact absurd (show false = true from hs) Bool.false_ne_true
  | int i =>
    obtain ⟨t, rfl⟩ := rx
    cases y with
    | non => cases ry; exact PySem.EqNone.ne_int_none (fin_bl I q (by simp))
    | int j => obtain ⟨t', rfl⟩ := ry; exact ne_int (fin_bl I q (congrArg not dec_int))
    | str j => obtain ⟨t', rfl⟩ := ry; exact PySem.EqMixed.ne_int_str (fin_bl I q (by simp))
    | _ => exact absurd (show false = true from hs) Bool.false_ne_true
  | str i =>
    obtain ⟨t, rfl⟩ := rx
    cases y with
    | non => cases ry; exact PySem.EqNone.ne_str_none (fin_bl I q (by simp))
    | bl j => cases ry; exact PySem.EqMixed.ne_str_bool (fin_bl I q (by simp))
    | int j => obtain ⟨t', rfl⟩ := ry; exact PySem.EqMixed.ne_str_int (fin_bl I q (by simp))
    | str j => obtain ⟨t', rfl⟩ := ry; exact ne_str (fin_bl I q (congrArg not dec_str))
    | _ => exact absurd (show false = true from hs) Bool.false_ne_true
  | byt i =>
    obtain ⟨t, rfl⟩ := rx
    cases y with
    | byt j => obtain ⟨t', rfl⟩ := ry; exact PySem.W.ne_bytes (fin_bl I q (congrArg not dec_byt))
    | _ => exact absurd (show false = true from hs) Bool.false_ne_true
  | _ => cases y <;> exact absurd (show false = true from hs) Bool.false_ne_true
theorem op_lt : OpR X (compareOp .Lt) (rI0 fun i j => .bl (decide (i < j))) := opB0 fun _ _ _ _ _ _ _ q => lt_int q
theorem op_le : OpR X (compareOp .LtE) (rI0 fun i j => .bl (decide (i ≤ j))) := opB0 fun _ _ _ _ _ _ _ q => le_int q
theorem op_gt : OpR X (compareOp .Gt) (rI0 fun i j => .bl (decide (j < i))) := opB0 fun _ _ _ _ _ _ _ q => gt_int q
theorem op_ge : OpR X (compareOp .GtE) (rI0 fun i j => .bl (decide (j ≤ i))) := opB0 fun _ _ _ _ _ _ _ q => ge_int q
theorem op_isN : OpR X (compareOp .Is) (fun x y H Q => y = .non ∧ Q (.bl (decide (x = .non))) H) := by
  intro pins s σ H x y v u Q I rx ry h
  obtain ⟨rfl, q⟩ := h
  cases ry
  refine is_none_gen (fin_bl I q ?_)
  cases x <;> first
    | (cases rx; rfl)
    | (obtain ⟨t, rfl⟩ := rx; rfl)
theorem nomark (b : Expr) {op : CmpOp} (h : op ≠ .In := by decide) (h2 : op ≠ .NotIn := by decide) : behindInMarks op b = false := by
  have e1 : (op == CmpOp.In) = false := by cases op <;> first | rfl | exact absurd rfl h
  have e2 : (op == CmpOp.NotIn) = false := by cases op <;> first | rfl | exact absurd rfl h2
  cases b <;> simp [behindInMarks, e1, e2]
theorem pe_cmpR {op : CmpOp} {r : R2} (ho : OpR X (compareOp op) r) (ha : PE X a ta) (hb : PE X b tb) (hm : behindInMarks op b = false) : PE X (.Compare a [op] [b] pos) (tOp r ta tb) := by
  intro pins s σ H Q I h
  exact wpAny_Compare1 (binT ha hb I h fun v u s2 x y H2 I2 rx ry q => ho pins s2 σ H2 x y v u Q I2 rx ry q) hm
def tTest (t : TE) : TT := fun σ H Q => t σ H fun x H' => ∃ k, x = .bl k ∧ Q k H'
theorem pt_cmpR {op : CmpOp} {r : R2} (ho : OpR X (compareOp op) r) (ha : PE X a ta) (hb : PE X b tb) (hm : behindInMarks op b = false) : PT X (.Compare a [op] [b] pos) (tTest (tOp r ta tb)) := by
  intro pins s σ H Q I h
  refine wpAny_isTrue_Compare1 (thn (ha pins s σ H _ I h) fun v s1 ⟨x, H1, I1, r1, q1⟩ => thn (hb pins s1 σ H1 _ I1 q1) fun u s2 ⟨y, H2, I2, r2, q2⟩ =>
    thn (ho pins s2 σ H2 x y v u _ I2 r1 r2 q2) fun c s3 ⟨z, H3, I3, r3, k, e, q3⟩ => ?_) hm
  subst e
  cases r3
  exact wpAny_truthy_bool ⟨H3, I3, q3⟩
def tChain (r r' : R2) (ta tb tc : TE) : TE := fun σ H Q => ta σ H fun x H1 => tb σ H1 fun y H2 => r x y H2 fun z H3 => ∃ k, z = .bl k ∧
  (if k = true then tc σ H3 fun w' H4 => r' y w' H4 Q else Q (.bl false) H3)
theorem pe_chain {op op' : CmpOp} {r r' : R2} (ho : OpR X (compareOp op) r) (ho' : OpR X (compareOp op') r') (ha : PE X a ta) (hb : PE X b tb) (hc : PE X c tc)
    (hm : lastMarks [op, op'] [b, c] = false := by with_unfolding_all rfl) : PE X (.Compare a [op, op'] [b, c] pos) (tChain r r' ta tb tc) := by
  intro pins s σ H Q I h
  refine Compare_chain (thn (ha pins s σ H _ I h) fun v s1 ⟨x, H1, I1, r1, q1⟩ => chain_link (thn (hb pins s1 σ H1 _ I1 q1) fun u s2 ⟨y, H2, I2, r2, q2⟩ =>
    thn (ho pins s2 σ H2 x y v u _ I2 r1 r2 q2) fun d s3 ⟨z, H3, I3, r3, k, e, q3⟩ => ?_)) hm
  subst e
  cases r3
  refine wpAny_truthy_bool ?_
  cases k with
  | false => exact ite_ff ⟨.bl false, H3, I3, rfl, q3⟩
  | true => exact ite_tt (chain_last (thn (hc pins s3 σ H3 _ I3 q3) fun w' s4 ⟨z', H4, I4, r4, q4⟩ => ho' pins s4 σ H4 y z' u w' Q I4 r2 r4 q4))
theorem line63 : (sizeLine : Nat) < 2 ^ 63 := by rw [sizeLine_eq]; decide
theorem op_add_str : OpR X (binaryOp .Add) (fun x y H Q => ∃ i j, x = .str i ∧ y = .str j ∧ i.length + j.length ≤ sizeLine ∧ Q (.str (i ++ j)) H) := by
  intro pins s σ H x y v u Q I rx ry h
  obtain ⟨i, j, rfl, rfl, hz, q⟩ := h
  obtain ⟨t, rfl⟩ := rx
  obtain ⟨t', rfl⟩ := ry
  exact add_str (fun t' tk => ⟨.str (i ++ j), H, I.tok _, ⟨_, rfl⟩, q⟩) hz
theorem iop_add_str : OpR X (inplaceOp .Add) (fun x y H Q => ∃ i j, x = .str i ∧ y = .str j ∧ i.length + j.length ≤ sizeLine ∧ Q (.str (i ++ j)) H) := by
  intro pins s σ H x y v u Q I rx ry h
  obtain ⟨i, j, rfl, rfl, hz, q⟩ := h
  obtain ⟨t, rfl⟩ := rx
  obtain ⟨t', rfl⟩ := ry
  exact iadd_str (fun t' tk => ⟨.str (i ++ j), H, I.tok _, ⟨_, rfl⟩, q⟩) hz
theorem vals1 {x : V} {us : List Value} (r : Vals [x] us) : ∃ u, us = [u] ∧ RelV x u := by
  cases r with
  | cons r1 r2 => cases r2; exact ⟨_, rfl, r1⟩
theorem call_ord : CallR X (.builtin "ord") (fun xs H Q => ∃ x, xs = [.str x] ∧ x.length = 1 ∧ Q (.int (x.cps.getD 0 0 : Nat)) H) := by
  intro pins s σ H xs us Q I r h
  obtain ⟨x, rfl, hz, q⟩ := h
  obtain ⟨u, rfl, t, rfl⟩ := vals1 r
  exact ord_of_one hz ⟨.int _, H, I.tok _, ⟨_, rfl⟩, q⟩
end
end L2
namespace L2
open PySem PySem.Spec PyProof.Rows
structure ObjM (h : Heap) (x dx C : Addr) (mA : Str → Option Value) : Prop where
  obj : h.get? x = some (PySem.W.instObj C dx)
  ns : h.Ns1 dx mA
  ne : dx ≠ x
theorem lookIn_ns {h : Heap} {dx : Addr} {mA : Str → Option Value} (n : h.Ns1 dx mA) : ∃ od, h.get? dx = some od ∧ ∀ name, PySem.W.lookIn name od = some (mA name) := by
  obtain ⟨o, es, ep, ho, hd, hk, _, hm⟩ := n
  refine ⟨o, ho, fun name => ?_⟩
  have e := hm name
  unfold nsFind findBy at e
  rw [← Array.find?_toList] at e
  unfold PySem.W.lookIn
  rw [hd]
  dsimp only
  split
  · rename_i y q
    rw [q] at e
    exact congrArg some e
  · rename_i q
    rw [q] at e
    have a : es.toList.any (·.refKey) = false := by
      rw [List.any_eq_false]
      intro y hy
      obtain ⟨z, t, hkey⟩ := hk y (Array.mem_toList_iff.mp hy)
      simp [DictEntry.refKey, hkey]
    have a' : ¬ es.toList.any (·.refKey) = true := by rw [a]; exact Bool.false_ne_true
    rw [if_neg a']
    exact congrArg some e
theorem ObjM.look {h : Heap} {x dx C : Addr} {mA : Str → Option Value} (I : ObjM h x dx C mA) : ∃ od, PySem.W.InstAt h x (PySem.W.instObj C dx) C (some od) ∧ ∀ name, PySem.W.lookIn name od = some (mA name) :=
  let ⟨od, ho, hl⟩ := lookIn_ns I.ns
  ⟨od, ⟨I.obj, rfl, rfl, ho⟩, hl⟩
section
variable {prog : Program} {w : World} {A : Around} {E : Value → Shared → Prop} {s : Shared} {K : PySem.W.Frag} {x dx C f : Addr} {mA : Str → Option Value} {name : Str} {v : Value}
theorem get_map {expr : Bool} {Q : Value → Shared → Prop} (X : K.In s.heap) (I : ObjM s.heap x dx C mA) (hg : PySem.W.plainGet K C name = true) (hh : PySem.W.hasDictIn K C = true)
    (ha : PySem.W.findIn K (.ref C) name = some none) (hv : mA name = some v) (hv' : PySem.W.handedIn v = true) (h : Q v { s with toks := s.toks + 1 }) :
    wpAny (model prog w) A (getAttr (.ref x) name expr) Q E s := by
  obtain ⟨od, J, hl⟩ := I.look
  exact PySem.W.get_value X J (PySem.W.plainGet_of hg).1 (PySem.W.findObj_own hh ha rfl (by rw [hl, hv])) hv' h
theorem get_meth {pl : Sem Bool} {Q : Value × List Value → Shared → Prop} (X : K.In s.heap) (I : ObjM s.heap x dx C mA) (hg : PySem.W.plainGet K C name = true)
    (hf : PySem.W.findIn K (.ref C) name = some (some (.ref f))) (ht : PySem.W.isFn K (.ref f) = true) (hv : mA name = none) (h : Q (.ref f, [.ref x]) s) :
    wpAny (model prog w) A (getMethod (.ref x) name pl) Q E s := by
  obtain ⟨od, J, hl⟩ := I.look
  exact PySem.W.method_fn X J (PySem.W.plainGet_of hg).1 (PySem.W.plainGet_of hg).2 hf (beq_iff_eq.mp ht) (by show (PySem.W.lookIn name od).map (·.isSome) = some false; rw [hl, hv]; rfl) h
theorem set_map {ns : List Str} {Q : Unit → Shared → Prop} (X : K.In s.heap) (I : ObjM s.heap x dx C mA)
    (hs : PySem.W.findIn K (.ref C) "__setattr__" = some (some (.builtin "object.__setattr__"))) (hp : PySem.W.plainOver K C = true) (ht : PySem.W.takerIn K C name = some none) (hh : PySem.W.hasDictIn K C = true)
    (hw : PySem.Within mA ns) (hsz : ns.length ≤ sizeLine)
    (h : ∀ h', ObjM h' x dx C (fun y => if y = name then some v else mA y) → Heap.SameBut dx s.heap h' → Q () { s with heap := h', toks := s.toks + 2 }) :
    wpAny (model prog w) A (setAttr (.ref x) name v) Q E s := by
  obtain ⟨od, J, hl⟩ := I.look
  refine PySem.W.set_plain X J hs (PySem.W.osa_open (s := { s with toks := s.toks + 1 }) (r := none) X J hp ht fun b => ?_)
  obtain ⟨cd, hc, hd'⟩ := PySem.W.any_some hh
  have hx : s.heap.get? x = some ⟨.ref C, some dx, .plain, #[]⟩ := I.obj
  refine wpAny_bind (wpAny_pure (wpAny_bind (wpAny_bind (wpAny_loadPart hx (wpAny_bind (PySem.W.Looks.here (s := { s with toks := s.toks + 1 }) (PySem.W.looks_clsIn X hc) ?_))))))
  rw [hd']
  refine wpAny_pure (a := some dx) (wpAny_bind (wpAny_pure (wpAny_bind ?_)))
  refine wpAny_nsSet1 (s := { s with toks := s.toks + 1 }) I.ns fun h' hn2 hs2 => ?_
  obtain ⟨oD, esD, epD, hoD, hdD, hcD⟩ := hn2.count (PySem.Within.cons name v hw)
  refine wpAny_bind (wpAny_lookBehind hoD (by rw [hdD]; exact pastItsLine_dict (Nat.le_trans hcD (by rw [List.length_cons]; omega))) ?_)
  exact wpAny_pure (h _ ⟨(hs2.2 _ (Ne.symm I.ne)).trans I.obj, hn2, I.ne⟩ hs2)
theorem make_map {R : Result → Shared → Prop} {vs : List Value} {kw : List (Str × Value)} (X : K.In s.heap) (hm : PySem.W.makesIn K C = true)
    (hi : PySem.W.findIn K (.ref C) "__init__" = some (some (.ref f))) (hf : PySem.W.typeIn K (.ref f) = some (.type "function"))
    (h : codeAny (model prog w) (A.under (.builtin "type.__call__" ⟨.ref C :: vs, kw⟩)) (.call (.ref f) ⟨.ref (s.heap.objs.size + 1) :: vs, kw⟩) (PySem.W.InitBack (s.heap.objs.size + 1) R)
      { s with heap := (s.heap.push PySem.W.emptyDict).push (PySem.W.instObj C s.heap.objs.size) }) :
    codeAny (model prog w) A (.call (.ref C) ⟨vs, kw⟩) R s := by
  obtain ⟨hh, g, d, t, os⟩ := s
  exact PySem.W.make_core (PySem.W.makes_of X hm) (PySem.W.looks_findIn X hi) (fun self => PySem.W.bind_fn X self hf) (.inl rfl) h
end
def putF (f : Str) (v : V) : List (Str × V) → List (Str × V)
  | [] => [(f, v)]
  | (g, x) :: r => if g = f then (g, v) :: r else (g, x) :: putF f v r
theorem lookup_putF (f g : Str) (v : V) : ∀ fs : List (Str × V), (putF f v fs).lookup g = if g = f then some v else fs.lookup g
  | [] => by
    show List.lookup g [(f, v)] = _
    by_cases h : g = f
    · have hb : (g == f) = true := beq_iff_eq.mpr h
      simp only [List.lookup, hb, if_pos h]
    · have hb : (g == f) = false := beq_eq_false_iff_ne.mpr h
      simp only [List.lookup, hb, if_neg h]
  | (k, x) :: r => by
    have ih := lookup_putF f g v r
    rw [show putF f v ((k, x) :: r) = (if k = f then (k, v) :: r else (k, x) :: putF f v r) from rfl]
    by_cases hk : k = f
    · rw [if_pos hk]
      by_cases h : g = k
      · have hb : (g == k) = true := beq_iff_eq.mpr h
        simp only [List.lookup, hb, if_pos (h.trans hk)]
      · have hb : (g == k) = false := beq_eq_false_iff_ne.mpr h
        simp only [List.lookup, hb, if_neg (fun e : g = f => h (e.trans hk.symm))]
    · rw [if_neg hk]
      by_cases h : g = k
      · have hb : (g == k) = true := beq_iff_eq.mpr h
        simp only [List.lookup, hb, if_neg (fun e : g = f => hk (h.symm.trans e))]
      · have hb : (g == k) = false := beq_eq_false_iff_ne.mpr h
        simp only [List.lookup, hb]
        exact ih
theorem keys_putF (f : Str) (v : V) : ∀ fs : List (Str × V), f ∈ (putF f v fs).map (·.1) ∧ ∀ g, g ∈ fs.map (·.1) → g ∈ (putF f v fs).map (·.1)
  | [] => ⟨by simp [putF], fun g h => by simp at h⟩
  | (k, x) :: r => by
    obtain ⟨i1, i2⟩ := keys_putF f v r
    rw [show putF f v ((k, x) :: r) = (if k = f then (k, v) :: r else (k, x) :: putF f v r) from rfl]
    by_cases hk : k = f
    · rw [if_pos hk]
      subst hk
      exact ⟨by simp, fun g h => by simpa using h⟩
    · rw [if_neg hk]
      refine ⟨?_, fun g h => ?_⟩
      · rw [List.map_cons]
        exact List.mem_cons_of_mem _ i1
      · rw [List.map_cons] at h ⊢
        rcases List.mem_cons.mp h with e | e
        · exact List.mem_cons.mpr (.inl e)
        · exact List.mem_cons_of_mem _ (i2 g e)
theorem length_putF (f : Str) (v : V) : ∀ fs : List (Str × V), (putF f v fs).length ≤ fs.length + 1
  | [] => by simp [putF]
  | (k, x) :: r => by
    have ih := length_putF f v r
    rw [show putF f v ((k, x) :: r) = (if k = f then (k, v) :: r else (k, x) :: putF f v r) from rfl]
    by_cases hk : k = f
    · rw [if_pos hk, List.length_cons, List.length_cons]; omega
    · rw [if_neg hk, List.length_cons, List.length_cons]; omega
theorem RelO.some_of {v : V} {o : Option Value} (r : RelO (some v) o) : ∃ u, o = some u ∧ RelV v u := by
  cases o with
  | none => exact (show False from r).elim
  | some u => exact ⟨u, rfl, r⟩
theorem RelO.none_of {o : Option Value} (r : RelO none o) : o = none := by
  cases o with
  | none => rfl
  | some u => exact (show False from r).elim
theorem handed_of {v : V} {u : Value} (r : RelV v u) : PySem.W.handedIn u = true := by
  cases v with
  | non => cases (show u = Value.none from r); rfl
  | bl b => cases (show u = Value.bool b from r); rfl
  | int i => obtain ⟨t, e⟩ := (show ∃ t, u = Value.int i t from r); cases e; rfl
  | str x => obtain ⟨t, e⟩ := (show ∃ t, u = Value.str x t from r); cases e; rfl
  | byt b => obtain ⟨t, e⟩ := (show ∃ t, u = Value.bytes b t from r); cases e; rfl
  | flt b => obtain ⟨t, e⟩ := (show ∃ t, u = Value.float b t from r); cases e; rfl
  | ref a => cases (show u = Value.ref a from r); rfl
  | ty n => cases (show u = Value.type n from r); rfl
section
variable {P : Program} {w : World} {H H' : Hp} {h h' : Heap} {a C dx : Addr} {fs fs' : List (Str × V)}
theorem ins_get (hok : HOk P w H h) (e : H a = some (.ins C dx fs)) : ∃ mA, ObjM h a dx C mA ∧ (∀ f, RelO (fs.lookup f) (mA f)) ∧ PySem.Within mA (fs.map (·.1)) ∧ fs.length ≤ 1000 ∧ H dx = some (.own a) := by
  obtain ⟨d, z, ne, ob, mA, n, r, q⟩ := (show ObjOk P w H h a (.ins C dx fs) from hok a _ e)
  exact ⟨mA, ⟨ob, n, ne⟩, r, q, z, d⟩
end
structure Cls (K : PySem.W.Frag) (C : Addr) : Prop where
  pg : PySem.W.plainGet K C Str.empty = true
  hd : PySem.W.hasDictIn K C = true
  po : PySem.W.plainOver K C = true
  sa : PySem.W.findIn K (.ref C) "__setattr__" = some (some (.builtin "object.__setattr__"))
theorem Cls.get {K : PySem.W.Frag} {C : Addr} (c : Cls K C) (f : Str) : PySem.W.plainGet K C f = true := c.pg
def NoAttr (K : PySem.W.Frag) (C : Addr) (f : Str) : Prop := PySem.W.findIn K (.ref C) f = some none
theorem NoAttr.taker {K : PySem.W.Frag} {C : Addr} {f : Str} (n : NoAttr K C f) : PySem.W.takerIn K C f = some none := by
  unfold PySem.W.takerIn
  rw [show PySem.W.findIn K (.ref C) f = some none from n]
  rfl
structure Meth (K : PySem.W.Frag) (C : Addr) (m : Str) (f : Addr) : Prop where
  at_ : PySem.W.findIn K (.ref C) m = some (some (.ref f))
  fn : PySem.W.isFn K (.ref f) = true
  kp : PySem.W.keepIn K (.ref f) = true
section
variable {X : Cx} {pins : List (Addr × Obj)} {σ : St} {H : Hp} {s : Shared} {a C dx : Addr} {fs : List (Str × V)} {f : Str} {v : V} {A : Around} {E : Value → Shared → Prop}
theorem getattr_ok {b : Bool} {Q : Value → Shared → Prop} (I : Inv X pins σ H s) (e : H a = some (.ins C dx fs)) (c : Cls X.K C) (n : NoAttr X.K C f) (l : fs.lookup f = some v)
    (h : ∀ u s', Inv X pins σ H s' → RelV v u → Q u s') : wpAny (model X.prog X.w) A (getAttr (.ref a) f b) Q E s := by
  obtain ⟨mA, O, r, _, _, _⟩ := ins_get I.hok e
  obtain ⟨u, hu, ru⟩ := RelO.some_of (v := v) (o := mA f) (by rw [← l]; exact r f)
  exact get_map I.kIn O (c.get f) c.hd n hu (handed_of ru) (h u _ (I.tok _) ru)
theorem getmeth_ok {m : Str} {g : Addr} {pl : Sem Bool} {Q : Value × List Value → Shared → Prop} (I : Inv X pins σ H s) (e : H a = some (.ins C dx fs)) (c : Cls X.K C) (k : Meth X.K C m g) (l : fs.lookup m = none)
    (h : Q (.ref g, [.ref a]) s) : wpAny (model X.prog X.w) A (getMethod (.ref a) m pl) Q E s := by
  obtain ⟨mA, O, r, _, _, _⟩ := ins_get I.hok e
  have hn : mA m = none := RelO.none_of (by rw [← l]; exact r m)
  exact get_meth I.kIn O (c.get m) k.at_ k.fn hn h
theorem setattr_ok {y : V} {u : Value} {Q : Unit → Shared → Prop} (I : Inv X pins σ H s) (e : H a = some (.ins C dx fs)) (c : Cls X.K C) (n : NoAttr X.K C f) (hl : fs.length < 1000) (ry : RelV y u)
    (h : ∀ s', Inv X pins σ (upd H a (.ins C dx (putF f y fs))) s' → Q () s') : wpAny (model X.prog X.w) A (setAttr (.ref a) f u) Q E s := by
  obtain ⟨mA, O, r, wi, _, ho⟩ := ins_get I.hok e
  have hz : (fs.map (·.1)).length ≤ sizeLine := by rw [List.length_map, sizeLine_eq]; omega
  refine set_map I.kIn O c.sa c.po n.taker c.hd wi hz fun h' O' sb => h _ ?_
  have hd : ∃ o, h'.get? dx = some o := let ⟨o, _, _, e', _⟩ := O'.ns; ⟨o, e'⟩
  refine I.write (x := a) (e := dx) (by rw [e]; exact True.intro) (.inr ho) (fun b q hb z => (sb.2 b hb).trans z) hd ?_
  refine ⟨by rw [upd_ne O.ne]; exact ho, ?_, O.ne, O'.obj, _, O'.ns, fun g => ?_, fun g hg => ?_⟩
  · have := length_putF f y fs; omega
  · show RelO ((putF f y fs).lookup g) (if g = f then some u else mA g)
    rw [lookup_putF]
    by_cases q : g = f
    · rw [if_pos q, if_pos q]; exact ry
    · rw [if_neg q, if_neg q]; exact r g
  · by_cases q : g = f
    · rw [q]; exact (keys_putF f y fs).1
    · refine (keys_putF f y fs).2 g (wi g fun z => hg ?_)
      show (if g = f then some u else mA g) = none
      rw [if_neg q]; exact z
theorem Inv.made (I : Inv X pins σ H s) : Inv X pins σ (upd (upd H s.heap.objs.size (.own (s.heap.objs.size + 1))) (s.heap.objs.size + 1) (.ins C s.heap.objs.size []))
    { s with heap := (s.heap.push PySem.W.emptyDict).push (PySem.W.instObj C s.heap.objs.size) } := by
  have e1 : (s.heap.push PySem.W.emptyDict).get? s.heap.objs.size = some PySem.W.emptyDict := Heap.get?_push_size s.heap rfl
  have e2 : ((s.heap.push PySem.W.emptyDict).push (PySem.W.instObj C s.heap.objs.size)).get? (s.heap.objs.size + 1) = some (PySem.W.instObj C s.heap.objs.size) := by
    have := Heap.get?_push_size (s.heap.push PySem.W.emptyDict) (o := PySem.W.instObj C s.heap.objs.size) rfl
    rwa [Heap.size_push] at this
  have e3 : (s.heap.push PySem.W.emptyDict).Ns s.heap.objs.size (fun _ => none) := ⟨PySem.W.emptyDict, #[], _, e1, rfl, (fun e he => absurd he (by simp)), fun _ => rfl⟩
  have I1 := I.laid (a := s.heap.objs.size) (o := .own (s.heap.objs.size + 1)) (h' := s.heap.push PySem.W.emptyDict) (t' := s.toks) (fun b u q => Heap.get?_push_of_some _ q) (Nat.le_refl _) ⟨_, e1⟩
  refine I1.laid (a := s.heap.objs.size + 1) (o := .ins C s.heap.objs.size []) (t' := s.toks) (fun b u q => Heap.get?_push_of_some _ q) (Nat.le_of_eq (Heap.size_push _ _)) ?_
  have ne : s.heap.objs.size ≠ s.heap.objs.size + 1 := Nat.ne_of_lt (Nat.lt_succ_self _)
  refine ⟨by rw [upd_ne ne, upd_same], Nat.zero_le _, ne, e2, fun _ => none, (Heap.Ns1.of_empty e3).at fun o q => Heap.get?_push_of_some _ q, fun _ => True.intro, fun y hy => absurd rfl hy⟩
theorem attr_of {prog : Program} {w : World} {env : Env} {e : Expr} {f : Str} {pos : Pos} {s : Shared} {Q : Value → Shared → Prop} (hb : attributeBase e f env (eval e env) = eval e env)
    (h : wpAny (model prog w) A (eval e env) (fun o s₁ => wpAny (model prog w) A (getAttr o f true) Q E s₁) E s) : wpAny (model prog w) A (eval (.Attribute e f pos) env) Q E s :=
  Attribute_any_ h (by rw [arm_eval_Attribute, hb])
end
def tFld (K : PySem.W.Frag) (ta : TE) (f : Str) : TE := fun σ H Q => ta σ H fun x H1 => ∃ a C dx fs v, x = .ref a ∧ H1 a = some (.ins C dx fs) ∧ Cls K C ∧ NoAttr K C f ∧ fs.lookup f = some v ∧ Q v H1
def sFld (K : PySem.W.Frag) (ta tv : TE) (f : Str) : TS := fun D σ H => tv σ H fun y H1 => ta σ H1 fun x H2 => ∃ a C dx fs, x = .ref a ∧ H2 a = some (.ins C dx fs) ∧ Cls K C ∧ NoAttr K C f ∧ fs.length < 1000 ∧
  D.nx σ (upd H2 a (.ins C dx (putF f y fs)))
def InOp (X : Cx) (op : Operator) (rd : V → V → Hp → VK → Prop) : Prop :=
  ∀ (pins : List (Addr × Obj)) (s : Shared) (σ : St) (H : Hp) (x y : V) (u v : Value) (Q : VK), Inv X pins σ H s → RelV x u → RelV y v → rd x y H Q → wpAny (model X.prog X.w) X.A (inplaceOp op u v) (EP X pins σ Q) X.xe s
def sFldAug (K : PySem.W.Frag) (ta tv : TE) (rd : V → V → Hp → VK → Prop) (f : Str) : TS := fun D σ H => ta σ H fun x H1 => ∃ a C dx fs v, x = .ref a ∧ H1 a = some (.ins C dx fs) ∧ Cls K C ∧ NoAttr K C f ∧ fs.lookup f = some v ∧
  tv σ H1 fun y H2 => rd v y H2 fun z H3 => ∃ dx' fs', H3 a = some (.ins C dx' fs') ∧ fs'.length < 1000 ∧ D.nx σ (upd H3 a (.ins C dx' (putF f z fs')))
section
variable {X : Cx} {o e value : Expr} {f : Str} {pos pos' tpos : Pos} {ta tv : TE}
theorem pe_fld (he : PE X e ta) (hb : attributeBase e f X.env (eval e X.env) = eval e X.env) : PE X (.Attribute e f pos) (tFld X.K ta f) := by
  intro pins s σ H Q I h
  refine attr_of hb (thn (he pins s σ H _ I h) fun u s1 ⟨x, H1, I1, rx, a, C, dx, fs, v, ex, ea, c, n, l, q⟩ => ?_)
  subst ex
  obtain rfl : u = Value.ref a := rx
  exact getattr_ok I1 ea c n l fun u' s2 I2 ru => ⟨v, H1, I2, ru, q⟩
theorem ps_fld (ha : PE X o ta) (hv : PE X value tv) (hs : swapsWith value (some (.Attribute o f pos')) pos.line X.env = pure false) : PS X (.Assign [.Attribute o f pos'] value pos) (sFld X.K ta tv f) := by
  intro pins s σ H D I h
  refine plainObj_wpAny_Assign_Attribute (thn (hv pins s σ H _ I h) fun u s1 ⟨y, H1, I1, ry, q⟩ => thn (ha pins s1 σ H1 _ I1 q) fun ov s2 ⟨x, H2, I2, rx, a, C, dx, fs, ex, ea, c, n, l, q2⟩ => ?_) hs
  subst ex
  obtain rfl : ov = Value.ref a := rx
  exact setattr_ok I2 ea c n l ry fun s3 I3 => ⟨σ, _, I3, q2⟩
theorem ps_fldaug {op : Operator} {rd : V → V → Hp → VK → Prop} (ha : PE X o ta) (hv : PE X value tv) (hop : InOp X op rd) : PS X (.AugAssign (.Attribute o f tpos) op value pos) (sFldAug X.K ta tv rd f) := by
  intro pins s σ H D I h
  refine wpAny_AugAssign_AttributeAny (thn (ha pins s σ H _ I h) fun ov s1 ⟨x, H1, I1, rx, a, C, dx, fs, v, ex, ea, c, n, l, q⟩ => ?_)
  subst ex
  obtain rfl : ov = Value.ref a := rx
  refine getattr_ok I1 ea c n l fun u s2 I2 ru => thn (hv pins s2 σ H1 _ I2 q) fun w3 s3 ⟨y, H2, I3, ry, q3⟩ => thn (hop pins s3 σ H2 v y u w3 _ I3 ru ry q3) fun w4 s4 ⟨z, H3, I4, rz, dx', fs', ea', l', q4⟩ => ?_
  exact setattr_ok I4 ea' c n l' rz fun s5 I5 => ⟨σ, _, I5, q4⟩
def rAdd : V → V → Hp → VK → Prop := fun x y H Q => ∃ i j, x = .int i ∧ y = .int j ∧ Q (.int (i + j)) H
def rSub : V → V → Hp → VK → Prop := fun x y H Q => ∃ i j, x = .int i ∧ y = .int j ∧ Q (.int (i - j)) H
theorem in_add : InOp X .Add rAdd := by
  rintro pins s σ H x y u v Q I rx ry ⟨i, j, rfl, rfl, q⟩
  obtain ⟨t, rfl⟩ := (show ∃ t, u = Value.int i t from rx)
  obtain ⟨t', rfl⟩ := (show ∃ t', v = Value.int j t' from ry)
  exact PyProof.Rows.iadd_int ⟨.int (i + j), H, I.tok _, ⟨_, rfl⟩, q⟩
theorem in_sub : InOp X .Sub rSub := by
  rintro pins s σ H x y u v Q I rx ry ⟨i, j, rfl, rfl, q⟩
  obtain ⟨t, rfl⟩ := (show ∃ t, u = Value.int i t from rx)
  obtain ⟨t', rfl⟩ := (show ∃ t', v = Value.int j t' from ry)
  exact PyProof.Rows.isub_int ⟨.int (i - j), H, I.tok _, ⟨_, rfl⟩, q⟩
end
section
variable {X : Cx} {pins : List (Addr × Obj)} {σ : St} {H : Hp} {s : Shared} {A : Around} {E : Value → Shared → Prop} {Q : Value → Shared → Prop} {c : Value} {b : Bool}
end
end L2
namespace L2
open PySem PySem.Spec PyProof.Rows
structure Room (k : Nat) (A : Around) : Prop where
  hd : A.handled = none
  dp : A.depth + 3 * k + 5 < recursionLimit
  un : A.units + 16 * k + 200 < cLine
theorem Room.mono {j k : Nat} {A : Around} (r : Room k A) (h : j ≤ k) : Room j A := ⟨r.hd, by have := r.dp; omega, by have := r.un; omega⟩
theorem Room.deeper {k : Nat} {A : Around} (r : Room (k + 1) A) (env : Env) : Room k (A.deeper env) :=
  ⟨r.hd, by have := r.dp; show A.depth + 1 + 3 * k + 5 < _; omega, by have := r.un; show A.units + 3 + 16 * k + 200 < _; omega⟩
theorem make_depth {A : Around} {C : Addr} {us : List Value} {kw : List (Str × Value)} : (A.under (.builtin "type.__call__" ⟨.ref C :: us, kw⟩)).depth = A.depth + 1 := by
  first | rfl | simp [Around.under, Code.weight, Code.isCreation, Code.isGuard, Code.isCaller, Code.frames, Code.isFrame, guardIds]
theorem make_units {A : Around} {C : Addr} {us : List Value} {kw : List (Str × Value)} : (A.under (.builtin "type.__call__" ⟨.ref C :: us, kw⟩)).units = A.units + 1 := by
  first | rfl | simp [Around.under, Code.cUnits, Code.frames, Code.isFrame]
theorem Room.make {k : Nat} {A : Around} (r : Room (k + 1) A) (C : Addr) (us : List Value) (kw : List (Str × Value)) : Room k (A.under (.builtin "type.__call__" ⟨.ref C :: us, kw⟩)) :=
  ⟨r.hd, by have := r.dp; rw [make_depth]; omega, by have := r.un; rw [make_units]; omega⟩
theorem Room.depth {k : Nat} {A : Around} (r : Room k A) : A.depth < recursionLimit := by have := r.dp; omega
theorem Room.units {k : Nat} {A : Around} (r : Room k A) : A.units + 64 < cLine := by have := r.un; omega
def tNil : TA := fun _ H Q => Q [] H
def tCons (ta : TE) (tr : TA) : TA := fun σ H Q => ta σ H fun x H1 => tr σ H1 fun xs H2 => Q (x :: xs) H2
section
variable {X : Cx} {e : Expr} {es : List Expr} {te : TE} {t : TA} {pos : Pos}
theorem pa_nil : PA X [] tNil := fun _ _ _ _ H Q I h => Calls.spliced_nil ⟨[], H, I, .nil, h⟩
theorem pa_cons (ha : PE X e te) (hr : PA X es t) (hs : starEach (e :: es) X.env = (false, eval e X.env) :: starEach es X.env := by rfl) : PA X (e :: es) (tCons te t) := by
  intro pos pins s σ H Q I h
  rw [hs]
  show wpAny _ _ (spliced ((false, eval e X.env) :: backTo pos (starEach es X.env))) _ _ s
  refine Calls.spliced_cons (thn (ha pins s σ H _ I h) fun u s1 ⟨x, H1, I1, r1, q1⟩ => ?_)
  exact thn (hr pos pins s1 σ H1 _ I1 q1) fun us s2 ⟨xs, H2, I2, r2, q2⟩ => ⟨x :: xs, H2, I2, .cons r1 r2, q2⟩
def tLst (t : TA) : TE := fun σ H Q => t σ H fun xs H1 => xs.length ≤ sizeLine ∧ ∀ p, H1 p = none → Q (.ref p) (upd H1 p (.lst xs))
theorem pe_lst (h : PA X es t) : PE X (.List es pos) (tLst t) := by
  intro pins s σ H Q I hq
  refine wpAny_List_spliced (thn (h pos pins s σ H _ I hq) fun us s1 ⟨xs, H1, I1, r, z, q⟩ => ⟨by rw [← r.length]; exact z, ?_⟩)
  have hf : H1 s1.heap.objs.size = none := I1.hok.fresh (Nat.le_refl _)
  refine ⟨.ref s1.heap.objs.size, upd H1 s1.heap.objs.size (.lst xs), I1.laid (t' := s1.toks) (fun b u e => Heap.get?_push_of_some _ e) (Nat.le_refl _) ?_, rfl, q _ hf⟩
  exact ⟨z, us, 0, r, Heap.get?_push_size _ rfl⟩
end
abbrev Sp := List V → Hp → VK → XK → Prop
abbrev CXT := List Env → Hp → Shared → XK → Value → Shared → Prop
structure Env0 (P : Program) (w : World) (K : PySem.W.Frag) (mg : Str → Option Value) (base : Heap) (A : Around) (outer : List Env) (s : Shared) (H : Hp) : Prop where
  frames : A.frames = some outer
  mod : Mod K mg base
  bs : ∀ b o, base.get? b = some o → s.heap.get? b = some o ∧ H b = none
  bsz : base.objs.size ≤ s.heap.objs.size
  funs : s.heap.FunFrames base outer
  frf : ∀ b ∈ frs outer, H b = none
  hok : HOk P w H s.heap
  bare : AllBare s.gens
def CE (outer : List Env) (P : Program) (w : World) (H : Hp) (s : Shared) (Q : VK) (u : Value) (s' : Shared) : Prop :=
  ∃ v H', s'.os = s.os ∧ AllBare s'.gens ∧ Un (frs outer) [] H H' s.heap s'.heap ∧ HOk P w H' s'.heap ∧ RelV v u ∧ Q v H'
def CR (CX : CXT) (outer : List Env) (P : Program) (w : World) (H : Hp) (s : Shared) (Q : VK) (E : XK) (r : Result) (s' : Shared) : Prop :=
  match r with
  | .ok (.ret u) => CE outer P w H s Q u s'
  | .ok _ => False
  | .error e => CX outer H s E e s'
structure FnOk (P : Program) (w : World) (K : PySem.W.Frag) (mg : Str → Option Value) (base : Heap) (CX : CXT) (k : Nat) (f : Addr) (fd : FuncData) (ps : List Str) (sp : Sp) : Prop where
  len : ∀ vs H Q E, sp vs H Q E → vs.length = ps.length
  run : ∀ (A : Around) (outer : List Env) (s : Shared) (H : Hp) (args : Args) (us : List Value) (vs : List V) (Q : VK) (E : XK), Room k A → Env0 P w K mg base A outer s H → BindsTo s fd args (ps.zip us) → Vals vs us → sp vs H Q E →
    codeAny (model P w) A (.call (.ref f) args) (CR CX outer P w H s Q E) s
theorem Env0.make {P : Program} {w : World} {K : PySem.W.Frag} {mg : Str → Option Value} {base : Heap} {A : Around} {outer : List Env} {s : Shared} {H : Hp} (e : Env0 P w K mg base A outer s H) (C : Addr) (us : List Value) (kw : List (Str × Value)) :
    Env0 P w K mg base (A.under (.builtin "type.__call__" ⟨.ref C :: us, kw⟩)) outer s H := ⟨by first | exact e.frames | (simpa [Around.under, Code.envs, Code.isFrame, pushEnvs] using e.frames), e.mod, e.bs, e.bsz, e.funs, e.frf, e.hok, e.bare⟩
section
variable {X : Cx} {pins : List (Addr × Obj)} {σ : St} {H : Hp} {s s' : Shared}
theorem Inv.env0 (I : Inv X pins σ H s) : Env0 X.prog X.w X.K X.mg X.base X.A X.stack s H :=
  ⟨I.ok.frames, I.ok.mod, I.bs, Nat.le_trans I.ok.bsz I.sz, I.stack, I.stkFree, I.hok, I.bare⟩
theorem Inv.after {Q : VK} {u : Value} (I : Inv X pins σ H s) (h : CE X.stack X.prog X.w H s Q u s') : EP X pins σ Q u s' := by
  obtain ⟨v, H', os, bare, un, hok, r, q⟩ := h
  obtain ⟨hh, g, d, t, os'⟩ := s'
  obtain rfl : os' = s.os := os
  exact ⟨v, H', I.call (h' := hh) (g' := g) (d' := d) (t' := t) (ch := []) un hok bare (fun b z => absurd z (by simp)), r, q⟩
end
def tCall (sp : Sp) (dvs : List V) (E : XK) (t : TA) : TE := fun σ H Q => t σ H fun vs H1 => sp (vs ++ dvs) H1 Q E
def tMeth (C : Addr) (m : Str) (sp : Sp) (dvs : List V) (E : XK) (ta : TE) (t : TA) : TE := fun σ H Q => ta σ H fun x H1 => ∃ a dx fs, x = .ref a ∧ H1 a = some (.ins C dx fs) ∧ fs.lookup m = none ∧
  t σ H1 fun vs H2 => sp (x :: (vs ++ dvs)) H2 Q E
def tMake (C : Addr) (sp : Sp) (dvs : List V) (E : XK) (t : TA) : TE := fun σ H Q => t σ H fun vs H1 => ∀ x dx, H1 x = none → H1 dx = none → dx ≠ x →
  sp (.ref x :: (vs ++ dvs)) (upd (upd H1 dx (.own x)) x (.ins C dx [])) (fun v H2 => v = .non ∧ Q (.ref x) H2) E
def Binds (K : PySem.W.Frag) (fd : FuncData) (ps : List Str) (ds : List Value) : Prop :=
  ∀ (s : Shared) (us : List Value), K.In s.heap → (us ++ ds).length = ps.length → BindsTo s fd ⟨us, []⟩ (ps.zip (us ++ ds))
theorem Binds.all {K : PySem.W.Frag} {fd : FuncData} {ps : List Str} (h : ∀ us : List Value, us.length = ps.length → bindArgs fd ⟨us, []⟩ = pure (ps.zip us)) : Binds K fd ps [] := fun s us _ hl => by
  rw [List.append_nil] at hl ⊢
  exact .of_eq (h us hl)
def Passes (CX : CXT) (X : Cx) (E : XK) : Prop := ∀ (pins : List (Addr × Obj)) (σ : St) (H : Hp) (s : Shared) (e : Value) (s' : Shared), Inv X pins σ H s → CX X.stack H s E e s' → X.xe e s'
section
variable {X : Cx} {CX : CXT} {k : Nat} {f C : Addr} {fd : FuncData} {ps : List Str} {sp : Sp} {dvs : List V} {ds : List Value} {E : XK} {x m : Str} {p pos apos : Pos} {e o : Expr} {es : List Expr} {ta : TE} {t : TA}
theorem run_fn {pins : List (Addr × Obj)} {σ : St} {H : Hp} {s : Shared} {Q : VK} {us : List Value} {vs : List V} (F : FnOk X.prog X.w X.K X.mg X.base CX k f fd ps sp) (hr : Room k X.A) (hb : Binds X.K fd ps ds) (hd : Vals dvs ds) (hx : Passes CX X E)
    (I : Inv X pins σ H s) (r : Vals vs us) (h : sp (vs ++ dvs) H Q E) : wpAny (model X.prog X.w) X.A (call (.ref f) us) (EP X pins σ Q) X.xe s := by
  have r2 : Vals (vs ++ dvs) (us ++ ds) := r.append hd
  have hl : (us ++ ds).length = ps.length := by rw [← r2.length]; exact F.len _ _ _ _ h
  refine wpAny_call (codeAny_mono (F.run X.A X.stack s H ⟨us, []⟩ (us ++ ds) (vs ++ dvs) Q E hr I.env0 (hb s us I.kIn hl) r2 h) fun r s' hq => ?_)
  cases r with
  | error e => exact hx pins σ H s e s' I hq
  | ok fl =>
    cases fl with
    | ret u => exact I.after hq
    | next => exact False.elim hq
    | brk => exact False.elim hq
    | cont => exact False.elim hq
theorem pe_call (F : FnOk X.prog X.w X.K X.mg X.base CX k f fd ps sp) (hr : Room k X.A) (hg : Gl X x) (hm : X.mg x = some (.ref f)) (hk : PySem.W.keepIn X.K (.ref f) = true) (hb : Binds X.K fd ps ds) (hd : Vals dvs ds) (hx : Passes CX X E)
    (ha : PA X (e :: es) t) (hdb : (x == ("__debug__" : Str)) = false := by decide) (he : starEach (e :: es) X.env = (false, eval e X.env) :: starEach es X.env := by rfl) (hpl : (backTo pos (starEach es X.env)).any (·.1) = false := by rfl) :
    PE X (.Call (.Name x p) (e :: es) [] pos) (tCall sp dvs E t) := by
  intro pins s σ H Q I h
  refine wpAny_Call_Name_kw (ld_glob I hg hm ?_ hdb)
  refine PySem.W.callWith_K (h₀ := X.base) I.ok.mod.kin hk (thn (ha pos pins s σ H _ I h) fun us s1 ⟨vs, H1, I1, r, q⟩ => ⟨I1.kIn, ?_⟩) he hpl
  exact run_fn F hr hb hd hx I1 r q
theorem pe_meth {pl : Sem Bool} (he : PE X o ta) (c : Cls X.K C) (hm : Meth X.K C m f) (F : FnOk X.prog X.w X.K X.mg X.base CX k f fd ps sp) (hr : Room k X.A) (hb : Binds X.K fd ps ds) (hd : Vals dvs ds) (hx : Passes CX X E) (ha : PA X (e :: es) t)
    (hst : starEach (e :: es) X.env = (false, eval e X.env) :: starEach es X.env := by rfl) (hpl : (backTo pos (starEach es X.env)).any (·.1) = false := by rfl)
    (ht : eval (.Call (.Attribute o m apos) (e :: es) [] pos) X.env = (do
      let ov ← eval o X.env
      standAt apos.atName
      let (f, first) ← holding [ov] (getMethod ov m pl)
      callWith pos f first (backTo pos (starEach (e :: es) X.env)) (backToKw pos (keywordEach [] X.env))) := by rfl) :
    PE X (.Call (.Attribute o m apos) (e :: es) [] pos) (tMeth C m sp dvs E ta t) := by
  intro pins s σ H Q I h
  refine PySem.W.methodCall_KW (pl := pl) (thn (he pins s σ H _ I h) fun u s1 ⟨x, H1, I1, rx, a, dx, fs, ex, ea, l, q⟩ => ?_) ht
  subst ex
  obtain rfl : u = Value.ref a := rx
  refine getmeth_ok I1 ea c hm l ?_
  refine PySem.W.callWith_K (first := [.ref a]) (h₀ := X.base) I.ok.mod.kin hm.kp (thn (ha pos pins s1 σ H1 _ I1 q) fun us s2 ⟨vs, H2, I2, r, q2⟩ => ⟨I2.kIn, ?_⟩) hst hpl
  exact run_fn (us := .ref a :: us) (vs := .ref a :: vs) F hr hb hd hx I2 (.cons rfl r) q2
theorem pe_meth0 {pl : Sem Bool} (he : PE X o ta) (c : Cls X.K C) (hm : Meth X.K C m f) (F : FnOk X.prog X.w X.K X.mg X.base CX k f fd ps sp) (hr : Room k X.A) (hb : Binds X.K fd ps ds) (hd : Vals dvs ds) (hx : Passes CX X E)
    (ht : eval (.Call (.Attribute o m apos) [] [] pos) X.env = (do
      let ov ← eval o X.env
      standAt apos.atName
      let (f, first) ← holding [ov] (getMethod ov m pl)
      callWith pos f first (backTo pos (starEach [] X.env)) (backToKw pos (keywordEach [] X.env))) := by rfl) :
    PE X (.Call (.Attribute o m apos) [] [] pos) (tMeth C m sp dvs E ta tNil) := by
  intro pins s σ H Q I h
  refine PySem.W.methodCall_KW (pl := pl) (thn (he pins s σ H _ I h) fun u s1 ⟨x, H1, I1, rx, a, dx, fs, ex, ea, l, q⟩ => ?_) ht
  subst ex
  obtain rfl : u = Value.ref a := rx
  refine getmeth_ok I1 ea c hm l ?_
  exact PySem.W.callWith_K0 (first := [.ref a]) I1.kIn hm.kp (run_fn (us := [.ref a]) (vs := [.ref a]) F hr hb hd hx I1 (.cons rfl .nil) q)
structure Mk (K : PySem.W.Frag) (C f : Addr) : Prop where
  makes : PySem.W.makesIn K C = true
  init : PySem.W.findIn K (.ref C) "__init__" = some (some (.ref f))
  fn : PySem.W.isFn K (.ref f) = true
  kp : PySem.W.keepIn K (.ref C) = true
theorem run_make {pins : List (Addr × Obj)} {σ : St} {H : Hp} {s : Shared} {Q : VK} {us : List Value} {vs : List V} (M : Mk X.K C f) (F : FnOk X.prog X.w X.K X.mg X.base CX k f fd ps sp) (hr : Room (k + 1) X.A) (hb : Binds X.K fd ps ds) (hd : Vals dvs ds)
    (hx : Passes CX X E) (I : Inv X pins σ H s) (r : Vals vs us)
    (h : ∀ x dx, H x = none → H dx = none → dx ≠ x → sp (.ref x :: (vs ++ dvs)) (upd (upd H dx (.own x)) x (.ins C dx [])) (fun v H2 => v = .non ∧ Q (.ref x) H2) E) :
    wpAny (model X.prog X.w) X.A (call (.ref C) us) (EP X pins σ Q) X.xe s := by
  have hq := h (s.heap.objs.size + 1) s.heap.objs.size (I.hok.fresh (Nat.le_succ _)) (I.hok.fresh (Nat.le_refl _)) (Nat.ne_of_lt (Nat.lt_succ_self _))
  have I2 := Inv.made (C := C) I
  have r2 : Vals (V.ref (s.heap.objs.size + 1) :: (vs ++ dvs)) (Value.ref (s.heap.objs.size + 1) :: (us ++ ds)) := .cons rfl (r.append hd)
  have hl : (Value.ref (s.heap.objs.size + 1) :: us ++ ds).length = ps.length := by
    have e := r2.length
    rw [F.len _ _ _ _ hq] at e
    exact e.symm
  refine wpAny_call (make_map (f := f) I.kIn M.makes M.init (beq_iff_eq.mp M.fn) (codeAny_mono (F.run _ X.stack _ _ ⟨Value.ref (s.heap.objs.size + 1) :: us, []⟩ (Value.ref (s.heap.objs.size + 1) :: (us ++ ds)) _ _ E (hr.make C us [])
    (I2.env0.make C us []) (hb _ (Value.ref (s.heap.objs.size + 1) :: us) I2.kIn hl) r2 hq) fun r s' hq' => ?_))
  cases r with
  | error e => exact hx pins σ _ _ e s' I2 hq'
  | ok fl =>
    cases fl with
    | ret u =>
      obtain ⟨v, H', I3, rv, ev, q3⟩ := I2.after hq'
      subst ev
      exact ⟨rv, ⟨V.ref (s.heap.objs.size + 1), H', I3, rfl, q3⟩⟩
    | next => exact False.elim hq'
    | brk => exact False.elim hq'
    | cont => exact False.elim hq'
theorem pe_make (M : Mk X.K C f) (F : FnOk X.prog X.w X.K X.mg X.base CX k f fd ps sp) (hr : Room (k + 1) X.A) (hg : Gl X x) (hm : X.mg x = some (.ref C)) (hb : Binds X.K fd ps ds) (hd : Vals dvs ds) (hx : Passes CX X E)
    (ha : PA X (e :: es) t) (hdb : (x == ("__debug__" : Str)) = false := by decide) (he : starEach (e :: es) X.env = (false, eval e X.env) :: starEach es X.env := by rfl) (hpl : (backTo pos (starEach es X.env)).any (·.1) = false := by rfl) :
    PE X (.Call (.Name x p) (e :: es) [] pos) (tMake C sp dvs E t) := by
  intro pins s σ H Q I h
  refine wpAny_Call_Name_kw (ld_glob I hg hm ?_ hdb)
  refine PySem.W.callWith_K (h₀ := X.base) I.ok.mod.kin M.kp (thn (ha pos pins s σ H _ I h) fun us s1 ⟨vs, H1, I1, r, q⟩ => ⟨I1.kIn, ?_⟩) he hpl
  exact run_make M F hr hb hd hx I1 r q
theorem pe_make0 (M : Mk X.K C f) (F : FnOk X.prog X.w X.K X.mg X.base CX k f fd ps sp) (hr : Room (k + 1) X.A) (hg : Gl X x) (hm : X.mg x = some (.ref C)) (hb : Binds X.K fd ps ds) (hd : Vals dvs ds) (hx : Passes CX X E)
    (hdb : (x == ("__debug__" : Str)) = false := by decide) : PE X (.Call (.Name x p) [] [] pos) (tMake C sp dvs E tNil) := by
  intro pins s σ H Q I h
  refine wpAny_Call_Name_kw (ld_glob I hg hm ?_ hdb)
  exact PySem.W.callWith_K0 I.kIn M.kp (run_make (us := []) M F hr hb hd hx I .nil h)
end
section
variable {X : Cx} {CX : CXT} {k : Nat} {f C : Addr} {fd : FuncData} {ps ks : List Str} {sp : Sp} {E : XK} {x m : Str} {p pos apos kpos : Pos} {e o : Expr} {es : List Expr} {kws : List Keyword} {te ta : TE} {t tk : TA} {nm : Option Str}
variable {g : List Value → List Value → List Value} {gV : List V → List V → List V}
end
structure FnScope (N P : List Str) (sc : Scope) : Prop where
  kind : sc.kind = .function
  co : sc.isCoroutine = false
  gen : sc.isGenerator = false
  nd : N.Nodup
  pre : N.take P.length = P
  par : ∀ x ∈ P, sc.names.lookup x = some .local ∨ sc.names.lookup x = some .cell
  nofree : ∀ y ∈ sc.names, y.2 ≠ .free
theorem bindL_out {kindOf : Str → Option NameKind} {x : Str} : ∀ {binds : List (Str × Value)} {m : Str → Option Value}, (∀ v, (x, v) ∉ binds) → bindL kindOf binds m x = m x
  | [], _, _ => rfl
  | (n, v) :: r, m, h => by
    unfold bindL
    rw [bindL_out fun w hw => h w (List.mem_cons_of_mem _ hw)]
    split
    · have : x ≠ n := by rintro rfl; exact h v List.mem_cons_self
      simp [this]
    · rfl
theorem bindC_out {kindOf : Str → Option NameKind} {x : Str} : ∀ {binds : List (Str × Value)} {m : Str → Option Value}, (∀ v, (x, v) ∉ binds) → bindC kindOf binds m x = m x
  | [], _, _ => rfl
  | (n, v) :: r, m, h => by
    unfold bindC
    rw [bindC_out fun w hw => h w (List.mem_cons_of_mem _ hw)]
    split
    · rfl
    · have : x ≠ n := by rintro rfl; exact h v List.mem_cons_self
      simp [this]
theorem bindL_get {kindOf : Str → Option NameKind} {x : Str} {v : Value} : ∀ {P : List Str} {vs : List Value} {i : Nat} {m : Str → Option Value}, P.Nodup → P[i]? = some x → vs[i]? = some v → kindOf x = some .local →
    bindL kindOf (P.zip vs) m x = some v
  | [], _, _, _, _, h, _, _ => by simp at h
  | _ :: _, [], _, _, _, _, h, _ => by simp at h
  | p :: P, w :: vs, 0, m, nd, h1, h2, hk => by
    simp at h1 h2; subst h1; subst h2
    show bindL kindOf ((p, w) :: P.zip vs) m p = _
    unfold bindL
    rw [bindL_out fun v hv => (List.nodup_cons.mp nd).1 (List.of_mem_zip hv).1, if_pos hk]
    simp
  | p :: P, w :: vs, i + 1, m, nd, h1, h2, hk => by
    show bindL kindOf ((p, w) :: P.zip vs) m x = _
    unfold bindL
    exact bindL_get (i := i) (List.nodup_cons.mp nd).2 (by simpa using h1) (by simpa using h2) hk
theorem bindC_get {kindOf : Str → Option NameKind} {x : Str} {v : Value} : ∀ {P : List Str} {vs : List Value} {i : Nat} {m : Str → Option Value}, P.Nodup → P[i]? = some x → vs[i]? = some v → kindOf x ≠ some .local →
    bindC kindOf (P.zip vs) m x = some v
  | [], _, _, _, _, h, _, _ => by simp at h
  | _ :: _, [], _, _, _, _, h, _ => by simp at h
  | p :: P, w :: vs, 0, m, nd, h1, h2, hk => by
    simp at h1 h2; subst h1; subst h2
    show bindC kindOf ((p, w) :: P.zip vs) m p = _
    unfold bindC
    rw [bindC_out fun v hv => (List.nodup_cons.mp nd).1 (List.of_mem_zip hv).1, if_neg hk]
    simp
  | p :: P, w :: vs, i + 1, m, nd, h1, h2, hk => by
    show bindC kindOf ((p, w) :: P.zip vs) m x = _
    unfold bindC
    exact bindC_get (i := i) (List.nodup_cons.mp nd).2 (by simpa using h1) (by simpa using h2) hk
def start (N : List Str) (vs : List V) : St := vs.map some ++ List.replicate (N.length - vs.length) none
def cxOf (CX : CXT) (P : Program) (w : World) (K : PySem.W.Frag) (mg : Str → Option Value) (base : Heap) (N : List Str) (qual : Str) (scope : Scope) (f : Addr) (cd : Value) (A : Around) (outer : List Env) (s : Shared) (H : Hp) (E : XK) : Cx where
  prog := P
  w := w
  K := K
  mg := mg
  base := base
  A := A.deeper (envOfC qual scope s.heap.objs.size f cd)
  N := N
  s_0 := s
  H_0 := H
  env := envOfC qual scope s.heap.objs.size f cd
  outer := outer
  stack := envOfC qual scope s.heap.objs.size f cd :: outer
  ex := []
  calm := true
  fn := fun _ => true
  pn := []
  xe := fun e s' => wpAny (model P w) (A.deeper (envOfC qual scope s.heap.objs.size f cd)) (leaving (envOfC qual scope s.heap.objs.size f cd) e) (fun _ s'' => CX outer H s E e s'') (fun e' s'' => CX outer H s E e' s'') s'
theorem cell_has {sc : Scope} {n : Nat} {x : Str} (h : sc.names.lookup x = some .cell) : ∃ c, (cellsFrom n sc.names []).lookup x = some c := by
  have q := PySem.W.cellsFrom_some sc.names n [] (.inl h)
  exact Option.isSome_iff_exists.mp q
theorem inv_start {CX : CXT} {P : Program} {w : World} {K : PySem.W.Frag} {mg : Str → Option Value} {base : Heap} {N ps : List Str} {qual : Str} {scope : Scope} {f : Addr} {cd : Value} {A : Around} {outer : List Env} {s s1 : Shared} {H : Hp} {E : XK} {us : List Value} {vs : List V}
    (S : FnScope N ps scope) (hd : A.handled = none) (e0 : Env0 P w K mg base A outer s H) (hl : vs.length = ps.length) (r : Vals vs us)
    (x : InCallC s s.heap.objs.size (bindL (envOfC qual scope s.heap.objs.size f cd).kindOf (ps.zip us) fun _ => none) (cellsFrom (s.heap.objs.size + 1) scope.names []) (bindC (envOfC qual scope s.heap.objs.size f cd).kindOf (ps.zip us) fun _ => none) s1) :
    Inv (cxOf CX P w K mg base N qual scope f cd A outer s H E) [] (start N vs) H s1 := by
  have hpl : ps.length ≤ N.length := by have := congrArg List.length S.pre; rw [List.length_take] at this; omega
  obtain ⟨h1, tk, rfl, hk⟩ := x.done
  have noA : ∀ b : Addr, b ∉ (cxOf CX P w K mg base N qual scope f cd A outer s H E).ex := fun b z => absurd (show b ∈ ([] : List Addr) from z) (by simp)
  refine ⟨⟨e0.mod, S.kind, rfl, rfl, Nat.le_refl _, fun y z c h1 h2 => ?_, fun y hy => ?_, fun y c _ h => ?_, fun _ => hd, Around.frames_deeper e0.frames, .inr ⟨rfl, rfl⟩, fun b z => absurd z (noA b), e0.bs, e0.bsz, fun b _ _ => noA b, fun b z => absurd z (noA b), e0.funs, e0.frf⟩,
    rfl, e0.bare, Un.kept hk, ⟨_, x.toInCall.ns, fun i y v h1 h2 h3 => ?_⟩, fun y c h => ⟨_, x.cell y c h⟩, e0.hok.fresh (Nat.le_refl _), fun y c h => ?_, fun p hp => absurd (show p ∈ ([] : List (Addr × Obj)) from hp) (by simp), e0.hok.kept hk, ?_⟩
  · exact name_of_addr x.apart (PySem.mem_of_lookup h1) (PySem.mem_of_lookup h2)
  · have hy : scope.names.lookup y = some .cell ∨ scope.names.lookup y = some .free := hy
    rcases hy with hy | hy
    · exact cell_has hy
    · exact absurd rfl (S.nofree _ (PySem.mem_of_lookup hy))
  · exact Nat.le_of_lt (x.above y c (PySem.mem_of_lookup h))
  · have hi : i < vs.length := by
      unfold start at h2
      by_cases hi : i < vs.length
      · exact hi
      · rw [List.getElem?_append_right (by simpa using hi)] at h2
        rw [List.getElem?_replicate] at h2
        split at h2 <;> cases h2
    have ha : vs[i]? = some v := by
      unfold start at h2
      rw [List.getElem?_append_left (by simpa using hi), List.getElem?_map] at h2
      cases e : vs[i]? with
      | none => rw [e] at h2; cases h2
      | some a => rw [e] at h2; cases h2; rfl
    obtain ⟨u, hu, rv⟩ := r.get ha
    have hp : ps[i]? = some y := by
      rw [← S.pre, List.getElem?_take_of_lt (by omega)]; exact h1
    have ndP : ps.Nodup := by rw [← S.pre]; exact S.nd.sublist (List.take_sublist _ _)
    refine ⟨u, rv, ?_⟩
    rcases S.par y (List.mem_of_getElem? hp) with k | k
    · exact .inl ⟨k, bindL_get ndP hp hu k⟩
    · obtain ⟨c, e⟩ := cell_has (n := s.heap.objs.size + 1) k
      refine .inr ⟨.inl k, c, e, ?_⟩
      have q := x.cell y c e
      rw [bindC_get ndP hp hu (by show scope.names.lookup y ≠ _; rw [k]; decide)] at q
      exact q
  · exact e0.hok.fresh (Nat.le_of_lt (x.above y c (PySem.mem_of_lookup h)))
  · unfold start
    show _ = N.length
    rw [List.length_append, List.length_map, List.length_replicate]
    omega
theorem fn_of {CX : CXT} {P : Program} {w : World} {K : PySem.W.Frag} {mg : Str → Option Value} {base : Heap} {k : Nat} {f : Addr} {name qual : Str} {params : Arguments} {body : List Stmt} {scope : Scope} {dV kV doc pm cdv ct oc : Value} {an od : Option Addr}
    {osl : Array (Option Value)} {N ps : List Str} {sp : Sp} (lk : K.lookup f = some ⟨oc, od, .func (PySem.W.fnOf name qual params body scope dV kV doc pm an cdv ct), osl⟩) (hcd : PySem.W.codeIn K cdv qual = true) (S : FnScope N ps scope)
    (len : ∀ vs H Q E, sp vs H Q E → vs.length = ps.length)
    (hbody : ∀ (A : Around) (outer : List Env) (s : Shared) (H : Hp) (vs : List V) (Q : VK) (E : XK), Room k (A.deeper (envOfC qual scope s.heap.objs.size f cdv)) → sp vs H Q E →
      ∃ t, PSs (cxOf CX P w K mg base N qual scope f cdv A outer s H E) body t ∧ t { nx := fun _ H' => Q .non H', rt := Q } (start N vs) H) :
    FnOk P w K mg base CX (k + 1) f (PySem.W.fnOf name qual params body scope dV kV doc pm an cdv ct) ps sp := by
  refine ⟨len, fun A outer s H args us vs Q E hr e0 hb r hsp => ?_⟩
  have hl := len _ _ _ _ hsp
  have KX : K.In s.heap := e0.mod.kin.keeps fun b o e => (e0.bs b o e).1
  have lim : s.heap.NoLimit := e0.mod.nolimit.keeps fun b o e => (e0.bs b o e).1
  have hkind : ∀ y ∈ ps.zip us, scope.names.lookup y.1 = some .local ∨ (scope.names.lookup y.1 = some .cell ∧ ((cellsFrom (s.heap.objs.size + 1) scope.names []).lookup y.1).isSome = true) := fun ⟨n, v⟩ hy => by
    rcases S.par n (List.of_mem_zip hy).1 with q | q
    · exact .inl q
    · exact .inr ⟨q, PySem.W.cellsFrom_some _ _ _ (.inl q)⟩
  refine codeAny_call_function hr.depth (KX _ _ lk) rfl S.co S.gen rfl (PySem.W.codeRec_of KX hcd) (hb _ _ _ _ ?_)
  refine wpAny_newFunctionEnv_cells S.kind hkind fun env he s1 x => ?_
  subst he
  refine ⟨lim.keeps x.toInCall.keep, codeAny_func ?_⟩
  obtain ⟨t, ht, hq⟩ := hbody A outer s H vs Q E (hr.deeper _) hsp
  have I : Inv (cxOf CX P w K mg base N qual scope f cdv A outer s H E) [] (start N vs) H s1 := inv_start S hr.hd e0 hl r x
  refine wpAny_mono (ht [] s1 (start N vs) H _ I hq) (fun fl s' hs => ?_) fun e s' hs => hs
  have fin : ∀ {σ' : St} {H' : Hp} {v : V} {u : Value}, Inv (cxOf CX P w K mg base N qual scope f cdv A outer s H E) [] σ' H' s' → RelV v u → Q v H' → CE outer P w H s Q u s' :=
    fun {σ' H' v u} J rv q => ⟨v, H', J.os, J.bare, J.base, J.hok, rv, q⟩
  cases fl with
  | ret u =>
    obtain ⟨v, σ', H', J, rv, q⟩ := hs
    exact fin J rv q
  | next =>
    obtain ⟨σ', H', J, q⟩ := hs
    exact fin (v := V.non) (u := Value.none) J rfl q
  | brk =>
    obtain ⟨_, _, _, q⟩ := hs
    exact False.elim q
  | cont =>
    obtain ⟨_, _, _, q⟩ := hs
    exact False.elim q
end L2
namespace L2
open PySem PySem.Spec PyProof.Rows
section
variable {X : Cx} {x : Str} {p pos : Pos} {e : Expr} {es : List Expr} {t : TA} {id T : String} {r : List V → Hp → VK → Prop}
def tCB (r : List V → Hp → VK → Prop) (t : TA) : TE := fun σ H Q => t σ H fun vs H1 => r vs H1 Q
theorem pe_callB (hc : CallR X (.builtin id) r) (hg : Gl X x) (hm : X.mg x = none) (hv : bootBuiltins x = some (.builtin id)) (ha : PA X (e :: es) t) (hn : x ≠ "__name__" := by decide) (hdb : (x == ("__debug__" : Str)) = false := by decide)
    (he : starEach (e :: es) X.env = (false, eval e X.env) :: starEach es X.env := by rfl) (hpl : (backTo pos (starEach es X.env)).any (·.1) = false := by rfl) : PE X (.Call (.Name x p) (e :: es) [] pos) (tCB r t) := by
  intro pins s σ H Q I h
  refine wpAny_Call_Name_kw (ld_blt I hg hm hv ?_ hn hdb)
  exact PyProof.Rows.callWith_builtin1 (thn (ha pos pins s σ H _ I h) fun us s1 ⟨vs, H1, I1, r1, q1⟩ => hc pins s1 σ H1 vs us Q I1 r1 q1) he hpl
theorem pe_callTy (hc : CallR X (.type T) r) (hg : Gl X x) (hm : X.mg x = none) (hv : bootBuiltins x = some (.type T)) (ha : PA X (e :: es) t) (hn : x ≠ "__name__" := by decide) (hdb : (x == ("__debug__" : Str)) = false := by decide)
    (he : starEach (e :: es) X.env = (false, eval e X.env) :: starEach es X.env := by rfl) (hpl : (backTo pos (starEach es X.env)).any (·.1) = false := by rfl) : PE X (.Call (.Name x p) (e :: es) [] pos) (tCB r t) := by
  intro pins s σ H Q I h
  refine wpAny_Call_Name_kw (ld_blt I hg hm hv ?_ hn hdb)
  exact PyProof.Rows.callWith_type1 (thn (ha pos pins s σ H _ I h) fun us s1 ⟨vs, H1, I1, r1, q1⟩ => hc pins s1 σ H1 vs us Q I1 r1 q1) he hpl
end
end L2
namespace HT
open PySem PyProof.Rows
section
open PySem.SeqAt
open PySem.AutoSeq1 (wpAny_loadPart')
open PySem.MeetsSeq PySem.MeetsSeq2 PySem.MeetsSeq3
end
section
variable {prog : Program} {w : World} {A : Around} {E : Value → Shared → Prop} {s : Shared}
def sIx (n d : Nat) : Option Int → Nat
  | none => d
  | some v => if v < 0 then (v + (n : Int)).toNat else min v.toNat n
theorem sIx_none (n d : Nat) : sIx n d none = d := rfl
theorem sIx_nat (n d k : Nat) : sIx n d (some (k : Int)) = min k n := by
  show (if (k : Int) < 0 then ((k : Int) + (n : Int)).toNat else min (k : Int).toNat n) = min k n
  rw [if_neg (by omega), Int.toNat_natCast]
end
end HT
namespace L2
open PySem PySem.Spec PyProof.Rows
abbrev TO := St → Hp → (Option Int → Hp → Prop) → Prop
def PO (X : Cx) (e : Option Expr) (t : TO) : Prop :=
  ∀ (pins : List (Addr × Obj)) (s : Shared) (σ : St) (H : Hp) (Q : Option Int → Hp → Prop), Inv X pins σ H s → t σ H Q →
    wpAny (model X.prog X.w) X.A (evalPart e X.env) (fun u s' => ∃ o H', Inv X pins σ H' s' ∧ IsPart u o ∧ Q o H') X.xe s
def tNoPart : TO := fun _ H Q => Q none H
def tPart (t : TE) : TO := fun σ H Q => t σ H fun x H1 => ∃ i, x = .int i ∧ Q (some i) H1
section
variable {X : Cx} {e : Expr} {te : TE} {lo hi : Option Expr} {tl th : TO} {pos p2 : Pos}
theorem po_none : PO X none tNoPart := by
  intro pins s σ H Q I h
  rw [evalPart_none]
  exact wpAny_pure ⟨none, H, I, .none, h⟩
theorem po_some (h : PE X e te) : PO X (some e) (tPart te) := by
  intro pins s σ H Q I hw
  rw [evalPart_some]
  refine thn (h pins s σ H _ I hw) fun u s1 ⟨x, H1, I1, r1, q1⟩ => ?_
  obtain ⟨i, rfl, q⟩ := q1
  obtain ⟨t, rfl⟩ := r1
  exact ⟨some i, H1, I1, .int i t, q⟩
def SlR (X : Cx) (r : V → Option Int → Option Int → Hp → VK → Prop) : Prop :=
  ∀ (pins : List (Addr × Obj)) (s : Shared) (σ : St) (H : Hp) (x : V) (v vl vu : Value) (lo hi : Option Int) (sl : Addr) (Q : VK), Inv X pins σ H s → RelV x v → s.heap.IsSliceOf sl vl vu .none → IsPart vl lo → IsPart vu hi → r x lo hi H Q →
    ∃ T id, typeLookup (.type T) "__getitem__" = pure (some (.builtin id)) ∧ s.TypeIs v T ∧ wpAny (model X.prog X.w) X.A (getItem v (.ref sl)) (EP X pins σ Q) X.xe s
def tSl (r : V → Option Int → Option Int → Hp → VK → Prop) (te : TE) (tl th : TO) : TE := fun σ H Q => te σ H fun x H1 => tl σ H1 fun l H2 => th σ H2 fun u H3 => r x l u H3 Q
theorem pe_slice {r : V → Option Int → Option Int → Hp → VK → Prop} (hr : SlR X r) (he : PE X e te) (hl : PO X lo tl) (hu : PO X hi th) : PE X (.Subscript e (.Slice lo hi none p2) pos) (tSl r te tl th) := by
  intro pins s σ H Q I h
  refine Subscript_ (thn (he pins s σ H _ I h) fun v s1 ⟨x, H1, I1, r1, q1⟩ => ?_)
  refine wpAny_Slice (thn (hl pins s1 σ H1 _ I1 q1) fun vl s2 ⟨l, H2, I2, pl, q2⟩ => thn (hu pins s2 σ H2 _ I2 q2) fun vu s3 ⟨u, H3, I3, pu, q3⟩ => ?_)
  rw [evalPart_none]
  refine wpAny_pure ?_
  have I4 : Inv X pins σ H3 { s3 with heap := s3.heap.push { cls := .type "slice", data := .fields #[vl, vu, .none] } } := I3.kept (t' := s3.toks) fun b ob q => Heap.get?_push_of_some _ q
  obtain ⟨T, id, hT, ht, hg⟩ := hr pins { s3 with heap := s3.heap.push { cls := .type "slice", data := .fields #[vl, vu, .none] } } σ H3 x v vl vu l u s3.heap.objs.size Q I4 r1 (Heap.IsSliceOf.new ..) pl pu q3
  show wpAny (model X.prog X.w) X.A (subscriptTail e (.Slice lo hi none p2) v (.ref s3.heap.objs.size)) (EP X pins σ Q) X.xe { s3 with heap := s3.heap.push { cls := .type "slice", data := .fields #[vl, vu, .none] } }
  exact tail_any (ops := [.ref s3.heap.objs.size, v]) ht hT hg (by with_unfolding_all rfl)
def cutV (xs : List V) (lo hi : Option Int) : List V := (xs.drop (HT.sIx xs.length 0 lo)).take (HT.sIx xs.length xs.length hi - HT.sIx xs.length 0 lo)
theorem cutV_length (xs : List V) (lo hi : Option Int) : (cutV xs lo hi).length ≤ xs.length := by
  unfold cutV
  rw [List.length_take, List.length_drop]
  omega
end
end L2
namespace L2
open PySem PySem.Spec PyProof.Rows
def ixN (n : Nat) (i : Int) : Option Nat := if 0 ≤ i then (if i < n then some i.toNat else none) else if -(n : Int) ≤ i then some (i + n).toNat else none
def atI {α : Type} (xs : List α) (i : Int) : Option α := (ixN xs.length i).bind fun j => xs[j]?
theorem ixN_seq {n : Nat} {i : Int} {j : Nat} (h : ixN n i = some j) : seqIndex? i n = some j ∧ j < n ∧ -(n : Int) ≤ i ∧ i < n := by
  unfold ixN at h
  by_cases h0 : 0 ≤ i
  · rw [if_pos h0] at h
    by_cases h1 : i < n
    · rw [if_pos h1] at h
      have e : i.toNat = j := Option.some.inj h
      exact ⟨by rw [seqIndex_of h0 h1, e], by omega, by omega, h1⟩
    · rw [if_neg h1] at h; cases h
  · rw [if_neg h0] at h
    by_cases h1 : -(n : Int) ≤ i
    · rw [if_pos h1] at h
      have e : (i + n).toNat = j := Option.some.inj h
      exact ⟨by rw [seqIndex_neg (by omega) h1, e], by omega, h1, by omega⟩
    · rw [if_neg h1] at h; cases h
theorem atI_get {α : Type} {xs : List α} {i : Int} {v : α} (h : atI xs i = some v) : ∃ j, seqIndex? i xs.length = some j ∧ xs[j]? = some v ∧ j < xs.length ∧ -(xs.length : Int) ≤ i ∧ i < xs.length := by
  unfold atI at h
  cases e : ixN xs.length i with
  | none => rw [e] at h; cases h
  | some j =>
    rw [e] at h
    obtain ⟨h1, h2, h3, h4⟩ := ixN_seq e
    exact ⟨j, h1, h, h2, h3, h4⟩
theorem atI_nat {α : Type} {xs : List α} {j : Nat} {v : α} (h : xs[j]? = some v) : atI xs (j : Int) = some v := by
  have hj : j < xs.length := (List.getElem?_eq_some_iff.mp h).1
  have e : ixN xs.length (j : Int) = some j := by
    unfold ixN
    rw [if_pos (by omega), if_pos (by omega)]; simp
  unfold atI; rw [e]; exact h
def PlainIx (b : Expr) : Prop := ∀ o i, subscripted b false o i = operate [o, i] (getItem o i)
def IxR (X : Cx) (r : R2) : Prop :=
  ∀ (value slice : Expr) (pins : List (Addr × Obj)) (s : Shared) (σ : St) (H : Hp) (x y : V) (v u : Value) (Q : VK), Inv X pins σ H s → RelV x v → RelV y u → r x y H Q →
    subscripted slice false v u = operate [v, u] (getItem v u) → wpAny (model X.prog X.w) X.A (subscriptTail value slice v u) (EP X pins σ Q) X.xe s
def MtR (X : Cx) (id : String) (r : V → List V → Hp → VK → Prop) : Prop :=
  ∀ (pins : List (Addr × Obj)) (s : Shared) (σ : St) (H : Hp) (x : V) (xs : List V) (v : Value) (us : List Value) (Q : VK), Inv X pins σ H s → RelV x v → Vals xs us → r x xs H Q →
    wpAny (model X.prog X.w) X.A (call (.builtin id) (v :: us)) (EP X pins σ Q) X.xe s
section
variable {X : Cx} {a b : Expr} {ta tb : TE} {pos : Pos}
theorem pe_ix {r : R2} (hr : IxR X r) (ha : PE X a ta) (hb : PE X b tb) (hs : PlainIx b) : PE X (.Subscript a b pos) (tOp r ta tb) := by
  intro pins s σ H Q I h
  exact Subscript_ (binT ha hb I h fun v u s2 x y H2 I2 rx ry q => hr a b pins s2 σ H2 x y v u Q I2 rx ry q (hs _ _))
def rIxL (K : PySem.W.Frag) : R2 := fun x y H Q => ∃ p xs i v, x = .ref p ∧ y = .int i ∧ SqL K H p xs ∧ atI xs i = some v ∧ Q v H
def rIxT (K : PySem.W.Frag) : R2 := fun x y H Q => ∃ p xs i v, x = .ref p ∧ y = .int i ∧ SqT K H p xs ∧ atI xs i = some v ∧ Q v H
def rIxS : R2 := fun x y H Q => ∃ z i c, x = .str z ∧ y = .int i ∧ z.length ≤ sizeLine ∧ atI z.cps.toList i = some c ∧ Q (.str ⟨#[c]⟩) H
theorem ix_list : IxR X (rIxL X.K) := by
  intro value slice pins s σ H x y v u Q I rx ry h hs
  obtain ⟨p, xs, i, z, rfl, rfl, hq, he, q⟩ := h
  cases rx
  obtain ⟨t, rfl⟩ := ry
  obtain ⟨its, r, pl, hz⟩ := I.list hq
  obtain ⟨j, h1, h2, h3, h4, h5⟩ := atI_get he
  obtain ⟨w, ew, rw'⟩ := r.get h2
  have hl := r.length
  have hn := line63
  have fin : EP X pins σ Q w s := ⟨z, H, I, rw', q⟩
  by_cases h0 : 0 ≤ i
  · have hj : i.toNat = j := by
      rw [seqIndex_of h0 h5] at h1
      exact Option.some.inj h1
    exact item_listR pl.isList h0 (by omega) (by rw [hj]; simpa using ew) fin hs
  · have hj : (i + (its.toArray.size : Int)).toNat = j := by
      rw [seqIndex_neg (by omega) h4] at h1
      rw [List.size_toArray, ← hl]
      exact Option.some.inj h1
    exact subscriptTail_builtinR (x := w) pl.isList.typeIs slot_list_getitem.lookup
      (wpAny_getItem_list_neg (Q := fun r s' => r = w ∧ EP X pins σ Q r s') pl.isList (by omega) (by rw [List.size_toArray] <;> omega) (by omega) (by rw [hj]; simpa using ew) ⟨rfl, fin⟩) hs
theorem ix_tup : IxR X (rIxT X.K) := by
  intro value slice pins s σ H x y v u Q I rx ry h hs
  obtain ⟨p, xs, i, z, rfl, rfl, hq, he, q⟩ := h
  cases rx
  obtain ⟨t, rfl⟩ := ry
  obtain ⟨its, r, pl, hz⟩ := I.tuple hq
  obtain ⟨j, h1, h2, h3, h4, h5⟩ := atI_get he
  obtain ⟨w, ew, rw'⟩ := r.get h2
  have hl := r.length
  have hn := line63
  have fin : EP X pins σ Q w s := ⟨z, H, I, rw', q⟩
  exact subscriptTail_builtinR (x := w) pl.typeIs slot_tuple_getitem.lookup
    (getItem_tuple (j := j) (Q := fun r s' => r = w ∧ EP X pins σ Q r s') pl (by omega) (by omega) (by rw [List.size_toArray, ← hl]; exact h1) (by simpa using ew) ⟨rfl, fin⟩) hs
theorem ix_str : IxR X rIxS := by
  intro value slice pins s σ H x y v u Q I rx ry h hs
  obtain ⟨z, i, c, rfl, rfl, hz, he, q⟩ := h
  obtain ⟨t, rfl⟩ := rx
  obtain ⟨t', rfl⟩ := ry
  obtain ⟨j, h1, h2, h3, h4, h5⟩ := atI_get he
  have hl : z.cps.toList.length = z.length := by simp [Str.length]
  rw [hl] at h1 h4 h5
  have hn := line63
  exact tail_any (typeIs_str s z t) slot_str_getitem.lookup (getItem_str (c := c) (by
    have e1 : decide (i < -(2 ^ 63 : Int)) = false := decide_eq_false (by omega)
    have e2 : decide (i ≥ 2 ^ 63) = false := decide_eq_false (by omega)
    rw [e1, e2, Bool.or_false]) (by rw [h1]; simpa using h2) ⟨.str ⟨#[c]⟩, H, I.tok _, ⟨_, rfl⟩, q⟩) hs
theorem mapSeq_set (its : List Value) (n j : Nat) (u : Value) : Obj.mapSeq (·.setIfInBounds j u) { cls := .type "list", data := .seq its.toArray n } = { cls := .type "list", data := .seq (its.set j u).toArray n } := by
  simp [Obj.mapSeq]
theorem Inv.lst {pins : List (Addr × Obj)} {σ : St} {H : Hp} {s : Shared} {p : Addr} {xs : List V} (I : Inv X pins σ H s) (h : H p = some (.lst xs)) :
    ∃ (its : List Value) (n : Nat), Vals xs its ∧ s.heap.get? p = some { cls := .type "list", data := .seq its.toArray n } ∧ xs.length ≤ sizeLine := by
  obtain ⟨z, its, n, r, e⟩ := I.hok p _ h
  exact ⟨its, n, r, e, z⟩
theorem Inv.lstUpd {pins : List (Addr × Obj)} {σ : St} {H : Hp} {s : Shared} {p : Addr} {xs ys : List V} {its its' : List Value} {n n' : Nat} {f : Obj → Obj} (I : Inv X pins σ H s) (h : H p = some (.lst xs))
    (ho : s.heap.get? p = some { cls := .type "list", data := .seq its.toArray n }) (hf : f { cls := .type "list", data := .seq its.toArray n } = { cls := .type "list", data := .seq its'.toArray n' }) (r : Vals ys its') (hz : ys.length ≤ sizeLine) (t : Nat) :
    Inv X pins σ (upd H p (.lst ys)) { s with heap := s.heap.update p f, toks := t } := by
  have e : (s.heap.update p f).get? p = some { cls := .type "list", data := .seq its'.toArray n' } := by
    rw [Heap.get?_update_self f ho (by rw [hf] <;> rfl), hf]
  refine I.write (x := p) (e := p) (by rw [h]; trivial) (.inl rfl) (fun b u hb q => (Heap.get?_update_other _ _ (Ne.symm hb)).trans q) ⟨_, e⟩ ?_
  exact ⟨hz, its', n', r, e⟩
def rSetL : V → V → V → Hp → (Hp → Prop) → Prop := fun o i v H Q => ∃ p xs k j, o = .ref p ∧ i = .int k ∧ H p = some (.lst xs) ∧ ixN xs.length k = some j ∧ Q (upd H p (.lst (xs.set j v)))
theorem set_list : PSet X rSetL := by
  intro pins s σ H o i v ov iv u Q I ro ri rv h
  obtain ⟨p, xs, k, j, rfl, rfl, hp, hj, q⟩ := h
  cases ro
  obtain ⟨t, rfl⟩ := ri
  obtain ⟨its, n, r, ho, hz⟩ := I.lst hp
  obtain ⟨h1, h2, h3, h4⟩ := ixN_seq hj
  have hl := r.length
  have hn := line63
  have I' : Inv X pins σ (upd H p (.lst (xs.set j v))) { s with heap := s.heap.update p (Obj.mapSeq (·.setIfInBounds j u)) } :=
    I.lstUpd hp ho (mapSeq_set its n j u) (r.set rv j) (by rw [List.length_set]; exact hz) s.toks
  by_cases h0 : 0 ≤ k
  · have hk : k.toNat = j := by
      rw [seqIndex_of h0 h4] at h1
      exact Option.some.inj h1
    exact PySem.W.ki_setAt ho h0 (by omega) (by rw [List.size_toArray, ← hl]; exact h4) (by rw [hk]; exact ⟨_, I', q⟩)
  · have hk : (k + (its.toArray.size : Int)).toNat = j := by
      rw [seqIndex_neg (by omega) h3] at h1
      rw [List.size_toArray, ← hl]
      exact Option.some.inj h1
    exact PySem.W.ki_setBack ho (by omega) (by rw [List.size_toArray, ← hl]; exact h3) (by omega) (by rw [hk]; exact ⟨_, I', q⟩)
theorem slice_bounds (lo hi : Option Int) (n : Nat) : (sliceBounds lo hi none n).1 = ((HT.sIx n 0 lo : Nat) : Int) ∧ (sliceBounds lo hi none n).2.1 = ((HT.sIx n n hi : Nat) : Int) ∧ (sliceBounds lo hi none n).2.2 = 1 := by
  refine ⟨?_, ?_, rfl⟩
  · cases lo with
    | none => simp [sliceBounds, HT.sIx]
    | some i =>
      simp only [sliceBounds, HT.sIx, Option.getD_none, show (1 : Int) > 0 by decide, if_true]
      by_cases h : i < 0
      · simp only [h, if_true] <;> omega
      · simp only [h, if_false] <;> omega
  · cases hi with
    | none => simp [sliceBounds, HT.sIx]
    | some i =>
      simp only [sliceBounds, HT.sIx, Option.getD_none, show (1 : Int) > 0 by decide, if_true]
      by_cases h : i < 0
      · simp only [h, if_true] <;> omega
      · simp only [h, if_false] <;> omega
theorem slicePick_cut (its : List Value) (lo hi : Option Int) : slicePick its.toArray lo hi none = ((its.drop (HT.sIx its.length 0 lo)).take (HT.sIx its.length its.length hi - HT.sIx its.length 0 lo)).toArray := by
  obtain ⟨h1, h2, h3⟩ := slice_bounds lo hi its.toArray.size
  unfold slicePick
  rw [h1, h2, h3]
  simp only [sliceRange_one, pick_run, List.size_toArray] <;> rfl
def rSlL (K : PySem.W.Frag) : V → Option Int → Option Int → Hp → VK → Prop := fun x lo hi H Q => ∃ a xs, x = .ref a ∧ SqL K H a xs ∧ ∀ p, H p = none → Q (.ref p) (upd H p (.lst (cutV xs lo hi)))
theorem sl_list : SlR X (rSlL X.K) := by
  intro pins s σ H x v vl vu lo hi sl Q I rx hs pl pu h
  obtain ⟨a, xs, rfl, hx, q⟩ := h
  cases rx
  obtain ⟨its, r, ht, hz⟩ := I.list hx
  have hlen := r.length
  refine ⟨"list", _, slot_list_getitem.lookup, ht.isList.typeIs, ?_⟩
  refine wpAny_getItem_list_slice ht.isList hs pl pu .none (by simp) ?_ (by rw [List.size_toArray] <;> omega)
  rw [slicePick_cut, ← hlen]
  refine ⟨.ref s.heap.objs.size, _, I.laid (t' := s.toks) (o := .lst (cutV xs lo hi)) (fun b ob q => Heap.get?_push_of_some _ q) (Nat.le_refl _) ?_, rfl, q _ (I.hok.fresh (Nat.le_refl _))⟩
  exact ⟨Nat.le_trans (cutV_length xs lo hi) hz, _, 0, (r.drop (HT.sIx xs.length 0 lo)).take (HT.sIx xs.length xs.length hi - HT.sIx xs.length 0 lo), Heap.get?_push_size _ rfl⟩
theorem call_len_seq : CallR X (.builtin "len") (fun xs H Q => ∃ p ys, xs = [.ref p] ∧ (SqL X.K H p ys ∨ SqT X.K H p ys) ∧ Q (.int ys.length) H) := by
  intro pins s σ H xs us Q I r h
  obtain ⟨p, ys, rfl, hq, q⟩ := h
  obtain ⟨u, rfl, rx⟩ := vals1 r
  cases rx
  have hn := line63
  rcases hq with hq | hq
  · obtain ⟨its, r', pl, hz⟩ := I.list hq
    have hlen := r'.length
    exact Calls.call_len_list pl.isList (by simp only [List.size_toArray] <;> omega) ⟨.int ys.length, H, I.tok _, ⟨s.toks + 1, by rw [List.size_toArray, hlen]⟩, q⟩
  · obtain ⟨its, r', pl, hz⟩ := I.tuple hq
    have hlen := r'.length
    exact len_tuple pl (by simp only [List.size_toArray] <;> omega) ⟨.int ys.length, H, I.tok _, ⟨s.toks + 1, by rw [List.size_toArray, hlen]⟩, q⟩
theorem call_list_of : CallR X (.type "list") (fun xs H Q => ∃ p ys, xs = [.ref p] ∧ (SqL X.K H p ys ∨ SqT X.K H p ys) ∧ ∀ l, H l = none → Q (.ref l) (upd H l (.lst ys))) := by
  intro pins s σ H xs us Q I r h
  obtain ⟨p, ys, rfl, hq, q⟩ := h
  obtain ⟨u, rfl, rx⟩ := vals1 r
  cases rx
  have fin : ∀ (its : List Value), Vals ys its → ys.length ≤ sizeLine → ∀ (h' : Heap) (c' : Nat), (∀ b o', s.heap.get? b = some o' → h'.get? b = some o') →
      h'.get? s.heap.objs.size = some { cls := .type "list", dict := none, data := .seq its.toArray c', slots := #[] } → EP X pins σ Q (.ref s.heap.objs.size) { s with heap := h' } := fun its r' hz h' c' kp e =>
    ⟨.ref s.heap.objs.size, _, I.laid (t' := s.toks) kp (Nat.le_refl _) (show ObjOk X.prog X.w _ h' _ (.lst ys) from ⟨hz, its, c', r', e⟩), rfl, q _ (I.hok.fresh (Nat.le_refl _))⟩
  rcases hq with hq | hq
  · obtain ⟨its, r', pl, hz⟩ := I.list hq
    have hlen := r'.length
    obtain ⟨o, ho, hc, n, hd⟩ := pl.isList
    exact call_list_seq p (.inl rfl) ho hc hd (fun h' c' kp e => fin its r' hz h' c' kp e) (by simp only [List.size_toArray] <;> omega)
  · obtain ⟨its, r', pl, hz⟩ := I.tuple hq
    have hlen := r'.length
    obtain ⟨o, ho, hc, n, hd⟩ := pl
    exact call_list_seq p (.inr rfl) ho hc hd (fun h' c' kp e => fin its r' hz h' c' kp e) (by simp only [List.size_toArray] <;> omega)
def tyV (K : PySem.W.Frag) (T : String) (x : V) (H : Hp) : Prop := match x with
  | .str _ => T = "str"
  | .int _ => T = "int"
  | .ref p => (T = "list" ∧ ∃ xs, SqL K H p xs) ∨ (T = "tuple" ∧ ∃ o, K.lookup p = some o ∧ o.cls = .type "tuple" ∧ o.dict = none) ∨
      (T = "dict" ∧ ((∃ kvs, H p = some (.dK kvs)) ∨ ∃ kvs, H p = some (.dT kvs))) ∨ (T = "set" ∧ ∃ S n, H p = some (.set S n))
  | _ => False
theorem tyV_is {pins : List (Addr × Obj)} {σ : St} {H : Hp} {s : Shared} {T : String} {x : V} {v : Value} (I : Inv X pins σ H s) (r : RelV x v) (ty : tyV X.K T x H) :
    s.TypeIs v T ∧ ∀ a, v = .ref a → ∃ ob, s.heap.get? a = some ob ∧ ob.dict = none := by
  cases x with
  | str z =>
    obtain ⟨t, rfl⟩ := r
    cases (show T = "str" from ty)
    exact ⟨typeIs_str s z t, fun _ e => nomatch e⟩
  | int i =>
    obtain ⟨t, rfl⟩ := r
    cases (show T = "int" from ty)
    exact ⟨typeIs_int s i t, fun _ e => nomatch e⟩
  | ref p =>
    cases r
    rcases ty with ⟨rfl, xs, hq⟩ | ⟨rfl, o, hk, hc, hd⟩ | ⟨rfl, hk⟩ | ⟨rfl, S, n, hk⟩
    · obtain ⟨its, _, pl, _⟩ := I.list hq
      refine ⟨pl.isList.typeIs, fun a e => ?_⟩
      cases e
      obtain ⟨o, n, e, c, hd, _⟩ := pl
      exact ⟨o, e, hd⟩
    · refine ⟨⟨o, I.kIn p o hk, hc⟩, fun a e => ?_⟩
      cases e
      exact ⟨o, I.kIn _ o hk, hd⟩
    · have z : ∃ o, s.heap.get? p = some o ∧ o.ExactDict := by
        rcases hk with ⟨kvs, hk⟩ | ⟨kvs, hk⟩
        · obtain ⟨_, _, _, _, o, _, _, e, ex, _⟩ := I.hok p _ hk
          exact ⟨o, e, ex⟩
        · obtain ⟨_, _, _, _, o, _, _, e, ex, _⟩ := I.hok p _ hk
          exact ⟨o, e, ex⟩
      obtain ⟨o, e, ex⟩ := z
      refine ⟨⟨o, e, ex.1⟩, fun a e2 => ?_⟩
      cases e2
      exact ⟨o, e, ex.2.1⟩
    · obtain ⟨o, _, _, _, e, ex, _⟩ := I.hok p _ hk
      refine ⟨⟨o, e, ex.1⟩, fun a e2 => ?_⟩
      cases e2
      exact ⟨o, e, ex.2.1⟩
  | _ => exact False.elim ty
def tBM (K : PySem.W.Frag) (T : String) (r : V → List V → Hp → VK → Prop) (to : TE) (t : TA) : TE := fun σ H Q => to σ H fun x H1 => tyV K T x H1 ∧ t σ H1 fun xs H2 => r x xs H2 Q
variable {o e : Expr} {es : List Expr} {to : TE} {t : TA} {name : Str} {apos cpos : Pos} {T id : String} {r : V → List V → Hp → VK → Prop}
theorem pe_bm (pa : PlainAttrs T) (slot : Slot T name id) (hty : typeOf (.builtin id) = pure (.type "method_descriptor")) (hm : MtR X id r) (ho : PE X o to) (ha : PA X (e :: es) t)
    (hbase : attributeBase o name X.env (eval o X.env) = eval o X.env := by rfl)
    (hfew : ((backTo cpos (starEach (e :: es) X.env)).all (fun x => !x.1) && (backToKw cpos (keywordEach [] X.env)).all (fun x => x.1.isSome)
      && decide ((e :: es).length + ([] : List Keyword).length + (if ([] : List Keyword).isEmpty then 0 else 1) < 30)) = true := by rfl)
    (hline : (apos.endLine == cpos.line) = true := by rfl) (hs : starEach (e :: es) X.env = (false, eval e X.env) :: starEach es X.env := by rfl) (hplain : (backTo cpos (starEach es X.env)).any (·.1) = false := by rfl) :
    PE X (.Call (.Attribute o name apos) (e :: es) [] cpos) (tBM X.K T r to t) := by
  intro pins s σ H Q I h
  refine wpAny_Call_method_late hbase hfew hline rfl (thn (ho pins s σ H _ I h) fun v s1 ⟨x, H1, I1, r1, ty, q1⟩ => ?_)
  obtain ⟨h1, h2⟩ := tyV_is I1 r1 ty
  refine ⟨T, id, pa, slot, hty, h1, h2, ?_⟩
  have hA := ha cpos pins s1 σ H1 _ I1 q1
  rw [hs] at hA ⊢
  refine Calls.callWith_builtin (by show (false || (backTo cpos (starEach es X.env)).any (·.1)) = false; rw [hplain] <;> rfl) (Calls.evalArgs_plain ?_)
  exact thn hA fun us s2 ⟨vs, H2, I2, r2, q2⟩ => hm pins s2 σ H2 x vs v us Q I2 r1 r2 q2
end
end L2
namespace L2
open PySem PySem.Spec PyProof.Rows
def MtM (X : Cx) (id : String) (r : V → List V → Hp → VK → Prop) : Prop :=
  ∀ (pins : List (Addr × Obj)) (s : Shared) (σ : St) (H : Hp) (x : V) (xs : List V) (v : Value) (us : List Value) (Q : VK), Inv X pins σ H s → RelV x v → Vals xs us → r x xs H Q →
    wpAny (model X.prog X.w) X.A (call (.builtin id) (v :: us)) (EP X pins σ Q) X.xe s
theorem Vals.one : ∀ {x : V} {us : List Value}, Vals [x] us → ∃ u, us = [u] ∧ RelV x u
  | _, _, .cons r .nil => ⟨_, rfl, r⟩
section
variable {X : Cx} {pins : List (Addr × Obj)} {σ : St} {H : Hp} {s : Shared} {l b : Addr} {xs ys zs : List V}
theorem Inv.lset {its its' : List Value} {n : Nat} {f : Array Value → Array Value} {t' : Nat} (I : Inv X pins σ H s) (hH : H l = some (.lst xs))
    (e : s.heap.get? l = some { cls := .type "list", data := .seq its.toArray n }) (hf : f its.toArray = its'.toArray) (hv : Vals ys its') (hz : ys.length ≤ sizeLine) :
    Inv X pins σ (upd H l (.lst ys)) { s with heap := s.heap.update l (Obj.mapSeq f), toks := t' } := by
  have q := PySem.IsL.update e f
  rw [hf] at q
  refine I.write (x := l) (e := l) (by rw [hH]; exact trivial) (.inl rfl) (fun b' u hb hu => (Heap.get?_update_other s.heap (Obj.mapSeq f) (Ne.symm hb)).trans hu) ⟨_, q⟩ ?_
  exact ⟨hz, its', _, hv, q⟩
theorem Inv.lnew {its : List Value} {t' : Nat} (I : Inv X pins σ H s) (hv : Vals ys its) (hz : ys.length ≤ sizeLine) :
    Inv X pins σ (upd H s.heap.objs.size (.lst ys)) { s with heap := s.heap.push { cls := .type "list", data := .seq its.toArray }, toks := t' } :=
  I.laid (fun _ _ q => Heap.get?_push_of_some _ q) (Nat.le_refl _) ⟨hz, its, 0, hv, Heap.get?_push_size _ rfl⟩
theorem Inv.fresh (I : Inv X pins σ H s) : H s.heap.objs.size = none := I.hok.fresh (Nat.le_refl _)
theorem Inv.lstM (I : Inv X pins σ H s) (hH : H l = some (.lst xs)) : xs.length ≤ sizeLine ∧ ∃ (its : List Value) (n : Nat), Vals xs its ∧ xs.length = its.length ∧ s.heap.get? l = some { cls := .type "list", data := .seq its.toArray n } := by
  obtain ⟨z, its, n, r, e⟩ := I.hok l _ hH
  exact ⟨z, its, n, r, r.length, e⟩
theorem notLongL {n : Nat} (h : n ≤ sizeLine) : Builtin.List.listTooLong n = false := by
  unfold Builtin.List.listTooLong
  exact decide_eq_false (by omega)
end
section
variable {X : Cx}
def rAppend : V → List V → Hp → VK → Prop := fun x vs H Q => ∃ l xs y, x = .ref l ∧ vs = [y] ∧ H l = some (.lst xs) ∧ xs.length < sizeLine ∧ Q .non (upd H l (.lst (xs ++ [y])))
theorem mt_append : MtM X "list.append" rAppend := by
  intro pins s σ H x vs v us Q I rx rv h
  obtain ⟨l, xs, y, rfl, rfl, hH, hz, q⟩ := h
  cases rx
  obtain ⟨u, rfl, ru⟩ := rv.one
  obtain ⟨z, its, n, r, hl, e⟩ := I.lstM hH
  refine call_meets F.slot_list_append ⟨_, e, rfl⟩ F.entry_list_append (F.args_list_append_2 _ _) (PySem.list_append l its.toArray n u (by rw [List.size_toArray]; omega)) ⟨e, ?_⟩
  refine ⟨.non, _, I.lset (its' := its ++ [u]) hH e (by simp) (r.append (.cons ru .nil)) ?_, rfl, q⟩
  rw [List.length_append, List.length_singleton]
  omega
def rExtend : V → List V → Hp → VK → Prop := fun x vs H Q => ∃ l b xs zs, x = .ref l ∧ vs = [.ref b] ∧ H l = some (.lst xs) ∧ H b = some (.lst zs) ∧ xs.length + zs.length ≤ sizeLine ∧ Q .non (upd H l (.lst (xs ++ zs)))
theorem mt_extend : MtM X "list.extend" rExtend := by
  intro pins s σ H x vs v us Q I rx rv h
  obtain ⟨l, b, xs, zs, rfl, rfl, hH, hB, hz, q⟩ := h
  cases rx
  obtain ⟨u, rfl, ru⟩ := rv.one
  cases ru
  obtain ⟨z, its, n, r, hl, e⟩ := I.lstM hH
  obtain ⟨z2, its2, n2, r2, hl2, e2⟩ := I.lstM hB
  have hsz : its.toArray.size + its2.toArray.size ≤ sizeLine := by rw [List.size_toArray, List.size_toArray]; omega
  have hlong : ¬ (!its.toArray.isEmpty && Builtin.List.listTooLong (its.toArray.size + its2.toArray.size)) = true := by
    rw [notLongL hsz, Bool.and_false]
    exact Bool.false_ne_true
  refine call_meets F.slot_list_extend ⟨_, e, rfl⟩ F.entry_list_extend (F.args_list_extend_2 _ _)
    (AutoSeq1.list_extend_list_list_0 l its.toArray n b its2.toArray n2 hlong (by rw [List.size_toArray]; omega) (by omega)) ⟨e, e2, ?_⟩
  refine ⟨.non, _, I.lset (its' := its ++ its2) hH e (by simp) (r.append r2) ?_, rfl, q⟩
  rw [List.length_append]
  omega
def rCat : R2 := fun x y H Q => ∃ l b xs zs, x = .ref l ∧ y = .ref b ∧ H l = some (.lst xs) ∧ H b = some (.lst zs) ∧ xs.length + zs.length ≤ sizeLine ∧ ∀ p, H p = none → Q (.ref p) (upd H p (.lst (xs ++ zs)))
theorem op_cat : OpR X (binaryOp .Add) rCat := by
  intro pins s σ H x y v u Q I rx ry h
  obtain ⟨l, b, xs, zs, rfl, rfl, hH, hB, hz, q⟩ := h
  cases rx
  cases ry
  obtain ⟨z, its, n, r, hl, e⟩ := I.lstM hH
  obtain ⟨z2, its2, n2, r2, hl2, e2⟩ := I.lstM hB
  refine PySem.P.add_list e e2 ?_ (by rw [List.size_toArray, List.size_toArray]; omega)
  have ea : its.toArray ++ its2.toArray = (its ++ its2).toArray := by simp
  rw [ea]
  exact ⟨.ref _, _, I.lnew (t' := s.toks) (r.append r2) (by rw [List.length_append]; omega), rfl, q _ I.fresh⟩
end
section
variable {prog : Program} {w : World} {A : Around} {E : Value → Shared → Prop} {s : Shared}
set_option maxRecDepth 100000 in
end
section
variable {X : Cx}
end
end L2
namespace L2
open PySem PySem.Spec PyProof.Rows
theorem Vals.ints : ∀ {ns : List Int} {us : List Value}, Vals (ns.map V.int) us → IntsAre us ns
  | [], us, h => by
    rw [List.map_nil] at h
    cases h
    exact IntsAre.nil
  | n :: ns, us, h => by
    rw [List.map_cons] at h
    cases h with
    | cons r t =>
      obtain ⟨k, rfl⟩ := r
      exact IntsAre.cons n k (Vals.ints t)
theorem Vals.bls : ∀ {bs : List Bool} {us : List Value}, Vals (bs.map V.bl) us → us = bs.map Value.bool
  | [], us, h => by
    rw [List.map_nil] at h
    cases h
    rfl
  | b :: bs, us, h => by
    rw [List.map_cons] at h
    cases h with
    | cons r t =>
      cases r
      rw [Vals.bls t, List.map_cons]
theorem Vals.ref1 {a : Addr} {us : List Value} (r : Vals [V.ref a] us) : us = [Value.ref a] := by
  cases r with
  | cons r t =>
    cases t
    cases r
    rfl
section
variable {prog : Program} {w : World} {A : Around} {E : Value → Shared → Prop} {s : Shared} {l : Addr} {its : List Value} {ns : List Int} {Q : Value → Shared → Prop}
end
section
variable {X : Cx}
end
section
variable {X : Cx}
end
section
variable {X : Cx}
end
theorem iter_any {prog : Program} {w : World} {A : Around} {E : Value → Shared → Prop} {s : Shared} {l : Addr} {items : Array Value} {Q : Value → Shared → Prop} (hl : s.heap.IsList l items)
    (h : ∀ s₂ : Shared, s₂ = { s with heap := s.heap.push { cls := .type "list_iterator", data := .fields #[.ref l, .int 0 0] } } →
      (s₂.heap.IsListIter s.heap.objs.size l 0 ∧ s₂.heap.IsList l items) → l ≠ s.heap.objs.size → Q (.ref s.heap.objs.size) s₂) : wpAny (model prog w) A (pyIter (.ref l)) Q E s := by
  have hlt : l < s.heap.objs.size := by obtain ⟨_, e, _⟩ := hl; exact Heap.lt_size e
  exact wpAny_pyIter_list hl (h _ rfl ⟨⟨_, Heap.get?_push_size _ rfl, rfl, rfl⟩, hl.push _⟩ (Nat.ne_of_lt hlt))
theorem truth_bools {prog : Program} {w : World} {A : Around} {bs : List Bool} {its : List Value} (e : its = bs.map Value.bool) :
    TruthOf prog w A (fun i v => its.toArray[i]? = some v) (fun i => bs.getD i false) := fun i v s Q E hv hq => by
  have hv' : its[i]? = some v := by simpa using hv
  rw [e, List.getElem?_map] at hv'
  obtain ⟨b, hb, rfl⟩ := Option.map_eq_some_iff.mp hv'
  have hg : bs.getD i false = b := by rw [List.getD_eq_getElem?_getD, hb] <;> rfl
  have hq' : Q (bs.getD i false) s := hq
  rw [hg] at hq'
  exact wpAny_truthy_bool hq'
theorem any_range : ∀ bs : List Bool, (List.range bs.length).any (fun i => bs.getD i false) = bs.any id
  | [] => rfl
  | b :: bs => by
    rw [List.length_cons, List.range_succ_eq_map, List.any_cons, List.any_map, List.any_cons, ← any_range bs]
    all_goals rfl
section
variable {X : Cx}
def rAny (K : PySem.W.Frag) : List V → Hp → VK → Prop := fun vs H Q => ∃ (a : Addr) (bs : List Bool), vs = [V.ref a] ∧ SqL K H a (bs.map V.bl) ∧ Q (.bl (bs.any id)) H
theorem cr_any (hc : X.calm = true) : CallR X (.builtin "any") (rAny X.K) := by
  intro pins s σ H vs us Q I r h
  obtain ⟨a, bs, rfl, hs, q⟩ := h
  obtain ⟨its, rv, hl, _⟩ := I.list hs
  rw [Vals.ref1 r]
  have hb := rv.bls
  refine call_any_walk (iter_any hl.isList fun s₂ e2 st hne => ?_)
  subst e2
  refine ⟨_, _, _, _, _, _, _, rfl, Walks.list (A := X.A.in1) (I.ok.hd hc) _ a hne its.toArray, st, truth_bools hb, fun h' tk hk => ?_⟩
  refine ⟨.bl _, H, I.kept fun b o eo => hk b o (fun hmem => ?_) (Heap.get?_push_of_some _ eo), ?_, q⟩
  · rcases List.mem_cons.mp hmem with e1 | hmem
    · exact absurd (e1 ▸ Heap.lt_size eo) (Nat.lt_irrefl _)
    · cases hmem
  · show Value.bool _ = Value.bool _
    rw [← any_range, hb, List.size_toArray, List.length_map]
end
mutual
inductive Dp (K : PySem.W.Frag) (H : Hp) : V → PyData → Prop
  | non : Dp K H .non .none
  | bl (b : Bool) : Dp K H (.bl b) (.bool b)
  | int (i : Int) : Dp K H (.int i) (.int i)
  | str (x : Str) : Dp K H (.str x) (.str x)
  | lst {a : Addr} {xs : List V} {ds : List PyData} : SqL K H a xs → DpAll K H xs ds → Dp K H (.ref a) (.list ds)
  | tup {a : Addr} {xs : List V} {ds : List PyData} : SqT K H a xs → DpAll K H xs ds → Dp K H (.ref a) (.tuple ds)
inductive DpAll (K : PySem.W.Frag) (H : Hp) : List V → List PyData → Prop
  | nil : DpAll K H [] []
  | cons {v : V} {vs : List V} {d : PyData} {ds : List PyData} : Dp K H v d → DpAll K H vs ds → DpAll K H (v :: vs) (d :: ds)
end
section
variable {X : Cx} {pins : List (Addr × Obj)} {σ : St} {H : Hp} {s : Shared}
mutual
theorem Dp.reads (I : Inv X pins σ H s) : ∀ (d : PyData) (v : V) (u : Value), Dp X.K H v d → RelV v u → ∃ as, Reads s.heap u d as
  | .none, _, _, h, r => by
    cases h
    cases r
    exact ⟨_, Reads.none⟩
  | .bool b, _, _, h, r => by
    cases h
    cases r
    exact ⟨_, Reads.bool b⟩
  | .int i, _, _, h, r => by
    cases h
    obtain ⟨t, rfl⟩ := r
    exact ⟨_, Reads.int i t⟩
  | .str x, _, _, h, r => by
    cases h
    obtain ⟨t, rfl⟩ := r
    exact ⟨_, Reads.str x t⟩
  | .list ds, _, _, h, r => by
    cases h with
    | lst hs ha =>
      cases r
      obtain ⟨its, rv, ⟨o, n, ho, hc, _, hd⟩, _⟩ := I.list hs
      obtain ⟨as, hr⟩ := Dp.readsAll I ds _ its ha rv
      exact ⟨_, Reads.list ho hc hd hr⟩
  | .tuple ds, _, _, h, r => by
    cases h with
    | tup hs ha =>
      cases r
      obtain ⟨its, rv, ⟨o, ho, hc, n, hd⟩, _⟩ := I.tuple hs
      obtain ⟨as, hr⟩ := Dp.readsAll I ds _ its ha rv
      exact ⟨_, Reads.tuple ho hc hd hr⟩
  | .dict _, _, _, h, _ => by cases h
theorem Dp.readsAll (I : Inv X pins σ H s) : ∀ (ds : List PyData) (vs : List V) (us : List Value), DpAll X.K H vs ds → Vals vs us → ∃ as, ReadsAll s.heap us ds as
  | [], _, _, h, r => by
    cases h
    cases r
    exact ⟨_, ReadsAll.nil⟩
  | d :: ds, _, _, h, r => by
    cases h with
    | cons h1 h2 =>
      cases r with
      | cons r1 r2 =>
        obtain ⟨as, q1⟩ := Dp.reads I d _ _ h1 r1
        obtain ⟨bs, q2⟩ := Dp.readsAll I ds _ _ h2 r2
        exact ⟨_, ReadsAll.cons q1 q2⟩
end
end
section
variable {X : Cx}
def rEqD (K : PySem.W.Frag) : R2 := fun x y H Q => ∃ d e, Dp K H x d ∧ Dp K H y e ∧ SeqAt.shaped d = true ∧ SeqAt.shaped e = true ∧ Q (.bl (PyData.eqv d e)) H
def rNeD (K : PySem.W.Frag) : R2 := fun x y H Q => ∃ d e, Dp K H x d ∧ Dp K H y e ∧ SeqAt.shaped d = true ∧ SeqAt.shaped e = true ∧ Q (.bl (!PyData.eqv d e)) H
theorem op_eqD (hu : X.A.units + 64 < cLine) : OpR X (compareOp .Eq) (rEqD X.K) := by
  intro pins s σ H x y v u Q I rx ry h
  obtain ⟨d, e, hd, he, sd, se, q⟩ := h
  obtain ⟨as, r1⟩ := Dp.reads I d x v hd rx
  obtain ⟨bs, r2⟩ := Dp.reads I e y u he ry
  exact SeqAt.compareEq_shaped r1 r2 sd se hu ⟨.bl _, H, I, rfl, q⟩
theorem op_neD (hu : X.A.units + 64 < cLine) : OpR X (compareOp .NotEq) (rNeD X.K) := by
  intro pins s σ H x y v u Q I rx ry h
  obtain ⟨d, e, hd, he, sd, se, q⟩ := h
  obtain ⟨as, r1⟩ := Dp.reads I d x v hd rx
  obtain ⟨bs, r2⟩ := Dp.reads I e y u he ry
  exact SeqAt.compareNe_shaped r1 r2 sd se hu ⟨.bl _, H, I, rfl, q⟩
end
end L2
namespace L2
open PySem PySem.Spec PyProof.Rows
abbrev CellAt (h : Heap) (c : Addr) (v : Option Value) : Prop := h.IsCell c v
def relS (scope sc : Scope) : Scope :=
  { scope with names := scope.names.map fun (n, k) => if (k == .free && sc.kind == .function && sc.names.lookup n == some .cell) then (n, .cell) else (n, k) }
def cloFrom (cells : List (Str × Addr)) : List (Str × NameKind) → List (Str × Addr) → List (Str × Addr)
  | [], acc => acc
  | (n, k) :: r, acc => if k == .free then cloFrom cells r ((n, (cells.lookup n).getD 0) :: acc) else cloFrom cells r acc
theorem closure_loop (env : Env) (f : Str × NameKind → List (Str × Addr) → Sem (ForInStep (List (Str × Addr))))
    (hf : ∀ n k c, f (n, k) c = if k == .free then (do let a ← cellOf env n; pure (.yield ((n, a) :: c))) else pure (.yield c)) :
    ∀ (names : List (Str × NameKind)) (acc : List (Str × Addr)), (∀ y ∈ names, y.2 = .free → ∃ c, env.cells.lookup y.1 = some c) → forIn names acc f = pure (cloFrom env.cells names acc)
  | [], acc, _ => by rw [List.forIn_nil]; rfl
  | (n, k) :: r, acc, h => by
    rw [List.forIn_cons, hf]
    have ih := fun acc => closure_loop env f hf r acc fun y hy => h y (List.mem_cons_of_mem _ hy)
    unfold cloFrom
    by_cases hk : (k == NameKind.free) = true
    · rw [if_pos hk, if_pos hk]
      obtain ⟨c, hc⟩ := h (n, k) List.mem_cons_self (by simpa using hk)
      have e : cellOf env n = pure c := by unfold cellOf; rw [hc]
      rw [e]
      have e2 : (env.cells.lookup n).getD 0 = c := by rw [hc]; rfl
      rw [e2]
      exact ih _
    · rw [if_neg hk, if_neg hk]
      exact ih _
theorem closure_ok {scope : Scope} {env : Env} (h : ∀ y ∈ scope.names, y.2 = .free → ∃ c, env.cells.lookup y.1 = some c) : closureFor scope env = pure (cloFrom env.cells scope.names []) := by
  simp only [closureFor]
  rw [closure_loop env _ (fun n k c => rfl) scope.names [] h]
  rfl
theorem mem_lookup {α : Type} : ∀ {l : List (Str × α)} {n : Str} {c : α}, (n, c) ∈ l → ∃ c', l.lookup n = some c'
  | (k, v) :: r, n, c, h => by
    rw [List.lookup_cons]
    cases hb : n == k with
    | true => exact ⟨_, rfl⟩
    | false =>
      rcases List.mem_cons.mp h with e | h
      · cases e; simp at hb
      · exact mem_lookup h
theorem cloFrom_mem {cells : List (Str × Addr)} : ∀ {names : List (Str × NameKind)} {acc : List (Str × Addr)} {n : Str} {c : Addr}, (n, c) ∈ cloFrom cells names acc → (n, c) ∈ acc ∨ ((n, .free) ∈ names ∧ c = (cells.lookup n).getD 0)
  | [], _, _, _, h => .inl h
  | (m, k) :: r, acc, n, c, h => by
    unfold cloFrom at h
    split at h
    · rename_i hk
      have hk : k = .free := by simpa using hk
      rcases cloFrom_mem h with h | ⟨h1, h2⟩
      · rcases List.mem_cons.mp h with e | h
        · cases e; exact .inr ⟨hk ▸ List.mem_cons_self, rfl⟩
        · exact .inl h
      · exact .inr ⟨List.mem_cons_of_mem _ h1, h2⟩
    · rcases cloFrom_mem h with h | ⟨h1, h2⟩
      · exact .inl h
      · exact .inr ⟨List.mem_cons_of_mem _ h1, h2⟩
theorem cloFrom_acc {cells : List (Str × Addr)} : ∀ {names : List (Str × NameKind)} {acc : List (Str × Addr)} {p : Str × Addr}, p ∈ acc → p ∈ cloFrom cells names acc
  | [], _, _, h => h
  | (m, k) :: r, acc, p, h => by
    unfold cloFrom
    split
    · exact cloFrom_acc (List.mem_cons_of_mem _ h)
    · exact cloFrom_acc h
theorem cloFrom_has {cells : List (Str × Addr)} : ∀ {names : List (Str × NameKind)} {acc : List (Str × Addr)} {n : Str}, (n, .free) ∈ names → (n, (cells.lookup n).getD 0) ∈ cloFrom cells names acc
  | (m, k) :: r, acc, n, h => by
    unfold cloFrom
    rcases List.mem_cons.mp h with e | h
    · cases e
      exact cloFrom_acc List.mem_cons_self
    · split
      · exact cloFrom_has h
      · exact cloFrom_has h
theorem cells_mem : ∀ {names : List (Str × NameKind)} {h : Heap} {acc : List (Str × Addr)} {x : Str} {c : Addr}, (x, c) ∈ cellsFrom h.objs.size names acc →
    (x, c) ∈ acc ∨ ((x, .cell) ∈ names ∧ h.objs.size ≤ c ∧ CellAt (pushCells h names) c none)
  | [], _, _, _, _, h => .inl h
  | (n, k) :: r, h, acc, x, c, hm => by
    unfold cellsFrom at hm
    unfold pushCells
    split at hm
    · rename_i hk
      rw [if_pos hk]
      have hk : k = .cell := by simpa using hk
      rw [← Heap.size_push h { cls := .type "cell", data := .cell none }] at hm
      rcases cells_mem hm with hm | ⟨h1, h2, h3⟩
      · rcases List.mem_cons.mp hm with e | hm
        · cases e
          exact .inr ⟨hk ▸ List.mem_cons_self, Nat.le_refl _, _, pushCells_keeps r _ _ _ (Heap.get?_push_size _ rfl), rfl⟩
        · exact .inl hm
      · rw [Heap.size_push] at h2
        exact .inr ⟨List.mem_cons_of_mem _ h1, Nat.le_of_succ_le h2, h3⟩
    · rename_i hk
      rw [if_neg hk]
      rcases cells_mem hm with hm | ⟨h1, h2, h3⟩
      · exact .inl hm
      · exact .inr ⟨List.mem_cons_of_mem _ h1, h2, h3⟩
theorem cells_acc : ∀ {names : List (Str × NameKind)} {n : Nat} {acc : List (Str × Addr)} {p : Str × Addr}, p ∈ acc → p ∈ cellsFrom n names acc
  | [], _, _, _, h => h
  | (m, k) :: r, n, acc, p, h => by
    unfold cellsFrom
    split
    · exact cells_acc (List.mem_cons_of_mem _ h)
    · exact cells_acc h
theorem cells_has : ∀ {names : List (Str × NameKind)} {n : Nat} {acc : List (Str × Addr)} {x : Str}, (x, .cell) ∈ names → ∃ c, (x, c) ∈ cellsFrom n names acc
  | (m, k) :: r, n, acc, x, h => by
    unfold cellsFrom
    rcases List.mem_cons.mp h with e | h
    · cases e
      exact ⟨n, cells_acc List.mem_cons_self⟩
    · split
      · exact cells_has h
      · exact cells_has h
theorem cells_inj : ∀ {names : List (Str × NameKind)} {h : Heap} {acc : List (Str × Addr)} {x y : Str} {c : Addr}, (∀ p ∈ acc, p.2 < h.objs.size) → (∀ x y c, (x, c) ∈ acc → (y, c) ∈ acc → x = y) →
    (x, c) ∈ cellsFrom h.objs.size names acc → (y, c) ∈ cellsFrom h.objs.size names acc → x = y
  | [], _, _, _, _, _, _, hi, h1, h2 => hi _ _ _ h1 h2
  | (n, k) :: r, h, acc, x, y, c, hl, hi, h1, h2 => by
    unfold cellsFrom at h1 h2
    split at h1
    · rename_i hk
      rw [if_pos hk] at h2
      rw [← Heap.size_push h { cls := .type "cell", data := .cell none }] at h1 h2
      refine cells_inj (h := h.push _) (fun p hp => ?_) (fun x y c a b => ?_) h1 h2
      · rw [Heap.size_push]
        rcases List.mem_cons.mp hp with rfl | hp
        · exact Nat.lt_succ_self _
        · exact Nat.lt_succ_of_lt (hl p hp)
      · rcases List.mem_cons.mp a with e | a <;> rcases List.mem_cons.mp b with e' | b
        · cases e; cases e'; rfl
        · cases e; exact absurd (hl _ b) (Nat.lt_irrefl _)
        · cases e'; exact absurd (hl _ a) (Nat.lt_irrefl _)
        · exact hi _ _ _ a b
    · rename_i hk
      rw [if_neg hk] at h2
      exact cells_inj hl hi h1 h2
theorem newEnv_comp {M : Model} {A : Around} {E : Value → Shared → Prop} {s : Shared} {scope : Scope} {globals : Addr} {closure : List (Str × Addr)} {qual : Str} {func : Option Addr} {code : Value} {around : Env} {builtins : Addr} {Q : Env → Shared → Prop}
    (h : Q (newEnv scope s.heap.objs.size globals (cellsFrom (s.heap.objs.size + 1) scope.names closure) qual func code (some around) builtins)
      { s with heap := pushCells (s.heap.push { cls := .type "dict", data := .dict #[] }) scope.names }) :
    wpAny M A (newFunctionEnv scope globals closure [] qual func code (some around) builtins) Q E s := by
  simp only [newFunctionEnv, Option.isSome_some, if_true]
  refine wpAny_bind (wpAny_alloc ?_)
  refine wpAny_bind (wpAny_layCells _ (fun n k c => rfl) scope.names closure _ _ ?_)
  rw [show ({ s with heap := s.heap.push { cls := .type "dict", data := .dict #[] } } : Shared).heap.objs.size = s.heap.objs.size + 1 from Heap.size_push ..]
  rw [List.forIn_nil]
  exact wpAny_bind (wpAny_pure (wpAny_pure h))
theorem lookup_relS {sc : Scope} : ∀ {names : List (Str × NameKind)} {x : Str} {k : NameKind},
    (names.map fun (n, k) => if (k == NameKind.free && sc.kind == .function && sc.names.lookup n == some .cell) then (n, NameKind.cell) else (n, k)).lookup x = some k →
    ∃ k', names.lookup x = some k' ∧ (k = k' ∨ (k' = .free ∧ k = .cell))
  | [], _, _, h => by simp at h
  | (n, k₀) :: r, x, k, h => by
    have ih := @lookup_relS sc r x k
    have h' : List.lookup x ((if (k₀ == NameKind.free && sc.kind == .function && sc.names.lookup n == some .cell) = true then (n, NameKind.cell) else (n, k₀)) :: (r.map _)) = some k := h
    cases hx : x == n with
    | true =>
      simp only [List.lookup_cons, hx]
      by_cases hc : (k₀ == NameKind.free && sc.kind == .function && sc.names.lookup n == some .cell) = true
      · rw [if_pos hc] at h'
        simp only [List.lookup_cons, hx] at h'
        cases h'
        simp only [Bool.and_eq_true, beq_iff_eq] at hc
        exact ⟨k₀, rfl, .inr ⟨hc.1.1, rfl⟩⟩
      · rw [if_neg hc] at h'
        simp only [List.lookup_cons, hx] at h'
        cases h'
        exact ⟨_, rfl, .inl rfl⟩
    | false =>
      simp only [List.lookup_cons, hx]
      by_cases hc : (k₀ == NameKind.free && sc.kind == .function && sc.names.lookup n == some .cell) = true
      · rw [if_pos hc] at h'
        simp only [List.lookup_cons, hx] at h'
        exact ih h'
      · rw [if_neg hc] at h'
        simp only [List.lookup_cons, hx] at h'
        exact ih h'
structure BlkOk (N : List Str) (sc scope : Scope) (own : List (Str × Nat)) : Prop where
  kind : scope.kind = .function
  uniq : ∀ y ∈ scope.names, scope.names.lookup y.1 = some y.2
  ix : ∀ p ∈ own, N[p.2]? = some p.1
  free : ∀ y ∈ scope.names, y.2 = .free → sc.names.lookup y.1 = some .cell ∨ sc.names.lookup y.1 = some .free
  own : ∀ y ∈ scope.names, y.2 = .local ∨ y.2 = .cell → y.1 ∈ own.map (·.1) ∨ y.1 ∉ N
def wipe (σ : St) : List Nat → St
  | [] => σ
  | v :: vs => (wipe σ vs).set v none
theorem wipe_length (σ : St) : ∀ vs : List Nat, (wipe σ vs).length = σ.length
  | [] => rfl
  | v :: vs => by unfold wipe; rw [List.length_set, wipe_length σ vs]
theorem wipe_some {σ : St} {i : Nat} {x : V} : ∀ {vs : List Nat}, (wipe σ vs)[i]? = some (some x) → σ[i]? = some (some x) ∧ i ∉ vs
  | [], h => ⟨h, by simp⟩
  | v :: vs, h => by
    unfold wipe at h
    by_cases hi : v = i
    · subst hi
      by_cases hv : v < (wipe σ vs).length
      · rw [List.getElem?_set_self hv] at h; cases h
      · rw [List.getElem?_eq_none (by simpa using hv)] at h; cases h
    · rw [List.getElem?_set_ne hi] at h
      obtain ⟨h1, h2⟩ := wipe_some h
      exact ⟨h1, by simp only [List.mem_cons, not_or]; exact ⟨fun e => hi e.symm, h2⟩⟩
abbrev Cx.blk (X : Cx) (s : Shared) (H : Hp) (scope : Scope) (cenv : Env) (fp : List Addr) : Cx := { X with s_0 := s, H_0 := H, env := cenv, outer := X.stack, ex := fp, fn := fun x => scope.names.lookup x == some .cell, pn := [], xe := fun _ _ => False }
section
variable {X : Cx} {pins : List (Addr × Obj)} {σ : St} {H : Hp} {s : Shared}
theorem block_start {scope : Scope} {own : List (Str × Nat)} {fp : List Addr} (I : Inv X pins σ H s) (ok : BlkOk X.N X.env.scope scope own) (hN : X.N.Nodup) (hfp : ∀ b ∈ fp, FpOk X pins H b ∧ b < s.heap.objs.size) :
    Inv (X.blk s H scope (compEnvC scope (cellsFrom (s.heap.objs.size + 1) scope.names (cloFrom X.env.cells scope.names [])) s.heap.objs.size X.env) fp) [] (wipe σ (own.map (·.2))) H { s with heap := pushCells (s.heap.push { cls := .type "dict", data := .dict #[] }) scope.names } := by
  have hfree : ∀ y ∈ scope.names, y.2 = .free → ∃ c, X.env.cells.lookup y.1 = some c := fun y hy e => by
    rcases ok.free y hy e with k | k
    · exact I.ok.has _ (.inl k)
    · exact I.ok.has _ (.inr k)
  generalize hcenv : compEnvC scope (cellsFrom (s.heap.objs.size + 1) scope.names (cloFrom X.env.cells scope.names [])) s.heap.objs.size X.env = cenv
  have kp : ∀ b o, s.heap.get? b = some o → (pushCells (s.heap.push { cls := .type "dict", data := .dict #[] }) scope.names).get? b = some o := fun b o e => pushCells_keeps _ _ _ _ (Heap.get?_push_of_some _ e)
  have hL : cenv.locals = s.heap.objs.size := by rw [← hcenv]; rfl
  have hcl : cenv.cells = cellsFrom (s.heap.objs.size + 1) scope.names (cloFrom X.env.cells scope.names []) := by rw [← hcenv]; rfl
  have hsc : cenv.scope = relS scope X.env.scope := by rw [← hcenv]; rfl
  rw [← Heap.size_push s.heap { cls := .type "dict", data := .dict #[] }] at hcl
  have cm : ∀ {y c}, (y, c) ∈ cloFrom X.env.cells scope.names [] → X.env.cells.lookup y = some c ∧ c < s.heap.objs.size := fun {y c} hm => by
    rcases cloFrom_mem hm with hm | ⟨h1, rfl⟩
    · cases hm
    · obtain ⟨c, hc⟩ := hfree _ h1 rfl
      rw [hc]
      obtain ⟨w, z⟩ := I.cell _ _ hc
      exact ⟨rfl, z.lt⟩
  have mem : ∀ {y c}, cenv.cells.lookup y = some c → (X.env.cells.lookup y = some c ∧ c < s.heap.objs.size) ∨ (s.heap.objs.size + 1 ≤ c ∧ CellAt (pushCells (s.heap.push { cls := .type "dict", data := .dict #[] }) scope.names) c none) := fun {y c} e => by
    rw [hcl] at e
    rcases cells_mem (PySem.mem_of_lookup e) with hm | ⟨_, h2, h3⟩
    · exact .inl (cm hm)
    · rw [Heap.size_push] at h2; exact .inr ⟨h2, h3⟩
  have look : ∀ {y}, scope.names.lookup y = some .free → ∃ c, cenv.cells.lookup y = some c ∧ X.env.cells.lookup y = some c := fun {y} hl => by
    have hy : (y, NameKind.free) ∈ scope.names := PySem.mem_of_lookup hl
    obtain ⟨c', e'⟩ := mem_lookup (cells_acc (names := scope.names) (n := (s.heap.push { cls := .type "dict", data := .dict #[] }).objs.size) (cloFrom_has (cells := X.env.cells) (acc := []) hy))
    rw [← hcl] at e'
    refine ⟨c', e', ?_⟩
    rw [hcl] at e'
    rcases cells_mem (PySem.mem_of_lookup e') with hm | ⟨h1, _, _⟩
    · exact (cm hm).1
    · have := ok.uniq _ h1
      rw [hl] at this; cases this
  have okB : (X.blk s H scope cenv fp).Ok := by
    refine ⟨I.ok.mod, by show cenv.scope.kind = _; rw [hsc]; exact ok.kind, by show cenv.globals = _; rw [← hcenv]; exact I.ok.glob, by show cenv.builtins = _; rw [← hcenv]; exact I.ok.blt, by show s.heap.objs.size ≤ cenv.locals; rw [hL]; exact Nat.le_refl _,
      fun y z c e1 e2 => ?_, fun y hy => ?_, fun y c z e => ?_, I.ok.hd, I.ok.frames, .inl rfl, fun b hb => ⟨?_, fun y c e z => ?_⟩, I.bs, Nat.le_trans I.ok.bsz I.sz, fun b o e hb => ?_, fun b hb z => ?_, I.stack, I.stkFree⟩
    · have e1 : cenv.cells.lookup y = some c := e1
      have e2 : cenv.cells.lookup z = some c := e2
      rw [hcl] at e1 e2
      refine cells_inj (fun p hp => ?_) (fun y z c a b => I.ok.inj y z c (cm a).1 (cm b).1) (PySem.mem_of_lookup e1) (PySem.mem_of_lookup e2)
      rw [Heap.size_push]
      exact Nat.lt_succ_of_lt (cm (y := p.1) (c := p.2) hp).2
    · show ∃ c, cenv.cells.lookup y = some c
      have key : ∀ k, cenv.kindOf y = some k → (k = .cell ∨ k = .free) → ∃ c, cenv.cells.lookup y = some c := fun k hk hk' => by
        unfold Env.kindOf at hk
        rw [hsc] at hk
        obtain ⟨k', e, r⟩ := lookup_relS hk
        have : k' = .cell ∨ k' = .free := by
          rcases r with rfl | ⟨rfl, _⟩
          · exact hk'
          · exact .inr rfl
        rcases this with rfl | rfl
        · obtain ⟨c, hm⟩ := cells_has (n := (s.heap.push { cls := .type "dict", data := .dict #[] }).objs.size) (acc := cloFrom X.env.cells scope.names []) (PySem.mem_of_lookup e)
          obtain ⟨c', e'⟩ := mem_lookup hm
          exact ⟨c', by rw [hcl]; exact e'⟩
        · obtain ⟨c, h1, _⟩ := look e
          exact ⟨c, h1⟩
      rcases hy with hy | hy
      · exact key _ hy (.inl rfl)
      · exact key _ hy (.inr rfl)
    · have z : (scope.names.lookup y == some NameKind.cell) = true := z
      have z : scope.names.lookup y = some .cell := by simpa using z
      have e : cenv.cells.lookup y = some c := e
      rw [hcl] at e
      rcases cells_mem (PySem.mem_of_lookup e) with hm | ⟨_, h2, _⟩
      · rcases cloFrom_mem hm with hm | ⟨h1, _⟩
        · cases hm
        · have q := ok.uniq _ h1
          rw [z] at q; cases q
      · rw [Heap.size_push] at h2
        exact Nat.le_of_succ_le h2
    · show b ≠ cenv.locals
      rw [hL]; exact Nat.ne_of_lt (hfp b hb).2
    · have e : cenv.cells.lookup y = some c := e
      rcases mem e with ⟨h1, _⟩ | ⟨h1, _⟩
      · exact (hfp b hb).1.2.2.2.2.1 y c h1 z
      · have h2 : s.heap.objs.size + 1 ≤ b := by rw [← z]; exact h1
        exact absurd (Nat.lt_of_lt_of_le (hfp b hb).2 (Nat.le_of_succ_le h2)) (Nat.lt_irrefl _)
    · rcases (hfp b hb).1.2.2.2.1 with z | z
      · exact I.ok.noex b o e z
      · exact absurd (Nat.lt_of_lt_of_le (Heap.lt_size e) (Nat.le_trans I.ok.bsz z)) (Nat.lt_irrefl _)
    · rcases List.mem_cons.mp (I.stkSub b z) with z | z
      · exact (hfp b hb).1.2.1 z
      · exact (hfp b hb).1.2.2.1 z
  refine ⟨okB, rfl, I.bare, Un.kept kp, ⟨fun _ => none, ?_, fun i y av e1 e2 e3 => ?_⟩, fun y c e => ?_, ?_, fun y c e => ?_, fun p hp => ?_, I.hok.kept kp, by rw [wipe_length]; exact I.len⟩
  · show Heap.Ns _ cenv.locals _
    rw [hL]
    exact Heap.Ns.keeps (Heap.Ns.new ..) fun b o e => pushCells_keeps _ _ _ _ e
  · obtain ⟨e2, hne⟩ := wipe_some e2
    have hfr : scope.names.lookup y = some .free ∧ (cenv.kindOf y = some .cell ∨ cenv.kindOf y = some .free) := by
      have key : ∀ k, cenv.scope.names.lookup y = some k → k = .local ∨ k = .cell ∨ k = .free → scope.names.lookup y = some .free ∧ (cenv.kindOf y = some .cell ∨ cenv.kindOf y = some .free) := fun k hk hk' => by
        have hk0 := hk
        rw [hsc] at hk
        obtain ⟨k', e, r⟩ := lookup_relS hk
        have no : ¬ (k' = .local ∨ k' = .cell) := fun hh => by
          rcases ok.own _ (PySem.mem_of_lookup e) hh with e' | e'
          · obtain ⟨p, hp, hpy⟩ := List.mem_map.mp e'
            have e3 := ok.ix p hp
            have : p.1 = y := hpy
            rw [this] at e3
            exact hne (List.mem_map.mpr ⟨p, hp, nodup_ix hN e3 e1⟩)
          · exact e' (List.mem_of_getElem? e1)
        rcases r with rfl | ⟨rfl, rfl⟩
        · rcases hk' with rfl | rfl | rfl
          · exact absurd (.inl rfl) no
          · exact absurd (.inr rfl) no
          · exact ⟨e, .inr hk0⟩
        · exact ⟨e, .inl hk0⟩
      have e3 : Vis cenv.scope y := e3
      rcases e3 with e3 | e3 | e3
      · exact key _ e3 (.inl rfl)
      · exact key _ e3 (.inr (.inl rfl))
      · exact key _ e3 (.inr (.inr rfl))
    obtain ⟨m, hn, hl⟩ := I.loc
    have hvis : Vis X.env.scope y := (ok.free _ (PySem.mem_of_lookup hfr.1) rfl).elim (fun k => .inr (.inl k)) (fun k => .inr (.inr k))
    obtain ⟨w, r, q⟩ := hl i y av e1 e2 hvis
    refine ⟨w, r, .inr ⟨hfr.2, ?_⟩⟩
    obtain ⟨c, h1, h2⟩ := look hfr.1
    rcases q with ⟨k, _⟩ | ⟨_, c', e', z⟩
    · have k : X.env.scope.names.lookup y = some .local := k
      rcases ok.free _ (PySem.mem_of_lookup hfr.1) rfl with k' | k' <;> rw [show X.env.scope.names.lookup y = _ from k'] at k <;> cases k
    · rw [h2] at e'; cases e'
      exact ⟨c, h1, z.keeps kp⟩
  · have e : cenv.cells.lookup y = some c := e
    rcases mem e with ⟨h1, _⟩ | ⟨_, z⟩
    · obtain ⟨w, z⟩ := I.cell y c h1
      exact ⟨w, z.keeps kp⟩
    · exact ⟨_, z⟩
  · show H cenv.locals = none
    rw [hL]; exact I.hok.fresh (Nat.le_refl _)
  · have e : cenv.cells.lookup y = some c := e
    rcases mem e with ⟨h1, _⟩ | ⟨h1, _⟩
    · exact I.freeC y c h1
    · exact I.hok.fresh (Nat.le_of_succ_le h1)
  · exact absurd (show p ∈ ([] : List (Addr × Obj)) ++ [] from hp) (by simp)
theorem app_ok {E : Value → Shared → Prop} {D : Addr} {xs : List V} {y : V} {v : Value} {Q : Value → Shared → Prop} (I : Inv X pins σ H s) (hD : H D = some (.lst xs)) (hz : xs.length < sizeLine) (r : RelV y v)
    (h : ∀ s', Inv X pins σ (upd H D (.lst (xs ++ [y]))) s' → Q .none s') : wpAny (model X.prog X.w) X.A (call (.builtin "list.append") [.ref D, v]) Q E s := by
  obtain ⟨hz', its, n, ri, e⟩ := I.hok D _ hD
  have hl := ri.length
  refine append_at (hsz := by rw [List.size_toArray]; omega) e fun h' sb ho' => ?_
  refine h { s with heap := h' } (I.write (t' := s.toks) (by rw [hD]; trivial) (.inl rfl) (fun b u hb q => (sb.2 b hb).trans q) ⟨_, ho'⟩ ⟨by rw [List.length_append]; exact hz, its ++ [v], n + 1, ri.append (.cons r .nil), ?_⟩)
  rw [ho']
  simp
def PTs (X : Cx) (ifs : List Expr) (t : TT) : Prop :=
  ∀ (pins : List (Addr × Obj)) (s : Shared) (σ : St) (H : Hp) (Q : Bool → Hp → Prop), Inv X pins σ H s → t σ H Q →
    wpAny (model X.prog X.w) X.A (forIn ifs true fun c r => if r = true then do let ok ← isTrue c X.env (eval c X.env); pure (ForInStep.yield ok) else pure (ForInStep.yield r)) (TP X pins σ Q) X.xe s
def tYes : TT := fun _ H Q => Q true H
theorem pts_nil : PTs X [] tYes := fun _ _ _ H _ I h => wpAny_tests_nil ⟨H, I, h⟩
end
theorem thnF {α : Type} {t : Sem α} {Q Q' : α → Shared → Prop} {M : Model} {A : Around} {E : Value → Shared → Prop} {s : Shared} (h : wpAny M A t Q (fun _ _ => False) s) (hQ : ∀ a s, Q a s → Q' a s) : wpAny M A t Q' E s := wpAny_mono h hQ fun _ _ z => False.elim z
theorem compLoop_any {prog : Program} {w : World} {A : Around} {R : Result → Shared → Prop} {s : Shared} {elt target iter : Expr} {ifs : List Expr} {scope : Scope} {pos : Pos} {it acc : Value} {env : Env} (I : Nat → Shared → Prop)
    (turn : ∀ n s, I n s → wpAny (model prog w) A (pyNext it) (fun r s₁ => match r with
      | none => R (.ok .next) s₁
      | some v => wpAny (model prog w) A (letOwnedTupleGo target it v) (fun _ s₁' => wpAny (model prog w) A (assign target env v) (fun _ s₂ =>
          wpAny (model prog w) A (forIn ifs true fun c r => if r = true then do let ok ← isTrue c env (eval c env); pure (ForInStep.yield ok) else pure (ForInStep.yield r)) (fun ok s₃ =>
            if ok = true then wpAny (model prog w) A (eval elt env) (fun x s₄ =>
              wpAny (model prog w) A (call (.builtin "list.append") [acc, x]) (fun _ s₅ => ∃ m, m < n ∧ I m s₅) (notedBy (model prog w) A env fun e s' => R (.error e) s') s₄) (notedBy (model prog w) A env fun e s' => R (.error e) s') s₃
            else ∃ m, m < n ∧ I m s₃) (notedBy (model prog w) A env fun e s' => R (.error e) s') s₂) (notedBy (model prog w) A env fun e s' => R (.error e) s') s₁') (notedBy (model prog w) A env fun e s' => R (.error e) s') s₁) (notedBy (model prog w) A env fun e s' => R (.error e) s') s)
    (n : Nat) (h : I n s) :
    codeAny (model prog w) A (.compLoop (.ListComp elt [⟨target, iter, ifs, 0⟩] scope pos) 0 it acc env) R s := by
  refine codeAny_loop rfl I (fun n s hI => ?_) n h
  show wpAny _ A ((compTurn (.ListComp elt [⟨target, iter, ifs, 0⟩] scope pos) 0 it acc env).onRaise (fun x => do noteFrame x env; theTreesLotGoes x)) _ _ s
  refine wpAny_noted ?_
  rw [compTurn_list]
  refine wpAny_bind (wpAny_standAt (wpAny_bind (wpAny_mono (turn n s hI) (fun r s₁ h₁ => ?_) fun _ _ h' => h')))
  cases r with
  | none => exact wpAny_pure h₁
  | some v =>
    refine wpAny_bind (wpAny_mono h₁ (fun _ s₁' h₁' => ?_) fun _ _ h' => h')
    refine wpAny_bind (wpAny_mono h₁' (fun _ s₂ h₂ => wpAny_bind (wpAny_mono h₂ (fun ok s₃ h₃ => ?_) fun _ _ h' => h')) fun _ _ h' => h')
    cases ok with
    | false => exact wpAny_pure ⟨rfl, h₃⟩
    | true =>
      exact wpAny_bind (wpAny_bind (wpAny_mono h₃ (fun x s₄ h₄ => wpAny_bind (wpAny_mono h₄ (fun _ s₅ h₅ => wpAny_pure (wpAny_pure ⟨rfl, h₅⟩)) fun _ _ h' => h')) fun _ _ h' => h'))
section
variable {X : Cx}
def tLc (wi : TI) (g : TG) (tt : TT) (te : TE) (vs : List Nat) : TE := fun σ H Q => wi σ H fun J H1 => ∀ D, H1 D = none → ∃ W : Nat → Nat → Hp → Prop, (∃ m, W 0 m (upd H1 D (.lst []))) ∧ ∀ i m H, W i m H →
  (J.stop i H ∧ Q (.ref D) H) ∨ (J.go i H ∧ ∃ Nx : Hp → Prop, (∀ H', Nx H' → ∃ m', m' < m ∧ W (i + 1) m' H') ∧ ∀ x H', J.yld i H x H' → g x (wipe σ vs) H' fun σ2 H2 => wipe σ2 vs = wipe σ vs ∧ tt σ2 H2 fun b H3 =>
    if b = true then te σ2 H3 fun y H4 => ∃ acc, H4 D = some (.lst acc) ∧ acc.length < sizeLine ∧ Nx (upd H4 D (.lst (acc ++ [y]))) else Nx H3)
theorem lc_core {pins : List (Addr × Obj)} {s : Shared} {σ : St} {H : Hp} {Q : VK} {elt tg iter : Expr} {ifs : List Expr} {scope : Scope} {own : List (Str × Nat)} {pos pos' : Pos} {wi : TI} {g : TG} {tt : TT} {te : TE} {use : Option (Value → Sem Unit)} {Qf : Value → Shared → Prop}
    (hc : X.calm = true) (hN : X.N.Nodup) (I : Inv X pins σ H s) (hi : PI X tg iter wi) (ok : BlkOk X.N X.env.scope scope own)
    (hg : ∀ (s : Shared) (H : Hp) (C : Addr) (cl : List (Str × Addr)) (fp : List Addr), PG (X.blk s H scope (compEnvC scope cl C X.env) fp) tg g) (ht : ∀ (s : Shared) (H : Hp) (C : Addr) (cl : List (Str × Addr)) (fp : List Addr), PTs (X.blk s H scope (compEnvC scope cl C X.env) fp) ifs tt)
    (he : ∀ (s : Shared) (H : Hp) (C : Addr) (cl : List (Str × Addr)) (fp : List Addr), PE (X.blk s H scope (compEnvC scope cl C X.env) fp) elt te) (hs : ∀ x, foldedSetIterable iter X.env x = pure x)
    (h : tLc wi g tt te (own.map (·.2)) σ H Q)
    (hRR : ∀ D C s' m H', Inv X pins σ H' s' → Q (.ref D) H' → s'.heap.Ns C m → FpOk X pins H' C → compPost (model X.prog X.w) X.A X.xe use Qf (.ref D) C (.ok .next) s') :
    wpAny (model X.prog X.w) X.A (comprehension (.ListComp elt [⟨tg, iter, ifs, 0⟩] scope pos) scope X.env pos' (newList []) false (eval iter X.env) use) Qf X.xe s := by
  have hfree : ∀ y ∈ scope.names, y.2 = .free → ∃ c, X.env.cells.lookup y.1 = some c := fun y hy e => by
    rcases ok.free y hy e with k | k
    · exact I.ok.has _ (.inl k)
    · exact I.ok.has _ (.inr k)
  refine wpAny_comprehension_free (use := use) rfl hs (closure_ok hfree) ok.kind (fun y hy e => by rw [ok.uniq y hy, e])
    (thn (hi pins s σ H _ I h) fun xv s1 hx => thn hx fun itv s2 h2 => ?_)
  obtain ⟨it, fp, tn, J, H2, e, I2, T, st2, f2, q⟩ := h2
  subst e
  refine wpAny_newObj_type (newEnv_comp ?_) (by show 0 ≤ sizeLine; decide)
  generalize hD : s2.heap.objs.size = D
  have hDn : H2 D = none := I2.hok.fresh (Nat.le_of_eq hD)
  obtain ⟨W, ⟨m0, w0⟩, turn⟩ := q D hDn
  -- the new list
  generalize hs3 : ({ s2 with heap := s2.heap.push { cls := .type "list", data := .seq ([] : List Value).toArray } } : Shared) = s3
  have I3 : Inv X pins σ (upd H2 D (.lst [])) s3 := by
    rw [← hs3]
    refine I2.laid (t' := s2.toks) (fun b o e => Heap.get?_push_of_some _ e) (Nat.le_of_eq hD) ⟨Nat.zero_le _, [], 0, .nil, ?_⟩
    rw [← hD]
    exact Heap.get?_push_size _ rfl
  have h3 : s3.heap = s2.heap.push { cls := .type "list", data := .seq ([] : List Value).toArray } := by rw [← hs3]
  have sz : ∀ b ∈ fp, b < s2.heap.objs.size := fun b hb => by
    obtain ⟨o, e, _⟩ := T.obj _ _ st2 b hb
    exact Heap.lt_size e
  have f3 : ∀ b ∈ fp, FpOk X pins (upd H2 D (.lst [])) b ∧ b < s3.heap.objs.size := fun b hb => by
    have hlt := sz b hb
    refine ⟨⟨?_, (f2 b hb).2⟩, by rw [h3, Heap.size_push]; exact Nat.lt_succ_of_lt hlt⟩
    rw [upd_ne (by rw [← hD]; exact Nat.ne_of_lt hlt)]
    exact (f2 b hb).1
  have st3 : tn 0 s3.heap := T.keep _ _ _ st2 fun b _ o e => by rw [h3]; exact Heap.get?_push_of_some _ e
  have I4 := block_start I3 ok hN f3
  have pg := hg s3 (upd H2 D (.lst [])) s3.heap.objs.size (cellsFrom (s3.heap.objs.size + 1) scope.names (cloFrom X.env.cells scope.names [])) fp
  have pt := ht s3 (upd H2 D (.lst [])) s3.heap.objs.size (cellsFrom (s3.heap.objs.size + 1) scope.names (cloFrom X.env.cells scope.names [])) fp
  have pe := he s3 (upd H2 D (.lst [])) s3.heap.objs.size (cellsFrom (s3.heap.objs.size + 1) scope.names (cloFrom X.env.cells scope.names [])) fp
  show codeAny _ _ (.compStart (.ListComp elt [⟨tg, iter, ifs, 0⟩] scope pos) 0 (.ref it) (.ref D) (compEnvC scope (cellsFrom (s3.heap.objs.size + 1) scope.names (cloFrom X.env.cells scope.names [])) s3.heap.objs.size X.env)) (compPost (model X.prog X.w) X.A X.xe use Qf (.ref D) s3.heap.objs.size) { s3 with heap := pushCells (s3.heap.push { cls := .type "dict", data := .dict #[] }) scope.names }
  have nfp : ∀ b ∈ fp, (upd H2 D (.lst [])) b = none := fun b hb => (f3 b hb).1.1
  generalize hce : compEnvC scope (cellsFrom (s3.heap.objs.size + 1) scope.names (cloFrom X.env.cells scope.names [])) s3.heap.objs.size X.env = ce at I4 pg pt pe ⊢
  have cL : ce.locals = s3.heap.objs.size := by subst hce; rfl
  generalize hH3 : upd H2 D (.lst []) = H3 at I3 I4 pg pt pe w0 nfp f3
  generalize hs4 : ({ s3 with heap := pushCells (s3.heap.push { cls := .type "dict", data := .dict #[] }) scope.names } : Shared) = s4 at I4 ⊢
  have st4 : tn 0 s4.heap := T.keep _ _ _ st3 fun b _ o e => by rw [← hs4]; exact pushCells_keeps _ _ _ _ (Heap.get?_push_of_some _ e)
  have stat : ∀ {σ' : St} {H' : Hp} {s' : Shared}, Inv (X.blk s3 H3 scope ce fp) [] σ' H' s' → (∀ b ∈ fp, H' b = none) → ∀ b ∈ fp, FpOk (X.blk s3 H3 scope ce fp) [] H' b := fun {σ' H' s'} I' hn b hb =>
    ⟨hn b hb, (I'.ok.exf b hb).1, I'.ok.exfs b hb, .inl hb, fun x c e => (I'.ok.exf b hb).2 x c e, fun p hp => absurd (show p ∈ ([] : List (Addr × Obj)) ++ [] from hp) (by simp)⟩
  have loop : codeAny (model X.prog X.w) X.A (.compLoop (.ListComp elt [⟨tg, iter, ifs, 0⟩] scope pos) 0 (.ref it) (.ref D) ce) (compPost (model X.prog X.w) X.A X.xe use Qf (.ref D) s3.heap.objs.size) s4 := by
    refine compLoop_any (fun n s' => ∃ i H', Inv (X.blk s3 H3 scope ce fp) [] (wipe σ (own.map (·.2))) H' s' ∧ tn i s'.heap ∧ (∀ b ∈ fp, H' b = none) ∧ W i n H') ?_ m0 ⟨0, H3, I4, st4, nfp, w0⟩
    rintro n s5 ⟨i, H5, I5, st5, n5, w5⟩
    rcases turn i n H5 w5 with ⟨stop, qq⟩ | ⟨go, Nx, hNx, step⟩
    · have td := T.done (X.blk s3 H3 scope ce fp) rfl rfl rfl hc i [] s5 _ H5 (fun _ _ => False) I5 (stat I5 n5) st5 stop
      refine thnF td fun r s6 ⟨hr, I6⟩ => ?_
      subst hr
      -- back in the def's context
      have I7 : Inv X pins σ H5 s6 := I3.call' (ch := fp) I6.os I6.base I6.hok I6.bare fun b hb => ⟨(f3 b hb).1.2.2.2.1, (f3 b hb).1.2.1, (f3 b hb).1.2.2.2.2.1, (f3 b hb).1.2.2.2.2.2⟩
      have nC : H5 s3.heap.objs.size = none := by
        have z : H5 ce.locals = none := I6.free
        rw [cL] at z
        exact z
      obtain ⟨m, hn, _⟩ := I6.loc
      have hn : s6.heap.Ns ce.locals m := hn
      rw [cL] at hn
      exact hRR D s3.heap.objs.size s6 m H5 I7 qq hn (I3.fpOk (Nat.le_refl _) nC)
    · have ti := T.item (X.blk s3 H3 scope ce fp) rfl rfl rfl hc i [] s5 _ H5 (fun _ _ => False) I5 (stat I5 n5) st5 go
      refine thnF ti fun r s6 ⟨u, hr, h6⟩ => ?_
      subst hr
      refine thnF h6 fun _ s7 ⟨x, H7, I7, r7, y7, st7, n7⟩ => ?_
      have I7' := I7.pinned (stat I7 n7) (T.obj _ _ st7)
      refine thnF (pg _ s7 _ H7 x u _ I7' r7 (step x H7 y7)) fun _ s8 ⟨σ8, H8, I8, hw8, q8⟩ => ?_
      refine thnF (pt _ s8 σ8 H8 _ I8 q8) fun b s9 ⟨H9, I9, q9⟩ => ?_
      -- the turn's end
      have fin : ∀ {s' : Shared} {H' : Hp}, Inv (X.blk s3 H3 scope ce fp) ([] ++ pinsAt fp s7.heap) σ8 H' s' → Nx H' → ∃ m, m < n ∧ ∃ i H', Inv (X.blk s3 H3 scope ce fp) [] (wipe σ (own.map (·.2))) H' s' ∧ tn i s'.heap ∧ (∀ b ∈ fp, H' b = none) ∧ W i m H' := fun {s' H'} I' nx => by
        obtain ⟨m', hm, w'⟩ := hNx H' nx
        have pin' : ∀ b ∈ fp, ∀ o, s7.heap.get? b = some o → s'.heap.get? b = some o ∧ H' b = none := fun b hb o e =>
          let z := I'.pin (b, o) (List.mem_append_right _ (List.mem_append_right _ (mem_pinsAt hb e)))
          ⟨z.1, z.2.1⟩
        have hl : (wipe σ (own.map (·.2))).length = σ8.length := by rw [← hw8, wipe_length]
        refine ⟨m', hm, i + 1, H', (I'.unpinned (pins := [])).weak hl (fun j v e => ?_), T.keep _ _ _ st7 fun b hb o e => (pin' b hb o e).1, fun b hb => ?_, w'⟩
        · rw [← hw8] at e
          exact (wipe_some e).1
        · obtain ⟨o, e, _⟩ := T.obj _ _ st7 b hb
          exact (pin' b hb o e).2
      cases b with
      | false =>
        simp only [Bool.false_eq_true, if_false] at q9 ⊢
        exact fin I9 q9
      | true =>
        simp only [if_true] at q9 ⊢
        refine thnF (pe _ s9 σ8 H9 _ I9 q9) fun z s10 ⟨yv, H10, I10, r10, acc, hD10, hz10, nx⟩ => ?_
        exact app_ok (X := X.blk s3 H3 scope ce fp) I10 hD10 hz10 r10 fun s11 I11 => fin I11 nx
  exact codeAny_compStart_list loop (T.self X.A 0 _ _ _ st4 loop)
theorem pe_lc {elt tg iter : Expr} {ifs : List Expr} {scope : Scope} {own : List (Str × Nat)} {pos : Pos} {wi : TI} {g : TG} {tt : TT} {te : TE} (hc : X.calm = true) (hN : X.N.Nodup) (hi : PI X tg iter wi) (ok : BlkOk X.N X.env.scope scope own)
    (hg : ∀ (s : Shared) (H : Hp) (C : Addr) (cl : List (Str × Addr)) (fp : List Addr), PG (X.blk s H scope (compEnvC scope cl C X.env) fp) tg g) (ht : ∀ (s : Shared) (H : Hp) (C : Addr) (cl : List (Str × Addr)) (fp : List Addr), PTs (X.blk s H scope (compEnvC scope cl C X.env) fp) ifs tt)
    (he : ∀ (s : Shared) (H : Hp) (C : Addr) (cl : List (Str × Addr)) (fp : List Addr), PE (X.blk s H scope (compEnvC scope cl C X.env) fp) elt te) (hs : ∀ x, foldedSetIterable iter X.env x = pure x := by intro _; rfl) :
    PE X (.ListComp elt [⟨tg, iter, ifs, 0⟩] scope pos) (tLc wi g tt te (own.map (·.2))) := by
  intro pins s σ H Q I h
  rw [eval_ListComp]
  refine lc_core hc hN I hi ok hg ht he hs h fun D C s' m H' I' q hn f => ⟨m, hn, fun h'' sb => ?_⟩
  obtain ⟨f0, f1, f2, f3, f4, f5⟩ := f
  exact ⟨.ref D, H', I'.turned (t' := s'.toks) (fun b o hb e => (sb.2 b hb).trans e) f0 f1 f3 f4 f5, rfl, q⟩
theorem ps_setLc {i : Nat} {y : Str} {py : Pos} {elt tg iter : Expr} {ifs : List Expr} {scope : Scope} {own : List (Str × Nat)} {pos spos : Pos} {wi : TI} {g : TG} {tt : TT} {te : TE} (hc : X.calm = true) (hN : X.N.Nodup) (hy : X.N[i]? = some y) (hyl : X.env.scope.names.lookup y = some .local)
    (hsw : swapsWith (.ListComp elt [⟨tg, iter, ifs, 0⟩] scope pos) (some (.Name y py)) spos.line X.env = pure true) (hi : PI X tg iter wi) (ok : BlkOk X.N X.env.scope scope own)
    (hg : ∀ (s : Shared) (H : Hp) (C : Addr) (cl : List (Str × Addr)) (fp : List Addr), PG (X.blk s H scope (compEnvC scope cl C X.env) fp) tg g) (ht : ∀ (s : Shared) (H : Hp) (C : Addr) (cl : List (Str × Addr)) (fp : List Addr), PTs (X.blk s H scope (compEnvC scope cl C X.env) fp) ifs tt)
    (he : ∀ (s : Shared) (H : Hp) (C : Addr) (cl : List (Str × Addr)) (fp : List Addr), PE (X.blk s H scope (compEnvC scope cl C X.env) fp) elt te) (hs : ∀ x, foldedSetIterable iter X.env x = pure x := by intro _; rfl) :
    PS X (.Assign [.Name y py] (.ListComp elt [⟨tg, iter, ifs, 0⟩] scope pos) spos) (tAsg (tLc wi g tt te (own.map (·.2))) (gName i)) := by
  intro pins s σ H D I h
  rw [exec_Assign_Name_used _ _ _ _ hsw]
  refine wpAny_bind (wpAny_standAt (wpAny_bind ?_))
  show wpAny _ X.A (do let _ ← comprehension (.ListComp elt [⟨tg, iter, ifs, 0⟩] scope pos) scope X.env (firstIterPos [⟨tg, iter, ifs, 0⟩] pos) (newList []) false (eval iter X.env) (some (assign (.Name y py) X.env))) _ _ s
  have h : tLc wi g tt te (own.map (·.2)) σ H (fun x H1 => gName i x σ H1 D.nx) := h
  refine wpAny_bind (thn (lc_core (Qf := fun _ s' => SP X pins D .next s') hc hN I hi ok hg ht he hs h fun L C s' m H' I' q hn f => ?_) fun _ s' hq => wpAny_pure (wpAny_pure hq))
  show wpAny _ _ (assign (.Name y py) X.env (.ref L)) _ _ _
  refine wpAny_assign_Name (store_ok2 (v := V.ref L) I' hN hy (.inl hyl) rfl (fun s2 I2 ⟨a, sb, ha⟩ => ?_) (.inr hyl))
  obtain ⟨f0, f1, f2, f3, f4, f5⟩ := f
  have haC : C ≠ a := by
    rcases ha with z | z
    · rw [z]; exact f1
    · exact fun e => f4 y a z e.symm
  refine ⟨m, hn.sameBut sb haC, fun h3 sb3 => ?_⟩
  exact ⟨_, H', I2.turned (t' := s2.toks) (fun b o hb e => (sb3.2 b hb).trans e) f0 f1 f3 f4 f5, q⟩
theorem sw_true {elt : Expr} {gs : List Comprehension} {scope : Scope} {pos py : Pos} {y : Str} {l : Nat} {env : Env} (hk : env.scope.kind = .function) (hy : env.scope.names.lookup y = some .local) (hl : (py.line == pos.line) = true)
    (ha : (scope.names.any fun (n, k) => n == y && (k == .local || k == .cell)) = false) : swapsWith (.ListComp elt gs scope pos) (some (.Name y py)) l env = pure true := by
  have ky : env.kindOf y = some .local := hy
  have hb : env.blockKind = .function := by unfold Env.blockKind; rw [hk]; rfl
  unfold swapsWith
  simp only [hb, ky, ha, Expr.pos, hl]
  rfl
end
theorem lc_range {lo : Int} {n : Nat} {g : TG} {tt : TT} {te : TE} {vs : List Nat} {σ : St} {H1 : Hp} {D : Addr} {Qd : Hp → Prop} (Pv : Nat → Hp → Prop) (h0 : Pv 0 (upd H1 D (.lst [])))
    (hs : ∀ i H, i < n → Pv i H → g (.int (lo + i)) (wipe σ vs) H fun σ2 H2 => wipe σ2 vs = wipe σ vs ∧ tt σ2 H2 fun b H3 =>
      if b = true then te σ2 H3 fun y H4 => ∃ acc, H4 D = some (.lst acc) ∧ acc.length < sizeLine ∧ Pv (i + 1) (upd H4 D (.lst (acc ++ [y]))) else Pv (i + 1) H3) (hd : ∀ H, Pv n H → Qd H) :
    ∃ W : Nat → Nat → Hp → Prop, (∃ m, W 0 m (upd H1 D (.lst []))) ∧ ∀ i m H, W i m H →
      ((Itr lo n).stop i H ∧ Qd H) ∨ ((Itr lo n).go i H ∧ ∃ Nx : Hp → Prop, (∀ H', Nx H' → ∃ m', m' < m ∧ W (i + 1) m' H') ∧ ∀ x H', (Itr lo n).yld i H x H' → g x (wipe σ vs) H' fun σ2 H2 => wipe σ2 vs = wipe σ vs ∧ tt σ2 H2 fun b H3 =>
        if b = true then te σ2 H3 fun y H4 => ∃ acc, H4 D = some (.lst acc) ∧ acc.length < sizeLine ∧ Nx (upd H4 D (.lst (acc ++ [y]))) else Nx H3) := by
  refine ⟨fun i m H => m = n - i ∧ i ≤ n ∧ Pv i H, ⟨n, by simp, Nat.zero_le _, h0⟩, ?_⟩
  rintro i m H ⟨rfl, hi, p⟩
  by_cases hlt : i < n
  · refine .inr ⟨hlt, Pv (i + 1), fun H' p' => ⟨n - (i + 1), by omega, rfl, hlt, p'⟩, fun x H' y => ?_⟩
    obtain ⟨e, y⟩ := y
    subst e y
    exact hs i _ hlt p
  · have e : i = n := by omega
    subst e
    exact .inl ⟨Nat.le_refl _, hd H p⟩
theorem lc_list {K : PySem.W.Frag} {a : Addr} {xs : List V} {g : TG} {tt : TT} {te : TE} {vs : List Nat} {σ : St} {H1 : Hp} {D : Addr} {Qd : Hp → Prop} (Pv : Nat → Hp → Prop) (h0 : Pv 0 (upd H1 D (.lst []))) (hl : ∀ i H, i ≤ xs.length → Pv i H → SqL K H a xs)
    (hs : ∀ i x H, xs[i]? = some x → Pv i H → g x (wipe σ vs) H fun σ2 H2 => wipe σ2 vs = wipe σ vs ∧ tt σ2 H2 fun b H3 =>
      if b = true then te σ2 H3 fun y H4 => ∃ acc, H4 D = some (.lst acc) ∧ acc.length < sizeLine ∧ Pv (i + 1) (upd H4 D (.lst (acc ++ [y]))) else Pv (i + 1) H3) (hd : ∀ H, Pv xs.length H → Qd H) :
    ∃ W : Nat → Nat → Hp → Prop, (∃ m, W 0 m (upd H1 D (.lst []))) ∧ ∀ i m H, W i m H →
      ((Itl K a).stop i H ∧ Qd H) ∨ ((Itl K a).go i H ∧ ∃ Nx : Hp → Prop, (∀ H', Nx H' → ∃ m', m' < m ∧ W (i + 1) m' H') ∧ ∀ x H', (Itl K a).yld i H x H' → g x (wipe σ vs) H' fun σ2 H2 => wipe σ2 vs = wipe σ vs ∧ tt σ2 H2 fun b H3 =>
        if b = true then te σ2 H3 fun y H4 => ∃ acc, H4 D = some (.lst acc) ∧ acc.length < sizeLine ∧ Nx (upd H4 D (.lst (acc ++ [y]))) else Nx H3) := by
  refine ⟨fun i m H => m = xs.length - i ∧ i ≤ xs.length ∧ Pv i H, ⟨xs.length, by simp, Nat.zero_le _, h0⟩, ?_⟩
  rintro i m H ⟨rfl, hi, p⟩
  have q := hl i H hi p
  by_cases hlt : i < xs.length
  · refine .inr ⟨⟨xs, xs[i], q, by simp [hlt]⟩, Pv (i + 1), fun H' p' => ⟨xs.length - (i + 1), by omega, rfl, hlt, p'⟩, fun x H' y => ?_⟩
    obtain ⟨e, y⟩ := y
    subst e
    exact hs i x _ (y xs q) p
  · have e : i = xs.length := by omega
    subst e
    exact .inl ⟨⟨xs, q, Nat.le_refl _⟩, hd H p⟩
def blkC (N : List Str) (sc scope : Scope) (own : List (Str × Nat)) : Bool :=
  (match scope.kind with | .function => true | _ => false) && (scope.names.all fun y => decide (scope.names.lookup y.1 = some y.2)) && (own.all fun p => decide (N[p.2]? = some p.1)) &&
    (scope.names.all fun y => match y.2 with
      | .free => (match sc.names.lookup y.1 with | some .cell => true | some .free => true | _ => false)
      | .local => decide (y.1 ∈ own.map (·.1)) || decide (y.1 ∉ N)
      | .cell => decide (y.1 ∈ own.map (·.1)) || decide (y.1 ∉ N)
      | _ => true)
theorem blkOk_by {N : List Str} {sc scope : Scope} {own : List (Str × Nat)} (h : blkC N sc scope own = true) : BlkOk N sc scope own := by
  unfold blkC at h
  simp only [Bool.and_eq_true, List.all_eq_true, decide_eq_true_eq] at h
  obtain ⟨⟨⟨h1, h2⟩, h3⟩, h4⟩ := h
  refine ⟨?_, h2, h3, fun y hy e => ?_, fun y hy e => ?_⟩
  · split at h1
    · assumption
    · cases h1
  · have q := h4 y hy
    simp only [e] at q
    split at q <;> first | exact .inl (by assumption) | exact .inr (by assumption) | cases q
  · have q := h4 y hy
    rcases e with e | e <;> (simp only [e, Bool.or_eq_true, decide_eq_true_eq] at q; exact q)
end L2
namespace L2
open PySem PySem.Spec PyProof.Rows
section
variable {prog : Program} {w : World} {A : Around} {R : Result → Shared → Prop} {s : Shared} {elt t0 i0 t1 i1 : Expr} {ifs0 ifs1 : List Expr} {scope : Scope} {pos : Pos} {it acc : Value} {env : Env}
end
section
variable {X : Cx}
end
end L2
namespace L2
open PySem PySem.Spec PyProof.Rows
section
variable {κ : Type} [DecidableEq κ]
def valV (kvs : List (κ × V)) (k : κ) : Option V := (kvs.find? fun kv => decide (kv.1 = k)).map (·.2)
def putK (kvs : List (κ × V)) (k : κ) (v : V) : List (κ × V) :=
  if (kvs.any fun kv => decide (kv.1 = k)) = true then kvs.map (fun kv => if kv.1 = k then (kv.1, v) else kv) else kvs ++ [(k, v)]
theorem valV_pos {p : κ × V} {r : List (κ × V)} {k : κ} (e : p.1 = k) : valV (p :: r) k = some p.2 := by simp [valV, List.find?_cons, e]
theorem valV_neg {p : κ × V} {r : List (κ × V)} {k : κ} (e : ¬ p.1 = k) : valV (p :: r) k = valV r k := by simp [valV, List.find?_cons, e]
theorem valV_any (k : κ) : ∀ kvs : List (κ × V), (kvs.any fun kv => decide (kv.1 = k)) = (valV kvs k).isSome
  | [] => rfl
  | p :: r => by
    rw [List.any_cons]
    by_cases e : p.1 = k
    · simp only [valV_pos e, decide_eq_true e, Bool.true_or, Option.isSome_some]
    · rw [valV_neg e, decide_eq_false e, Bool.false_or]; exact valV_any k r
theorem valV_map (k j : κ) (y : V) : ∀ kvs : List (κ × V), valV (kvs.map fun kv => if kv.1 = k then (kv.1, y) else kv) j = (valV kvs j).map fun x => if j = k then y else x
  | [] => rfl
  | p :: r => by
    have ih := valV_map k j y r
    rw [List.map_cons]
    by_cases h : p.1 = k
    · rw [if_pos h]
      by_cases e : p.1 = j
      · rw [valV_pos (p := (p.1, y)) e, valV_pos e, Option.map_some, if_pos (e.symm.trans h)]
      · rw [valV_neg (p := (p.1, y)) e, valV_neg e, ih]
    · rw [if_neg h]
      by_cases e : p.1 = j
      · rw [valV_pos (p := p) e, valV_pos e, Option.map_some, if_neg (fun z => h (e.trans z))]
      · rw [valV_neg (p := p) e, valV_neg e, ih]
theorem valV_snoc (k j : κ) (y : V) : ∀ kvs : List (κ × V), valV kvs k = none → valV (kvs ++ [(k, y)]) j = if j = k then some y else valV kvs j
  | [], _ => by
    by_cases e : k = j
    · rw [if_pos e.symm]; exact valV_pos (p := (k, y)) e
    · rw [if_neg (fun z => e z.symm)]; exact valV_neg (p := (k, y)) e
  | p :: r, hn => by
    rw [List.cons_append]
    have hk : ¬ p.1 = k := fun z => by rw [valV_pos z] at hn; cases hn
    rw [valV_neg hk] at hn
    have ih := valV_snoc k j y r hn
    by_cases e : p.1 = j
    · rw [valV_pos e, valV_pos e, if_neg (fun z => hk (e.trans z))]
    · rw [valV_neg e, valV_neg e, ih]
theorem valV_put (kvs : List (κ × V)) (k j : κ) (y : V) : valV (putK kvs k y) j = if j = k then some y else valV kvs j := by
  unfold putK
  by_cases a : (kvs.any fun kv => decide (kv.1 = k)) = true
  · rw [if_pos a, valV_map]
    rw [valV_any] at a
    by_cases e : j = k
    · obtain ⟨x, hx⟩ := Option.isSome_iff_exists.mp a
      rw [if_pos e, e, hx, Option.map_some, if_pos rfl]
    · rw [if_neg e]
      cases valV kvs j with
      | none => rfl
      | some x => rw [Option.map_some, if_neg e]
  · rw [if_neg a]
    refine valV_snoc k j y kvs ?_
    rw [valV_any] at a
    cases q : valV kvs k with
    | none => rfl
    | some x => rw [q] at a; exact (a rfl).elim
theorem length_putK (kvs : List (κ × V)) (k : κ) (v : V) : (putK kvs k v).length ≤ kvs.length + 1 := by
  unfold putK
  split
  · rw [List.length_map]; omega
  · rw [List.length_append, List.length_cons, List.length_nil]; omega
theorem RelO.isSome_eq {o : Option V} {u : Option Value} (r : RelO o u) : o.isSome = u.isSome := by
  cases o with
  | none => cases u with
    | none => rfl
    | some _ => exact (show False from r).elim
  | some _ => cases u with
    | none => exact (show False from r).elim
    | some _ => rfl
theorem KV.val {kvs : List (κ × V)} {vs : List (κ × Value)} (r : KV kvs vs) (k : κ) : RelO (valV kvs k) (valueAt vs k) := by
  unfold KV at r
  induction r with
  | nil => exact True.intro
  | @cons p q ps qs h t ih =>
    obtain ⟨h1, h2⟩ := h
    by_cases e : p.1 = k
    · have e' : q.1 = k := h1.symm.trans e
      have b : valueAt (q :: qs) k = some q.2 := by simp [valueAt, List.find?_cons, e']
      rw [valV_pos e, b]; exact h2
    · have e' : ¬ q.1 = k := fun z => e (h1.trans z)
      have b : valueAt (q :: qs) k = valueAt qs k := by simp [valueAt, List.find?_cons, e']
      rw [valV_neg e, b]; exact ih
theorem KV.any {kvs : List (κ × V)} {vs : List (κ × Value)} (r : KV kvs vs) (k : κ) : (kvs.any fun kv => decide (kv.1 = k)) = vs.any fun kv => decide (kv.1 = k) := by
  unfold KV at r
  induction r with
  | nil => rfl
  | cons h t ih => rw [List.any_cons, List.any_cons, ih, h.1]
theorem KV.repl {kvs : List (κ × V)} {vs : List (κ × Value)} (r : KV kvs vs) (k : κ) {y : V} {u : Value} (ry : RelV y u) :
    KV (kvs.map fun kv => if kv.1 = k then (kv.1, y) else kv) (vs.map fun kv => if kv.1 = k then (kv.1, u) else kv) := by
  unfold KV at r ⊢
  induction r with
  | nil => exact .nil
  | @cons p q ps qs h t ih =>
    rw [List.map_cons, List.map_cons]
    refine .cons ?_ ih
    obtain ⟨h1, h2⟩ := h
    by_cases e : p.1 = k
    · rw [if_pos e, if_pos (h1.symm.trans e)]; exact ⟨h1, ry⟩
    · rw [if_neg e, if_neg (fun z => e (h1.trans z))]; exact ⟨h1, h2⟩
theorem KV.put {kvs : List (κ × V)} {vs : List (κ × Value)} (r : KV kvs vs) (k : κ) {y : V} {u : Value} (ry : RelV y u) : KV (putK kvs k y) (stored vs k u) := by
  unfold putK stored
  rw [r.any k]
  by_cases e : (vs.any fun kv => decide (kv.1 = k)) = true
  · rw [if_pos e, if_pos e]; exact r.repl k ry
  · rw [if_neg e, if_neg e]; exact Paired.snoc r ⟨rfl, ry⟩
theorem KV.length {kvs : List (κ × V)} {vs : List (κ × Value)} (r : KV kvs vs) : kvs.length = vs.length := Paired.length r
end
theorem kV_is {P : Program} {w : World} {k : Key} {u : Value} (r : RelV (kV k) u) : (mixKind P w).is k u = true := by
  cases k with
  | inl i => obtain ⟨t, e⟩ := (show ∃ t, u = Value.int i t from r); subst e; exact mixKind_int P w i t
  | inr x => obtain ⟨t, e⟩ := (show ∃ t, u = Value.str x t from r); subst e; exact mixKind_str P w x t
theorem items_are {P : Program} {w : World} : ∀ {ks : List Key} {us : List Value}, Vals (ks.map kV) us → ItemsAre (mixKind P w) ks us
  | [], _, r => by rw [List.map_nil] at r; cases r; exact .nil
  | k :: ks, _, r => by
    rw [List.map_cons] at r
    cases r with
    | cons h t => exact .cons (kV_is h) (items_are t)
abbrev KT (H : Hp) : List (List Key × V) → List (List Key × Addr × Value) → Prop := Paired fun p q => p.1 = q.1 ∧ H q.2.1 = some (.tup (p.1.map kV)) ∧ RelV p.2 q.2.2
theorem KT.val {H : Hp} {kvs : List (List Key × V)} {xs : List (List Key × Addr × Value)} (r : KT H kvs xs) (k : List Key) : RelO (valV kvs k) ((atKey xs k).map (·.2)) := by
  induction r with
  | nil => exact True.intro
  | @cons p q ps qs h t ih =>
    obtain ⟨h1, _, h2⟩ := h
    by_cases e : p.1 = k
    · have e' : q.1 = k := h1.symm.trans e
      have b : atKey (q :: qs) k = some q.2 := by simp [atKey, List.find?_cons, e']
      rw [valV_pos e, b]; exact h2
    · have e' : ¬ q.1 = k := fun z => e (h1.trans z)
      have b : atKey (q :: qs) k = atKey qs k := by simp [atKey, List.find?_cons, e']
      rw [valV_neg e, b]; exact ih
theorem KT.repl {H : Hp} {kvs : List (List Key × V)} {xs : List (List Key × Addr × Value)} (r : KT H kvs xs) (k : List Key) {y : V} {u : Value} (ry : RelV y u) :
    KT H (kvs.map fun kv => if kv.1 = k then (kv.1, y) else kv) (xs.map (putAt k u)) := by
  induction r with
  | nil => exact .nil
  | @cons p q ps qs h t ih =>
    rw [List.map_cons, List.map_cons]
    refine .cons ?_ ih
    obtain ⟨h1, h2, h3⟩ := h
    unfold putAt
    by_cases e : p.1 = k
    · rw [if_pos e, if_pos (h1.symm.trans e)]; exact ⟨h1, h2, ry⟩
    · rw [if_neg e, if_neg (fun z => e (h1.trans z))]; exact ⟨h1, h2, h3⟩
theorem KT.put {H : Hp} {kvs : List (List Key × V)} {xs : List (List Key × Addr × Value)} (r : KT H kvs xs) (k : List Key) {b : Addr} {y : V} {u : Value} (hb : H b = some (.tup (k.map kV))) (ry : RelV y u) :
    KT H (putK kvs k y) (storedH xs k b u) := by
  have e : (kvs.any fun kv => decide (kv.1 = k)) = (atKey xs k).isSome := by
    rw [valV_any, (r.val k).isSome_eq, Option.isSome_map]
  unfold putK storedH
  rw [e]
  by_cases q : (atKey xs k).isSome = true
  · rw [if_pos q, if_pos q]; exact r.repl k ry
  · rw [if_neg q, if_neg q]; exact Paired.snoc r ⟨rfl, hb, ry⟩
theorem KT.keeps {H H' : Hp} {kvs : List (List Key × V)} {xs : List (List Key × Addr × Value)} (r : KT H kvs xs) (ht : ∀ b ys, H b = some (.tup ys) → H' b = some (.tup ys)) : KT H' kvs xs :=
  Paired.mapP r fun _ _ z => ⟨z.1, ht _ _ z.2.1, z.2.2⟩
section
variable {P : Program} {w : World} {H : Hp} {h : Heap} {a : Addr}
theorem rd_of {u : HO} (ok : HOk P w H h) (e : Rd H a u) : ObjOk P w H h a u := e.ok ok
theorem dk_rd {kvs : List (Key × V)} (ok : HOk P w H h) (e : Rd H a (.dK kvs)) : kvs.length ≤ sizeLine ∧ (a == sysModules) = false ∧ ∃ vs, KV kvs vs ∧ h.DictOf (mixKind P w) a vs :=
  show ObjOk P w H h a (.dK kvs) from rd_of ok e
theorem dk_of {kvs : List (Key × V)} (ok : HOk P w H h) (e : H a = some (.dK kvs)) : kvs.length ≤ sizeLine ∧ (a == sysModules) = false ∧ ∃ vs, KV kvs vs ∧ h.DictOf (mixKind P w) a vs := dk_rd ok (.inl e)
theorem key_of {ks : List Key} (ok : HOk P w H h) (e : H a = some (.tup (ks.map kV))) : (tupleKind (mixKind P w)).is h ks a := by
  obtain ⟨_, its, r, o, h1, h2, n, h3⟩ := (show ObjOk P w H h a (.tup (ks.map kV)) from ok a _ e)
  exact ⟨o, its.toArray, n, h1, h2, h3, by simpa using items_are r⟩
theorem dt_rd {kvs : List (List Key × V)} (ok : HOk P w H h) (e : Rd H a (.dT kvs)) : kvs.length ≤ sizeLine ∧ (a == sysModules) = false ∧
    ∃ xs, KT H kvs xs ∧ h.DictOfH (tupleKind (mixKind P w)) a xs := by
  obtain ⟨z, y, xs, r, o, es, ep, h1, h2, h3, h4, h5⟩ := (show ObjOk P w H h a (.dT kvs) from rd_of ok e)
  refine ⟨z, y, xs, r, o, es, ep, h1, h2, h3, h4, fun x hx => ?_, h5⟩
  have all : ∀ {l : List (List Key × V)} {m : List (List Key × Addr × Value)}, KT H l m → ∀ x ∈ m, (tupleKind (mixKind P w)).is h x.1 x.2.1 := by
    intro l m q
    induction q with
    | nil => intro x hx; exact nomatch hx
    | @cons p q ps qs hq t ih =>
      intro x hx
      rcases List.mem_cons.mp hx with e | hx
      · subst e
        exact key_of ok (by rw [← hq.1]; exact hq.2.1)
      · exact ih x hx
  exact all r x hx
theorem dt_of {kvs : List (List Key × V)} (ok : HOk P w H h) (e : H a = some (.dT kvs)) : kvs.length ≤ sizeLine ∧ (a == sysModules) = false ∧
    ∃ xs, KT H kvs xs ∧ h.DictOfH (tupleKind (mixKind P w)) a xs := dt_rd ok (.inl e)
end
def DGet (H : Hp) (a : Addr) (y : V) (r : Option V) : Prop :=
  (∃ kvs k, Rd H a (.dK kvs) ∧ y = kV k ∧ r = valV kvs k) ∨ ∃ kvs k b, Rd H a (.dT kvs) ∧ y = .ref b ∧ H b = some (.tup (k.map kV)) ∧ r = valV kvs k
def DPut (H : Hp) (a : Addr) (y v : V) (H' : Hp) : Prop :=
  (∃ kvs k, H a = some (.dK kvs) ∧ y = kV k ∧ kvs.length < sizeLine ∧ H' = upd H a (.dK (putK kvs k v))) ∨
  ∃ kvs k b, H a = some (.dT kvs) ∧ y = .ref b ∧ H b = some (.tup (k.map kV)) ∧ kvs.length < sizeLine ∧ H' = upd H a (.dT (putK kvs k v))
theorem DGet.k {H : Hp} {a : Addr} {kvs : List (Key × V)} {k : Key} (e : H a = some (.dK kvs)) : DGet H a (kV k) (valV kvs k) := .inl ⟨kvs, k, .inl e, rfl, rfl⟩
theorem DPut.k {H : Hp} {a : Addr} {kvs : List (Key × V)} {k : Key} {v : V} (e : H a = some (.dK kvs)) (hl : kvs.length < sizeLine) : DPut H a (kV k) v (upd H a (.dK (putK kvs k v))) := .inl ⟨kvs, k, e, rfl, hl, rfl⟩
section
variable {X : Cx} {pins : List (Addr × Obj)} {σ : St} {H : Hp} {s : Shared} {a : Addr} {y v : V} {u r : Value} {o : Option V} {A : Around} {E : Value → Shared → Prop}
theorem Inv.big (I : Inv X pins σ H s) : sysModules < s.heap.objs.size := by
  have h : mainGlobals < s.heap.objs.size := (I.mod.glob.keeps I.bk).lt
  exact Nat.lt_trans (by decide) h
theorem d_notIn {Q : Value → Shared → Prop} (hu : A.units + 1 < cLine) (I : Inv X pins σ H s) (g : DGet H a y o) (ry : RelV y u) (h : ∀ s', Inv X pins σ H s' → Q (.bool (!o.isSome)) s') :
    wpAny (model X.prog X.w) A (compareOp .NotIn u (.ref a)) Q E s := by
  rcases g with ⟨kvs, k, e, ey, l⟩ | ⟨kvs, k, b, e, ey, eb, l⟩
  · subst ey
    obtain ⟨z, hd, vs, rel, dd⟩ := dk_rd I.hok e
    refine wpAny_notIn_of (kV_is ry) hd dd.mapOf ?_
    rw [← (rel.val k).isSome_eq, ← l]
    exact h _ (I.tok _)
  · subst ey
    cases (show u = Value.ref b from ry)
    obtain ⟨z, hd, xs, rel, dd⟩ := dt_rd I.hok e
    refine wpAny_notIn_heap (tupleKind_room_in1 hu) (key_of I.hok eb) hd dd ?_
    have q := (rel.val k).isSome_eq
    rw [Option.isSome_map] at q
    rw [← q, ← l]
    exact h _ (I.tok _)
theorem d_write {h' : Heap} {t' : Nat} {ob : HO} (I : Inv X pins σ H s) (mu : Mut (H a)) (hs : Heap.SameBut a s.heap h') (he : ∃ q, h'.get? a = some q) (new : ObjOk X.prog X.w (upd H a ob) h' a ob) :
    Inv X pins σ (upd H a ob) { s with heap := h', toks := t' } :=
  I.write (x := a) (e := a) mu (.inl rfl) (fun b q hb z => (hs.2 b hb).trans z) he new
theorem dk_new {P : Program} {w : World} {H' : Hp} {h' : Heap} {kvs : List (Key × V)} {vs : List (Key × Value)} (z : kvs.length ≤ sizeLine) (hd : (a == sysModules) = false) (rel : KV kvs vs) (dd : h'.DictOf (mixKind P w) a vs) :
    ObjOk P w H' h' a (.dK kvs) := ⟨z, hd, vs, rel, dd⟩
theorem d_setItem {H' : Hp} {Q : Unit → Shared → Prop} (hu : A.units + 1 < cLine) (I : Inv X pins σ H s) (g : DPut H a y v H') (ry : RelV y u) (rv : RelV v r) (h : ∀ s', Inv X pins σ H' s' → Q () s') :
    wpAny (model X.prog X.w) A (setItem (.ref a) u r) Q E s := by
  rcases g with ⟨kvs, k, e, ey, l, eH⟩ | ⟨kvs, k, b, e, ey, eb, l, eH⟩
  · subst ey eH
    obtain ⟨z, hd, vs, rel, dd⟩ := dk_of I.hok e
    have hz : vs.length ≤ sizeLine := by rw [← rel.length]; exact z
    have hl : (putK kvs k v).length ≤ sizeLine := by have := length_putK kvs k v; omega
    refine wpAny_setItem_pairs (hsz := hz) (kV_is ry) dd fun h' dd' hs => h _ ?_
    have he : ∃ q, h'.get? a = some q := let ⟨q, _, _, hq, _⟩ := dd'; ⟨q, hq⟩
    exact d_write I (by rw [e]; exact True.intro) hs he (dk_new hl hd (rel.put k rv) dd')
  · subst ey eH
    cases (show u = Value.ref b from ry)
    obtain ⟨z, hd, xs, rel, dd⟩ := dt_of I.hok e
    have hz : xs.length ≤ sizeLine := by rw [← Paired.length rel]; exact z
    have hl : (putK kvs k v).length ≤ sizeLine := by have := length_putK kvs k v; omega
    refine wpAny_setItem_heap (hsz := hz) (tupleKind_room_in1 hu) (key_of I.hok eb) dd fun h' dd' hs => h _ ?_
    obtain ⟨q, es, ep, hq, h2, h3, h4, _, h5⟩ := dd'
    refine d_write I (by rw [e]; exact True.intro) hs ⟨q, hq⟩ ⟨hl, hd, _, (rel.put k eb rv).keeps fun c ys ec => ?_, q, es, ep, hq, h2, h3, h4, h5⟩
    rw [upd_ne (ne_of ec e (fun z => nomatch z))]
    exact ec
end
section
variable {X : Cx} {pins : List (Addr × Obj)} {σ : St} {H : Hp} {s : Shared} {a : Addr} {kvs : List (Key × V)} {k : Key} {u : Value} {A : Around} {E : Value → Shared → Prop}
end
def tDNotIn (ty td : TE) : TE := fun σ H Q => ty σ H fun y H1 => td σ H1 fun x H2 => ∃ a o, x = .ref a ∧ DGet H2 a y o ∧ Q (.bl (!o.isSome)) H2
def sDPut (td ty tv : TE) : TS := fun D σ H => tv σ H fun v H1 => td σ H1 fun x H2 => ty σ H2 fun y H3 => ∃ a H4, x = .ref a ∧ DPut H3 a y v H4 ∧ D.nx σ H4
section
variable {X : Cx} {o i e value : Expr} {pos pos' tpos : Pos} {td ty tv : TE}
theorem pc_dnotin (hu : X.A.units + 1 < cLine) (hi : PE X i ty) (ho : PE X o td) : PC X .NotIn i o (tDNotIn ty td) := by
  intro pins s σ H Q I h
  refine thn (hi pins s σ H _ I h) fun iv s1 ⟨y, H1, I1, ry, q1⟩ => thn (ho pins s1 σ H1 _ I1 q1) fun u s2 ⟨x, H2, I2, rx, a, ov, ex, g, q2⟩ => ?_
  subst ex
  obtain rfl : u = Value.ref a := rx
  exact d_notIn hu I2 g ry fun s3 I3 => ⟨.bl (!ov.isSome), H2, I3, rfl, q2⟩
theorem ps_dput (hu : X.A.units + 1 < cLine) (ho : PE X o td) (hi : PE X i ty) (hv : PE X value tv) (hs : swapsWith value (some (.Subscript o i pos')) pos.line X.env = pure false) :
    PS X (.Assign [.Subscript o i pos'] value pos) (sDPut td ty tv) := by
  intro pins s σ H D I h
  refine wpAny_Assign_Subscript (thn (hv pins s σ H _ I h) fun r s1 ⟨v, H1, I1, rv, q1⟩ => thn (ho pins s1 σ H1 _ I1 q1) fun u s2 ⟨x, H2, I2, rx, q2⟩ => thn (hi pins s2 σ H2 _ I2 q2) fun iv s3 ⟨y, H3, I3, ry, a, H4, ex, g, q3⟩ => ?_) hs
  subst ex
  obtain rfl : u = Value.ref a := rx
  exact d_setItem hu I3 g ry rv fun s4 I4 => ⟨σ, H4, I4, q3⟩
end
theorem dk_empty {P : Program} {w : World} {H : Hp} (h : Heap) (hb : sysModules < h.objs.size) : ObjOk P w H (h.push { cls := .type "dict", data := .dict #[] }) h.objs.size (.dK []) :=
  ⟨Nat.zero_le _, beq_eq_false_iff_ne.mpr (Ne.symm (Nat.ne_of_lt hb)), [], .nil, Heap.DictOf.new h⟩
def tDNewK : TE := fun _ H Q => ∀ p, H p = none → Q (.ref p) (upd H p (.dK []))
section
variable {X : Cx} {pos : Pos}
theorem pe_dnewK : PE X (.Dict [] [] pos) tDNewK := fun pins s σ H Q I h =>
  wpAny_Dict_empty ⟨.ref s.heap.objs.size, _, I.laid (a := s.heap.objs.size) (o := .dK []) (t' := s.toks) (fun _ _ q => Heap.get?_push_of_some _ q) (Nat.le_refl _) (dk_empty s.heap I.big), rfl, h _ (I.hok.fresh (Nat.le_refl _))⟩
end
section
variable {X : Cx} {pins : List (Addr × Obj)} {σ : St} {H : Hp} {s : Shared} {a : Addr} {y d : V} {u r : Value} {o : Option V} {A : Around} {E : Value → Shared → Prop}
end
section
variable {X : Cx} {o e f : Expr} {apos cpos : Pos} {td ty tx : TE}
end
section
variable {X : Cx} {pins : List (Addr × Obj)} {σ : St} {H : Hp} {s : Shared} {a : Addr} {kvs : List (Key × V)} {A : Around} {E : Value → Shared → Prop}
end
section
variable {X : Cx} {pins : List (Addr × Obj)} {σ : St} {H : Hp} {s : Shared} {a : Addr} {y : V} {u : Value} {A : Around} {E : Value → Shared → Prop}
end
end L2
namespace L2
open PySem PySem.Spec PyProof.Rows
section
variable {prog : Program} {w : World} {A : Around} {E : Value → Shared → Prop}
end
section
variable {X : Cx}
end
end L2
namespace L2
open PySem PySem.Spec PyProof.Rows
theorem boot_reversed5 : bootBuiltins "reversed" = some (.type "reversed") := by decide +kernel
section
variable {X : Cx} {pins : List (Addr × Obj)} {σ : St} {H : Hp} {s : Shared} {h' : Heap}
theorem Inv.lock {d : Addr} {u : HO} (I : Inv X pins σ H s) (h : H d = some u) (mu : Mut (some u)) : ∃ od, Inv X pins σ (upd H d (.frz od u)) s := by
  have x := I.hok d u h
  have ex : ∃ od, s.heap.get? d = some od := by
    cases u with
    | lst xs => obtain ⟨_, _, _, _, e⟩ := x; exact ⟨_, e⟩
    | dK kvs => obtain ⟨_, _, _, _, o, _, _, e, _⟩ := x; exact ⟨o, e⟩
    | dT kvs => obtain ⟨_, _, _, _, o, _, _, e, _⟩ := x; exact ⟨o, e⟩
    | set S n => obtain ⟨o, _, _, _, e, _⟩ := x; exact ⟨o, e⟩
    | ins C dx fs => obtain ⟨_, _, _, e, _⟩ := x; exact ⟨_, e⟩
    | ext φ => obtain ⟨_, ⟨_, e⟩, _⟩ := x; exact ⟨_, e⟩
    | _ => exact False.elim mu
  obtain ⟨od, e⟩ := ex
  have new : ObjOk X.prog X.w (upd H d (.frz od u)) s.heap d (.frz od u) := by
    refine ⟨e, x.stay (fun b v _ q => q) (fun b q => ?_) fun b xs q => ?_⟩
    · rw [upd_ne (fun z => by rw [z, h] at q; cases q; exact mu)]; exact q
    · rw [upd_ne (fun z => by rw [z, h] at q; cases q; exact mu)]; exact q
  exact ⟨od, I.write (x := d) (e := d) (t' := s.toks) (h' := s.heap) (by rw [h]; exact mu) (.inl rfl) (fun b v _ q => q) ⟨od, e⟩ new⟩
theorem Inv.nofrz {d : Addr} {u : HO} (I : Inv X pins σ H s) (h : H d = some u) (mu : Mut (some u)) : ∀ o' u', X.H_0 d ≠ some (.frz o' u') := fun o' u' e => by
  have q := I.base.frzs d o' u' e
  rw [h] at q
  cases q
  exact mu
theorem Inv.unlock {d : Addr} {od : Obj} {u : HO} (I : Inv X pins σ H s) (h : H d = some (.frz od u)) (hn : ∀ o' u', X.H_0 d ≠ some (.frz o' u')) : Inv X pins σ (upd H d u) s := by
  have neH : ∀ b o, H b = some o → (∀ o' u', o ≠ .frz o' u') → b ≠ d := fun b o e hne z => by
    rw [z, h] at e
    cases e
    exact hne _ _ rfl
  have neN : ∀ b, H b = none → b ≠ d := fun b e z => by rw [z, h] at e; cases e
  refine ⟨I.ok, I.os, I.bare, ⟨I.base.keep, I.base.slot, fun b o e n hx => ?_, I.base.there, fun b xs e => ?_, fun b o x e => ?_, fun b ps e => ?_⟩, I.loc, I.cell, ?_, fun x c e => ?_, fun p hp => ?_, fun b o e => ?_, I.len⟩
  · rw [upd_ne (neN b (I.base.free b o e n hx))]; exact I.base.free b o e n hx
  · have q := I.base.tups b xs e
    rw [upd_ne (neH b _ q (fun _ _ z => nomatch z))]; exact q
  · have q := I.base.frzs b o x e
    rw [upd_ne (fun z => by rw [z] at e; exact hn _ _ e)]; exact q
  · obtain ⟨m, q⟩ := I.base.tbls b ps e
    exact ⟨m, by rw [upd_ne (neH b _ q (fun _ _ z => nomatch z))]; exact q⟩
  · rw [upd_ne (neN _ I.free)]; exact I.free
  · rw [upd_ne (neN c (I.freeC x c e))]; exact I.freeC x c e
  · obtain ⟨e, n, r⟩ := I.pin p hp
    exact ⟨e, by rw [upd_ne (neN _ n)]; exact n, r⟩
  · by_cases hb : b = d
    · rw [hb, upd_same] at e
      cases e
      rw [hb]
      obtain ⟨_, x⟩ := I.hok d _ h
      exact x.stay (fun c v _ q => q) (fun c q => by rw [upd_ne (neH c _ q (fun _ _ z => nomatch z))]; exact q) fun c xs q => by rw [upd_ne (neH c _ q (fun _ _ z => nomatch z))]; exact q
    · rw [upd_ne hb] at e
      exact (I.hok b o e).stay (fun c v _ q => q) (fun c q => by rw [upd_ne (neH c _ q (fun _ _ z => nomatch z))]; exact q) fun c xs q => by rw [upd_ne (neH c _ q (fun _ _ z => nomatch z))]; exact q
end
def tLock (t : TS) : TS := fun D σ H => ∃ d u, H d = some u ∧ Mut (some u) ∧ ∀ od, t ⟨fun σ' H' => H' d = some (.frz od u) ∧ D.nx σ' (upd H' d u), fun v H' => H' d = some (.frz od u) ∧ D.rt v (upd H' d u), fun σ' H' => H' d = some (.frz od u) ∧ D.bk σ' (upd H' d u), fun σ' H' => H' d = some (.frz od u) ∧ D.ct σ' (upd H' d u)⟩ σ (upd H d (.frz od u))
section
variable {X : Cx}
theorem ps_lock {st : Stmt} {t : TS} (h : PS X st t) : PS X st (tLock t) := by
  intro pins s σ H D I hw
  obtain ⟨d, u, hd, mu, hw⟩ := hw
  obtain ⟨od, I1⟩ := I.lock hd mu
  refine thn (h pins s σ _ _ I1 (hw od)) fun f s1 q => ?_
  cases f with
  | next => obtain ⟨σ', H', I2, e, q⟩ := q; exact ⟨σ', _, I2.unlock e (I.nofrz hd mu), q⟩
  | brk => obtain ⟨σ', H', I2, e, q⟩ := q; exact ⟨σ', _, I2.unlock e (I.nofrz hd mu), q⟩
  | cont => obtain ⟨σ', H', I2, e, q⟩ := q; exact ⟨σ', _, I2.unlock e (I.nofrz hd mu), q⟩
  | ret v => obtain ⟨x, σ', H', I2, r, e, q⟩ := q; exact ⟨x, σ', _, I2.unlock e (I.nofrz hd mu), r, q⟩
theorem pi_one {tg : Expr} {pins : List (Addr × Obj)} {σ : St} {H : Hp} {s : Shared} {R : It → Hp → Prop} {J : It} {tn : Nat → Heap → Prop} {tk : Nat} (I : Inv X pins σ H s) (o : Obj)
    (T : Turn X.prog X.w X.K tg J [s.heap.objs.size] s.heap.objs.size tn) (st : tn 0 (s.heap.push o)) (q : R J H) : PIE X pins σ tg R (.ref s.heap.objs.size) { s with heap := s.heap.push o, toks := tk } := by
  refine ⟨s.heap.objs.size, [s.heap.objs.size], tn, J, H, rfl, I.kept fun b ob e => Heap.get?_push_of_some _ e, T, st, fun b hb => ?_, q⟩
  have e : b = s.heap.objs.size := by simpa using hb
  subst e
  exact I.fpOk (Nat.le_refl _) (I.hok.fresh (Nat.le_refl _))
end
def Itc (lo c : Int) (n : Nat) : It := ⟨fun i _ => i < n, fun i H x H' => H' = H ∧ x = .int (lo + (i : Nat) * c), fun i _ => n ≤ i⟩
theorem turn_rangeC {P : Program} {w : World} {K : PySem.W.Frag} {tg : Expr} (it : Addr) (lo c : Int) (n : Nat) : Turn P w K tg (Itc lo c n) [it] it (fun i h => IsRangeIter h it (lo + (i : Nat) * c) ((n : Int) - (i : Nat)) c) where
  mem := by simp
  obj := fun i h st b hb => by
    have e : b = it := by simpa using hb
    subst e
    exact ⟨_, st, fun v z => nomatch z⟩
  keep := fun i h h' st k => k it (by simp) _ st
  item := by
    intro X hP hw hK hc i pins s σ H E I hf st hg
    subst hP hw hK
    obtain ⟨f0, f1, f2, f3, f4, f5⟩ := hf it (by simp)
    have W := Walks.range (prog := X.prog) (w := X.w) (I.ok.hd hc) it lo c n
    refine W.item i s _ _ hg st fun v h' tk hv st' kk => ?_
    obtain ⟨t, rfl⟩ := hv
    have I1 : Inv X pins σ H { s with heap := h', toks := tk } := I.turned (fun b o hb e => kk b o (by simpa using hb) e) f0 f1 f3 f4 f5
    exact ⟨_, rfl, go_of (s := { s with heap := h', toks := tk }) (n := "range_iterator") st' rfl rfl (by decide) ⟨.int (lo + (i : Nat) * c), H, I1, ⟨t, rfl⟩, ⟨rfl, rfl⟩, st', fun b hb => (hf b hb).1⟩⟩
  done := by
    intro X hP hw hK hc i pins s σ H E I hf st hg
    subst hP hw hK
    obtain ⟨f0, f1, f2, f3, f4, f5⟩ := hf it (by simp)
    exact wpAny_pyNext_range_end (I.ok.hd hc) st (by have : n ≤ i := hg; omega) fun h' eb => ⟨rfl, I.turned (t' := s.toks) (fun b o hb e => eb b o hb e) f0 f1 f3 f4 f5⟩
  self := fun A i s Q E st h => wpAny_pyIter_rangeiter st h
def RgC (i j c : Int) (n : Nat) : Prop := c ≠ 0 ∧ c.natAbs < 1073741824 ∧ Builtin.Range.small i j c = true ∧ Builtin.Range.rangeSize i j c = n
def iRng3 (ta : TA) : TI := fun σ H R => ta σ H fun vs H1 => ∃ (i j c : Int) (n : Nat), vs = [.int i, .int j, .int c] ∧ RgC i j c n ∧ R (Itc i c n) H1
section
variable {X : Cx} {tg : Expr}
theorem pi_range3 {a b c : Expr} {ta : TA} {p pos : Pos} (hg : Gl X "range") (hm : X.mg "range" = none) (ha : PA X [a, b, c] ta)
    (hs : starEach [a, b, c] X.env = (false, eval a X.env) :: starEach [b, c] X.env := by rfl) (hpl : (backTo pos (starEach [b, c] X.env)).any (·.1) = false := by rfl) :
    PI X tg (.Call (.Name "range" p) [a, b, c] [] pos) (iRng3 ta) := by
  intro pins s σ H R I h
  refine Call_ (ld_blt I hg hm boot_range (PyProof.Rows.callWith_type1 (thn (ha pos pins s σ H _ I h) fun us s1 ⟨vs, H1, I1, r1, q1⟩ => ?_) hs hpl))
  obtain ⟨i, j, k, n, e, ⟨c0, c1, c2, c3⟩, q⟩ := q1
  subst e
  cases r1 with
  | cons r rr =>
    cases rr with
    | cons r' rr =>
      cases rr with
      | cons r'' rr =>
        cases rr
        obtain ⟨t, rfl⟩ := r
        obtain ⟨t', rfl⟩ := r'
        obtain ⟨t'', rfl⟩ := r''
        refine call_range_3 c0 ?_ (.inl (PyProof.noPylong_small c1))
        refine wpAny_pyIter_range (IsRange.new ..) c2 ?_
        have I2 : Inv X pins σ H1 { s1 with heap := s1.heap.push { cls := .type "range", data := .fields #[.int i t, .int j t', .int k t''] } } := I1.kept (t' := s1.toks) fun b o e => Heap.get?_push_of_some _ e
        refine pi_one (tk := s1.toks) I2 _ (turn_rangeC _ i k n) ?_ q
        have e1 : i + ((0 : Nat) : Int) * k = i := by simp
        have e2 : (n : Int) - ((0 : Nat) : Int) = Builtin.Range.rangeSize i j k := by rw [c3]; simp
        show IsRangeIter _ _ (i + ((0 : Nat) : Int) * k) ((n : Int) - ((0 : Nat) : Int)) k
        rw [e1, e2]
        exact Heap.get?_push_size _ rfl
end
theorem for_rangeC {lo c : Int} {n : Nat} {g : TG} {tb : TS} {D : Ends} {σ : St} {H : Hp} (Pv : Nat → St → Hp → Prop) (h0 : Pv 0 σ H)
    (hs : ∀ i σ H, i < n → Pv i σ H → g (.int (lo + (i : Nat) * c)) σ H fun σ2 H2 => tb { D with nx := Pv (i + 1), ct := Pv (i + 1), bk := D.nx } σ2 H2) (hd : ∀ σ H, Pv n σ H → D.nx σ H) :
    ∃ W : Nat → Nat → St → Hp → Prop, (∃ m, W 0 m σ H) ∧ ∀ i m σ H, W i m σ H →
      ((Itc lo c n).stop i H ∧ D.nx σ H) ∨ ((Itc lo c n).go i H ∧ ∃ N : St → Hp → Prop, (∀ σ' H', N σ' H' → ∃ m', m' < m ∧ W (i + 1) m' σ' H') ∧ ∀ x H', (Itc lo c n).yld i H x H' → g x σ H' fun σ2 H2 => tb { D with nx := N, ct := N, bk := D.nx } σ2 H2) := by
  refine ⟨fun i m σ H => m = n - i ∧ i ≤ n ∧ Pv i σ H, ⟨n, by simp, Nat.zero_le _, h0⟩, ?_⟩
  rintro i m σ H ⟨rfl, hi, p⟩
  by_cases hlt : i < n
  · refine .inr ⟨hlt, Pv (i + 1), fun σ' H' p' => ⟨n - (i + 1), by omega, rfl, hlt, p'⟩, fun x H' y => ?_⟩
    obtain ⟨e, y⟩ := y
    subst e y
    exact hs i σ _ hlt p
  · have e : i = n := by omega
    subst e
    exact .inl ⟨Nat.le_refl _, hd σ H p⟩
def Itv (K : PySem.W.Frag) (a : Addr) (n : Nat) : It :=
  ⟨fun i H => i < n ∧ ∃ (xs : List V) (x : V), SqL K H a xs ∧ xs[n - 1 - i]? = some x, fun i H x H' => H' = H ∧ ∀ xs, SqL K H a xs → xs[n - 1 - i]? = some x, fun i _ => n ≤ i⟩
theorem turn_rev {P : Program} {w : World} {K : PySem.W.Frag} {tg : Expr} (a it : Addr) (n : Nat) : Turn P w K tg (Itv K a n) [it] it (fun i h => i ≤ n ∧ h.IsRevIter it a ((n : Int) - 1 - (i : Nat))) where
  mem := by simp
  obj := fun i h st b hb => by
    have e : b = it := by simpa using hb
    subst e
    obtain ⟨_, o, e, c, d⟩ := st
    exact ⟨o, e, fun v z => by rw [d] at z; cases z⟩
  keep := fun i h h' st k => ⟨st.1, st.2.at fun o e => k it (by simp) o e⟩
  item := by
    intro X hP hw hK hc i pins s σ H E I hf st hg
    subst hP hw hK
    obtain ⟨hin, xs, x, hq, hx⟩ := hg
    obtain ⟨its, rv, p, hz⟩ := I.list hq
    obtain ⟨u, hu, ru⟩ := rv.get hx
    obtain ⟨f0, f1, f2, f3, f4, f5⟩ := hf it (by simp)
    obtain ⟨_, hit⟩ := st
    have e1 : (n : Int) - 1 - ((i : Nat) : Int) = ((n - 1 - i : Nat) : Int) := by omega
    rw [e1] at hit
    refine wpAny_pyNext_rev_item hit p.isList (x := u) (by simpa using hu) fun h' st' sb => ?_
    have e2 : ((n - 1 - i : Nat) : Int) - 1 = (n : Int) - 1 - ((i + 1 : Nat) : Int) := by omega
    rw [e2] at st'
    have I1 : Inv X pins σ H { s with heap := h' } := I.turned (t' := s.toks) (fun b o hb e => (sb.2 b hb).trans e) f0 f1 f3 f4 f5
    obtain ⟨o, e, c, d⟩ := id st'
    exact ⟨u, rfl, go_of (s := { s with heap := h' }) e c d (by decide) ⟨x, H, I1, ru, ⟨rfl, fun ys hy => by rw [I.list_inj hy hq]; exact hx⟩, ⟨hin, st'⟩, fun b hb => (hf b hb).1⟩⟩
  done := by
    intro X hP hw hK hc i pins s σ H E I hf st hg
    subst hP hw hK
    obtain ⟨f0, f1, f2, f3, f4, f5⟩ := hf it (by simp)
    obtain ⟨hin, hit⟩ := st
    have hge : n ≤ i := hg
    have e1 : (n : Int) - 1 - ((i : Nat) : Int) = -1 := by omega
    rw [e1] at hit
    exact wpAny_pyNext_rev_end (I.ok.hd hc) hit fun h' eb => ⟨rfl, I.turned (t' := s.toks) (fun b o hb e => eb b o hb e) f0 f1 f3 f4 f5⟩
  self := fun A i s Q E st h => wpAny_pyIter_revIter st.2 h
def iRev (K : PySem.W.Frag) (ta : TA) : TI := fun σ H R => ta σ H fun vs H1 => ∃ (a : Addr) (xs : List V), vs = [.ref a] ∧ SqL K H1 a xs ∧ R (Itv K a xs.length) H1
section
variable {X : Cx} {tg : Expr}
theorem pi_reversed {e : Expr} {ta : TA} {p pos : Pos} (hg : Gl X "reversed") (hm : X.mg "reversed" = none) (ha : PA X [e] ta) (hs : starEach [e] X.env = [(false, eval e X.env)] := by rfl) : PI X tg (.Call (.Name "reversed" p) [e] [] pos) (iRev X.K ta) := by
  intro pins s σ H R I h
  refine Call_ (ld_blt I hg hm boot_reversed5 (PyProof.Rows.callWith_type1 (thn (ha pos pins s σ H _ I h) fun us s1 ⟨vs, H1, I1, r1, q1⟩ => ?_) hs rfl))
  obtain ⟨a, xs, e, hq, q⟩ := q1
  subst e
  cases r1 with
  | cons r rr =>
    cases rr
    cases r
    obtain ⟨its, rv, p', hz⟩ := I1.list hq
    have hl := rv.length
    have e1 : ((its.toArray.size : Nat) : Int) - 1 = (xs.length : Int) - 1 - ((0 : Nat) : Int) := by simp only [List.size_toArray]; omega
    refine call_reversed_list p'.isList (wpAny_pyIter_revIter (l := a) (i := ((its.toArray.size : Nat) : Int) - 1) ⟨_, Heap.get?_push_size _ rfl, rfl, rfl⟩ ?_)
    refine pi_one (tk := s1.toks) I1 _ (turn_rev a _ xs.length) ⟨Nat.zero_le _, ?_⟩ q
    rw [← e1]
    exact ⟨_, Heap.get?_push_size _ rfl, rfl, rfl⟩
end
def Its (x : Str) : It := ⟨fun i _ => i < x.cps.size, fun i H v H' => H' = H ∧ ∃ c, x.cps[i]? = some c ∧ v = .str ⟨#[c]⟩, fun i _ => x.cps.size ≤ i⟩
theorem turn_str {P : Program} {w : World} {K : PySem.W.Frag} {tg : Expr} (it : Addr) (x : Str) (t : Tok) (ty : String) (hty : ty = "str_ascii_iterator" ∨ ty = "str_iterator") :
    Turn P w K tg (Its x) [it] it (fun i h => h.IsStrIter it ty x t i) where
  mem := by simp
  obj := fun i h st b hb => by
    have e : b = it := by simpa using hb
    subst e
    obtain ⟨o, e, c, d⟩ := st
    exact ⟨o, e, fun v z => by rw [d] at z; cases z⟩
  keep := fun i h h' st k => let ⟨o, ho, r⟩ := st; ⟨o, k it (by simp) o ho, r⟩
  item := by
    intro X hP hw hK hc i pins s σ H E I hf st hg
    subst hP hw hK
    obtain ⟨f0, f1, f2, f3, f4, f5⟩ := hf it (by simp)
    have W : Walks X.prog X.w X.A it [it] [it] x.cps.size (SignAt x) (fun i h => h.IsStrIter it ty x t i) := by
      rcases hty with e | e
      · rw [e]; exact Walks.strAscii (I.ok.hd hc) it x t
      · rw [e]; exact Walks.strWide (I.ok.hd hc) it x t
    have hno : ["enumerate", "zip", "dict_itemiterator", "dict_reverseitemiterator", "odict_iterator", "itertools.zip_longest", "itertools.pairwise"].contains ty = false := by
      rcases hty with e | e
      · rw [e]; decide
      · rw [e]; decide
    refine W.item i s _ _ hg st fun v h' tk hv st' kk => ?_
    obtain ⟨c, u, hcx, rfl⟩ := hv
    have I1 : Inv X pins σ H { s with heap := h', toks := tk } := I.turned (fun b o hb e => kk b o (by simpa using hb) e) f0 f1 f3 f4 f5
    obtain ⟨oi, e, cc, dd⟩ := id st'
    exact ⟨_, rfl, go_of (s := { s with heap := h', toks := tk }) e cc dd hno ⟨.str ⟨#[c]⟩, H, I1, ⟨u, rfl⟩, ⟨rfl, c, hcx, rfl⟩, st', fun b hb => (hf b hb).1⟩⟩
  done := by
    intro X hP hw hK hc i pins s σ H E I hf st hg
    subst hP hw hK
    obtain ⟨f0, f1, f2, f3, f4, f5⟩ := hf it (by simp)
    have hx : x.cps[i]? = none := Array.getElem?_eq_none hg
    rcases hty with e | e
    · rw [e] at st
      exact wpAny_pyNext_ascii_end (I.ok.hd hc) st hx fun h' eb => ⟨rfl, I.turned (t' := s.toks) (fun b o hb e => eb b o hb e) f0 f1 f3 f4 f5⟩
    · rw [e] at st
      exact wpAny_pyNext_wide_end (I.ok.hd hc) st hx fun h' eb => ⟨rfl, I.turned (t' := s.toks) (fun b o hb e => eb b o hb e) f0 f1 f3 f4 f5⟩
  self := fun A i s Q E st h => by
    rcases hty with e | e
    · rw [e] at st; exact wpAny_pyIter_striter_ascii st h
    · rw [e] at st; exact wpAny_pyIter_striter_wide st h
def iStr (te : TE) : TI := fun σ H R => te σ H fun v H1 => ∃ x, v = .str x ∧ R (Its x) H1
theorem pi_str {X : Cx} {tg e : Expr} {te : TE} (he : PE X e te) : PI X tg e (iStr te) := by
  intro pins s σ H R I h
  refine thn (he pins s σ H _ I h) fun v s1 ⟨y, H1, I1, r1, x, ex, q⟩ => ?_
  subst ex
  obtain ⟨t, rfl⟩ := r1
  cases ha : x.cps.all (· < 128)
  · exact wpAny_pyIter_wide ha (pi_one (tk := s1.toks) I1 _ (turn_str _ x t "str_iterator" (.inr rfl)) ⟨_, Heap.get?_push_size _ rfl, rfl, rfl⟩ q)
  · exact wpAny_pyIter_ascii ha (pi_one (tk := s1.toks) I1 _ (turn_str _ x t "str_ascii_iterator" (.inl rfl)) ⟨_, Heap.get?_push_size _ rfl, rfl, rfl⟩ q)
section
variable {prog : Program} {w : World} {A : Around} {E : Value → Shared → Prop} {s : Shared}
end
section
variable {X : Cx} {pins : List (Addr × Obj)} {σ : St} {H : Hp} {s : Shared} {d : Addr} {o : Obj}
end
section
variable {P : Program} {w : World} {K : PySem.W.Frag} {tg : Expr} {d : Addr} {o : Obj} {es : Array DictEntry} {ep : Nat}
end
section
variable {X : Cx} {tg e : Expr} {td : TE} {apos cpos : Pos}
end
end L2
section 
namespace Bits
open PySem PyProof.Rows
end Bits
end 
section 
namespace TL
open PySem PySem.Builtin PySem.Builtin.Str PySem.StrLaws
abbrev tl (x : Str) : List Nat := x.cps.toList
theorem tl_append (x y : Str) : tl (x ++ y) = tl x ++ tl y := by
  show (x ++ y).cps.toList = _
  rw [Str.cps_append, Array.toList_append]
def joinL (S : List Nat) : List (List Nat) → List Nat
  | [] => []
  | [p] => p
  | p :: q :: r => p ++ (S ++ joinL S (q :: r))
theorem tl_join (y : Str) : ∀ parts : List Str, tl (Str.join y parts) = joinL (tl y) (parts.map tl)
  | [] => rfl
  | [_] => rfl
  | x :: z :: r => by
    show tl (x ++ y ++ Str.join y (z :: r)) = tl x ++ (tl y ++ joinL (tl y) ((z :: r).map tl))
    rw [tl_append, tl_append, tl_join y (z :: r), List.append_assoc]
theorem join_eq (y : Str) (parts : List Str) : Txt.join y parts = Str.join y parts := glued_eq_join y parts
end TL
end 
namespace L2
open PySem PySem.Spec PyProof.Rows
theorem strs_of_vals : ∀ {ys : List Str} {us : List Value}, Vals (ys.map V.str) us → StrsAre us ys
  | [], _, .nil => .nil
  | y :: ys, _, .cons r t => by
    obtain ⟨k, rfl⟩ := r
    exact .cons y k (strs_of_vals t)
section
variable {X : Cx} {pins : List (Addr × Obj)} {σ : St} {H : Hp} {s : Shared} {Q : VK}
end
section
variable {X : Cx}
theorem mt_join : MtR X "str.join" (fun x xs H Q => ∃ a p, ∃ ys : List Str, x = .str a ∧ xs = [.ref p] ∧ (SqL X.K H p (ys.map V.str) ∨ SqT X.K H p (ys.map V.str)) ∧
    (ys.map (·.length)).sum + ys.length * a.length ≤ 16777216 ∧ Q (.str (Txt.join a ys)) H) := by
  intro pins s σ H x xs v us Q I rx rs h
  obtain ⟨a, p, ys, rfl, rfl, hp, hz, h⟩ := h
  obtain ⟨t, rfl⟩ := rx
  cases rs with
  | cons r1 rs =>
    cases rs
    cases r1
    rcases hp with hp | hp
    · obtain ⟨its, r, ⟨o, n, ho, hc, _, hd⟩, _⟩ := I.list hp
      exact PyProof.Rows.join_list (items := its.toArray) ⟨o, ho, hc, n, hd⟩ (by rw [List.toList_toArray]; exact strs_of_vals r) hz fun t' k => ⟨.str _, H, I.tok k, ⟨t', rfl⟩, h⟩
    · obtain ⟨its, r, ht, _⟩ := I.tuple hp
      exact PyProof.Rows.join_tuple (items := its.toArray) ht (by rw [List.toList_toArray]; exact strs_of_vals r) hz fun t' k => ⟨.str _, H, I.tok k, ⟨t', rfl⟩, h⟩
end
section
variable {X : Cx} {o e : Expr} {to te : TE}
def tM1 (r : V → List V → Hp → VK → Prop) (to te : TE) : TE := fun σ H Q => to σ H fun x H1 => (∃ a, x = .str a) ∧ te σ H1 fun y H2 => r x [y] H2 Q
theorem pe_m1 {id : String} {name : Str} {apos pos : Pos} {r : V → List V → Hp → VK → Prop} (slot : Slot "str" name id) (ty : typeOf (.builtin id) = pure (.type "method_descriptor")) (rule : MtR X id r) (ho : PE X o to) (he : PE X e te)
    (hs : starEach [e] X.env = [(false, eval e X.env)] := by rfl) (hbase : attributeBase o name X.env (eval o X.env) = eval o X.env := by rfl) (hline : (apos.endLine == pos.line) = true := by rfl) :
    PE X (.Call (.Attribute o name apos) [e] [] pos) (tM1 r to te) := by
  intro pins s σ H Q I h
  refine PySem.Call_method1 hbase hs hline (thn (ho pins s σ H _ I h) fun v s1 ⟨x, H1, I1, r1, q1⟩ => ?_)
  obtain ⟨⟨a, rfl⟩, q1⟩ := q1
  obtain ⟨t, rfl⟩ := _root_.id r1
  refine ⟨"str", _, F.plainAttrs_str, slot, ty, typeIs_str _ _ _, (fun _ e => nomatch e), Calls.callWith_builtin rfl (Calls.evalArgs_plain (Calls.spliced_cons ?_))⟩
  exact thn (he pins s1 σ H1 _ I1 q1) fun u s2 ⟨y, H2, I2, r2, q2⟩ => Calls.spliced_nil (rule pins s2 σ H2 _ [y] _ [u] Q I2 r1 (.cons r2 .nil) q2)
theorem pe_join {apos pos : Pos} (ho : PE X o to) (he : PE X e te) (hs : starEach [e] X.env = [(false, eval e X.env)] := by rfl) (hbase : attributeBase o "join" X.env (eval o X.env) = eval o X.env := by rfl) (hline : (apos.endLine == pos.line) = true := by rfl) :
    PE X (.Call (.Attribute o "join" apos) [e] [] pos) (tM1 (fun x xs H Q => ∃ a p, ∃ ys : List Str, x = .str a ∧ xs = [.ref p] ∧ (SqL X.K H p (ys.map V.str) ∨ SqT X.K H p (ys.map V.str)) ∧
      (ys.map (·.length)).sum + ys.length * a.length ≤ 16777216 ∧ Q (.str (Txt.join a ys)) H) to te) :=
  pe_m1 F.slot_str_join F.type_str_join mt_join ho he hs hbase hline
end
end L2
namespace L2
open PySem PySem.Spec PyProof.Rows
section
variable {X : Cx}
end
end L2
namespace Att
open PySem PySem.W PySem.Calls PyProof.Rows
section
variable {prog : Program} {w : World} {A : Around} {E : Value → Shared → Prop} {s : Shared} {K : Frag}
end
end Att
namespace L2
open PySem PySem.Spec PyProof.Rows
end L2
namespace L2
open PySem PySem.Spec PyProof.Rows
end L2
namespace L2
open PySem PySem.Spec PyProof.Rows
def inClass (s : Stmt) (j : Nat) : Stmt := match s with
  | .ClassDef _ _ _ body _ _ _ _ _ _ _ => body.getD j (.Pass ⟨0, 0, 0, 0⟩)
  | _ => .Pass ⟨0, 0, 0, 0⟩
def defArgs (s : Stmt) : Arguments := match s with
  | .FunctionDef _ a _ _ _ _ _ _ _ _ => a
  | _ => { posonlyargs := [], args := [], vararg := none, kwonlyargs := [], kw_defaults := [], kwarg := none, defaults := [] }
def defBody (s : Stmt) : List Stmt := match s with
  | .FunctionDef _ _ b _ _ _ _ _ _ _ => b
  | _ => []
def defScope (s : Stmt) : Scope := match s with
  | .FunctionDef _ _ _ _ _ _ sc _ _ _ => sc
  | _ => { kind := .function, names := [], isGenerator := false, isCoroutine := false }
abbrev CX0 : CXT := fun _ _ _ _ _ _ => False
abbrev E0 : XK := fun _ _ _ => False
theorem pass0 {X : Cx} : Passes CX0 X E0 := fun _ _ _ _ _ _ _ h => h.elim
structure Fun (K : PySem.W.Frag) (x qual : Str) (st : Stmt) (f : Addr) (fd : FuncData) : Prop where
  ex : ∃ (oc : Value) (od : Option Addr) (kV doc pm : Value) (an : Option Addr) (cdv ct : Value) (osl : Array (Option Value)),
    fd = PySem.W.fnOf x qual (defArgs st) (defBody st) (defScope st) .none kV doc pm an cdv ct ∧ K.lookup f = some ⟨oc, od, .func fd, osl⟩ ∧ PySem.W.codeIn K cdv qual = true
  kp : PySem.W.keepIn K (.ref f) = true
section
variable {P : Program} {w : World} {K : PySem.W.Frag} {mg : Str → Option Value} {base : Heap}
theorem Fun.ok {x qual : Str} {st : Stmt} {f : Addr} {fd : FuncData} {N ps : List Str} {k : Nat} {sp : Sp} (F : Fun K x qual st f fd) (S : FnScope N ps (defScope st)) (len : ∀ vs H Q E, sp vs H Q E → vs.length = ps.length)
    (hbody : ∀ (cdv : Value) (A : Around) (outer : List Env) (s : Shared) (H : Hp) (vs : List V) (Q : VK) (E : XK), Room k (A.deeper (envOfC qual (defScope st) s.heap.objs.size f cdv)) → sp vs H Q E →
      ∃ t, PSs (cxOf CX0 P w K mg base N qual (defScope st) f cdv A outer s H E).nox (defBody st) t ∧ t { nx := fun _ H' => Q .non H', rt := Q } (start N vs) H) : FnOk P w K mg base CX0 (k + 1) f fd ps sp := by
  obtain ⟨oc, od, kV, doc, pm, an, cdv, ct, osl, rfl, lk, hcd⟩ := F.ex
  refine fn_of lk hcd S len fun A outer s H vs Q E hr hsp => ?_
  obtain ⟨t, h, q⟩ := hbody cdv A outer s H vs Q E hr hsp
  exact ⟨t, h.nox, q⟩
theorem Fun.binds {x qual : Str} {st : Stmt} {f : Addr} {fd : FuncData} {ps : List Str} (F : Fun K x qual st f fd)
    (h : ∀ (kV doc pm : Value) (an : Option Addr) (cdv ct : Value) (us : List Value), us.length = ps.length → bindArgs (PySem.W.fnOf x qual (defArgs st) (defBody st) (defScope st) .none kV doc pm an cdv ct) ⟨us, []⟩ = pure (ps.zip us)) : Binds K fd ps [] := by
  obtain ⟨oc, od, kV, doc, pm, an, cdv, ct, osl, rfl, lk, hcd⟩ := F.ex
  exact .all (h kV doc pm an cdv ct)
theorem fun_mk {x qual : Str} {st : Stmt} {f : Addr} {oc : Value} {od an : Option Addr} {osl : Array (Option Value)} {kV doc pm cdv ct : Value} (l : K.lookup f = some ⟨oc, od, .func (PySem.W.fnOf x qual (defArgs st) (defBody st) (defScope st) .none kV doc pm an cdv ct), osl⟩)
    (c : PySem.W.codeIn K cdv qual = true) (k : PySem.W.keepIn K (.ref f) = true) : Fun K x qual st f (PySem.W.fnOf x qual (defArgs st) (defBody st) (defScope st) .none kV doc pm an cdv ct) := ⟨⟨oc, od, kV, doc, pm, an, cdv, ct, osl, rfl, l, c⟩, k⟩
end
theorem hu_of {A : Around} {k : Nat} (hr : Room k A) : A.units + 1 < cLine := Nat.lt_of_le_of_lt (Nat.add_le_add_left (by decide : 1 ≤ 64) _) hr.units
section
variable {X : Cx}
theorem pv (i : Nat) {x : Str} {pos : Pos} (hN : X.N[i]? = some x := by rfl) (hv : Vis X.env.scope x := by first | exact Or.inl rfl | exact Or.inr (Or.inl rfl) | exact Or.inr (Or.inr rfl)) (hd : (x == ("__debug__" : Str)) = false := by decide)
    (hcd : (x == ("__classdict__" : Str)) = false := by decide) : PE X (.Name x pos) (tVar i) := pe_var hN hv hd hcd
end
theorem iteF {A B : Prop} (h : B) : if false = true then A else B := by
  rw [if_neg Bool.false_ne_true]
  exact h
theorem iteT {A B : Prop} (h : A) : if true = true then A else B := by
  rw [if_pos rfl]
  exact h
theorem ite2 {c A B : Prop} [Decidable c] (h1 : c → A) (h2 : ¬ c → B) : if c then A else B := by
  by_cases h : c
  · rw [if_pos h]
    exact h1 h
  · rw [if_neg h]
    exact h2 h
def Same (H H' : Hp) : Prop := ∀ b o, H b = some o → H' b = some o
theorem Same.refl (H : Hp) : Same H H := fun _ _ h => h
theorem Same.trans {H H1 H2 : Hp} (a : Same H H1) (b : Same H1 H2) : Same H H2 := fun c o h => b c o (a c o h)
theorem Same.free {H H' : Hp} (e : Same H H') {l : Addr} (h : H' l = Option.none) : H l = Option.none := by
  cases q : H l with
  | none => rfl
  | some o =>
    rw [e l o q] at h
    cases h
theorem Same.seq {K : PySem.W.Frag} {H H' : Hp} {a : Addr} {xs : List V} (e : Same H H') (h : SqL K H a xs) : SqL K H' a xs := by
  rcases h with (h | ⟨o, h⟩) | h
  · exact .inl (.inl (e _ _ h))
  · exact .inl (.inr ⟨o, e _ _ h⟩)
  · exact .inr h
section
variable {κ : Type} [DecidableEq κ]
end
theorem at_of {xs : List V} {z : Int} {j : Nat} {v : V} (e : z = (j : Int)) (h : xs[j]? = some v) : atI xs z = some v := by
  rw [e]
  exact atI_nat h
end L2
section
set_option Elab.async false
set_option linter.all false
set_option maxRecDepth 100000
set_option maxHeartbeats 2000000
namespace L2
open PySem PySem.Spec PyProof.Rows
open PySem.W (WData Codec OpenSpec Well WellAll ReadsW ReadsAllW)
mutual
/-- x stands for the datum d, lists and tuples all the way -/
inductive Dw (K : PySem.W.Frag) (H : Hp) : V → WData → Prop
  | non : Dw K H .non .none
  | bl (b : Bool) : Dw K H (.bl b) (.bool b)
  | int (i : Int) : Dw K H (.int i) (.int i)
  | str (x : Str) : Dw K H (.str x) (.str x)
  | byt (b : Array UInt8) : Dw K H (.byt b) (.bytes b.toList)
  | lst {a : Addr} {xs : List V} {ds : List WData} : SqL K H a xs → DwAll K H xs ds → Dw K H (.ref a) (.list ds)
  | tup {a : Addr} {xs : List V} {ds : List WData} : SqT K H a xs → DwAll K H xs ds → Dw K H (.ref a) (.tuple ds)
inductive DwAll (K : PySem.W.Frag) (H : Hp) : List V → List WData → Prop
  | nil : DwAll K H [] []
  | cons {v : V} {vs : List V} {d : WData} {ds : List WData} : Dw K H v d → DwAll K H vs ds → DwAll K H (v :: vs) (d :: ds)
end
theorem dw_ints {K : PySem.W.Frag} {H : Hp} : ∀ ns : List Int, DwAll K H (ns.map V.int) (ns.map WData.int)
  | [] => .nil
  | n :: r => .cons (.int n) (dw_ints r)
theorem ints_dw {K : PySem.W.Frag} {H : Hp} : ∀ (ns : List Int) (xs : List V), DwAll K H xs (ns.map WData.int) → xs = ns.map V.int
  | [], xs, h => by
    cases h
    rfl
  | n :: r, xs, h => by
    cases h with
    | cons h1 h2 =>
      cases h1
      rw [ints_dw r _ h2] <;> rfl
section
variable {P : Program} {w : World} {K : PySem.W.Frag} {H : Hp} {h : Heap} {R : PySem.W.WRecords} {cl : Str → Option Addr}
theorem sqL_at {a : Addr} {xs : List V} (hok : HOk P w H h) (KX : K.In h) (q : SqL K H a xs) : ∃ (its : List Value) (o : Obj) (n : Nat), Vals xs its ∧ h.get? a = some o ∧ o.cls = .type "list" ∧ o.data = .seq its.toArray n := by
  rcases q with q | ⟨o, its, n, e, hc, _, hd, _, hv⟩
  · obtain ⟨_, its, n, hv, e⟩ := (show ObjOk P w H h a (.lst xs) from q.ok hok)
    exact ⟨its, _, n, hv, e, rfl, rfl⟩
  · exact ⟨its.toList, o, n, hv, KX _ _ e, hc, by simp [hd]⟩
theorem sqT_at {a : Addr} {xs : List V} (hok : HOk P w H h) (KX : K.In h) (q : SqT K H a xs) : ∃ (its : List Value) (o : Obj) (n : Nat), Vals xs its ∧ h.get? a = some o ∧ o.cls = .type "tuple" ∧ o.data = .seq its.toArray n := by
  rcases q with q | ⟨o, its, n, e, hc, hd, _, hv⟩
  · obtain ⟨_, its, hv, o, e, hc, n, hd⟩ := (show ObjOk P w H h a (.tup xs) from q.ok hok)
    exact ⟨its, o, n, hv, e, hc, hd⟩
  · exact ⟨its.toList, o, n, hv, KX _ _ e, hc, by simp [hd]⟩
mutual
theorem Dw.reads (hok : HOk P w H h) (KX : K.In h) : ∀ (d : WData) (v : V) (u : Value), Dw K H v d → RelV v u → ∃ as, ReadsW R cl h u d as
  | .none, _, _, x, r => by
    cases x
    cases r
    exact ⟨_, ReadsW.none⟩
  | .bool b, _, _, x, r => by
    cases x
    cases r
    exact ⟨_, ReadsW.bool b⟩
  | .int i, _, _, x, r => by
    cases x
    obtain ⟨t, rfl⟩ := r
    exact ⟨_, ReadsW.int i t⟩
  | .str s, _, _, x, r => by
    cases x
    obtain ⟨t, rfl⟩ := r
    exact ⟨_, ReadsW.str s t⟩
  | .bytes b, _, _, x, r => by
    cases x
    obtain ⟨t, rfl⟩ := r
    exact ⟨_, ReadsW.bytes _ t⟩
  | .list ds, _, _, x, r => by
    cases x with
    | lst hs ha =>
      cases r
      obtain ⟨its, o, n, rv, ho, hc, hd⟩ := sqL_at hok KX hs
      obtain ⟨as, hr⟩ := Dw.readsAll hok KX ds _ its ha rv
      exact ⟨_, ReadsW.list ho hc hd hr⟩
  | .tuple ds, _, _, x, r => by
    cases x with
    | tup hs ha =>
      cases r
      obtain ⟨its, o, n, rv, ho, hc, hd⟩ := sqT_at hok KX hs
      obtain ⟨as, hr⟩ := Dw.readsAll hok KX ds _ its ha rv
      exact ⟨_, ReadsW.tuple ho hc hd hr⟩
  | .float _, _, _, x, _ => by cases x
  | .dict _, _, _, x, _ => by cases x
  | .bytearray _, _, _, x, _ => by cases x
  | .set _, _, _, x, _ => by cases x
  | .frozenset _, _, _, x, _ => by cases x
  | .obj _ _, _, _, x, _ => by cases x
theorem Dw.readsAll (hok : HOk P w H h) (KX : K.In h) : ∀ (ds : List WData) (vs : List V) (us : List Value), DwAll K H vs ds → Vals vs us → ∃ as, ReadsAllW R cl h us ds as
  | [], _, _, x, r => by
    cases x
    cases r
    exact ⟨_, ReadsAllW.nil⟩
  | d :: ds, _, _, x, r => by
    cases x with
    | cons h1 h2 =>
      cases r with
      | cons r1 r2 =>
        obtain ⟨as, q1⟩ := Dw.reads hok KX d _ _ h1 r1
        obtain ⟨bs, q2⟩ := Dw.readsAll hok KX ds _ _ h2 r2
        exact ⟨_, ReadsAllW.cons q1 q2⟩
end
end
mutual
/-- data that a codec tells -/
def plW : WData → Bool
  | .none => true
  | .bool _ => true
  | .int _ => true
  | .str _ => true
  | .bytes _ => true
  | .list xs => plWs xs
  | .tuple xs => plWs xs
  | _ => false
def plWs : List WData → Bool
  | [] => true
  | x :: r => plW x && plWs r
end
theorem plWs_map {α : Type} {f : α → WData} (h : ∀ a, plW (f a) = true) : ∀ l : List α, plWs (l.map f) = true
  | [] => rfl
  | x :: r => by
    show (plW (f x) && plWs (r.map f)) = true
    rw [h x, plWs_map h r] <;> rfl
theorem pl_enc : ∀ (c : Codec) (a : c.denote), plW (c.enc a) = true
  | .unit, _ => rfl
  | .bool, _ => rfl
  | .int _ _, _ => rfl
  | .nat _ _, _ => rfl
  | .u8, _ => rfl
  | .bytes _ _, _ => rfl
  | .text _ _ _ _, _ => rfl
  | .list _ _ c, a => plWs_map (fun x => pl_enc c x) a
  | .pair c d, a => by
    show (plW (c.enc a.1) && (plW (d.enc a.2) && true)) = true
    rw [pl_enc c a.1, pl_enc d a.2] <;> rfl
  | .triple c d e, a => by
    show (plW (c.enc a.1) && (plW (d.enc a.2.1) && (plW (e.enc a.2.2) && true))) = true
    rw [pl_enc c a.1, pl_enc d a.2.1, pl_enc e a.2.2] <;> rfl
  | .option c, none => rfl
  | .option c, some x => pl_enc c x
theorem pl_encAll : ∀ (cs : List Codec) (a : Codec.denoteAll cs), plWs (Codec.encAll cs a) = true
  | [], _ => rfl
  | c :: cs, a => by
    show (plW (c.enc a.1) && plWs (Codec.encAll cs a.2)) = true
    rw [pl_enc c a.1, pl_encAll cs a.2] <;> rfl
theorem weight_mem : ∀ {xs : List WData} {d : WData}, d ∈ xs → d.weight ≤ WData.weightAll xs
  | [], d, h => absurd h (by simp)
  | x :: r, d, h => by
    show d.weight ≤ x.weight + 1 + WData.weightAll r
    rcases List.mem_cons.mp h with e | m
    · rw [e]
      omega
    · have z := weight_mem m
      omega
def toV : Value → V
  | .none => .non
  | .bool b => .bl b
  | .int i _ => .int i
  | .str x _ => .str x
  | .bytes b _ => .byt b
  | .ref a => .ref a
  | _ => .non
def OkU (A : List Addr) : Value → Prop
  | .none => True
  | .bool _ => True
  | .int _ _ => True
  | .str _ _ => True
  | .bytes _ _ => True
  | .ref a => a ∈ A
  | _ => False
theorem OkU.mono {A B : List Addr} (h : ∀ a ∈ A, a ∈ B) : ∀ {u : Value}, OkU A u → OkU B u := fun {u} x => by
  cases u with
  | ref a => exact h a x
  | none => trivial
  | bool b => trivial
  | int i t => trivial
  | str s t => trivial
  | bytes b t => trivial
  | _ => exact False.elim x
theorem relV_toV {A : List Addr} {u : Value} (x : OkU A u) : RelV (toV u) u := by
  cases u with
  | ref a => rfl
  | none => rfl
  | bool b => rfl
  | int i t => exact ⟨t, rfl⟩
  | str s t => exact ⟨t, rfl⟩
  | bytes b t => exact ⟨t, rfl⟩
  | _ => exact False.elim x
theorem vals_toV {A : List Addr} : ∀ {vs : List Value}, (∀ u ∈ vs, OkU A u) → Vals (vs.map toV) vs
  | [], _ => .nil
  | u :: r, h => .cons (relV_toV (h u (List.mem_cons_self ..))) (vals_toV fun x hx => h x (List.mem_cons_of_mem _ hx))
def ArgOb (h : Heap) (A : List Addr) (a : Addr) : Prop := ∃ vs : List Value, vs.length ≤ sizeLine ∧ (∀ u ∈ vs, OkU A u) ∧
  (h.get? a = some { cls := .type "list", data := .seq vs.toArray } ∨ h.get? a = some { cls := .type "tuple", data := .seq vs.toArray })
theorem ArgOb.mono {h : Heap} {A B : List Addr} {a : Addr} (k : ∀ a ∈ A, a ∈ B) (x : ArgOb h A a) : ArgOb h B a := by
  obtain ⟨vs, h1, h2, h3⟩ := x
  exact ⟨vs, h1, fun u hu => (h2 u hu).mono k, h3⟩
theorem wellAll_len {P : Params} {h : Heap} : ∀ {vs : List Value} {ds : List WData}, WellAll P h vs ds → vs.length = ds.length
  | _, _, .nil => rfl
  | _, _, .cons _ b => by
    show _ + 1 = _ + 1
    rw [wellAll_len b]
theorem well_list {P : Params} {h : Heap} {v : Value} {ds : List WData} (x : Well P h v (.list ds)) : ∃ (a : Addr) (vs : List Value), v = .ref a ∧ h.get? a = some { cls := .type "list", data := .seq vs.toArray } ∧ WellAll P h vs ds := by
  cases x with
  | list ho hall => exact ⟨_, _, rfl, ho, hall⟩
theorem well_tuple {P : Params} {h : Heap} {v : Value} {ds : List WData} (x : Well P h v (.tuple ds)) : ∃ (a : Addr) (vs : List Value), v = .ref a ∧ h.get? a = some { cls := .type "tuple", data := .seq vs.toArray } ∧ WellAll P h vs ds := by
  cases x with
  | tuple ho hall => exact ⟨_, _, rfl, ho, hall⟩
theorem well_cons {P : Params} {h : Heap} {us : List Value} {d : WData} {ds : List WData} (x : WellAll P h us (d :: ds)) : ∃ (v : Value) (vs : List Value), us = v :: vs ∧ Well P h v d ∧ WellAll P h vs ds := by
  cases x with
  | cons a b => exact ⟨_, _, rfl, a, b⟩
theorem line_of {n : Nat} (h : n ≤ 1048576) : n ≤ sizeLine := Nat.le_trans h (by decide)
section
variable {P : Params} {h : Heap}
mutual
theorem area_one : ∀ (d : WData) (v : Value), Well P h v d → plW d = true → d.weight ≤ 1048576 → ∃ A : List Addr, OkU A v ∧ ∀ a ∈ A, ArgOb h A a
  | .none, _, x, _, _ => by
    cases x
    exact ⟨[], trivial, fun a m => absurd m (by simp)⟩
  | .bool b, _, x, _, _ => by
    cases x
    exact ⟨[], trivial, fun a m => absurd m (by simp)⟩
  | .int i, _, x, _, _ => by
    cases x
    exact ⟨[], trivial, fun a m => absurd m (by simp)⟩
  | .str s, _, x, _, _ => by
    cases x
    exact ⟨[], trivial, fun a m => absurd m (by simp)⟩
  | .bytes b, _, x, _, _ => by
    cases x
    exact ⟨[], trivial, fun a m => absurd m (by simp)⟩
  | .list ds, _, x, p, z => by
    obtain ⟨a, vs, rfl, ho, hall⟩ := well_list x
    have z2 : WData.weightAll ds ≤ 1048576 := z
    obtain ⟨A, h1, h2⟩ := area_all ds _ hall p fun d hd => Nat.le_trans (weight_mem hd) z2
    have k : ∀ b ∈ A, b ∈ a :: A := fun b hb => List.mem_cons_of_mem _ hb
    refine ⟨a :: A, List.mem_cons_self .., fun b hb => ?_⟩
    rcases List.mem_cons.mp hb with e | m
    · rw [e]
      exact ⟨vs, line_of (by rw [wellAll_len hall]; exact Nat.le_trans (PySem.W.length_le_weightAllW ds) z2), fun u hu => (h1 u hu).mono k, .inl ho⟩
    · exact (h2 b m).mono k
  | .tuple ds, _, x, p, z => by
    obtain ⟨a, vs, rfl, ho, hall⟩ := well_tuple x
    have z2 : WData.weightAll ds ≤ 1048576 := z
    obtain ⟨A, h1, h2⟩ := area_all ds _ hall p fun d hd => Nat.le_trans (weight_mem hd) z2
    have k : ∀ b ∈ A, b ∈ a :: A := fun b hb => List.mem_cons_of_mem _ hb
    refine ⟨a :: A, List.mem_cons_self .., fun b hb => ?_⟩
    rcases List.mem_cons.mp hb with e | m
    · rw [e]
      exact ⟨vs, line_of (by rw [wellAll_len hall]; exact Nat.le_trans (PySem.W.length_le_weightAllW ds) z2), fun u hu => (h1 u hu).mono k, .inr ho⟩
    · exact (h2 b m).mono k
  | .float _, _, _, p, _ => Bool.noConfusion (show false = true from p)
  | .dict _, _, _, p, _ => Bool.noConfusion (show false = true from p)
  | .bytearray _, _, _, p, _ => Bool.noConfusion (show false = true from p)
  | .set _, _, _, p, _ => Bool.noConfusion (show false = true from p)
  | .frozenset _, _, _, p, _ => Bool.noConfusion (show false = true from p)
  | .obj _ _, _, _, p, _ => Bool.noConfusion (show false = true from p)
theorem area_all : ∀ (ds : List WData) (vs : List Value), WellAll P h vs ds → plWs ds = true → (∀ d ∈ ds, d.weight ≤ 1048576) → ∃ A : List Addr, (∀ u ∈ vs, OkU A u) ∧ ∀ a ∈ A, ArgOb h A a
  | [], _, x, _, _ => by
    cases x
    exact ⟨[], fun u m => absurd m (by simp), fun a m => absurd m (by simp)⟩
  | d :: ds, _, x, p, z => by
    obtain ⟨v, vs, rfl, x1, x2⟩ := well_cons x
    have q : plW d = true ∧ plWs ds = true := Bool.and_eq_true_iff.mp p
    obtain ⟨A, a1, a2⟩ := area_one d v x1 q.1 (z d (List.mem_cons_self ..))
    obtain ⟨B, b1, b2⟩ := area_all ds vs x2 q.2 fun e he => z e (List.mem_cons_of_mem _ he)
    have kA : ∀ b ∈ A, b ∈ A ++ B := fun b hb => List.mem_append.mpr (.inl hb)
    have kB : ∀ b ∈ B, b ∈ A ++ B := fun b hb => List.mem_append.mpr (.inr hb)
    refine ⟨A ++ B, fun u hu => ?_, fun b hb => ?_⟩
    · rcases List.mem_cons.mp hu with e | m
      · rw [e]
        exact a1.mono kA
      · exact (b1 u m).mono kB
    · rcases List.mem_append.mp hb with m | m
      · exact (a2 b m).mono kA
      · exact (b2 b m).mono kB
end
end
def hoOf (o : Obj) : Option HO := match o.data with
  | .seq vs _ => if (o.cls == Value.type "list") = true then some (.frz o (.lst (vs.toList.map toV))) else some (.frz o (.tup (vs.toList.map toV)))
  | _ => none
def argH (K : PySem.W.Frag) (h : Heap) (A : List Addr) : Hp := fun b => if b ∈ A then (if (K.lookup b).isNone = true then (h.get? b).bind hoOf else none) else none
def OnlyF (H : Hp) : Prop := ∀ b, H b = none ∨ ∃ o u, H b = some (.frz o u)
theorem hoOf_lst (vs : List Value) : hoOf { cls := .type "list", data := .seq vs.toArray } = some (.frz { cls := .type "list", data := .seq vs.toArray } (.lst (vs.map toV))) := by
  show (if (Value.type "list" == Value.type "list") = true then some (HO.frz { cls := .type "list", data := .seq vs.toArray } (.lst (vs.toArray.toList.map toV))) else some (HO.frz { cls := .type "list", data := .seq vs.toArray } (.tup (vs.toArray.toList.map toV)))) = _
  rw [if_pos (beq_self_eq_true _)]
theorem hoOf_tup (vs : List Value) : hoOf { cls := .type "tuple", data := .seq vs.toArray } = some (.frz { cls := .type "tuple", data := .seq vs.toArray } (.tup (vs.map toV))) := by
  show (if (Value.type "tuple" == Value.type "list") = true then some (HO.frz { cls := .type "tuple", data := .seq vs.toArray } (.lst (vs.toArray.toList.map toV))) else some (HO.frz { cls := .type "tuple", data := .seq vs.toArray } (.tup (vs.toArray.toList.map toV)))) = _
  rw [if_neg (by decide)]
section
variable {P : Program} {w : World} {K : PySem.W.Frag} {h : Heap} {A : List Addr}
theorem argH_at {b : Addr} {o : Obj} (hb : b ∈ A) (hk : K.lookup b = none) (e : h.get? b = some o) : argH K h A b = hoOf o := by
  unfold argH
  rw [if_pos hb, hk, if_pos (show (none : Option Obj).isNone = true from rfl), e] <;> rfl
theorem of_argH {b : Addr} {u : HO} (q : argH K h A b = some u) : b ∈ A ∧ K.lookup b = none := by
  unfold argH at q
  by_cases hb : b ∈ A
  · rw [if_pos hb] at q
    cases hk : K.lookup b with
    | none => exact ⟨hb, rfl⟩
    | some o =>
      rw [hk, if_neg (by simp)] at q
      cases q
  · rw [if_neg hb] at q
    cases q
theorem argH_is (ar : ∀ a ∈ A, ArgOb h A a) {b : Addr} {u : HO} (q : argH K h A b = some u) : K.lookup b = none ∧ ∃ vs : List Value, vs.length ≤ sizeLine ∧ (∀ u ∈ vs, OkU A u) ∧
    ((h.get? b = some { cls := .type "list", data := .seq vs.toArray } ∧ u = .frz { cls := .type "list", data := .seq vs.toArray } (.lst (vs.map toV))) ∨
     (h.get? b = some { cls := .type "tuple", data := .seq vs.toArray } ∧ u = .frz { cls := .type "tuple", data := .seq vs.toArray } (.tup (vs.map toV)))) := by
  obtain ⟨hb, hk⟩ := of_argH q
  obtain ⟨vs, h1, h2, h3⟩ := ar b hb
  refine ⟨hk, vs, h1, h2, ?_⟩
  rcases h3 with e | e
  · rw [argH_at hb hk e, hoOf_lst] at q
    exact .inl ⟨e, (Option.some.inj q).symm⟩
  · rw [argH_at hb hk e, hoOf_tup] at q
    exact .inr ⟨e, (Option.some.inj q).symm⟩
theorem argH_only (ar : ∀ a ∈ A, ArgOb h A a) : OnlyF (argH K h A) := fun b => by
  cases q : argH K h A b with
  | none => exact .inl rfl
  | some u =>
    obtain ⟨_, vs, _, _, ⟨_, e⟩ | ⟨_, e⟩⟩ := argH_is ar q
    · exact .inr ⟨_, _, by rw [e]⟩
    · exact .inr ⟨_, _, by rw [e]⟩
theorem argH_ok (ar : ∀ a ∈ A, ArgOb h A a) : HOk P w (argH K h A) h := fun b u q => by
  obtain ⟨_, vs, h1, h2, ⟨e, rfl⟩ | ⟨e, rfl⟩⟩ := argH_is ar q
  · exact ⟨e, by rw [List.length_map]; exact h1, vs, _, vals_toV h2, e⟩
  · exact ⟨e, by rw [List.length_map]; exact h1, vs, vals_toV h2, _, e, rfl, _, rfl⟩
theorem seq_inj {c c' : Value} {vs us : List Value} (e : (some { cls := c, data := .seq vs.toArray } : Option Obj) = some { cls := c', data := .seq us.toArray }) : c = c' ∧ vs = us := by
  have e1 := Option.some.inj e
  have e2 : c = c' := congrArg Obj.cls e1
  have e3 : Data.seq vs.toArray = Data.seq us.toArray := congrArg Obj.data e1
  injection e3 with e4
  refine ⟨e2, ?_⟩
  have e5 := congrArg Array.toList e4
  simpa using e5
theorem argL (KX : K.In h) (ar : ∀ a ∈ A, ArgOb h A a) {a : Addr} {vs : List Value} (ha : a ∈ A) (e : h.get? a = some { cls := .type "list", data := .seq vs.toArray }) : (∀ u ∈ vs, OkU A u) ∧ SqL K (argH K h A) a (vs.map toV) := by
  obtain ⟨us, h1, h2, h3⟩ := ar a ha
  have hu : us = vs := by
    rcases h3 with q | q
    · rw [e] at q
      exact (seq_inj q).2.symm
    · rw [e] at q
      exact absurd (Value.type.inj (seq_inj q).1) (by decide)
  subst hu
  refine ⟨h2, ?_⟩
  cases hk : K.lookup a with
  | none => exact .inl (.inr ⟨_, by rw [argH_at ha hk e, hoOf_lst]⟩)
  | some o =>
    have e2 := KX a o hk
    rw [e] at e2
    obtain rfl := Option.some.inj e2
    exact .inr ⟨_, us.toArray, _, hk, rfl, rfl, rfl, by rw [List.size_toArray]; exact h1, by simpa using vals_toV h2⟩
theorem argT (KX : K.In h) (ar : ∀ a ∈ A, ArgOb h A a) {a : Addr} {vs : List Value} (ha : a ∈ A) (e : h.get? a = some { cls := .type "tuple", data := .seq vs.toArray }) : (∀ u ∈ vs, OkU A u) ∧ SqT K (argH K h A) a (vs.map toV) := by
  obtain ⟨us, h1, h2, h3⟩ := ar a ha
  have hu : us = vs := by
    rcases h3 with q | q
    · rw [e] at q
      exact absurd (Value.type.inj (seq_inj q).1) (by decide)
    · rw [e] at q
      exact (seq_inj q).2.symm
  subst hu
  refine ⟨h2, ?_⟩
  cases hk : K.lookup a with
  | none => exact .inl (.inr ⟨_, by rw [argH_at ha hk e, hoOf_tup]⟩)
  | some o =>
    have e2 := KX a o hk
    rw [e] at e2
    obtain rfl := Option.some.inj e2
    exact .inr ⟨_, us.toArray, _, hk, rfl, rfl, by rw [List.size_toArray]; exact h1, by simpa using vals_toV h2⟩
mutual
theorem dw_one {Pm : Params} (KX : K.In h) (ar : ∀ a ∈ A, ArgOb h A a) : ∀ (d : WData) (v : Value), Well Pm h v d → plW d = true → OkU A v → Dw K (argH K h A) (toV v) d
  | .none, _, x, _, _ => by
    cases x
    exact .non
  | .bool b, _, x, _, _ => by
    cases x
    exact .bl b
  | .int i, _, x, _, _ => by
    cases x
    exact .int i
  | .str s, _, x, _, _ => by
    cases x
    exact .str s
  | .bytes b, _, x, _, _ => by
    cases x
    have z := Dw.byt (K := K) (H := argH K h A) b.toArray
    exact z
  | .list ds, _, x, p, hu => by
    obtain ⟨a, vs, rfl, ho, hall⟩ := well_list x
    obtain ⟨h2, hs⟩ := argL KX ar hu ho
    exact .lst hs (dw_all KX ar ds _ hall p h2)
  | .tuple ds, _, x, p, hu => by
    obtain ⟨a, vs, rfl, ho, hall⟩ := well_tuple x
    obtain ⟨h2, hs⟩ := argT KX ar hu ho
    exact .tup hs (dw_all KX ar ds _ hall p h2)
  | .float _, _, _, p, _ => Bool.noConfusion (show false = true from p)
  | .dict _, _, _, p, _ => Bool.noConfusion (show false = true from p)
  | .bytearray _, _, _, p, _ => Bool.noConfusion (show false = true from p)
  | .set _, _, _, p, _ => Bool.noConfusion (show false = true from p)
  | .frozenset _, _, _, p, _ => Bool.noConfusion (show false = true from p)
  | .obj _ _, _, _, p, _ => Bool.noConfusion (show false = true from p)
theorem dw_all {Pm : Params} (KX : K.In h) (ar : ∀ a ∈ A, ArgOb h A a) : ∀ (ds : List WData) (vs : List Value), WellAll Pm h vs ds → plWs ds = true → (∀ u ∈ vs, OkU A u) → DwAll K (argH K h A) (vs.map toV) ds
  | [], _, x, _, _ => by
    cases x
    exact .nil
  | d :: ds, _, x, p, hu => by
    obtain ⟨v, vs, rfl, x1, x2⟩ := well_cons x
    have q : plW d = true ∧ plWs ds = true := Bool.and_eq_true_iff.mp p
    exact .cons (dw_one KX ar d v x1 q.1 (hu _ (List.mem_cons_self ..))) (dw_all KX ar ds vs x2 q.2 fun u m => hu u (List.mem_cons_of_mem _ m))
end
end
theorem spec_call {P : Program} {w : World} {K : PySem.W.Frag} {mg mb : Str → Option Value} {CX : CXT} {k : Nat} {fa : Addr} {fd : FuncData} {ps : List Str} {sp : Sp} {s₁ : Shared} {vals : List Value} {ds : List WData} {R : PySem.W.WRecords} {cl : Str → Option Addr} {d0 : WData}
    (KX : K.In s₁.heap) (hns : s₁.heap.Ns mainGlobals mg) (hb : s₁.heap.Ns builtinsNs mb) (hbb : ∀ x : Str, x ≠ "__name__" → mb x = bootBuiltins x) (hlim : s₁.heap.NoLimit) (hg : s₁.gens = #[])
    (hwl : WellAll w.params s₁.heap vals ds) (hpl : plWs ds = true) (hwt : ∀ d ∈ ds, d.weight ≤ 1048576) (hr : Room k callerA)
    (F : ∀ base : Heap, K.In base → base.Ns mainGlobals mg → FnOk P w K mg base CX k fa fd ps sp) (hbind : ∀ (s : Shared) (us : List Value), us.length = ps.length → BindsTo s fd ⟨us, []⟩ (ps.zip us)) (hlen : ds.length = ps.length)
    (hsp : ∀ (H : Hp) (xs : List V), OnlyF H → DwAll K H xs ds → sp xs H (fun v H' => Dw K H' v d0) fun _ _ _ => False)
    (hCX : ∀ H e s', CX [] H s₁ (fun _ _ _ => False) e s' → False) :
    codeAny (model P w) callerA (.call (.ref fa) ⟨vals, []⟩) (fun r s' => ∃ u as, r = .ok (.ret u) ∧ ReadsW R cl s'.heap u d0 as ∧ OldK s₁.heap s'.heap ∧ s'.os = s₁.os ∧ AllBare s'.gens) s₁ := by
  obtain ⟨A, ho, ar⟩ := area_all ds vals hwl hpl hwt
  have hO : OnlyF (argH K s₁.heap A) := argH_only ar
  have hok : HOk P w (argH K s₁.heap A) s₁.heap := argH_ok ar
  have hS := dw_all KX ar ds vals hwl hpl ho
  have hV := vals_toV ho
  have hK : ∀ b u, argH K s₁.heap A b = some u → K.lookup b = none := fun b u q => (argH_is ar q).1
  have noA : ∀ {b : Addr} {o : Obj} {es : Array DictEntry} {ep : Nat}, s₁.heap.get? b = some o → o.data = .dict es ep → argH K s₁.heap A b = none := fun {b o es ep} e d => by
    cases q : argH K s₁.heap A b with
    | none => rfl
    | some u =>
      obtain ⟨_, vs, _, _, ⟨e2, _⟩ | ⟨e2, _⟩⟩ := argH_is ar q
      · rw [e2] at e
        cases e
        have d' : Data.seq vs.toArray _ = Data.dict es ep := d
        cases d'
      · rw [e2] at e
        cases e
        have d' : Data.seq vs.toArray _ = Data.dict es ep := d
        cases d'
  generalize argH K s₁.heap A = H at hO hok hS hK noA
  have base_of : ∀ {b : Addr} {o : Obj}, s₁.heap.get? b = some o → H b = none → (hidT s₁.heap H).get? b = some o := fun e n => hidT_get e n
  have nsK : ∀ {b : Addr} {m : Str → Option Value}, s₁.heap.Ns b m → (hidT s₁.heap H).Ns b m := fun {b m} ⟨o, es, ep, e, d, r⟩ => ⟨o, es, ep, base_of e (noA e d), d, r⟩
  have nK : ∀ b o, K.lookup b = some o → H b = none := fun b o e => by
    cases q : H b with
    | none => rfl
    | some u =>
      rw [hK b u q] at e
      cases e
  have hKb : K.In (hidT s₁.heap H) := fun b o e => base_of (KX b o e) (nK b o e)
  have hM : Mod K mg (hidT s₁.heap H) := ⟨hKb, nsK hns, ⟨mb, nsK hb, hbb⟩, let ⟨mc, h1, h2⟩ := hlim; ⟨mc, nsK h1, h2⟩⟩
  have e0 : Env0 P w K mg (hidT s₁.heap H) callerA [] s₁ H := ⟨rfl, hM, fun b o e => of_hidT e, Nat.le_of_eq (hidT_size _ _), trivial, fun b hb => absurd (show b ∈ ([] : List Addr) from hb) (by simp), hok, .of_eq hg⟩
  have hl : vals.length = ps.length := by rw [wellAll_len hwl]; exact hlen
  refine codeAny_mono ((F _ hKb (nsK hns)).run callerA [] s₁ H ⟨vals, []⟩ vals (vals.map toV) _ _ hr e0 (hbind s₁ vals hl) hV (hsp H _ hO hS)) fun r s' x => ?_
  cases r with
  | error e => exact (hCX H e s' x).elim
  | ok fl =>
    cases fl with
    | next => exact False.elim x
    | brk => exact False.elim x
    | cont => exact False.elim x
    | ret u =>
      obtain ⟨v, H', os, bare, un, hok', r', q⟩ := x
      have kept : ∀ b o, s₁.heap.get? b = some o → s'.heap.get? b = some o := fun b o e => by
        cases q2 : H b with
        | none => exact un.keep b o e q2 (by intro z; exact absurd (show b ∈ ([] : List Addr) from z) (by simp)) (by simp)
        | some u2 =>
          rcases hO b with z | ⟨ob, u3, z⟩
          · rw [q2] at z
            cases z
          · have z2 := un.frzs b ob _ z
            obtain ⟨e1, _⟩ := hok b _ z
            obtain ⟨e2, _⟩ := hok' b _ z2
            rw [e] at e1
            cases e1
            exact e2
      have KX' : K.In s'.heap := fun b o e => kept b o (KX b o e)
      obtain ⟨as, hrd⟩ := Dw.reads (R := R) (cl := cl) hok' KX' d0 v u q r'
      exact ⟨u, as, rfl, hrd, OldK.of_keep kept, os, bare⟩
theorem layable_weight {ds : List WData} (h : WData.layableAll ds = true) : ∀ d ∈ ds, d.weight ≤ 1048576 := fun d hd =>
  (PySem.W.layableW_iff.mp (List.all_eq_true.mp h d hd)).2.2
theorem encAll_len : ∀ (cs : List Codec) (a : Codec.denoteAll cs), (Codec.encAll cs a).length = cs.length
  | [], _ => rfl
  | c :: cs, a => by
    show (Codec.encAll cs a.2).length + 1 = cs.length + 1
    rw [encAll_len cs a.2]
theorem walk_spec {r : OpenSpec} {k : Nat} {q : Program} {loose : List Str} {XP : (Str → Option Value) → Heap → Prop} {YP : World → Heap → Prop} {d : DefRec} {K : Params → PySem.W.Frag} {CX : World → CXT} {ps : List Str} {sp : World → Sp}
    (hwell : r.wellSaid = true) (hdf : d.params.defaults = []) (hlen : r.args.length = ps.length) (hr : Room k callerA)
    (hY : ∀ (w : World) (h : Heap), YP w h → (K w.params).In h)
    (F : ∀ (w : World) (mg : Str → Option Value) (fa : Addr) (h : Heap), YP w h → (K w.params).In h → h.Ns mainGlobals mg → mg d.name = some (.ref fa) →
      ∃ fd : FuncData, (∀ (s : Shared) (us : List Value), us.length = ps.length → BindsTo s fd ⟨us, []⟩ (ps.zip us)) ∧
        ∀ base : Heap, (K w.params).In base → base.Ns mainGlobals mg → FnOk r.prog w (K w.params) mg base (CX w) k fa fd ps (sp w))
    (hsp : ∀ (w : World) (H : Hp) (xs : List V) (a : Codec.denoteAll r.args), OnlyF H → Codec.withinAll r.args a = true → Codec.app r.args r.asked a = true → DwAll (K w.params) H xs (Codec.encAll r.args a) →
      sp w xs H (fun v H' => Dw (K w.params) H' v (r.ret.enc (Codec.app r.args r.f a))) fun _ _ _ => False)
    (hCX : ∀ (w : World) (H : Hp) (s : Shared) (e : Value) (s' : Shared), CX w [] H s (fun _ _ _ => False) e s' → False) :
    PySem.W.WalkOS q loose XP YP r d [] (fun f vs => PySem.call f vs) := by
  intro w s_0 s₁ mg mb G Y fa o pm cd doc dV kV ho hd hcd hD hmg hg args vals as hpre hlay hrd hwl hlo
  obtain ⟨a, e1, e2⟩ := PySem.W.os_pre_some hpre
  obtain ⟨e3, hwi⟩ := Codec.encAll_of_decAll r.args args a e1
  subst e3
  have KX := hY w _ Y
  obtain ⟨fd, hb, hF⟩ := F w mg fa _ Y KX G.T.g hmg
  refine PySem.W.enter_call (codeAny_mono (spec_call (R := []) (cl := classAt s_0.heap) (d0 := r.ret.enc (Codec.app r.args r.f a)) KX G.T.g G.T.b G.T.builtins G.T.nolimit hg hwl (pl_encAll _ _) (layable_weight hlay) hr hF hb (by rw [encAll_len]; exact hlen)
    (fun H xs hO hS => hsp w H xs a hO hwi e2 hS) fun H e s' => hCX w H s₁ e s') fun r' s' hq => ?_)
  obtain ⟨u, as', rfl, h1, h2, h3, h4⟩ := hq
  exact ⟨.inl ⟨u, _, as', rfl, fun _ => rfl, h1, (OpenSpec.post_iff hwell hwi _ _).mpr rfl, fun z => Bool.noConfusion (show false = true from z)⟩, h2, h3, h4⟩
theorem walk_specK {r : OpenSpec} {k : Nat} {q : Program} {loose : List Str} {XP : (Str → Option Value) → Heap → Prop} {YP : World → Heap → Prop} {d : DefRec} {K : Params → PySem.W.Frag} {CX : CXT} {ps : List Str} {sp : PySem.W.Frag → Sp}
    (hwell : r.wellSaid = true) (hdf : d.params.defaults = []) (hlen : r.args.length = ps.length) (hr : Room k callerA)
    (hY : ∀ (w : World) (h : Heap), YP w h → (K w.params).In h)
    (F : ∀ (w : World) (mg : Str → Option Value) (fa : Addr) (h : Heap), YP w h → (K w.params).In h → h.Ns mainGlobals mg → mg d.name = some (.ref fa) →
      ∃ fd : FuncData, (∀ (s : Shared) (us : List Value), us.length = ps.length → BindsTo s fd ⟨us, []⟩ (ps.zip us)) ∧
        ∀ base : Heap, (K w.params).In base → base.Ns mainGlobals mg → FnOk r.prog w (K w.params) mg base CX k fa fd ps (sp (K w.params)))
    (hsp : ∀ (K : PySem.W.Frag) (H : Hp) (xs : List V) (a : Codec.denoteAll r.args), OnlyF H → Codec.withinAll r.args a = true → Codec.app r.args r.asked a = true → DwAll K H xs (Codec.encAll r.args a) →
      sp K xs H (fun v H' => Dw K H' v (r.ret.enc (Codec.app r.args r.f a))) fun _ _ _ => False)
    (hCX : ∀ (H : Hp) (s : Shared) (e : Value) (s' : Shared), CX [] H s (fun _ _ _ => False) e s' → False) :
    PySem.W.WalkOS q loose XP YP r d [] (fun f vs => PySem.call f vs) :=
  walk_spec (K := K) (CX := fun _ => CX) (sp := fun w => sp (K w.params)) hwell hdf hlen hr hY F (fun w H xs a h1 h2 h3 h4 => hsp (K w.params) H xs a h1 h2 h3 h4) fun _ H s e s' => hCX H s e s'
end L2
end

set_option Elab.async false
namespace PM
open Plait

/-! ### motions: the places from which each place of the moved panel comes -/
def idxMirror (w h : Nat) : List Nat :=
  ((List.range h).flatMap fun y => (List.range (w - 1)).map fun x => y * (w - 1) + (w - 2 - x)) ++
  ((List.range (h - 1)).flatMap fun y => (List.range w).map fun x => (w - 1) * h + (y * w + (w - 1 - x)))
def idxTurn (w h : Nat) : List Nat :=
  ((List.range w).flatMap fun y => (List.range (h - 1)).map fun x => (w - 1) * h + ((h - 2 - x) * w + y)) ++
  ((List.range (w - 1)).flatMap fun y => (List.range h).map fun x => (h - 1 - x) * (w - 1) + y)
def cnt (w h : Nat) : Nat := (w - 1) * h + w * (h - 1)
def mirrorP (D : Panel) : Panel := ⟨D.wide, D.high, (idxMirror D.wide D.high).map D.state⟩
def turnP (D : Panel) : Panel := ⟨D.high, D.wide, (idxTurn D.wide D.high).map D.state⟩
def turnsP : Nat → Panel → Panel
  | 0, D => D
  | n + 1, D => turnsP n (turnP D)
def movedP (D : Panel) (m : Nat) : Panel := turnsP (m % 4) (if 4 ≤ m then mirrorP D else D)
def miF (w h p : Nat) : Nat :=
  if p < (w - 1) * h then (p / (w - 1)) * (w - 1) + (w - 2 - p % (w - 1))
  else (w - 1) * h + (((p - (w - 1) * h) / w) * w + (w - 1 - (p - (w - 1) * h) % w))
def tiF (w h p : Nat) : Nat :=
  if p < (h - 1) * w then (w - 1) * h + ((h - 2 - p % (h - 1)) * w + p / (h - 1))
  else (h - 1 - (p - (h - 1) * w) % h) * (w - 1) + (p - (h - 1) * w) / h
def srcTurns : Nat → Nat → Nat → Nat → Nat
  | 0, _, _, p => p
  | n + 1, w, h, p => tiF w h (srcTurns n h w p)
def srcM (m w h p : Nat) : Nat := if 4 ≤ m then miF w h (srcTurns (m % 4) w h p) else srcTurns (m % 4) w h p

def chkM (w h m : Nat) : Bool :=
  (List.range (cnt w h)).all fun p =>
    Nat.blt (srcM m w h p) (cnt w h) && (Nat.beq ((bare w h).moveP m (srcM m w h p)) p) && Nat.blt ((bare w h).moveP m p) (cnt w h) && (Nat.beq (srcM m w h ((bare w h).moveP m p)) p)
def chkT (w h : Nat) : Bool := (idxTurn w h == (List.range (cnt w h)).map (tiF w h)) && (idxMirror w h == (List.range (cnt w h)).map (miF w h)) &&
  (List.range (cnt w h)).all fun p => Nat.blt (tiF w h p) (cnt w h) && Nat.blt (miF w h p) (cnt w h)
def chkAll : Bool := (List.range 8).all fun w => (List.range 8).all fun h => chkT (w + 1) (h + 1) && (List.range 8).all fun m => chkM (w + 1) (h + 1) m
set_option maxRecDepth 100000 in
theorem chk_ok : chkAll = true := by decide +kernel
end PM

set_option Elab.async false
namespace PM
open Plait

/-- a right panel -/
structure Right (D : Panel) : Prop where
  w1 : 1 ≤ D.wide
  w8 : D.wide ≤ 8
  h1 : 1 ≤ D.high
  h8 : D.high ≤ 8
  len : D.places.length = cnt D.wide D.high
  le2 : ∀ z ∈ D.places, z ≤ 2

theorem chk_at {w h : Nat} (hw1 : 1 ≤ w) (hw8 : w ≤ 8) (hh1 : 1 ≤ h) (hh8 : h ≤ 8) : chkT w h = true ∧ ∀ m, m < 8 → chkM w h m = true := by
  have e := chk_ok
  unfold chkAll at e
  rw [List.all_eq_true] at e
  have e1 := e (w - 1) (by rw [List.mem_range]; omega)
  rw [List.all_eq_true] at e1
  have e2 := e1 (h - 1) (by rw [List.mem_range]; omega)
  rw [show w - 1 + 1 = w from by omega, show h - 1 + 1 = h from by omega, Bool.and_eq_true, List.all_eq_true] at e2
  exact ⟨e2.1, fun m hm => e2.2 m (List.mem_range.mpr hm)⟩
theorem chkM_at {w h m p : Nat} (c : chkM w h m = true) (hp : p < cnt w h) : srcM m w h p < cnt w h ∧ (bare w h).moveP m (srcM m w h p) = p ∧ (bare w h).moveP m p < cnt w h ∧ srcM m w h ((bare w h).moveP m p) = p := by
  unfold chkM at c
  rw [List.all_eq_true] at c
  have e := c p (List.mem_range.mpr hp)
  simp only [Bool.and_eq_true, Nat.blt_eq, Nat.beq_eq] at e
  exact ⟨e.1.1.1, e.1.1.2, e.1.2, e.2⟩
theorem chkT_at {w h : Nat} (c : chkT w h = true) : idxTurn w h = (List.range (cnt w h)).map (tiF w h) ∧ idxMirror w h = (List.range (cnt w h)).map (miF w h) ∧ ∀ p, p < cnt w h → tiF w h p < cnt w h ∧ miF w h p < cnt w h := by
  unfold chkT at c
  simp only [Bool.and_eq_true, List.all_eq_true, beq_iff_eq, Nat.blt_eq, List.mem_range] at c
  exact ⟨c.1.1, c.1.2, c.2⟩
theorem cnt_swap (w h : Nat) : cnt h w = cnt w h := by
  unfold cnt
  rw [Nat.mul_comm (h - 1) w, Nat.mul_comm h (w - 1)]; omega
theorem moveP_bare (D : Panel) (m p : Nat) : D.moveP m p = (bare D.wide D.high).moveP m p := rfl
theorem idxOf_map_range {f : Nat → Nat} {n q p : Nat} (hq : q < n) (e : f q = p) (inj : ∀ i, i < n → f i = p → i = q) : ((List.range n).map f).idxOf p = q := by
  have hm : p ∈ (List.range n).map f := List.mem_map.mpr ⟨q, List.mem_range.mpr hq, e⟩
  have hl : ((List.range n).map f).idxOf p < ((List.range n).map f).length := List.idxOf_lt_length_of_mem hm
  have hg := List.getElem_idxOf hl
  rw [List.getElem_map, List.getElem_range] at hg
  rw [List.length_map, List.length_range] at hl
  exact inj _ hl hg
theorem state_map {l : List Nat} {f : Nat → Nat} {w h n p : Nat} (e : l = (List.range n).map f) (hp : p < n) : (Panel.mk w h l).state p = f p := by
  unfold Panel.state
  rw [e, List.getD_eq_getElem?_getD]
  simp [hp]
theorem count_eq (D : Panel) : D.count = cnt D.wide D.high := rfl
/-- the turned panels, place by place -/
theorem turns_src : ∀ (n : Nat) (D : Panel), 1 ≤ D.wide → D.wide ≤ 8 → 1 ≤ D.high → D.high ≤ 8 → D.places.length = cnt D.wide D.high →
    (turnsP n D).wide = (if n % 2 = 1 then D.high else D.wide) ∧ (turnsP n D).high = (if n % 2 = 1 then D.wide else D.high) ∧
    (turnsP n D).places = (List.range (cnt D.wide D.high)).map (fun p => D.state (srcTurns n D.wide D.high p)) ∧ ∀ p, p < cnt D.wide D.high → srcTurns n D.wide D.high p < cnt D.wide D.high
  | 0, D, _, _, _, _, hl => by
    refine ⟨rfl, rfl, ?_, fun p hp => hp⟩
    show D.places = _
    apply List.ext_getElem
    · rw [hl, List.length_map, List.length_range]
    · intro i h1 h2
      rw [List.getElem_map, List.getElem_range]
      show _ = D.places.getD i 1
      rw [List.getD_eq_getElem?_getD, List.getElem?_eq_getElem h1]; rfl
  | n + 1, D, a, b, c, d, hl => by
    have ct := chkT_at (chk_at a b c d).1
    have e : (turnP D).places = (List.range (cnt D.wide D.high)).map (fun p => D.state (tiF D.wide D.high p)) := by
      show (idxTurn D.wide D.high).map D.state = _
      rw [ct.1, List.map_map]; rfl
    have hs := cnt_swap D.wide D.high
    have hl2 : (turnP D).places.length = cnt (turnP D).wide (turnP D).high := by
      show _ = cnt D.high D.wide
      rw [e, List.length_map, List.length_range, hs]
    obtain ⟨i1, i2, i3, i4⟩ := turns_src n (turnP D) c d a b hl2
    have hw : (turnP D).wide = D.high := rfl
    have hh : (turnP D).high = D.wide := rfl
    rw [hw, hh, hs] at i3 i4
    refine ⟨?_, ?_, ?_, fun p hp => (ct.2.2 _ (i4 p hp)).1⟩
    · show (turnsP n (turnP D)).wide = _
      rw [i1, hw, hh]
      have : n % 2 = 0 ∨ n % 2 = 1 := by omega
      rcases this with z | z
      · rw [if_neg (by omega), if_pos (by omega)]
      · rw [if_pos z, if_neg (by omega)]
    · show (turnsP n (turnP D)).high = _
      rw [i2, hw, hh]
      have : n % 2 = 0 ∨ n % 2 = 1 := by omega
      rcases this with z | z
      · rw [if_neg (by omega), if_pos (by omega)]
      · rw [if_pos z, if_neg (by omega)]
    · show (turnsP n (turnP D)).places = _
      rw [i3]
      apply List.map_congr_left
      intro p hp
      rw [List.mem_range] at hp
      exact state_map (w := D.high) (h := D.wide) e (i4 p hp)
theorem moved_eq {D : Panel} (R : Right D) {m : Nat} (hm : m < 8) : D.moved m = movedP D m := by
  have hc := chk_at R.w1 R.w8 R.h1 R.h8
  have cm := fun p hp => chkM_at (p := p) (hc.2 m hm) hp
  have ct := chkT_at hc.1
  have key : ∀ (E : Panel) (_ : E.wide = D.wide) (_ : E.high = D.high) (_ : E.places.length = cnt D.wide D.high) (_ : ∀ p, p < cnt D.wide D.high → E.state (srcTurns (m % 4) D.wide D.high p) = D.state (srcM m D.wide D.high p)), D.moved m = turnsP (m % 4) E := by
    intro E ew eh el es
    obtain ⟨t1, t2, t3, t4⟩ := turns_src (m % 4) E (by rw [ew]; exact R.w1) (by rw [ew]; exact R.w8) (by rw [eh]; exact R.h1) (by rw [eh]; exact R.h8) (by rw [ew, eh]; exact el)
    rw [ew, eh] at t1 t2 t3
    have hmm : m % 4 % 2 = m % 2 := by omega
    rw [hmm] at t1 t2
    have e3 : (D.moved m).places = (turnsP (m % 4) E).places := by
      rw [t3]
      show (List.range D.count).map _ = _
      rw [count_eq]
      apply List.map_congr_left
      intro p hp
      rw [List.mem_range] at hp
      obtain ⟨c1, c2, c3, c4⟩ := cm p hp
      rw [es p hp]
      congr 1
      refine idxOf_map_range c1 c2 fun i hi e => ?_
      have c5 := (cm i hi).2.2.2
      rw [← c5]
      exact congrArg _ e
    have e1 : (D.moved m).wide = (turnsP (m % 4) E).wide := by rw [t1]; rfl
    have e2 : (D.moved m).high = (turnsP (m % 4) E).high := by rw [t2]; rfl
    cases hA : D.moved m
    cases hB : turnsP (m % 4) E
    rw [hA, hB] at e1 e2 e3
    simp only at e1 e2 e3
    rw [e1, e2, e3]
  unfold movedP
  by_cases h4 : 4 ≤ m
  · rw [if_pos h4]
    have e : (mirrorP D).places = (List.range (cnt D.wide D.high)).map (fun p => D.state (miF D.wide D.high p)) := by
      show (idxMirror D.wide D.high).map D.state = _
      rw [ct.2.1, List.map_map]; rfl
    refine key (mirrorP D) rfl rfl (by rw [e, List.length_map, List.length_range]) fun p hp => ?_
    have hs : ∀ n p w h, 1 ≤ w → w ≤ 8 → 1 ≤ h → h ≤ 8 → p < cnt w h → srcTurns n w h p < cnt w h := by
      intro n
      induction n with
      | zero => intro p w h _ _ _ _ hp; exact hp
      | succ n ih =>
        intro p w h a b c d hp
        have z := ih p h w c d a b (by rw [cnt_swap]; exact hp)
        rw [cnt_swap] at z
        exact ((chkT_at (chk_at a b c d).1).2.2 _ z).1
    refine (state_map (w := D.wide) (h := D.high) e (hs _ _ _ _ R.w1 R.w8 R.h1 R.h8 hp)).trans ?_
    unfold srcM
    rw [if_pos h4]
  · rw [if_neg h4]
    refine key D rfl rfl R.len fun p _ => ?_
    unfold srcM
    rw [if_neg h4]
theorem idx_len {w h : Nat} (hw1 : 1 ≤ w) (hw8 : w ≤ 8) (hh1 : 1 ≤ h) (hh8 : h ≤ 8) : (idxTurn w h).length = cnt w h ∧ (idxMirror w h).length = cnt w h := by
  have ct := chkT_at (chk_at hw1 hw8 hh1 hh8).1
  rw [ct.1, ct.2.1]; simp
theorem state_le {D : Panel} (h : ∀ z ∈ D.places, z ≤ 2) (p : Nat) : D.state p ≤ 2 := by
  unfold Panel.state
  rw [List.getD_eq_getElem?_getD]
  cases e : D.places[p]? with
  | none => simp
  | some z => exact h z (List.mem_of_getElem? e)
theorem Right.turn {D : Panel} (R : Right D) : Right (turnP D) := by
  refine ⟨R.h1, R.h8, R.w1, R.w8, ?_, ?_⟩
  · show ((idxTurn D.wide D.high).map D.state).length = cnt D.high D.wide
    rw [List.length_map, (idx_len R.w1 R.w8 R.h1 R.h8).1, cnt_swap]
  · intro z hz
    obtain ⟨p, _, rfl⟩ := List.mem_map.mp hz
    exact state_le R.le2 p
theorem Right.mirror {D : Panel} (R : Right D) : Right (mirrorP D) := by
  refine ⟨R.w1, R.w8, R.h1, R.h8, ?_, ?_⟩
  · show ((idxMirror D.wide D.high).map D.state).length = cnt D.wide D.high
    rw [List.length_map, (idx_len R.w1 R.w8 R.h1 R.h8).2]
  · intro z hz
    obtain ⟨p, _, rfl⟩ := List.mem_map.mp hz
    exact state_le R.le2 p
theorem Right.turns : ∀ (n : Nat) {D : Panel}, Right D → Right (turnsP n D)
  | 0, _, R => R
  | n + 1, _, R => Right.turns n R.turn
theorem Right.movedP {D : Panel} (R : Right D) (m : Nat) : Right (movedP D m) := by
  unfold PM.movedP
  split
  · exact R.mirror.turns _
  · exact R.turns _
theorem Right.moved {D : Panel} (R : Right D) {m : Nat} (hm : m < 8) : Right (D.moved m) := by
  rw [moved_eq R hm]; exact R.movedP m
theorem Right.set {D : Panel} (R : Right D) {p z : Nat} (hz : z ≤ 2) : Right (D.set p z) := by
  refine ⟨R.w1, R.w8, R.h1, R.h8, ?_, ?_⟩
  · show (D.places.set p z).length = _
    rw [List.length_set]; exact R.len
  · intro y hy
    rcases List.mem_or_eq_of_mem_set hy with h | h
    · exact R.le2 y h
    · omega
end PM

set_option Elab.async false
namespace PM
open Plait

/-! ### walks over the ends -/
theorem pigeon : ∀ (N : Nat) (f : Nat → Nat), (∀ i, i ≤ N → f i < N) → ∃ a b, a < b ∧ b ≤ N ∧ f a = f b
  | 0, f, h => absurd (h 0 (Nat.le_refl _)) (by omega)
  | N + 1, f, h => by
    by_cases hc : ∃ a, a ≤ N ∧ f a = f (N + 1)
    · obtain ⟨a, ha, e⟩ := hc
      exact ⟨a, N + 1, by omega, Nat.le_refl _, e⟩
    · have hne : ∀ a, a ≤ N → f a ≠ f (N + 1) := fun a ha e => hc ⟨a, ha, e⟩
      have hv := h (N + 1) (Nat.le_refl _)
      obtain ⟨a, b, hab, hb, e⟩ := pigeon N (fun i => if f i = N then f (N + 1) else f i) (fun i hi => by
        have h1 := h i (by omega)
        have h2 := hne i hi
        show (if f i = N then f (N + 1) else f i) < N
        split <;> omega)
      refine ⟨a, b, hab, by omega, ?_⟩
      have ea := hne a (by omega)
      have eb := hne b hb
      have e' : (if f a = N then f (N + 1) else f a) = (if f b = N then f (N + 1) else f b) := e
      split at e' <;> split at e' <;> omega
theorem least_ex {P : Nat → Prop} : ∀ n, P n → ∃ r, r ≤ n ∧ P r ∧ ∀ s, s < r → ¬ P s := by
  intro n
  induction n using Nat.strongRecOn with
  | _ n ih =>
    intro hn
    by_cases hc : ∃ s, s < n ∧ P s
    · obtain ⟨s, hs, ps⟩ := hc
      obtain ⟨r, h1, h2, h3⟩ := ih s hs ps
      exact ⟨r, by omega, h2, h3⟩
    · exact ⟨n, Nat.le_refl _, hn, fun s hs ps => hc ⟨s, hs, ps⟩⟩

theorem oe_lt {N e : Nat} (h : e < 2 * N) : otherEnd e < 2 * N := by unfold otherEnd; split <;> omega
theorem oe_oe (e : Nat) : otherEnd (otherEnd e) = e := by unfold otherEnd; split <;> split <;> omega
theorem oe_ne (e : Nat) : otherEnd e ≠ e := by unfold otherEnd; split <;> omega
theorem oe_piece (e : Nat) : otherEnd e / 2 = e / 2 := by unfold otherEnd; split <;> omega
theorem piece_cases {e f : Nat} (h : e / 2 = f / 2) : f = e ∨ f = otherEnd e := by unfold otherEnd; split <;> omega

/-- what is asked of a joining -/
structure Joins (N : Nat) (j : Nat → Nat) : Prop where
  lt : ∀ e, e < 2 * N → j e < 2 * N
  inv : ∀ e, e < 2 * N → j (j e) = e
  ne : ∀ e, e < 2 * N → j e ≠ e

def nx (j : Nat → Nat) (e : Nat) : Nat := j (otherEnd e)
def it (j : Nat → Nat) : Nat → Nat → Nat
  | 0, e => e
  | k + 1, e => it j k (nx j e)
section
variable {N : Nat} {j : Nat → Nat}
theorem it_succ (k e : Nat) : it j (k + 1) e = nx j (it j k e) := by
  induction k generalizing e with
  | zero => rfl
  | succ k ih =>
    show it j (k + 1) (nx j e) = nx j (it j k (nx j e))
    exact ih (nx j e)
theorem it_add (a b e : Nat) : it j (a + b) e = it j b (it j a e) := by
  induction a generalizing e with
  | zero => rw [Nat.zero_add]; rfl
  | succ a ih =>
    rw [show a + 1 + b = (a + b) + 1 from by omega]
    exact ih (nx j e)
theorem Joins.nx_lt (J : Joins N j) {e : Nat} (h : e < 2 * N) : nx j e < 2 * N := J.lt _ (oe_lt h)
theorem Joins.it_lt (J : Joins N j) : ∀ (k : Nat) {e : Nat}, e < 2 * N → it j k e < 2 * N
  | 0, _, h => h
  | k + 1, _, h => J.it_lt k (J.nx_lt h)
theorem Joins.rev1 (J : Joins N j) {e : Nat} (h : e < 2 * N) : nx j (otherEnd (nx j e)) = otherEnd e := by
  unfold nx
  rw [oe_oe]
  exact J.inv _ (oe_lt h)
theorem Joins.nx_inj (J : Joins N j) {e f : Nat} (he : e < 2 * N) (hf : f < 2 * N) (h : nx j e = nx j f) : e = f := by
  have a := J.rev1 he
  rw [h, J.rev1 hf] at a
  rw [← oe_oe e, ← oe_oe f, a]
theorem Joins.it_inj (J : Joins N j) : ∀ (k : Nat) {e f : Nat}, e < 2 * N → f < 2 * N → it j k e = it j k f → e = f
  | 0, _, _, _, _, h => h
  | k + 1, _, _, he, hf, h => J.nx_inj he hf (J.it_inj k (J.nx_lt he) (J.nx_lt hf) h)
theorem Joins.rev (J : Joins N j) : ∀ (k : Nat) {e : Nat}, e < 2 * N → it j k (otherEnd (it j k e)) = otherEnd e
  | 0, _, _ => rfl
  | k + 1, e, h => by
    rw [it_succ k e]
    show it j k (nx j (otherEnd (nx j (it j k e)))) = _
    rw [J.rev1 (J.it_lt k h)]
    exact J.rev k h
/-- a walk never comes back the other way -/
theorem Joins.apart (J : Joins N j) (k : Nat) {e : Nat} (h : e < 2 * N) : it j k e ≠ otherEnd e := by
  intro q
  have hk : k = (k / 2) + (k / 2) ∨ k = (k / 2) + (k / 2 + 1) := by omega
  generalize k / 2 = t at hk
  have hg := J.it_lt t h
  have r := J.rev t h
  rcases hk with rfl | rfl
  · rw [it_add, ← r] at q
    exact oe_ne _ (J.it_inj t hg (oe_lt hg) q).symm
  · rw [it_add, ← r] at q
    have q2 : it j t (nx j (it j t e)) = it j t (otherEnd (it j t e)) := q
    have q3 := J.it_inj t (J.nx_lt hg) (oe_lt hg) q2
    exact J.ne _ (oe_lt hg) q3
/-- a walk comes back to where it began, N pieces on at most -/
theorem Joins.back_ex (J : Joins N j) {e : Nat} (h : e < 2 * N) : ∃ r, 1 ≤ r ∧ r ≤ N ∧ it j r e = e ∧ ∀ s, 1 ≤ s → s < r → it j s e ≠ e := by
  obtain ⟨a, b, hab, hb, q⟩ := pigeon N (fun i => it j i e / 2) (fun i _ => by have := J.it_lt i h; show it j i e / 2 < N; omega)
  have q' : it j a e / 2 = it j b e / 2 := q
  have eb : it j b e = it j (b - a) (it j a e) := by rw [← it_add]; congr 1; omega
  have hP : 1 ≤ b - a ∧ it j (b - a) e = e := by
    refine ⟨by omega, ?_⟩
    rcases piece_cases q' with z | z
    · have z2 : it j a (it j (b - a) e) = it j a e := by rw [← it_add, show b - a + a = b from by omega]; exact z
      exact J.it_inj a (J.it_lt _ h) h z2
    · rw [eb] at z
      exact absurd z (J.apart _ (J.it_lt a h))
  obtain ⟨r, h1, h2, h3⟩ := least_ex (P := fun r => 1 ≤ r ∧ it j r e = e) (b - a) hP
  exact ⟨r, h2.1, by omega, h2.2, fun s hs hr q => h3 s hr ⟨hs, q⟩⟩
theorem it_mul {r e : Nat} (h : it j r e = e) : ∀ t, it j (r * t) e = e
  | 0 => rfl
  | t + 1 => by rw [Nat.mul_succ, it_add, it_mul h t, h]
theorem it_mod {r e : Nat} (h : it j r e = e) (k : Nat) : it j k e = it j (k % r) e := by
  have := Nat.div_add_mod k r
  rw [show it j k e = it j (r * (k / r) + k % r) e from by rw [this], it_add, it_mul h]
/-- from where a walk went one comes there again -/
theorem Joins.again (J : Joins N j) (k : Nat) {e : Nat} (h : e < 2 * N) : ∃ m, it j m (it j k e) = e := by
  obtain ⟨r, h1, _, h3, _⟩ := J.back_ex h
  refine ⟨r * k - k, ?_⟩
  rw [← it_add, show k + (r * k - k) = r * k from by
    have : k ≤ r * k := Nat.le_mul_of_pos_left k h1
    omega]
  exact it_mul h3 k
/-- two pieces of one strand -/
def Lk (j : Nat → Nat) (p q : Nat) : Prop := ∃ k, it j k (2 * p) / 2 = q
theorem Lk.refl (p : Nat) : Lk j p p := ⟨0, by show 2 * p / 2 = p; omega⟩
/-- from either end of a piece one comes to the same pieces -/
theorem Joins.either (J : Joins N j) {e : Nat} (h : e < 2 * N) (k : Nat) : ∃ m, it j m (otherEnd e) / 2 = it j k e / 2 := by
  have r := J.rev k h
  obtain ⟨m, hm⟩ := J.again k (oe_lt (J.it_lt k h))
  rw [r] at hm
  exact ⟨m, by rw [hm, oe_piece]⟩
theorem Joins.lk_of (J : Joins N j) {e p q k : Nat} (h : e < 2 * N) (he : e / 2 = p) (hk : it j k e / 2 = q) : Lk j p q := by
  have : 2 * p = e ∨ 2 * p = otherEnd e := piece_cases (by omega)
  rcases this with z | z
  · exact ⟨k, by rw [z]; exact hk⟩
  · obtain ⟨m, hm⟩ := J.either h k
    exact ⟨m, by rw [z, hm]; exact hk⟩
theorem Joins.symm (J : Joins N j) {p q : Nat} (hp : p < N) (h : Lk j p q) : Lk j q p := by
  obtain ⟨k, hk⟩ := h
  obtain ⟨m, hm⟩ := J.again k (e := 2 * p) (by omega)
  exact J.lk_of (J.it_lt k (by omega)) hk (k := m) (by rw [hm]; omega)
theorem Joins.trans (J : Joins N j) {p q r : Nat} (hp : p < N) (h : Lk j p q) (h2 : Lk j q r) : Lk j p r := by
  obtain ⟨k, hk⟩ := h
  obtain ⟨m, hm⟩ := h2
  have hl := J.it_lt k (e := 2 * p) (by omega)
  have : 2 * q = it j k (2 * p) ∨ 2 * q = otherEnd (it j k (2 * p)) := piece_cases (by omega)
  rcases this with z | z
  · exact ⟨k + m, by rw [it_add, ← z]; exact hm⟩
  · obtain ⟨m', hm'⟩ := J.either (oe_lt hl) m
    rw [oe_oe, ← z] at hm'
    exact ⟨k + m', by rw [it_add, hm']; exact hm⟩
theorem Joins.lk_lt (J : Joins N j) {p q : Nat} (hp : p < N) (h : Lk j p q) : q < N := by
  obtain ⟨k, hk⟩ := h
  have := J.it_lt k (e := 2 * p) (by omega)
  omega
/-- joined ends are of one strand -/
theorem Joins.lk_join (J : Joins N j) {e : Nat} (h : e < 2 * N) : Lk j (e / 2) (j e / 2) := by
  have : nx j (otherEnd e) = j e := by unfold nx; rw [oe_oe]
  exact J.lk_of (oe_lt h) (oe_piece e) (k := 1) (by show nx j (otherEnd e) / 2 = _; rw [this])
/-- what is shut under joining holds the whole strand -/
theorem Joins.lk_closed (J : Joins N j) {S : Nat → Prop} (hS : ∀ e, e < 2 * N → S (e / 2) → S (j e / 2)) {p q : Nat} (hp : p < N) (h : Lk j p q) (s : S p) : S q := by
  obtain ⟨k, hk⟩ := h
  have key : ∀ k, S (it j k (2 * p) / 2) := by
    intro k
    induction k with
    | zero => show S (2 * p / 2); rw [show 2 * p / 2 = p from by omega]; exact s
    | succ k ih =>
      rw [it_succ]
      have hl := J.it_lt k (e := 2 * p) (by omega)
      exact hS (otherEnd (it j k (2 * p))) (oe_lt hl) (by rw [oe_piece]; exact ih)
  rw [← hk]
  exact key k
end

/-! ### the specification's courses -/
section
variable {D : Panel}
theorem next_nx (e : Nat) : D.next e = nx D.joined e := rfl
theorem back_sub : ∀ (n a e x : Nat), x ∈ D.back n a e → ∃ k, x = it D.joined k e
  | 0, _, _, _, h => by cases h
  | n + 1, a, e, x, h => by
    unfold Panel.back at h
    split at h
    · cases h
    · rcases List.mem_cons.mp h with z | z
      · exact ⟨0, z⟩
      · obtain ⟨k, hk⟩ := back_sub n a _ x z
        exact ⟨k + 1, hk⟩
theorem back_has : ∀ (n k a e : Nat), k < n → (∀ i, i ≤ k → it D.joined i e ≠ a) → it D.joined k e ∈ D.back n a e
  | 0, _, _, _, h, _ => by omega
  | n + 1, k, a, e, h, hn => by
    unfold Panel.back
    rw [if_neg (show ¬ e = a from hn 0 (Nat.zero_le _))]
    cases k with
    | zero => exact List.mem_cons_self
    | succ k => exact List.mem_cons_of_mem _ (back_has n k a _ (by omega) fun i hi => hn (i + 1) (by omega))
theorem course_mem (J : Joins D.pieces D.joined) {i : Nat} (hi : i < D.pieces) (x : Nat) : x ∈ D.courseFrom i ↔ ∃ k, x = it D.joined k (2 * i) := by
  unfold Panel.courseFrom
  constructor
  · intro h
    rcases List.mem_cons.mp h with z | z
    · exact ⟨0, z⟩
    · obtain ⟨k, hk⟩ := back_sub _ _ _ _ z
      exact ⟨k + 1, hk⟩
  · rintro ⟨k, rfl⟩
    obtain ⟨r, h1, h2, h3, h4⟩ := J.back_ex (e := 2 * i) (by omega)
    rw [it_mod h3 k]
    have hlt := Nat.mod_lt k (show 0 < r by omega)
    cases hk : k % r with
    | zero => exact List.mem_cons_self
    | succ m =>
      refine List.mem_cons_of_mem _ (back_has D.pieces m (2 * i) (D.next (2 * i)) (by omega) fun s hs => ?_)
      exact h4 (s + 1) (by omega) (by omega)
theorem foldl_min : ∀ (l : List Nat) (m : Nat), l.foldl (fun (m e : Nat) => min m (pieceOf e)) m = m ↔ ∀ e ∈ l, m ≤ pieceOf e := by
  have le : ∀ (l : List Nat) (m : Nat), l.foldl (fun (m e : Nat) => min m (pieceOf e)) m ≤ m := by
    intro l
    induction l with
    | nil => intro m; exact Nat.le_refl _
    | cons x r ih => intro m; exact Nat.le_trans (ih _) (Nat.min_le_left _ _)
  intro l
  induction l with
  | nil => intro m; simp
  | cons x r ih =>
    intro m
    rw [List.foldl_cons]
    constructor
    · intro h
      have h1 := le r (min m (pieceOf x))
      have h2 : m ≤ pieceOf x := by omega
      rw [Nat.min_eq_left h2] at h
      intro e he
      rcases List.mem_cons.mp he with z | z
      · rw [z]; exact h2
      · exact (ih m).mp h e z
    · intro h
      have h2 := h x List.mem_cons_self
      rw [Nat.min_eq_left h2]
      exact (ih m).mpr fun e he => h e (List.mem_cons_of_mem _ he)
/-- a strand's head: no piece of it is less -/
def Head (D : Panel) (i : Nat) : Prop := ∀ q, Lk D.joined i q → i ≤ q
theorem least_iff (J : Joins D.pieces D.joined) {i : Nat} (hi : i < D.pieces) : D.leastOf i = i ↔ Head D i := by
  unfold Panel.leastOf
  rw [foldl_min]
  constructor
  · rintro h q ⟨k, rfl⟩
    exact h _ ((course_mem J hi _).mpr ⟨k, rfl⟩)
  · intro h e he
    obtain ⟨k, rfl⟩ := (course_mem J hi _).mp he
    exact h _ ⟨k, rfl⟩
theorem heads_iff (J : Joins D.pieces D.joined) (i : Nat) : i ∈ D.traced.heads ↔ i < D.pieces ∧ Head D i := by
  unfold Panel.traced
  simp only [List.mem_filter, List.mem_range]
  constructor
  · rintro ⟨h, e⟩
    refine ⟨h, (least_iff J h).mp ?_⟩
    rw [List.getD_eq_getElem?_getD, List.getElem?_map, List.getElem?_range h] at e
    simpa using e
  · rintro ⟨h, e⟩
    refine ⟨h, ?_⟩
    rw [List.getD_eq_getElem?_getD, List.getElem?_map, List.getElem?_range h]
    simpa using (least_iff J h).mpr e
end
open Classical in
/-- heads counted up to a piece -/
noncomputable def headsTo (D : Panel) (n : Nat) : Nat := ((List.range n).filter fun i => decide (Head D i)).length
open Classical in
theorem headsTo_all {D : Panel} (J : Joins D.pieces D.joined) : D.traced.count = headsTo D D.pieces := by
  unfold Traced.count headsTo Panel.traced
  congr 1
  apply List.filter_congr
  intro i hi
  rw [List.mem_range] at hi
  rw [List.getD_eq_getElem?_getD, List.getElem?_map, List.getElem?_range hi]
  have := least_iff J hi
  by_cases h : Head D i
  · simp [h, this.mpr h]
  · have h2 : ¬ D.leastOf i = i := fun q => h (this.mp q)
    simp [h, h2]
theorem headsTo_succ {D : Panel} {n : Nat} : (Head D n → headsTo D (n + 1) = headsTo D n + 1) ∧ (¬ Head D n → headsTo D (n + 1) = headsTo D n) := by
  constructor
  · intro h
    unfold headsTo
    rw [List.range_succ, List.filter_append, List.length_append]
    simp [h]
  · intro h
    unfold headsTo
    rw [List.range_succ, List.filter_append, List.length_append]
    simp [h]
end PM

set_option Elab.async false
namespace PM
open Plait
/-! ### the specification's joining is one -/
def chkB1 (D : Panel) (s k : Nat) : Bool := match D.beyond s k with
  | none => true
  | some t => Nat.blt t D.squares && (D.beyond t ((k + 2) % 4) == some s) && (Nat.beq (D.placeOf t ((k + 2) % 4)) (D.placeOf s k)) && (!(Nat.beq t s)) && Nat.blt (D.placeOf s k) D.count
def chkB : Bool := (List.range 8).all fun w => (List.range 8).all fun h => (List.range ((w + 1) * (h + 1))).all fun s => (List.range 4).all fun k => chkB1 (bare (w + 1) (h + 1)) s k
set_option maxRecDepth 100000 in
theorem chkB_ok : chkB = true := by decide +kernel
theorem chkB_at {D : Panel} (hw1 : 1 ≤ D.wide) (hw8 : D.wide ≤ 8) (hh1 : 1 ≤ D.high) (hh8 : D.high ≤ 8) {s k t : Nat} (hs : s < D.squares) (hk : k < 4) (e : D.beyond s k = some t) :
    t < D.squares ∧ D.beyond t ((k + 2) % 4) = some s ∧ D.placeOf t ((k + 2) % 4) = D.placeOf s k ∧ t ≠ s ∧ D.placeOf s k < D.count := by
  have c := chkB_ok
  unfold chkB at c
  rw [List.all_eq_true] at c
  have c1 := c (D.wide - 1) (List.mem_range.mpr (by omega))
  rw [List.all_eq_true] at c1
  have c2 := c1 (D.high - 1) (List.mem_range.mpr (by omega))
  rw [show D.wide - 1 + 1 = D.wide from by omega, show D.high - 1 + 1 = D.high from by omega, List.all_eq_true] at c2
  have c3 := c2 s (List.mem_range.mpr hs)
  rw [List.all_eq_true] at c3
  have c4 := c3 k (List.mem_range.mpr hk)
  have e' : (bare D.wide D.high).beyond s k = some t := e
  unfold chkB1 at c4
  rw [e'] at c4
  simp only [Bool.and_eq_true, Nat.blt_eq, Nat.beq_eq, beq_iff_eq, Bool.not_eq_true'] at c4
  obtain ⟨⟨⟨⟨a1, a2⟩, a3⟩, a4⟩, a5⟩ := c4
  exact ⟨a1, a2, a3, fun q => by rw [q] at a4; simp at a4, a5⟩
def en (s k : Nat) (b : Bool) : Nat := if b then firstEnd s k else lastEnd s k
theorem en_sq {s k : Nat} (hk : k < 4) (b : Bool) : squareOf (en s k b) = s := by
  unfold en squareOf firstEnd lastEnd
  cases b <;> simp <;> omega
theorem en_side {s k : Nat} (hk : k < 4) (b : Bool) : sideOf (en s k b) = k := by
  unfold en sideOf firstEnd lastEnd
  cases b <;> simp <;> omega
theorem en_ne (s k : Nat) : lastEnd s k ≠ firstEnd s k := by unfold lastEnd firstEnd; omega
theorem en_first {s k : Nat} (b : Bool) : (en s k b = firstEnd s k) ↔ b = true := by
  cases b
  · simp [en, en_ne]
  · simp [en]
theorem en_beside {s k : Nat} (hk : k < 4) (b : Bool) : besideEnd (en s k b) = en s k (!b) := by
  unfold besideEnd
  rw [en_sq hk, en_side hk]
  cases b
  · rw [if_neg (by rw [en_first]; decide)]; rfl
  · rw [if_pos (by rw [en_first])]; rfl
theorem side_lt (e : Nat) : sideOf e < 4 := by unfold sideOf; omega
theorem en_of (e : Nat) : ∃ b, e = en (squareOf e) (sideOf e) b := by
  by_cases h : e % 2 = 0
  · refine ⟨true, ?_⟩
    simp only [en, squareOf, sideOf, firstEnd, if_true]; omega
  · refine ⟨false, ?_⟩
    simp only [en, squareOf, sideOf, lastEnd, Bool.false_eq_true, if_false]; omega
theorem en_lt {s k n : Nat} (hk : k < 4) (hs : s < n) (b : Bool) : en s k b < 8 * n := by
  unfold en firstEnd lastEnd
  cases b <;> simp <;> omega
theorem en_inj {s k s' k' : Nat} {b b' : Bool} (hk : k < 4) (hk' : k' < 4) (e : en s k b = en s' k' b') : s = s' ∧ k = k' ∧ b = b' := by
  have e1 := en_sq (s := s) hk b
  have e2 := en_side (s := s) hk b
  rw [e, en_sq hk'] at e1
  rw [e, en_side hk'] at e2
  subst e1 e2
  refine ⟨rfl, rfl, ?_⟩
  have h1 := en_first (s := s') (k := k') b
  have h2 := en_first (s := s') (k := k') b'
  rw [e, h2] at h1
  cases b <;> cases b' <;> simp_all
theorem joined_en {D : Panel} {s k : Nat} (hk : k < 4) (b : Bool) : D.joined (en s k b) = match D.beyond s k with
    | none => en s k (!b)
    | some t => if D.state (D.placeOf s k) = 1 then en s k (!b) else if D.state (D.placeOf s k) = 2 then en t ((k + 2) % 4) (!b) else en t ((k + 2) % 4) b := by
  unfold Panel.joined
  rw [en_sq hk, en_side hk]
  cases e : D.beyond s k with
  | none => exact en_beside hk b
  | some t =>
    simp only
    have hj : (k + 2) % 4 < 4 := Nat.mod_lt _ (by decide)
    have hst : (if en s k b = firstEnd s k then firstEnd t ((k + 2) % 4) else lastEnd t ((k + 2) % 4)) = en t ((k + 2) % 4) b := by
      cases b
      · rw [if_neg (by rw [en_first]; decide)]; rfl
      · rw [if_pos (by rw [en_first])]; rfl
    rw [hst, en_beside hk, en_beside hj]
theorem joins {D : Panel} (hw1 : 1 ≤ D.wide) (hw8 : D.wide ≤ 8) (hh1 : 1 ≤ D.high) (hh8 : D.high ≤ 8) : Joins D.pieces D.joined := by
  have hp : 2 * D.pieces = 8 * D.squares := by unfold Panel.pieces; omega
  have key : ∀ (s k : Nat) (b : Bool), s < D.squares → k < 4 → D.joined (en s k b) < 8 * D.squares ∧ D.joined (D.joined (en s k b)) = en s k b ∧ D.joined (en s k b) ≠ en s k b := by
    intro s k b hs hk
    have hj : (k + 2) % 4 < 4 := Nat.mod_lt _ (by decide)
    have hjk : ((k + 2) % 4 + 2) % 4 = k := by omega
    rw [joined_en hk]
    cases e : D.beyond s k with
    | none =>
      simp only
      refine ⟨en_lt hk hs _, ?_, fun q => ?_⟩
      · rw [joined_en hk, e]; simp
      · have := (en_inj hk hk q).2.2
        cases b <;> simp at this
    | some t =>
      obtain ⟨c1, c2, c3, c4, _⟩ := chkB_at hw1 hw8 hh1 hh8 hs hk e
      simp only
      by_cases z1 : D.state (D.placeOf s k) = 1
      · rw [if_pos z1]
        refine ⟨en_lt hk hs _, ?_, fun q => ?_⟩
        · rw [joined_en hk, e]; simp [z1]
        · have := (en_inj hk hk q).2.2
          cases b <;> simp at this
      · rw [if_neg z1]
        by_cases z2 : D.state (D.placeOf s k) = 2
        · rw [if_pos z2]
          refine ⟨en_lt hj c1 _, ?_, fun q => c4 (en_inj hj hk q).1⟩
          rw [joined_en hj, c2]
          simp only
          rw [c3, if_neg z1, if_pos z2, hjk, Bool.not_not]
        · rw [if_neg z2]
          refine ⟨en_lt hj c1 _, ?_, fun q => c4 (en_inj hj hk q).1⟩
          rw [joined_en hj, c2]
          simp only
          rw [c3, if_neg z1, if_neg z2, hjk]
  have all : ∀ e, e < 2 * D.pieces → ∃ s k b, e = en s k b ∧ s < D.squares ∧ k < 4 := by
    intro e he
    obtain ⟨b, hb⟩ := en_of e
    exact ⟨squareOf e, sideOf e, b, hb, by unfold squareOf; omega, side_lt e⟩
  refine ⟨fun e he => ?_, fun e he => ?_, fun e he => ?_⟩
  · obtain ⟨s, k, b, rfl, hs, hk⟩ := all e he
    rw [hp]; exact (key s k b hs hk).1
  · obtain ⟨s, k, b, rfl, hs, hk⟩ := all e he
    exact (key s k b hs hk).2.1
  · obtain ⟨s, k, b, rfl, hs, hk⟩ := all e he
    exact (key s k b hs hk).2.2
end PM

set_option Elab.async false
namespace PM
open Plait
/-! ### numbers as bytes -/
def lowN : Nat → Nat → Bytes
  | 0, _ => []
  | k + 1, n => UInt8.ofNat (n % 256) :: lowN k (n / 256)
theorem lowN2 (n : Nat) : lowN 2 n = low2 n := rfl
theorem lowN4 (n : Nat) : lowN 4 n = low4 n := by
  show [UInt8.ofNat (n % 256), UInt8.ofNat (n / 256 % 256), UInt8.ofNat (n / 256 / 256 % 256), UInt8.ofNat (n / 256 / 256 / 256 % 256)] =
    [UInt8.ofNat (n % 65536 % 256), UInt8.ofNat (n % 65536 / 256 % 256), UInt8.ofNat (n / 65536 % 256), UInt8.ofNat (n / 65536 / 256 % 256)]
  have e1 : n % 65536 % 256 = n % 256 := by omega
  have e2 : n % 65536 / 256 % 256 = n / 256 % 256 := by omega
  have e3 : n / 65536 % 256 = n / 256 / 256 % 256 := by omega
  have e4 : n / 65536 / 256 % 256 = n / 256 / 256 / 256 % 256 := by omega
  rw [e1, e2, e3, e4]
theorem u8_of {n : Nat} (h : n < 256) : (UInt8.ofNat n).toNat = n := by
  rw [UInt8.toNat_ofNat']; omega
theorem u8_to (c : UInt8) : UInt8.ofNat c.toNat = c := UInt8.ofNat_toNat
theorem lowN_len : ∀ (k n : Nat), (lowN k n).length = k
  | 0, _ => rfl
  | k + 1, n => by show (lowN k (n / 256)).length + 1 = k + 1; rw [lowN_len k]
theorem num_lowN : ∀ (k n : Nat), num (lowN k n) = n % 256 ^ k
  | 0, n => by rw [Nat.pow_zero, Nat.mod_one]; rfl
  | k + 1, n => by
    show (UInt8.ofNat (n % 256)).toNat + 256 * num (lowN k (n / 256)) = _
    rw [num_lowN k, u8_of (Nat.mod_lt _ (by decide)), Nat.pow_succ, Nat.mul_comm (256 ^ k) 256, Nat.mod_mul]
theorem num_lt : ∀ b : Bytes, num b < 256 ^ b.length
  | [] => by decide
  | c :: b => by
    have := num_lt b
    have hc := c.toNat_lt
    show c.toNat + 256 * num b < 256 ^ (b.length + 1)
    rw [Nat.pow_succ]; omega
theorem lowN_num : ∀ b : Bytes, lowN b.length (num b) = b
  | [] => rfl
  | c :: b => by
    have hc := c.toNat_lt
    show UInt8.ofNat ((c.toNat + 256 * num b) % 256) :: lowN b.length ((c.toNat + 256 * num b) / 256) = c :: b
    rw [show (c.toNat + 256 * num b) % 256 = c.toNat from by omega, show (c.toNat + 256 * num b) / 256 = num b from by omega, u8_to, lowN_num b]
theorem low2_len (n : Nat) : (low2 n).length = 2 := rfl
theorem low4_len (n : Nat) : (low4 n).length = 4 := rfl
theorem num_low2 {n : Nat} (h : n < 65536) : num (low2 n) = n := by
  rw [← lowN2, num_lowN]; exact Nat.mod_eq_of_lt h
theorem num_low4 {n : Nat} (h : n < 4294967296) : num (low4 n) = n := by
  rw [← lowN4, num_lowN]; exact Nat.mod_eq_of_lt h
theorem low2_num (a b : UInt8) : low2 (num [a, b]) = [a, b] := by
  rw [← lowN2]; exact lowN_num [a, b]
theorem num2_lt (a b : UInt8) : num [a, b] < 65536 := by
  have h1 := a.toNat_lt
  have h2 := b.toNat_lt
  show a.toNat + 256 * (b.toNat + 256 * 0) < 65536
  omega
/-! ### panels -/
theorem bytes_len (D : Panel) : D.bytes.length = 6 + D.places.length := by
  unfold Panel.bytes
  rw [List.length_append, List.length_cons, List.length_cons, List.length_map]
  show 4 + _ = _
  omega
theorem cnt_le {w h : Nat} (hw : w ≤ 8) (hh : h ≤ 8) : cnt w h ≤ 112 := by
  unfold cnt
  have a : (w - 1) * h ≤ 7 * 8 := Nat.mul_le_mul (by omega) hh
  have b : w * (h - 1) ≤ 8 * 7 := Nat.mul_le_mul hw (by omega)
  omega
theorem Right.le112 {D : Panel} (R : Right D) : D.places.length ≤ 112 := by rw [R.len]; exact cnt_le R.w8 R.h8
theorem findIdx_none {l : List Nat} : (l.findIdx? fun (p : Nat) => decide (2 < p)) = none ↔ ∀ z ∈ l, z ≤ 2 := by
  rw [List.findIdx?_eq_none_iff]
  constructor
  · intro h z hz
    have := h z hz
    simp at this; omega
  · intro h z hz
    have := h z hz
    simp; omega
theorem six : ∀ (b : Bytes), ¬ b.length < 6 → b.take 4 = MARK → ∃ w h r, b = 0x50 :: 0x4C :: 0x50 :: 0x31 :: w :: h :: r
  | [], h, _ => absurd (show (0 : Nat) < 6 by decide) h
  | [_], h, _ => absurd (show (1 : Nat) < 6 by decide) h
  | [_, _], h, _ => absurd (show (2 : Nat) < 6 by decide) h
  | [_, _, _], h, _ => absurd (show (3 : Nat) < 6 by decide) h
  | [_, _, _, _], h, _ => absurd (show (4 : Nat) < 6 by decide) h
  | [_, _, _, _, _], h, _ => absurd (show (5 : Nat) < 6 by decide) h
  | a :: b :: c :: d :: e :: f :: r, _, h => by
    have h' : [a, b, c, d] = [0x50, 0x4C, 0x50, 0x31] := h
    injection h' with h1 h2
    injection h2 with h2 h3
    injection h3 with h3 h4
    injection h4 with h4 h5
    subst h1 h2 h3 h4
    exact ⟨e, f, r, rfl⟩
theorem judge_cons (w h : UInt8) (r : Bytes) : judge (0x50 :: 0x4C :: 0x50 :: 0x31 :: w :: h :: r) =
    if w.toNat < 1 ∨ SIDE < w.toNat then .error (2, 4) else if h.toNat < 1 ∨ SIDE < h.toNat then .error (2, 5) else
      if (r.map UInt8.toNat).length ≠ cnt w.toNat h.toNat then .error (1, 4) else match (r.map UInt8.toNat).findIdx? fun (p : Nat) => decide (2 < p) with
        | some i => .error (3, 6 + i)
        | none => .ok ⟨w.toNat, h.toNat, r.map UInt8.toNat⟩ := by
  unfold judge
  rw [if_neg (by
    rintro (q | q)
    · simp at q; omega
    · exact q rfl)]
  rfl
theorem judge_iff (b : Bytes) (D : Panel) : judge b = .ok D ↔ b = D.bytes ∧ Right D := by
  constructor
  · intro e
    by_cases c : b.length < 6 ∨ b.take 4 ≠ MARK
    · unfold judge at e
      rw [if_pos c] at e
      cases e
    · obtain ⟨w, h, r, rfl⟩ := six b (fun q => c (.inl q)) (Decidable.not_not.mp fun q => c (.inr q))
      rw [judge_cons] at e
      split at e
      · cases e
      · rename_i cw
        split at e
        · cases e
        · rename_i ch
          split at e
          · cases e
          · rename_i cl
            split at e
            · cases e
            · rename_i cf
              cases e
              refine ⟨?_, ?_⟩
              · show _ = MARK ++ (UInt8.ofNat w.toNat :: UInt8.ofNat h.toNat :: (r.map UInt8.toNat).map UInt8.ofNat)
                rw [u8_to, u8_to, List.map_map]
                have : (UInt8.ofNat ∘ UInt8.toNat) = id := by funext x; exact u8_to x
                rw [this, List.map_id]; rfl
              · unfold SIDE at cw ch
                refine ⟨by show 1 ≤ w.toNat; omega, by show w.toNat ≤ 8; omega, by show 1 ≤ h.toNat; omega, by show h.toNat ≤ 8; omega, Decidable.not_not.mp cl, findIdx_none.mp cf⟩
  · rintro ⟨rfl, R⟩
    have hw : (UInt8.ofNat D.wide).toNat = D.wide := u8_of (by have := R.w8; omega)
    have hh : (UInt8.ofNat D.high).toNat = D.high := u8_of (by have := R.h8; omega)
    have hp : (D.places.map UInt8.ofNat).map UInt8.toNat = D.places := by
      rw [List.map_map]
      conv => rhs; rw [← List.map_id D.places]
      apply List.map_congr_left
      intro z hz
      exact u8_of (by have := R.le2 z hz; omega)
    show judge (0x50 :: 0x4C :: 0x50 :: 0x31 :: UInt8.ofNat D.wide :: UInt8.ofNat D.high :: D.places.map UInt8.ofNat) = _
    rw [judge_cons, hw, hh, hp]
    have a1 := R.w1; have a2 := R.w8; have a3 := R.h1; have a4 := R.h8
    rw [if_neg (by unfold SIDE; omega), if_neg (by unfold SIDE; omega), if_neg (by rw [R.len]; exact fun q => q rfl), findIdx_none.mpr R.le2]
/-! ### steps -/
theorem step_some {D E : Panel} {x : Done} (R : Right D) (h : D.step x = some E) : Right E ∧ ((∃ p z, x = .set p z ∧ p < D.count ∧ z ≤ 2 ∧ E = D.set p z) ∨ (∃ m, x = .move m ∧ m < 8 ∧ E = D.moved m)) := by
  cases x with
  | set p z =>
    unfold Panel.step at h
    simp only at h
    split at h
    · rename_i c
      cases h
      exact ⟨R.set c.2, .inl ⟨p, z, rfl, c.1, c.2, rfl⟩⟩
    · cases h
  | move m =>
    unfold Panel.step at h
    simp only at h
    split at h
    · rename_i c
      cases h
      exact ⟨R.moved c, .inr ⟨m, rfl, c, rfl⟩⟩
    · cases h
/-- the two numbers of a step have two bytes each -/
def Done.small : Done → Prop
  | .set p z => p < 65536 ∧ z < 65536
  | .move m => m < 65536
theorem Right.count {D : Panel} (R : Right D) : D.count = D.places.length := by rw [R.len]; rfl
theorem step_small {D E : Panel} {x : Done} (R : Right D) (h : D.step x = some E) : Done.small x := by
  have h112 := R.le112
  rcases (step_some R h).2 with ⟨p, z, rfl, hp, hz, _⟩ | ⟨m, rfl, hm, _⟩
  · rw [R.count] at hp
    exact ⟨by omega, by omega⟩
  · show m < 65536; omega
theorem done_len (x : Done) : x.bytes.length = 8 := by cases x <;> rfl
theorem change_len (c : Change) : c.bytes.length = 8 := by
  cases c with
  | step x => exact done_len x
  | undo => rfl
  | redo => rfl
theorem changeIn_done {x : Done} (h : Done.small x) (r : Bytes) : changeIn (x.bytes ++ r) = some (.step x) := by
  cases x with
  | set p z =>
    show some (Change.step (.set (num (low2 p)) (num (low2 z)))) = _
    rw [num_low2 h.1, num_low2 h.2]
  | move m =>
    show some (Change.step (.move (num (low2 m)))) = _
    rw [num_low2 h]
/-- the step that eight bytes are -/
def codeDone (code : Bytes) : Option Done := match changeIn code with
  | some (.step x) => if x.bytes = code then some x else none
  | _ => none
theorem codeDone_iff {code : Bytes} {x : Done} (h : Done.small x) : codeDone code = some x ↔ code = x.bytes := by
  constructor
  · intro e
    unfold codeDone at e
    split at e
    · split at e
      · rename_i q
        cases e
        exact q.symm
      · cases e
    · cases e
  · rintro rfl
    have := changeIn_done h []
    rw [List.append_nil] at this
    unfold codeDone
    rw [this]
    simp
theorem codeDone_small {code : Bytes} {x : Done} (e : codeDone code = some x) : code = x.bytes ∧ Done.small x := by
  unfold codeDone at e
  split at e
  · rename_i y hy
    split at e
    · rename_i q
      cases e
      refine ⟨q.symm, ?_⟩
      unfold changeIn at hy
      split at hy <;> cases hy
      · exact ⟨num2_lt _ _, num2_lt _ _⟩
      · exact num2_lt _ _
    · cases e
  · cases e
theorem stepsFrom_append : ∀ (xs ys : List Done) (D : Panel), stepsFrom D (xs ++ ys) = (stepsFrom D xs).bind fun E => stepsFrom E ys
  | [], ys, D => rfl
  | x :: xs, ys, D => by
    show (match D.step x with | some E => stepsFrom E (xs ++ ys) | none => none) = (match D.step x with | some E => stepsFrom E xs | none => none).bind _
    cases D.step x with
    | none => rfl
    | some E => exact stepsFrom_append xs ys E
theorem stepsFrom_right : ∀ (xs : List Done) {D E : Panel}, Right D → stepsFrom D xs = some E → Right E
  | [], D, E, R, h => by cases h; exact R
  | x :: xs, D, E, R, h => by
    unfold stepsFrom at h
    split at h
    · rename_i F hF
      exact stepsFrom_right xs (step_some R hF).1 h
    · cases h
theorem stepsFrom_small : ∀ (xs : List Done) {D E : Panel}, Right D → stepsFrom D xs = some E → ∀ x ∈ xs, Done.small x
  | [], _, _, _, _, x, hx => by cases hx
  | y :: xs, D, E, R, h, x, hx => by
    unfold stepsFrom at h
    split at h
    · rename_i F hF
      rcases List.mem_cons.mp hx with rfl | z
      · exact step_small R hF
      · exact stepsFrom_small xs (step_some R hF).1 h x z
    · cases h
end PM

set_option Elab.async false
namespace PM
open Plait
/-! ### sessions -/
structure Good (s : Sess) : Prop where
  base : Right s.base
  few : s.done.length + s.back.length ≤ 64
  can : (stepsFrom s.base (s.done ++ s.back)).isSome = true
theorem Good.now_some {s : Sess} (G : Good s) : stepsFrom s.base s.done = some s.now := by
  have h := G.can
  rw [stepsFrom_append] at h
  unfold Sess.now
  cases e : stepsFrom s.base s.done with
  | none => rw [e] at h; cases h
  | some E => rfl
theorem Good.now {s : Sess} (G : Good s) : Right s.now := stepsFrom_right _ G.base G.now_some
theorem Good.smalls {s : Sess} (G : Good s) : ∀ x ∈ s.done ++ s.back, Done.small x := by
  have h := G.can
  cases e : stepsFrom s.base (s.done ++ s.back) with
  | none => rw [e] at h; cases h
  | some E => exact stepsFrom_small _ G.base e
theorem Good.begun {D : Panel} (R : Right D) : Good ⟨D, [], []⟩ := ⟨R, Nat.zero_le _, rfl⟩
theorem dropLast_snoc {α : Type} {l : List α} {x : α} (h : l.getLast? = some x) : l.dropLast ++ [x] = l := by
  obtain ⟨ys, rfl⟩ := List.getLast?_eq_some_iff.mp h
  rw [List.dropLast_concat]
theorem Good.change {s u : Sess} {c : Change} (G : Good s) (h : s.change c = some u) : Good u := by
  cases c with
  | step x =>
    unfold Sess.change at h
    simp only at h
    split at h
    · rename_i q
      cases h
      refine ⟨G.base, ?_, ?_⟩
      · show (s.done ++ [x]).length + 0 ≤ 64
        have := q.1
        unfold STEPS at this
        rw [List.length_append, List.length_singleton]; omega
      · show (stepsFrom s.base (s.done ++ [x] ++ [])).isSome = true
        rw [List.append_nil, stepsFrom_append, G.now_some]
        have h2 := q.2
        show (stepsFrom s.now [x]).isSome = true
        unfold stepsFrom
        cases e : s.now.step x with
        | none => rw [e] at h2; cases h2
        | some E => rfl
    · cases h
  | undo =>
    unfold Sess.change at h
    simp only at h
    split at h
    · rename_i x hx
      cases h
      have e := dropLast_snoc hx
      refine ⟨G.base, ?_, ?_⟩
      · show s.done.dropLast.length + (x :: s.back).length ≤ 64
        have := G.few
        rw [← e, List.length_append, List.length_singleton] at this
        rw [List.length_cons]; omega
      · show (stepsFrom s.base (s.done.dropLast ++ x :: s.back)).isSome = true
        rw [show s.done.dropLast ++ x :: s.back = s.done ++ s.back from by conv => rhs; rw [← e]
                                                                           simp]
        exact G.can
    · cases h
  | redo =>
    unfold Sess.change at h
    simp only at h
    split at h
    · rename_i x l hb
      cases h
      refine ⟨G.base, ?_, ?_⟩
      · show (s.done ++ [x]).length + l.length ≤ 64
        have := G.few
        rw [hb, List.length_cons] at this
        rw [List.length_append, List.length_singleton]; omega
      · show (stepsFrom s.base (s.done ++ [x] ++ l)).isSome = true
        have := G.can
        rw [hb] at this
        rw [List.append_assoc]; exact this
    · cases h
theorem flat_len : ∀ xs : List Done, (xs.flatMap Done.bytes).length = 8 * xs.length
  | [] => rfl
  | x :: xs => by rw [List.flatMap_cons, List.length_append, flat_len xs, done_len, List.length_cons]; omega
theorem stepsIn_len : ∀ (n : Nat) (b : Bytes), (stepsIn n b).length ≤ n
  | 0, _ => Nat.le_refl _
  | n + 1, b => by
    unfold stepsIn
    split
    · rw [List.length_cons]; have := stepsIn_len n (b.drop 8); omega
    · exact Nat.zero_le _
theorem stepsIn_of : ∀ (xs : List Done) (r : Bytes), (∀ x ∈ xs, Done.small x) → stepsIn xs.length (xs.flatMap Done.bytes ++ r) = xs
  | [], _, _ => rfl
  | x :: xs, r, h => by
    show stepsIn (xs.length + 1) _ = _
    unfold stepsIn
    rw [List.flatMap_cons, List.append_assoc, changeIn_done (h x List.mem_cons_self)]
    simp only
    rw [List.drop_left' (done_len x), stepsIn_of xs r fun y hy => h y (List.mem_cons_of_mem _ hy)]
/-- a session's bytes, one behind another -/
theorem bytes_eq (s : Sess) : s.bytes = SESSION ++ (low4 s.base.bytes.length ++ (s.base.bytes ++ (low4 s.done.length ++ (low4 s.back.length ++ (s.done.flatMap Done.bytes ++ (s.back.flatMap Done.bytes ++ low4 (crc s.body))))))) := by
  unfold Sess.bytes
  conv => lhs; lhs; unfold Sess.body
  simp only [List.append_assoc]
theorem sbytes_len (s : Sess) : s.bytes.length = 20 + s.base.bytes.length + 8 * (s.done.length + s.back.length) := by
  rw [bytes_eq]
  simp only [List.length_append, low4_len, flat_len]
  show 4 + _ = _
  omega
theorem Good.len_le {s : Sess} (G : Good s) : s.base.bytes.length ≤ 118 ∧ s.bytes.length ≤ 650 := by
  have h1 := G.base.le112
  have h2 := bytes_len s.base
  have h3 := sbytes_len s
  have h4 := G.few
  omega
section
variable {s : Sess}
theorem f_size (G : Good s) : num ((s.bytes.drop 4).take 4) = s.base.bytes.length := by
  have hl := G.len_le.1
  rw [bytes_eq, List.drop_left' (show SESSION.length = 4 from rfl), List.take_left' (low4_len _), num_low4 (by omega)]
theorem f_rest : s.bytes.drop (8 + s.base.bytes.length) = low4 s.done.length ++ (low4 s.back.length ++ (s.done.flatMap Done.bytes ++ (s.back.flatMap Done.bytes ++ low4 (crc s.body)))) := by
  rw [bytes_eq, show ∀ (A B C R : Bytes), A ++ (B ++ (C ++ R)) = (A ++ B ++ C) ++ R from fun A B C R => by simp only [List.append_assoc]]
  refine List.drop_left' ?_
  simp only [List.length_append, low4_len]
  show 4 + 4 + _ = _
  omega
theorem f_panel : (s.bytes.drop 8).take s.base.bytes.length = s.base.bytes := by
  rw [bytes_eq, show ∀ (A B R : Bytes), A ++ (B ++ R) = (A ++ B) ++ R from fun A B R => by simp only [List.append_assoc], List.drop_left' (by rw [List.length_append, low4_len]; rfl), List.take_left' rfl]
theorem f_done (G : Good s) : num ((s.bytes.drop (8 + s.base.bytes.length)).take 4) = s.done.length := by
  have h4 := G.few
  rw [f_rest, List.take_left' (low4_len _), num_low4 (by omega)]
theorem f_back (G : Good s) : num (((s.bytes.drop (8 + s.base.bytes.length)).drop 4).take 4) = s.back.length := by
  have h4 := G.few
  rw [f_rest, List.drop_left' (low4_len _), List.take_left' (low4_len _), num_low4 (by omega)]
theorem f_steps : (s.bytes.drop (8 + s.base.bytes.length)).drop 8 = (s.done ++ s.back).flatMap Done.bytes ++ low4 (crc s.body) := by
  rw [f_rest, show ∀ (A B C R : Bytes), A ++ (B ++ (C ++ R)) = (A ++ B) ++ (C ++ R) from fun A B C R => by simp only [List.append_assoc],
    List.drop_left' (by rw [List.length_append, low4_len, low4_len]), List.flatMap_append, List.append_assoc]
end
theorem sessionIn_iff (b : Bytes) (s : Sess) : sessionIn b = some s ↔ b = s.bytes ∧ Good s := by
  constructor
  · intro e
    unfold sessionIn at e
    simp only at e
    split at e
    · cases e
    · rename_i c
      split at e
      · cases e
      · rename_i D hD
        split at e
        · rename_i q
          cases e
          refine ⟨q.1.symm, ((judge_iff _ _).mp hD).2, ?_, q.2⟩
          have c3 : ¬ STEPS < _ := fun z => c (.inr (.inr z))
          unfold STEPS at c3
          have l1 := stepsIn_len (num ((b.drop (8 + num ((b.drop 4).take 4))).take 4)) ((b.drop (8 + num ((b.drop 4).take 4))).drop 8)
          have l2 := stepsIn_len (num (((b.drop (8 + num ((b.drop 4).take 4))).drop 4).take 4)) ((b.drop (8 + num ((b.drop 4).take 4))).drop (8 + 8 * num ((b.drop (8 + num ((b.drop 4).take 4))).take 4)))
          simp only
          omega
        · cases e
  · rintro ⟨rfl, G⟩
    have hlen := sbytes_len s
    have hb := bytes_len s.base
    have hf := G.few
    unfold sessionIn
    simp only
    rw [f_size G, f_done G, f_back G, if_neg (by unfold STEPS; omega), f_panel, (judge_iff s.base.bytes s.base).mpr ⟨rfl, G.base⟩]
    simp only
    have sm := G.smalls
    have e1 : stepsIn s.done.length ((s.bytes.drop (8 + s.base.bytes.length)).drop 8) = s.done := by
      rw [f_steps, List.flatMap_append, List.append_assoc]
      exact stepsIn_of _ _ fun x hx => sm x (List.mem_append.mpr (.inl hx))
    have e2 : stepsIn s.back.length ((s.bytes.drop (8 + s.base.bytes.length)).drop (8 + 8 * s.done.length)) = s.back := by
      rw [← List.drop_drop, f_steps, List.flatMap_append, List.append_assoc, List.drop_left' (flat_len _)]
      exact stepsIn_of _ _ fun x hx => sm x (List.mem_append.mpr (.inr hx))
    rw [e1, e2]
    exact if_pos ⟨rfl, G.can⟩
/-! ### a journal's beginning -/
theorem head_len (s : Sess) : (headOf s).length = 8 + s.bytes.length := by
  unfold headOf
  simp only [List.length_append, low4_len]
  show 4 + _ = _
  omega
theorem headIn_iff (b : Bytes) (s : Sess) : headIn b = some s ↔ Good s ∧ ∃ r, b = headOf s ++ r := by
  constructor
  · intro e
    unfold headIn at e
    split at e
    · rename_i c
      obtain ⟨c1, c2⟩ := c
      obtain ⟨h1, G⟩ := (sessionIn_iff _ _).mp e
      refine ⟨G, b.drop (8 + num ((b.drop 4).take 4)), ?_⟩
      have hl : num ((b.drop 4).take 4) = s.bytes.length := by
        have := congrArg List.length h1
        rw [List.length_take, List.length_drop] at this
        omega
      have h4 : b = b.take 4 ++ ((b.drop 4).take 4 ++ ((b.drop 8).take (num ((b.drop 4).take 4)) ++ b.drop (8 + num ((b.drop 4).take 4)))) := by
        rw [show b.drop (8 + num ((b.drop 4).take 4)) = (b.drop 8).drop (num ((b.drop 4).take 4)) from by rw [List.drop_drop], List.take_append_drop,
          show b.drop 8 = (b.drop 4).drop 4 from by rw [List.drop_drop], List.take_append_drop, List.take_append_drop]
      have h5 : (b.drop 4).take 4 = low4 s.bytes.length := by
        have l4 : ((b.drop 4).take 4).length = 4 := by rw [List.length_take, List.length_drop]; omega
        have := lowN_num ((b.drop 4).take 4)
        rw [l4, lowN4, hl] at this
        exact this.symm
      conv => lhs; rw [h4]
      unfold headOf
      rw [c1, h1, h5, List.append_assoc, List.append_assoc]
    · cases e
  · rintro ⟨G, r, rfl⟩
    have hl := G.len_le.2
    have e0 : headOf s ++ r = JOURNAL ++ (low4 s.bytes.length ++ (s.bytes ++ r)) := by unfold headOf; simp only [List.append_assoc]
    have e1 : num (((headOf s ++ r).drop 4).take 4) = s.bytes.length := by
      rw [e0, List.drop_left' (show JOURNAL.length = 4 from rfl), List.take_left' (low4_len _), num_low4 (by omega)]
    unfold headIn
    rw [e1, if_pos ⟨by rw [e0]; exact List.take_left' rfl, by rw [List.length_append, head_len]; omega⟩]
    have e2 : ((headOf s ++ r).drop 8).take s.bytes.length = s.bytes := by
      rw [e0, show ∀ (A B R : Bytes), A ++ (B ++ R) = (A ++ B) ++ R from fun A B R => by simp only [List.append_assoc], List.drop_left' (by rw [List.length_append, low4_len]; rfl), List.take_left' rfl]
    rw [e2]
    exact (sessionIn_iff _ _).mpr ⟨rfl, G⟩
/-! ### changes by their bytes -/
def UNDO : Bytes := [2, 0, 0, 0, 0, 0, 0, 0]
def REDO : Bytes := [3, 0, 0, 0, 0, 0, 0, 0]
def chg (s : Sess) (code : Bytes) : Option Sess :=
  if code = UNDO then s.change .undo else if code = REDO then s.change .redo else match codeDone code with
    | some x => s.change (.step x)
    | none => none
theorem done_head (x : Done) : x.bytes ≠ UNDO ∧ x.bytes ≠ REDO := by
  cases x with
  | set p z => exact ⟨fun h => (by injection h with h1 h2; revert h1; decide), fun h => (by injection h with h1 h2; revert h1; decide)⟩
  | move m => exact ⟨fun h => (by injection h with h1 h2; revert h1; decide), fun h => (by injection h with h1 h2; revert h1; decide)⟩
theorem Good.change_small {s u : Sess} {x : Done} (G : Good s) (h : s.change (.step x) = some u) : Done.small x := by
  unfold Sess.change at h
  simp only at h
  split at h
  · rename_i q
    have h2 := q.2
    cases e : s.now.step x with
    | none => rw [e] at h2; cases h2
    | some E => exact step_small G.now e
  · cases h
theorem chg_of {s u : Sess} {c : Change} (G : Good s) (h : s.change c = some u) : chg s c.bytes = some u := by
  unfold chg
  cases c with
  | undo => rw [if_pos (show Change.undo.bytes = UNDO from rfl)]; exact h
  | redo => rw [if_neg (show ¬ Change.redo.bytes = UNDO from by decide), if_pos (show Change.redo.bytes = REDO from rfl)]; exact h
  | step x =>
    show (if x.bytes = UNDO then _ else if x.bytes = REDO then _ else _) = _
    rw [if_neg (done_head x).1, if_neg (done_head x).2, show Change.bytes (.step x) = x.bytes from rfl, (codeDone_iff (G.change_small h)).mpr rfl]
    exact h
theorem of_chg {s u : Sess} {code : Bytes} (h : chg s code = some u) : ∃ c : Change, c.bytes = code ∧ s.change c = some u := by
  unfold chg at h
  split at h
  · rename_i q
    exact ⟨.undo, q.symm, h⟩
  · split at h
    · rename_i q
      exact ⟨.redo, q.symm, h⟩
    · split at h
      · rename_i x hx
        exact ⟨.step x, (codeDone_small hx).1.symm, h⟩
      · cases h
theorem Good.chg {s u : Sess} {code : Bytes} (G : Good s) (h : PM.chg s code = some u) : Good u := by
  obtain ⟨c, _, h2⟩ := of_chg h
  exact G.change h2
theorem changeIn_of {s u : Sess} {c : Change} (G : Good s) (h : s.change c = some u) (r : Bytes) : changeIn (c.bytes ++ r) = some c := by
  cases c with
  | undo => rfl
  | redo => rfl
  | step x => exact changeIn_done (G.change_small h) r
/-! ### journals played -/
/-- the next note stands whole, its sum is right, and it can be done -/
def goes (b plain : Bytes) (s : Sess) (u : Sess) : Prop := 12 ≤ b.length ∧ (b.drop 8).take 4 = low4 (crc (plain ++ b.take 8)) ∧ chg s (b.take 8) = some u
theorem goes_note {b plain : Bytes} {s u : Sess} (G : Good s) (h : goes b plain s u) : ∃ c, changeIn b = some c ∧ c.bytes = b.take 8 ∧ b.take 12 = noteOf plain c ∧ s.change c = some u := by
  obtain ⟨h1, h2, h3⟩ := h
  obtain ⟨c, e1, e2⟩ := of_chg h3
  refine ⟨c, ?_, e1, ?_, e2⟩
  · have := changeIn_of G e2 (b.drop 8)
    rw [e1, List.take_append_drop] at this
    exact this
  · unfold noteOf
    rw [e1, ← h2, show (12 : Nat) = 8 + 4 from rfl, List.take_add]
theorem note_goes {b plain : Bytes} {s u : Sess} {c : Change} (G : Good s) (h1 : b.take 12 = noteOf plain c) (h2 : s.change c = some u) : goes b plain s u ∧ b.take 8 = c.bytes := by
  have hl : (noteOf plain c).length = 12 := by unfold noteOf; rw [List.length_append, change_len, low4_len]
  have l12 : 12 ≤ b.length := by
    have := congrArg List.length h1
    rw [hl, List.length_take] at this
    omega
  have e8 : b.take 8 = c.bytes := by
    have := congrArg (List.take 8) h1
    rw [List.take_take] at this
    unfold noteOf at this
    rw [List.take_left' (change_len c)] at this
    exact this
  refine ⟨⟨l12, ?_, ?_⟩, e8⟩
  · have := congrArg (List.drop 8) h1
    unfold noteOf at this
    rw [List.drop_left' (change_len c), List.drop_take] at this
    rw [e8]; exact this
  · rw [e8]; exact chg_of G h2
theorem play_stop {b plain : Bytes} {s : Sess} (G : Good s) (h : ∀ u, ¬ goes b plain s u) (f : Nat) : playFrom f b plain s = (0, plain, s) := by
  cases f with
  | zero => rfl
  | succ f =>
    unfold playFrom
    split
    · rfl
    · rename_i c hc
      split
      · rename_i hn
        split
        · rfl
        · rename_i u hu
          exact absurd (note_goes G hn hu).1 (h u)
      · rfl
theorem play_go {b plain : Bytes} {s u : Sess} (G : Good s) (h : goes b plain s u) (f : Nat) : playFrom (f + 1) b plain s = ((playFrom f (b.drop 12) (plain ++ b.take 8) u).1 + 1, (playFrom f (b.drop 12) (plain ++ b.take 8) u).2) := by
  obtain ⟨c, e1, e2, e3, e4⟩ := goes_note G h
  conv => lhs; unfold playFrom
  rw [e1]
  simp only
  rw [if_pos e3, e4]
  simp only
  rw [e2]
/-! ### sums -/
def bitsOf (b : Bytes) : Nat := b.foldl crcByte 0xFFFFFFFF
theorem bitsOf_append (a b : Bytes) : bitsOf (a ++ b) = b.foldl crcByte (bitsOf a) := by unfold bitsOf; rw [List.foldl_append]
theorem crc_bits (b : Bytes) : crc b = Nat.xor (bitsOf b) 0xFFFFFFFF := rfl
theorem crcBit_lt {c : Nat} (h : c < 4294967296) : crcBit c < 4294967296 := by
  unfold crcBit
  split
  · exact Nat.xor_lt_two_pow (n := 32) (by omega) (by decide)
  · omega
theorem crcByte_lt {c : Nat} (h : c < 4294967296) (x : UInt8) : crcByte c x < 4294967296 := by
  unfold crcByte
  have hx := x.toNat_lt
  have : ∀ (l : List Nat) (d : Nat), d < 4294967296 → l.foldl (fun (d : Nat) (_ : Nat) => crcBit d) d < 4294967296 := by
    intro l
    induction l with
    | nil => intro d hd; exact hd
    | cons y l ih => intro d hd; exact ih _ (crcBit_lt hd)
  exact this _ _ (Nat.xor_lt_two_pow (n := 32) h (by omega))
theorem fold_lt : ∀ (b : Bytes) {c : Nat}, c < 4294967296 → b.foldl crcByte c < 4294967296
  | [], _, h => h
  | x :: b, _, h => fold_lt b (crcByte_lt h x)
theorem bitsOf_lt (b : Bytes) : bitsOf b < 4294967296 := fold_lt b (by decide)
theorem crc_lt (b : Bytes) : crc b < 4294967296 := Nat.xor_lt_two_pow (n := 32) (bitsOf_lt b) (by decide)
end PM

set_option Elab.async false
namespace PM
open Plait PlaitS
/-! ### the one list of calls -/
def bInts (b : Bytes) : List Int := b.map fun (c : UInt8) => (c.toNat : Int)
def encC : Call → List Int
  | .begin_ b => 1 :: (b.length : Int) :: bInts b
  | .load b => 2 :: (b.length : Int) :: bInts b
  | .play b => 3 :: (b.length : Int) :: bInts b
  | .set p z => [4, (p : Int), (z : Int)]
  | .move m => [5, (m : Int)]
  | .undo => [6]
  | .redo => [7]
  | .panel => [8]
  | .drawn => [9]
  | .counts => [10]
  | .save => [11]
  | .head => [12]
/-- what a call may have -/
def fits : Call → Prop
  | .begin_ b => b.length ≤ 2000
  | .load b => b.length ≤ 70000
  | .play b => b.length ≤ 70000
  | .set p z => p < 4294967296 ∧ z < 4294967296
  | .move m => m < 4294967296
  | _ => True
def repInts (r : Reply) : List Int := r.ret :: (r.nums.map (fun (n : Nat) => (n : Int)) ++ r.bytes.map fun (b : UInt8) => (b.toNat : Int))
def out : State → List Call → List Int
  | _, [] => []
  | s, c :: r => ((repInts (PlaitS.step s c).2).length : Int) :: (repInts (PlaitS.step s c).2 ++ out (PlaitS.step s c).1 r)
theorem bytes_back {b : List Int} (h : NeutralIO.bytes b = true) : bInts (b.map fun (n : Int) => UInt8.ofNat n.toNat) = b := by
  unfold NeutralIO.bytes at h
  rw [List.all_eq_true] at h
  unfold bInts
  rw [List.map_map]
  conv => rhs; rw [← List.map_id b]
  apply List.map_congr_left
  intro n hn
  have := h n hn
  simp only [Bool.and_eq_true, decide_eq_true_eq] at this
  show ((UInt8.ofNat n.toNat).toNat : Int) = n
  rw [UInt8.toNat_ofNat', Nat.mod_eq_of_lt (by omega)]
  omega
theorem long_bytes {b : List Int} {n : Nat} (h : PlaitSessNeutral.long b n 0 255 = true) : b.length ≤ n ∧ NeutralIO.bytes b = true := by
  unfold PlaitSessNeutral.long at h
  rw [Bool.and_eq_true, decide_eq_true_eq] at h
  exact ⟨h.1, h.2⟩
theorem natural_nat {z : Int} (h : PlaitSessNeutral.natural z 32 = true) : ∃ n : Nat, z = (n : Int) ∧ n < 4294967296 ∧ PlaitSessNeutral.nat? z = some n := by
  unfold PlaitSessNeutral.natural at h
  rw [Bool.and_eq_true, decide_eq_true_eq, decide_eq_true_eq] at h
  refine ⟨z.toNat, by omega, ?_, ?_⟩
  · have h2 := h.2
    have : (2 : Int) ^ 32 = 4294967296 := by decide
    rw [this] at h2; omega
  · unfold PlaitSessNeutral.nat?
    rw [if_pos h.1]
/-- one call of the list -/
theorem callOf_row {k : Int} {b : List Int} (mk : Bytes → Call) (n : Nat) (hl : PlaitSessNeutral.long b n 0 255 = true) (hc : PlaitSessNeutral.callOf [[k], b] = (PlaitSessNeutral.text? b).map mk) :
    ∃ t : Bytes, b = bInts t ∧ t.length ≤ n ∧ PlaitSessNeutral.callOf [[k], b] = some (mk t) := by
  obtain ⟨h1, h2⟩ := long_bytes hl
  refine ⟨b.map fun (n : Int) => UInt8.ofNat n.toNat, (bytes_back h2).symm, by rw [List.length_map]; exact h1, ?_⟩
  rw [hc]
  unfold PlaitSessNeutral.text?
  rw [if_pos h2]; rfl
theorem row_some {l : List Int} {x : List Int × List Int} (h : PyFlat.row l = some x) : ∃ (n : Nat) (r : List Int), l = (n : Int) :: r ∧ n ≤ r.length ∧ x = (r.take n, r.drop n) := by
  cases l with
  | nil => cases h
  | cons n r =>
    have h' : (if 0 ≤ n ∧ n.toNat ≤ r.length then some (r.take n.toNat, r.drop n.toNat) else none) = some x := h
    split at h'
    · rename_i c
      cases h'
      exact ⟨n.toNat, r, by congr 1; omega, c.2, rfl⟩
    · cases h'
theorem call_eq (p : Int) (r : List Int) : PyFlat.call PyWqaqbt.shape (p :: r) = match PyWqaqbt.shape p with
    | none => none
    | some (n, k) => if r.length < n then none else match PyFlat.rows k (r.drop n) with
      | none => none
      | some (xs, t) => some ((p :: r.take n) :: xs, t) := rfl
theorem call_row {p : Int} {r : List Int} {c : List (List Int)} {t : List Int} (hs : PyWqaqbt.shape p = some (0, 1)) (h : PyFlat.call PyWqaqbt.shape (p :: r) = some (c, t)) :
    ∃ b : List Int, c = [[p], b] ∧ r = (b.length : Int) :: (b ++ t) := by
  rw [call_eq, hs] at h
  simp only at h
  rw [if_neg (Nat.not_lt_zero _)] at h
  split at h
  · cases h
  · rename_i xs t' hr
    cases h
    unfold PyFlat.rows at hr
    split at hr
    · cases hr
    · rename_i x s hrow
      obtain ⟨n, r', e1, e2, e3⟩ := row_some hrow
      cases e3
      unfold PyFlat.rows at hr
      simp only at hr
      cases hr
      refine ⟨r'.take n, by simp, ?_⟩
      rw [List.length_take, Nat.min_eq_left e2, List.take_append_drop]
      rw [List.drop_zero] at e1
      exact e1
theorem call_plain {p : Int} {r : List Int} {c : List (List Int)} {t : List Int} {n : Nat} (hs : PyWqaqbt.shape p = some (n, 0)) (h : PyFlat.call PyWqaqbt.shape (p :: r) = some (c, t)) :
    n ≤ r.length ∧ c = [p :: r.take n] ∧ t = r.drop n := by
  rw [call_eq, hs] at h
  simp only at h
  split at h
  · cases h
  · rename_i hl
    unfold PyFlat.rows at h
    simp only at h
    cases h
    exact ⟨by omega, rfl, rfl⟩
theorem call_shape {p : Int} {r : List Int} {x : List (List Int) × List Int} (h : PyFlat.call PyWqaqbt.shape (p :: r) = some x) : p = 1 ∨ p = 2 ∨ p = 3 ∨ p = 4 ∨ p = 5 ∨ p = 6 ∨ p = 7 ∨ p = 8 ∨ p = 9 ∨ p = 10 ∨ p = 11 ∨ p = 12 := by
  rw [call_eq] at h
  cases hs : PyWqaqbt.shape p with
  | none => rw [hs] at h; cases h
  | some q =>
    by_cases c1 : p = 1; · exact .inl c1
    by_cases c2 : p = 2; · simp [c2]
    by_cases c3 : p = 3; · simp [c3]
    by_cases c4 : p = 4; · simp [c4]
    by_cases c5 : p = 5; · simp [c5]
    by_cases c6 : p = 6; · simp [c6]
    by_cases c7 : p = 7; · simp [c7]
    by_cases c8 : p = 8; · simp [c8]
    by_cases c9 : p = 9; · simp [c9]
    by_cases c10 : p = 10; · simp [c10]
    by_cases c11 : p = 11; · simp [c11]
    by_cases c12 : p = 12; · simp [c12]
    unfold PyWqaqbt.shape at hs
    simp only [c1, c2, c3, c4, c5, c6, c7, c8, c9, c10, c11, c12, if_false] at hs
    cases hs
/-- the first call: what it is in the list, and what the machine takes it for -/
theorem call_one {p : Int} {r : List Int} {c : List (List Int)} {t : List Int} (h : PyFlat.call PyWqaqbt.shape (p :: r) = some (c, t)) (ha : PlaitSessNeutral.asked1 (PyWqaqbt.whole c) = true) :
    ∃ k : Call, p :: r = encC k ++ t ∧ fits k ∧ PlaitSessNeutral.callOf (PyWqaqbt.whole c) = some k := by
  have row : ∀ (q : Int) (mk : Bytes → Call) (n : Nat), p = q → PyWqaqbt.shape q = some (0, 1) → (∀ b, PyWqaqbt.whole [[q], b] = [[q], b]) → (∀ b, PlaitSessNeutral.asked1 [[q], b] = PlaitSessNeutral.long b n 0 255) →
      (∀ b, PlaitSessNeutral.callOf [[q], b] = (PlaitSessNeutral.text? b).map mk) → (∀ b : Bytes, encC (mk b) = q :: (b.length : Int) :: bInts b) → (∀ b : Bytes, b.length ≤ n → fits (mk b)) →
      ∃ k : Call, p :: r = encC k ++ t ∧ fits k ∧ PlaitSessNeutral.callOf (PyWqaqbt.whole c) = some k := by
    intro q mk n hp hs hw hak hc he hf
    subst hp
    obtain ⟨b, rfl, rfl⟩ := call_row hs h
    rw [hw, hak] at ha
    obtain ⟨x, e1, e2, e3⟩ := callOf_row mk n ha (hc b)
    refine ⟨mk x, ?_, hf x e2, by rw [hw]; exact e3⟩
    rw [he]
    subst e1
    show p :: _ = p :: _
    congr 1
    unfold bInts
    rw [List.length_map]; rfl
  have one : ∀ (q : Int) (k : Call), p = q → PyWqaqbt.shape q = some (0, 0) → PyWqaqbt.whole [[q]] = [[q]] → PlaitSessNeutral.callOf [[q]] = some k → encC k = [q] → fits k →
      ∃ k : Call, p :: r = encC k ++ t ∧ fits k ∧ PlaitSessNeutral.callOf (PyWqaqbt.whole c) = some k := by
    intro q k hp hs hw hc he hf
    subst hp
    obtain ⟨_, e1, e2⟩ := call_plain hs h
    rw [List.take_zero] at e1
    rw [List.drop_zero] at e2
    subst e1 e2
    exact ⟨k, by rw [he]; rfl, hf, by rw [hw]; exact hc⟩
  rcases call_shape h with e | e | e | e | e | e | e | e | e | e | e | e
  · exact row 1 .begin_ 2000 e rfl (fun _ => rfl) (fun _ => rfl) (fun _ => rfl) (fun _ => rfl) (fun _ z => z)
  · exact row 2 .load 70000 e rfl (fun _ => rfl) (fun _ => rfl) (fun _ => rfl) (fun _ => rfl) (fun _ z => z)
  · exact row 3 .play 70000 e rfl (fun _ => rfl) (fun _ => rfl) (fun _ => rfl) (fun _ => rfl) (fun _ z => z)
  · subst e
    obtain ⟨h1, rfl, rfl⟩ := call_plain (n := 2) rfl h
    match r, h1 with
    | x :: z :: r, _ =>
      have ha' : (PlaitSessNeutral.natural x 32 && PlaitSessNeutral.natural z 32) = true := ha
      rw [Bool.and_eq_true] at ha'
      obtain ⟨a, rfl, ha1, ha2⟩ := natural_nat ha'.1
      obtain ⟨b, rfl, hb1, hb2⟩ := natural_nat ha'.2
      refine ⟨.set a b, rfl, ⟨ha1, hb1⟩, ?_⟩
      show (match PlaitSessNeutral.nat? (a : Int), PlaitSessNeutral.nat? (b : Int) with
        | some x, some y => some (Call.set x y)
        | _, _ => none) = _
      rw [ha2, hb2]
    | [_], h1 => exact absurd h1 (by simp)
    | [], h1 => exact absurd h1 (by simp)
  · subst e
    obtain ⟨h1, rfl, rfl⟩ := call_plain (n := 1) rfl h
    match r, h1 with
    | x :: r, _ =>
      have ha' : PlaitSessNeutral.natural x 32 = true := ha
      obtain ⟨a, rfl, ha1, ha2⟩ := natural_nat ha'
      refine ⟨.move a, rfl, ha1, ?_⟩
      show (PlaitSessNeutral.nat? (a : Int)).map Call.move = _
      rw [ha2]; rfl
    | [], h1 => exact absurd h1 (by simp)
  · exact one 6 .undo e rfl rfl rfl rfl trivial
  · exact one 7 .redo e rfl rfl rfl rfl trivial
  · exact one 8 .panel e rfl rfl rfl rfl trivial
  · exact one 9 .drawn e rfl rfl rfl rfl trivial
  · exact one 10 .counts e rfl rfl rfl rfl trivial
  · exact one 11 .save e rfl rfl rfl rfl trivial
  · exact one 12 .head e rfl rfl rfl rfl trivial
theorem calls_all : ∀ (f : Nat) (l : List Int) (cs : List (List (List Int))), PyFlat.calls PyWqaqbt.shape f l = some cs → (cs.map PyWqaqbt.whole).all PlaitSessNeutral.asked1 = true →
    ∃ ks : List Call, l = ks.flatMap encC ∧ (∀ k ∈ ks, fits k) ∧ ks.length = cs.length ∧ ∀ s, PyFlat.told (PyFlat.played PlaitSessNeutral.step s (cs.map PyWqaqbt.whole)) = out s ks
  | f, [], cs, h, _ => by
    have : cs = [] := by cases f <;> (cases h; rfl)
    subst this
    exact ⟨[], rfl, fun k hk => (by cases hk), rfl, fun s => rfl⟩
  | 0, _ :: _, cs, h, _ => by cases h
  | f + 1, p :: r, cs, h, ha => by
    unfold PyFlat.calls at h
    split at h
    · cases h
    · rename_i c t hc
      split at h
      · cases h
      · rename_i cs' hcs
        cases h
        rw [List.map_cons, List.all_cons, Bool.and_eq_true] at ha
        obtain ⟨k, e1, e2, e3⟩ := call_one hc ha.1
        obtain ⟨ks, i1, i2, i3, i4⟩ := calls_all f t cs' hcs ha.2
        refine ⟨k :: ks, ?_, ?_, by rw [List.length_cons, List.length_cons, i3], fun s => ?_⟩
        · rw [e1, List.flatMap_cons, ← i1]
        · intro x hx
          rcases List.mem_cons.mp hx with rfl | z
          · exact e2
          · exact i2 x z
        · rw [List.map_cons]
          have hst : PlaitSessNeutral.step s (PyWqaqbt.whole c) = ((PlaitS.step s k).1, repInts (PlaitS.step s k).2) := by
            unfold PlaitSessNeutral.step
            rw [e3]; rfl
          show PyFlat.told ((PlaitSessNeutral.step s (PyWqaqbt.whole c)).2 :: PyFlat.played PlaitSessNeutral.step (PlaitSessNeutral.step s (PyWqaqbt.whole c)).1 (cs'.map PyWqaqbt.whole)) = _
          rw [hst]
          unfold PyFlat.told
          rw [List.flatMap_cons]
          show _ :: (_ ++ _) = _ :: (_ ++ _)
          congr 2
          exact i4 _
theorem asked_view {l : List Int} (h : PyWqaqbt.answers_asked l = true) : ∃ ks : List Call, l = ks.flatMap encC ∧ (∀ k ∈ ks, fits k) ∧ ks.length ≤ 200 ∧ PyWqaqbt.answers l = out none ks := by
  unfold PyWqaqbt.answers_asked PyWqaqbt.calls at h
  unfold PyWqaqbt.answers PyWqaqbt.calls
  cases hc : PyFlat.calls PyWqaqbt.shape l.length l with
  | none => rw [hc] at h; cases h
  | some cs =>
    rw [hc] at h
    simp only at h ⊢
    rw [Bool.and_eq_true] at h
    unfold PyFlat.atMost PlaitSessNeutral.asked at h
    rw [decide_eq_true_eq, Bool.and_eq_true] at h
    obtain ⟨ks, i1, i2, i3, i4⟩ := calls_all _ _ _ hc h.2.1
    refine ⟨ks, i1, i2, by rw [i3]; have := h.1; rw [List.length_map] at this; exact this, ?_⟩
    exact i4 _
end PM

set_option Elab.async false
set_option maxRecDepth 100000
set_option maxHeartbeats 2000000
namespace Pnl
open PySem PySem.Spec PyProof.Rows L2 PM
/-! ### the text by places -/
def top (i : Nat) : Stmt := PySem.Challenge.pw_panelsessions_s01_answers.main.body.getD i (.Pass ⟨0, 0, 0, 0⟩)
abbrev s_Panel_init : Stmt := inClass (top 7) 0
theorem sc_Panel_init : FnScope ["self", "wide", "high", "signs"] ["self", "wide", "high", "signs"] (defScope s_Panel_init) := ⟨rfl, rfl, rfl, by decide +kernel, rfl, by decide +kernel, by decide +kernel⟩
abbrev s_upright_count : Stmt := top 8
theorem sc_upright_count : FnScope ["wide", "high"] ["wide", "high"] (defScope s_upright_count) := ⟨rfl, rfl, rfl, by decide +kernel, rfl, by decide +kernel, by decide +kernel⟩
abbrev s_place_count : Stmt := top 9
theorem sc_place_count : FnScope ["wide", "high"] ["wide", "high"] (defScope s_place_count) := ⟨rfl, rfl, rfl, by decide +kernel, rfl, by decide +kernel, by decide +kernel⟩
abbrev s_upright_sign : Stmt := top 10
theorem sc_upright_sign : FnScope ["panel", "x", "y"] ["panel", "x", "y"] (defScope s_upright_sign) := ⟨rfl, rfl, rfl, by decide +kernel, rfl, by decide +kernel, by decide +kernel⟩
abbrev s_level_sign : Stmt := top 11
theorem sc_level_sign : FnScope ["panel", "x", "y"] ["panel", "x", "y"] (defScope s_level_sign) := ⟨rfl, rfl, rfl, by decide +kernel, rfl, by decide +kernel, by decide +kernel⟩
abbrev s_is_side : Stmt := top 12
theorem sc_is_side : FnScope ["number"] ["number"] (defScope s_is_side) := ⟨rfl, rfl, rfl, by decide +kernel, rfl, by decide +kernel, by decide +kernel⟩
abbrev s_read_panel : Stmt := top 13
theorem sc_read_panel : FnScope ["numbers", "wide", "high", "signs", "sign"] ["numbers"] (defScope s_read_panel) := ⟨rfl, rfl, rfl, by decide +kernel, rfl, by decide +kernel, by decide +kernel⟩
abbrev s_panel_bytes : Stmt := top 14
theorem sc_panel_bytes : FnScope ["panel"] ["panel"] (defScope s_panel_bytes) := ⟨rfl, rfl, rfl, by decide +kernel, rfl, by decide +kernel, by decide +kernel⟩
abbrev s_with_sign : Stmt := top 15
theorem sc_with_sign : FnScope ["panel", "place", "sign", "signs"] ["panel", "place", "sign"] (defScope s_with_sign) := ⟨rfl, rfl, rfl, by decide +kernel, rfl, by decide +kernel, by decide +kernel⟩
abbrev s_square_line : Stmt := top 19
theorem sc_square_line : FnScope ["panel", "y", "line", "x"] ["panel", "y"] (defScope s_square_line) := ⟨rfl, rfl, rfl, by decide +kernel, rfl, by decide +kernel, by decide +kernel⟩
abbrev s_level_line : Stmt := top 20
theorem sc_level_line : FnScope ["panel", "y", "signs", "x"] ["panel", "y"] (defScope s_level_line) := ⟨rfl, rfl, rfl, by decide +kernel, rfl, by decide +kernel, by decide +kernel⟩
abbrev s_drawing : Stmt := top 21
theorem sc_drawing : FnScope ["panel", "text", "y"] ["panel"] (defScope s_drawing) := ⟨rfl, rfl, rfl, by decide +kernel, rfl, by decide +kernel, by decide +kernel⟩
abbrev s_drawing_bytes : Stmt := top 22
theorem sc_drawing_bytes : FnScope ["panel", "letter"] ["panel"] (defScope s_drawing_bytes) := ⟨rfl, rfl, rfl, by decide +kernel, rfl, by decide +kernel, by decide +kernel⟩
abbrev s_low_first : Stmt := top 26
theorem sc_low_first : FnScope ["number", "size", "numbers", "turn"] ["number", "size"] (defScope s_low_first) := ⟨rfl, rfl, rfl, by decide +kernel, rfl, by decide +kernel, by decide +kernel⟩
abbrev s_number_at : Stmt := top 27
theorem sc_number_at : FnScope ["numbers", "start", "size", "number", "byte"] ["numbers", "start", "size"] (defScope s_number_at) := ⟨rfl, rfl, rfl, by decide +kernel, rfl, by decide +kernel, by decide +kernel⟩
abbrev s_bits_after : Stmt := top 28
theorem sc_bits_after : FnScope ["bits", "numbers", "byte", "turn", "lowest"] ["bits", "numbers"] (defScope s_bits_after) := ⟨rfl, rfl, rfl, by decide +kernel, rfl, by decide +kernel, by decide +kernel⟩
abbrev s_sum_bytes : Stmt := top 29
theorem sc_sum_bytes : FnScope ["bits"] ["bits"] (defScope s_sum_bytes) := ⟨rfl, rfl, rfl, by decide +kernel, rfl, by decide +kernel, by decide +kernel⟩
abbrev s_mirrored : Stmt := top 32
theorem sc_mirrored : FnScope ["panel", "wide", "signs", "y", "x"] ["panel"] (defScope s_mirrored) := ⟨rfl, rfl, rfl, by decide +kernel, rfl, by decide +kernel, by decide +kernel⟩
abbrev s_turned : Stmt := top 33
theorem sc_turned : FnScope ["panel", "high", "signs", "y", "x"] ["panel"] (defScope s_turned) := ⟨rfl, rfl, rfl, by decide +kernel, rfl, by decide +kernel, by decide +kernel⟩
abbrev s_moved : Stmt := top 34
theorem sc_moved : FnScope ["panel", "motion", "turn"] ["panel", "motion"] (defScope s_moved) := ⟨rfl, rfl, rfl, by decide +kernel, rfl, by decide +kernel, by decide +kernel⟩
abbrev s_Session_init : Stmt := inClass (top 43) 0
theorem sc_Session_init : FnScope ["self", "first"] ["self", "first"] (defScope s_Session_init) := ⟨rfl, rfl, rfl, by decide +kernel, rfl, by decide +kernel, by decide +kernel⟩
abbrev s_panel_now : Stmt := top 44
theorem sc_panel_now : FnScope ["session"] ["session"] (defScope s_panel_now) := ⟨rfl, rfl, rfl, by decide +kernel, rfl, by decide +kernel, by decide +kernel⟩
abbrev s_back_count : Stmt := top 45
theorem sc_back_count : FnScope ["session"] ["session"] (defScope s_back_count) := ⟨rfl, rfl, rfl, by decide +kernel, rfl, by decide +kernel, by decide +kernel⟩
abbrev s_change_bytes : Stmt := top 46
theorem sc_change_bytes : FnScope ["kind", "first", "second"] ["kind", "first", "second"] (defScope s_change_bytes) := ⟨rfl, rfl, rfl, by decide +kernel, rfl, by decide +kernel, by decide +kernel⟩
abbrev s_panel_behind : Stmt := top 47
theorem sc_panel_behind : FnScope ["panel", "code", "kind", "first", "second"] ["panel", "code"] (defScope s_panel_behind) := ⟨rfl, rfl, rfl, by decide +kernel, rfl, by decide +kernel, by decide +kernel⟩
abbrev s_do_step : Stmt := top 48
theorem sc_do_step : FnScope ["session", "code", "panel"] ["session", "code"] (defScope s_do_step) := ⟨rfl, rfl, rfl, by decide +kernel, rfl, by decide +kernel, by decide +kernel⟩
abbrev s_do_change : Stmt := top 49
theorem sc_do_change : FnScope ["session", "code"] ["session", "code"] (defScope s_do_change) := ⟨rfl, rfl, rfl, by decide +kernel, rfl, by decide +kernel, by decide +kernel⟩
abbrev s_session_bytes : Stmt := top 50
theorem sc_session_bytes : FnScope ["session", "panel", "numbers", "code"] ["session"] (defScope s_session_bytes) := ⟨rfl, rfl, rfl, by decide +kernel, rfl, by decide +kernel, by decide +kernel⟩
abbrev s_read_session : Stmt := top 51
theorem sc_read_session : FnScope ["numbers", "size", "panel", "done", "count", "start", "session", "at"] ["numbers"] (defScope s_read_session) := ⟨rfl, rfl, rfl, by decide +kernel, rfl, by decide +kernel, by decide +kernel⟩
abbrev s_Journal_init : Stmt := inClass (top 56) 0
theorem sc_Journal_init : FnScope ["self", "session", "bits"] ["self", "session", "bits"] (defScope s_Journal_init) := ⟨rfl, rfl, rfl, by decide +kernel, rfl, by decide +kernel, by decide +kernel⟩
abbrev s_beginning_bytes : Stmt := top 57
theorem sc_beginning_bytes : FnScope ["session", "numbers"] ["session"] (defScope s_beginning_bytes) := ⟨rfl, rfl, rfl, by decide +kernel, rfl, by decide +kernel, by decide +kernel⟩
abbrev s_begun_journal : Stmt := top 58
theorem sc_begun_journal : FnScope ["session"] ["session"] (defScope s_begun_journal) := ⟨rfl, rfl, rfl, by decide +kernel, rfl, by decide +kernel, by decide +kernel⟩
abbrev s_note_change : Stmt := top 59
theorem sc_note_change : FnScope ["journal", "code"] ["journal", "code"] (defScope s_note_change) := ⟨rfl, rfl, rfl, by decide +kernel, rfl, by decide +kernel, by decide +kernel⟩
abbrev s_beginning_size : Stmt := top 60
theorem sc_beginning_size : FnScope ["numbers"] ["numbers"] (defScope s_beginning_size) := ⟨rfl, rfl, rfl, by decide +kernel, rfl, by decide +kernel, by decide +kernel⟩
abbrev s_read_beginning : Stmt := top 61
theorem sc_read_beginning : FnScope ["numbers", "size", "session"] ["numbers"] (defScope s_read_beginning) := ⟨rfl, rfl, rfl, by decide +kernel, rfl, by decide +kernel, by decide +kernel⟩
abbrev s_play_note : Stmt := top 62
theorem sc_play_note : FnScope ["journal", "note", "code", "bits"] ["journal", "note"] (defScope s_play_note) := ⟨rfl, rfl, rfl, by decide +kernel, rfl, by decide +kernel, by decide +kernel⟩
abbrev s_play_notes : Stmt := top 63
theorem sc_play_notes : FnScope ["journal", "numbers", "start", "count"] ["journal", "numbers", "start"] (defScope s_play_notes) := ⟨rfl, rfl, rfl, by decide +kernel, rfl, by decide +kernel, by decide +kernel⟩
abbrev s_side_sign : Stmt := top 69
theorem sc_side_sign : FnScope ["panel", "x", "y", "side"] ["panel", "x", "y", "side"] (defScope s_side_sign) := ⟨rfl, rfl, rfl, by decide +kernel, rfl, by decide +kernel, by decide +kernel⟩
abbrev s_end_at : Stmt := top 70
theorem sc_end_at : FnScope ["square", "side", "begins"] ["square", "side", "begins"] (defScope s_end_at) := ⟨rfl, rfl, rfl, by decide +kernel, rfl, by decide +kernel, by decide +kernel⟩
abbrev s_joined_end : Stmt := top 71
theorem sc_joined_end : FnScope ["panel", "end", "square", "x", "y", "begins", "side", "sign", "step", "beyond"] ["panel", "end"] (defScope s_joined_end) := ⟨rfl, rfl, rfl, by decide +kernel, rfl, by decide +kernel, by decide +kernel⟩
abbrev s_follow_strand : Stmt := top 72
theorem sc_follow_strand : FnScope ["panel", "piece", "seen", "end"] ["panel", "piece", "seen"] (defScope s_follow_strand) := ⟨rfl, rfl, rfl, by decide +kernel, rfl, by decide +kernel, by decide +kernel⟩
abbrev s_strand_count : Stmt := top 73
theorem sc_strand_count : FnScope ["panel", "seen", "count", "piece"] ["panel"] (defScope s_strand_count) := ⟨rfl, rfl, rfl, by decide +kernel, rfl, by decide +kernel, by decide +kernel⟩
abbrev s_counted : Stmt := top 96
theorem sc_counted : FnScope ["numbers"] ["numbers"] (defScope s_counted) := ⟨rfl, rfl, rfl, by decide +kernel, rfl, by decide +kernel, by decide +kernel⟩
abbrev s_Record_init : Stmt := inClass (top 97) 0
theorem sc_Record_init : FnScope ["self"] ["self"] (defScope s_Record_init) := ⟨rfl, rfl, rfl, by decide +kernel, rfl, by decide +kernel, by decide +kernel⟩
abbrev s_Record_begin : Stmt := inClass (top 97) 1
theorem sc_Record_begin : FnScope ["self", "numbers", "panel"] ["self", "numbers"] (defScope s_Record_begin) := ⟨rfl, rfl, rfl, by decide +kernel, rfl, by decide +kernel, by decide +kernel⟩
abbrev s_Record_load : Stmt := inClass (top 97) 2
theorem sc_Record_load : FnScope ["self", "numbers", "session"] ["self", "numbers"] (defScope s_Record_load) := ⟨rfl, rfl, rfl, by decide +kernel, rfl, by decide +kernel, by decide +kernel⟩
abbrev s_Record_play : Stmt := inClass (top 97) 3
theorem sc_Record_play : FnScope ["self", "numbers", "journal", "size", "count"] ["self", "numbers"] (defScope s_Record_play) := ⟨rfl, rfl, rfl, by decide +kernel, rfl, by decide +kernel, by decide +kernel⟩
abbrev s_Record_set_at : Stmt := inClass (top 97) 4
theorem sc_Record_set_at : FnScope ["self", "place", "sign"] ["self", "place", "sign"] (defScope s_Record_set_at) := ⟨rfl, rfl, rfl, by decide +kernel, rfl, by decide +kernel, by decide +kernel⟩
abbrev s_Record_move : Stmt := inClass (top 97) 5
theorem sc_Record_move : FnScope ["self", "motion"] ["self", "motion"] (defScope s_Record_move) := ⟨rfl, rfl, rfl, by decide +kernel, rfl, by decide +kernel, by decide +kernel⟩
abbrev s_Record_step : Stmt := inClass (top 97) 6
theorem sc_Record_step : FnScope ["self", "kind", "first", "second"] ["self", "kind", "first", "second"] (defScope s_Record_step) := ⟨rfl, rfl, rfl, by decide +kernel, rfl, by decide +kernel, by decide +kernel⟩
abbrev s_Record_undo : Stmt := inClass (top 97) 7
theorem sc_Record_undo : FnScope ["self"] ["self"] (defScope s_Record_undo) := ⟨rfl, rfl, rfl, by decide +kernel, rfl, by decide +kernel, by decide +kernel⟩
abbrev s_Record_redo : Stmt := inClass (top 97) 8
theorem sc_Record_redo : FnScope ["self"] ["self"] (defScope s_Record_redo) := ⟨rfl, rfl, rfl, by decide +kernel, rfl, by decide +kernel, by decide +kernel⟩
abbrev s_Record_panel : Stmt := inClass (top 97) 9
theorem sc_Record_panel : FnScope ["self"] ["self"] (defScope s_Record_panel) := ⟨rfl, rfl, rfl, by decide +kernel, rfl, by decide +kernel, by decide +kernel⟩
abbrev s_Record_drawn : Stmt := inClass (top 97) 10
theorem sc_Record_drawn : FnScope ["self"] ["self"] (defScope s_Record_drawn) := ⟨rfl, rfl, rfl, by decide +kernel, rfl, by decide +kernel, by decide +kernel⟩
abbrev s_Record_counts : Stmt := inClass (top 97) 11
theorem sc_Record_counts : FnScope ["self", "session", "panel", "crossings"] ["self"] (defScope s_Record_counts) := ⟨rfl, rfl, rfl, by decide +kernel, rfl, by decide +kernel, by decide +kernel⟩
abbrev s_Record_save : Stmt := inClass (top 97) 12
theorem sc_Record_save : FnScope ["self"] ["self"] (defScope s_Record_save) := ⟨rfl, rfl, rfl, by decide +kernel, rfl, by decide +kernel, by decide +kernel⟩
abbrev s_Record_head : Stmt := inClass (top 97) 13
theorem sc_Record_head : FnScope ["self"] ["self"] (defScope s_Record_head) := ⟨rfl, rfl, rfl, by decide +kernel, rfl, by decide +kernel, by decide +kernel⟩
abbrev s_call_end : Stmt := top 98
theorem sc_call_end : FnScope ["calls", "at", "number"] ["calls", "at"] (defScope s_call_end) := ⟨rfl, rfl, rfl, by decide +kernel, rfl, by decide +kernel, by decide +kernel⟩
abbrev s_answer_to_change : Stmt := top 99
theorem sc_answer_to_change : FnScope ["record", "call", "number"] ["record", "call"] (defScope s_answer_to_change) := ⟨rfl, rfl, rfl, by decide +kernel, rfl, by decide +kernel, by decide +kernel⟩
abbrev s_answer_to_question : Stmt := top 100
theorem sc_answer_to_question : FnScope ["record", "number"] ["record", "number"] (defScope s_answer_to_question) := ⟨rfl, rfl, rfl, by decide +kernel, rfl, by decide +kernel, by decide +kernel⟩
abbrev s_answer_to : Stmt := top 101
theorem sc_answer_to : FnScope ["record", "call", "number"] ["record", "call"] (defScope s_answer_to) := ⟨rfl, rfl, rfl, by decide +kernel, rfl, by decide +kernel, by decide +kernel⟩
abbrev s_answers : Stmt := top 102
theorem sc_answers : FnScope ["calls", "record", "given", "at", "end", "answer"] ["calls"] (defScope s_answers) := ⟨rfl, rfl, rfl, by decide +kernel, rfl, by decide +kernel, by decide +kernel⟩
structure Ad where
  f_Panel_init : Addr
  d_Panel_init : FuncData
  f_upright_count : Addr
  d_upright_count : FuncData
  f_place_count : Addr
  d_place_count : FuncData
  f_upright_sign : Addr
  d_upright_sign : FuncData
  f_level_sign : Addr
  d_level_sign : FuncData
  f_is_side : Addr
  d_is_side : FuncData
  f_read_panel : Addr
  d_read_panel : FuncData
  f_panel_bytes : Addr
  d_panel_bytes : FuncData
  f_with_sign : Addr
  d_with_sign : FuncData
  f_square_line : Addr
  d_square_line : FuncData
  f_level_line : Addr
  d_level_line : FuncData
  f_drawing : Addr
  d_drawing : FuncData
  f_drawing_bytes : Addr
  d_drawing_bytes : FuncData
  f_low_first : Addr
  d_low_first : FuncData
  f_number_at : Addr
  d_number_at : FuncData
  f_bits_after : Addr
  d_bits_after : FuncData
  f_sum_bytes : Addr
  d_sum_bytes : FuncData
  f_mirrored : Addr
  d_mirrored : FuncData
  f_turned : Addr
  d_turned : FuncData
  f_moved : Addr
  d_moved : FuncData
  f_Session_init : Addr
  d_Session_init : FuncData
  f_panel_now : Addr
  d_panel_now : FuncData
  f_back_count : Addr
  d_back_count : FuncData
  f_change_bytes : Addr
  d_change_bytes : FuncData
  f_panel_behind : Addr
  d_panel_behind : FuncData
  f_do_step : Addr
  d_do_step : FuncData
  f_do_change : Addr
  d_do_change : FuncData
  f_session_bytes : Addr
  d_session_bytes : FuncData
  f_read_session : Addr
  d_read_session : FuncData
  f_Journal_init : Addr
  d_Journal_init : FuncData
  f_beginning_bytes : Addr
  d_beginning_bytes : FuncData
  f_begun_journal : Addr
  d_begun_journal : FuncData
  f_note_change : Addr
  d_note_change : FuncData
  f_beginning_size : Addr
  d_beginning_size : FuncData
  f_read_beginning : Addr
  d_read_beginning : FuncData
  f_play_note : Addr
  d_play_note : FuncData
  f_play_notes : Addr
  d_play_notes : FuncData
  f_side_sign : Addr
  d_side_sign : FuncData
  f_end_at : Addr
  d_end_at : FuncData
  f_joined_end : Addr
  d_joined_end : FuncData
  f_follow_strand : Addr
  d_follow_strand : FuncData
  f_strand_count : Addr
  d_strand_count : FuncData
  f_counted : Addr
  d_counted : FuncData
  f_Record_init : Addr
  d_Record_init : FuncData
  f_Record_begin : Addr
  d_Record_begin : FuncData
  f_Record_load : Addr
  d_Record_load : FuncData
  f_Record_play : Addr
  d_Record_play : FuncData
  f_Record_set_at : Addr
  d_Record_set_at : FuncData
  f_Record_move : Addr
  d_Record_move : FuncData
  f_Record_step : Addr
  d_Record_step : FuncData
  f_Record_undo : Addr
  d_Record_undo : FuncData
  f_Record_redo : Addr
  d_Record_redo : FuncData
  f_Record_panel : Addr
  d_Record_panel : FuncData
  f_Record_drawn : Addr
  d_Record_drawn : FuncData
  f_Record_counts : Addr
  d_Record_counts : FuncData
  f_Record_save : Addr
  d_Record_save : FuncData
  f_Record_head : Addr
  d_Record_head : FuncData
  f_call_end : Addr
  d_call_end : FuncData
  f_answer_to_change : Addr
  d_answer_to_change : FuncData
  f_answer_to_question : Addr
  d_answer_to_question : FuncData
  f_answer_to : Addr
  d_answer_to : FuncData
  f_answers : Addr
  d_answers : FuncData
  c_Panel : Addr
  c_Session : Addr
  c_Journal : Addr
  c_Record : Addr
  t_HEAD_SIZE_panels : Tok
  t_MOST_SIDE : Tok
  t_CROSSING : Tok
  t_ALONG : Tok
  t_MOST_SIGN : Tok
  t_ALL_BITS : Tok
  t_FOLD : Tok
  t_MOST_MOTION : Tok
  t_MOST_STEPS : Tok
  t_CHANGE_SIZE : Tok
  t_SET : Tok
  t_MOVE : Tok
  t_UNDO : Tok
  t_REDO : Tok
  t_HEAD_SIZE_journals : Tok
  t_NOTE_SIZE : Tok
  t_UPPER : Tok
  t_RIGHT : Tok
  t_LOWER : Tok
  t_CALL_BEGIN : Tok
  t_CALL_LOAD : Tok
  t_CALL_PLAY : Tok
  t_CALL_SET_AT : Tok
  t_CALL_MOVE : Tok
  t_CALL_UNDO : Tok
  t_CALL_REDO : Tok
  t_CALL_PANEL : Tok
  t_CALL_DRAWN : Tok
  t_CALL_COUNTS : Tok
  t_CALL_SAVE : Tok
  t_MOST_PANEL_BYTES : Tok
  t_MOST_BYTES : Tok
  t_OUT_OF_RANGE : Tok
  t_TOO_LONG : Tok
  t_ALL_STEPS_DONE : Tok
  t_NO_PLACE : Tok
  t_NOTHING_THERE : Tok
  t_NO_PANEL : Tok
  t_NO_SESSION : Tok
  t_WRONG_BYTES : Tok
  p_PANEL_MARK : Addr
  p_SESSION_MARK : Addr
  p_JOURNAL_MARK : Addr
  p_SIDE_STEPS : Addr
  p_SIDE_STEPS_0 : Addr
  p_SIDE_STEPS_1 : Addr
  p_SIDE_STEPS_2 : Addr
  p_SIDE_STEPS_3 : Addr
  t_UPRIGHT_SIGNS : Tok
  t_LEVEL_SIGNS : Tok
structure Txt (K : PySem.W.Frag) (mg : Str → Option Value) (a : Ad) : Prop where
  f_Panel_init : Fun K "__init__" "Panel.__init__" s_Panel_init a.f_Panel_init a.d_Panel_init
  b_Panel_init : Binds K a.d_Panel_init ["self", "wide", "high", "signs"] []
  f_upright_count : Fun K "upright_count" "upright_count" s_upright_count a.f_upright_count a.d_upright_count
  b_upright_count : Binds K a.d_upright_count ["wide", "high"] []
  m_upright_count : mg "upright_count" = some (.ref a.f_upright_count)
  f_place_count : Fun K "place_count" "place_count" s_place_count a.f_place_count a.d_place_count
  b_place_count : Binds K a.d_place_count ["wide", "high"] []
  m_place_count : mg "place_count" = some (.ref a.f_place_count)
  f_upright_sign : Fun K "upright_sign" "upright_sign" s_upright_sign a.f_upright_sign a.d_upright_sign
  b_upright_sign : Binds K a.d_upright_sign ["panel", "x", "y"] []
  m_upright_sign : mg "upright_sign" = some (.ref a.f_upright_sign)
  f_level_sign : Fun K "level_sign" "level_sign" s_level_sign a.f_level_sign a.d_level_sign
  b_level_sign : Binds K a.d_level_sign ["panel", "x", "y"] []
  m_level_sign : mg "level_sign" = some (.ref a.f_level_sign)
  f_is_side : Fun K "is_side" "is_side" s_is_side a.f_is_side a.d_is_side
  b_is_side : Binds K a.d_is_side ["number"] []
  m_is_side : mg "is_side" = some (.ref a.f_is_side)
  f_read_panel : Fun K "read_panel" "read_panel" s_read_panel a.f_read_panel a.d_read_panel
  b_read_panel : Binds K a.d_read_panel ["numbers"] []
  m_read_panel : mg "read_panel" = some (.ref a.f_read_panel)
  f_panel_bytes : Fun K "panel_bytes" "panel_bytes" s_panel_bytes a.f_panel_bytes a.d_panel_bytes
  b_panel_bytes : Binds K a.d_panel_bytes ["panel"] []
  m_panel_bytes : mg "panel_bytes" = some (.ref a.f_panel_bytes)
  f_with_sign : Fun K "with_sign" "with_sign" s_with_sign a.f_with_sign a.d_with_sign
  b_with_sign : Binds K a.d_with_sign ["panel", "place", "sign"] []
  m_with_sign : mg "with_sign" = some (.ref a.f_with_sign)
  f_square_line : Fun K "square_line" "square_line" s_square_line a.f_square_line a.d_square_line
  b_square_line : Binds K a.d_square_line ["panel", "y"] []
  m_square_line : mg "square_line" = some (.ref a.f_square_line)
  f_level_line : Fun K "level_line" "level_line" s_level_line a.f_level_line a.d_level_line
  b_level_line : Binds K a.d_level_line ["panel", "y"] []
  m_level_line : mg "level_line" = some (.ref a.f_level_line)
  f_drawing : Fun K "drawing" "drawing" s_drawing a.f_drawing a.d_drawing
  b_drawing : Binds K a.d_drawing ["panel"] []
  m_drawing : mg "drawing" = some (.ref a.f_drawing)
  f_drawing_bytes : Fun K "drawing_bytes" "drawing_bytes" s_drawing_bytes a.f_drawing_bytes a.d_drawing_bytes
  b_drawing_bytes : Binds K a.d_drawing_bytes ["panel"] []
  m_drawing_bytes : mg "drawing_bytes" = some (.ref a.f_drawing_bytes)
  f_low_first : Fun K "low_first" "low_first" s_low_first a.f_low_first a.d_low_first
  b_low_first : Binds K a.d_low_first ["number", "size"] []
  m_low_first : mg "low_first" = some (.ref a.f_low_first)
  f_number_at : Fun K "number_at" "number_at" s_number_at a.f_number_at a.d_number_at
  b_number_at : Binds K a.d_number_at ["numbers", "start", "size"] []
  m_number_at : mg "number_at" = some (.ref a.f_number_at)
  f_bits_after : Fun K "bits_after" "bits_after" s_bits_after a.f_bits_after a.d_bits_after
  b_bits_after : Binds K a.d_bits_after ["bits", "numbers"] []
  m_bits_after : mg "bits_after" = some (.ref a.f_bits_after)
  f_sum_bytes : Fun K "sum_bytes" "sum_bytes" s_sum_bytes a.f_sum_bytes a.d_sum_bytes
  b_sum_bytes : Binds K a.d_sum_bytes ["bits"] []
  m_sum_bytes : mg "sum_bytes" = some (.ref a.f_sum_bytes)
  f_mirrored : Fun K "mirrored" "mirrored" s_mirrored a.f_mirrored a.d_mirrored
  b_mirrored : Binds K a.d_mirrored ["panel"] []
  m_mirrored : mg "mirrored" = some (.ref a.f_mirrored)
  f_turned : Fun K "turned" "turned" s_turned a.f_turned a.d_turned
  b_turned : Binds K a.d_turned ["panel"] []
  m_turned : mg "turned" = some (.ref a.f_turned)
  f_moved : Fun K "moved" "moved" s_moved a.f_moved a.d_moved
  b_moved : Binds K a.d_moved ["panel", "motion"] []
  m_moved : mg "moved" = some (.ref a.f_moved)
  f_Session_init : Fun K "__init__" "Session.__init__" s_Session_init a.f_Session_init a.d_Session_init
  b_Session_init : Binds K a.d_Session_init ["self", "first"] []
  f_panel_now : Fun K "panel_now" "panel_now" s_panel_now a.f_panel_now a.d_panel_now
  b_panel_now : Binds K a.d_panel_now ["session"] []
  m_panel_now : mg "panel_now" = some (.ref a.f_panel_now)
  f_back_count : Fun K "back_count" "back_count" s_back_count a.f_back_count a.d_back_count
  b_back_count : Binds K a.d_back_count ["session"] []
  m_back_count : mg "back_count" = some (.ref a.f_back_count)
  f_change_bytes : Fun K "change_bytes" "change_bytes" s_change_bytes a.f_change_bytes a.d_change_bytes
  b_change_bytes : Binds K a.d_change_bytes ["kind", "first", "second"] []
  m_change_bytes : mg "change_bytes" = some (.ref a.f_change_bytes)
  f_panel_behind : Fun K "panel_behind" "panel_behind" s_panel_behind a.f_panel_behind a.d_panel_behind
  b_panel_behind : Binds K a.d_panel_behind ["panel", "code"] []
  m_panel_behind : mg "panel_behind" = some (.ref a.f_panel_behind)
  f_do_step : Fun K "do_step" "do_step" s_do_step a.f_do_step a.d_do_step
  b_do_step : Binds K a.d_do_step ["session", "code"] []
  m_do_step : mg "do_step" = some (.ref a.f_do_step)
  f_do_change : Fun K "do_change" "do_change" s_do_change a.f_do_change a.d_do_change
  b_do_change : Binds K a.d_do_change ["session", "code"] []
  m_do_change : mg "do_change" = some (.ref a.f_do_change)
  f_session_bytes : Fun K "session_bytes" "session_bytes" s_session_bytes a.f_session_bytes a.d_session_bytes
  b_session_bytes : Binds K a.d_session_bytes ["session"] []
  m_session_bytes : mg "session_bytes" = some (.ref a.f_session_bytes)
  f_read_session : Fun K "read_session" "read_session" s_read_session a.f_read_session a.d_read_session
  b_read_session : Binds K a.d_read_session ["numbers"] []
  m_read_session : mg "read_session" = some (.ref a.f_read_session)
  f_Journal_init : Fun K "__init__" "Journal.__init__" s_Journal_init a.f_Journal_init a.d_Journal_init
  b_Journal_init : Binds K a.d_Journal_init ["self", "session", "bits"] []
  f_beginning_bytes : Fun K "beginning_bytes" "beginning_bytes" s_beginning_bytes a.f_beginning_bytes a.d_beginning_bytes
  b_beginning_bytes : Binds K a.d_beginning_bytes ["session"] []
  m_beginning_bytes : mg "beginning_bytes" = some (.ref a.f_beginning_bytes)
  f_begun_journal : Fun K "begun_journal" "begun_journal" s_begun_journal a.f_begun_journal a.d_begun_journal
  b_begun_journal : Binds K a.d_begun_journal ["session"] []
  m_begun_journal : mg "begun_journal" = some (.ref a.f_begun_journal)
  f_note_change : Fun K "note_change" "note_change" s_note_change a.f_note_change a.d_note_change
  b_note_change : Binds K a.d_note_change ["journal", "code"] []
  m_note_change : mg "note_change" = some (.ref a.f_note_change)
  f_beginning_size : Fun K "beginning_size" "beginning_size" s_beginning_size a.f_beginning_size a.d_beginning_size
  b_beginning_size : Binds K a.d_beginning_size ["numbers"] []
  m_beginning_size : mg "beginning_size" = some (.ref a.f_beginning_size)
  f_read_beginning : Fun K "read_beginning" "read_beginning" s_read_beginning a.f_read_beginning a.d_read_beginning
  b_read_beginning : Binds K a.d_read_beginning ["numbers"] []
  m_read_beginning : mg "read_beginning" = some (.ref a.f_read_beginning)
  f_play_note : Fun K "play_note" "play_note" s_play_note a.f_play_note a.d_play_note
  b_play_note : Binds K a.d_play_note ["journal", "note"] []
  m_play_note : mg "play_note" = some (.ref a.f_play_note)
  f_play_notes : Fun K "play_notes" "play_notes" s_play_notes a.f_play_notes a.d_play_notes
  b_play_notes : Binds K a.d_play_notes ["journal", "numbers", "start"] []
  m_play_notes : mg "play_notes" = some (.ref a.f_play_notes)
  f_side_sign : Fun K "side_sign" "side_sign" s_side_sign a.f_side_sign a.d_side_sign
  b_side_sign : Binds K a.d_side_sign ["panel", "x", "y", "side"] []
  m_side_sign : mg "side_sign" = some (.ref a.f_side_sign)
  f_end_at : Fun K "end_at" "end_at" s_end_at a.f_end_at a.d_end_at
  b_end_at : Binds K a.d_end_at ["square", "side", "begins"] []
  m_end_at : mg "end_at" = some (.ref a.f_end_at)
  f_joined_end : Fun K "joined_end" "joined_end" s_joined_end a.f_joined_end a.d_joined_end
  b_joined_end : Binds K a.d_joined_end ["panel", "end"] []
  m_joined_end : mg "joined_end" = some (.ref a.f_joined_end)
  f_follow_strand : Fun K "follow_strand" "follow_strand" s_follow_strand a.f_follow_strand a.d_follow_strand
  b_follow_strand : Binds K a.d_follow_strand ["panel", "piece", "seen"] []
  m_follow_strand : mg "follow_strand" = some (.ref a.f_follow_strand)
  f_strand_count : Fun K "strand_count" "strand_count" s_strand_count a.f_strand_count a.d_strand_count
  b_strand_count : Binds K a.d_strand_count ["panel"] []
  m_strand_count : mg "strand_count" = some (.ref a.f_strand_count)
  f_counted : Fun K "counted" "counted" s_counted a.f_counted a.d_counted
  b_counted : Binds K a.d_counted ["numbers"] []
  m_counted : mg "counted" = some (.ref a.f_counted)
  f_Record_init : Fun K "__init__" "Record.__init__" s_Record_init a.f_Record_init a.d_Record_init
  b_Record_init : Binds K a.d_Record_init ["self"] []
  f_Record_begin : Fun K "begin" "Record.begin" s_Record_begin a.f_Record_begin a.d_Record_begin
  b_Record_begin : Binds K a.d_Record_begin ["self", "numbers"] []
  me_Record_begin : Meth K a.c_Record "begin" a.f_Record_begin
  f_Record_load : Fun K "load" "Record.load" s_Record_load a.f_Record_load a.d_Record_load
  b_Record_load : Binds K a.d_Record_load ["self", "numbers"] []
  me_Record_load : Meth K a.c_Record "load" a.f_Record_load
  f_Record_play : Fun K "play" "Record.play" s_Record_play a.f_Record_play a.d_Record_play
  b_Record_play : Binds K a.d_Record_play ["self", "numbers"] []
  me_Record_play : Meth K a.c_Record "play" a.f_Record_play
  f_Record_set_at : Fun K "set_at" "Record.set_at" s_Record_set_at a.f_Record_set_at a.d_Record_set_at
  b_Record_set_at : Binds K a.d_Record_set_at ["self", "place", "sign"] []
  me_Record_set_at : Meth K a.c_Record "set_at" a.f_Record_set_at
  f_Record_move : Fun K "move" "Record.move" s_Record_move a.f_Record_move a.d_Record_move
  b_Record_move : Binds K a.d_Record_move ["self", "motion"] []
  me_Record_move : Meth K a.c_Record "move" a.f_Record_move
  f_Record_step : Fun K "step" "Record.step" s_Record_step a.f_Record_step a.d_Record_step
  b_Record_step : Binds K a.d_Record_step ["self", "kind", "first", "second"] []
  me_Record_step : Meth K a.c_Record "step" a.f_Record_step
  f_Record_undo : Fun K "undo" "Record.undo" s_Record_undo a.f_Record_undo a.d_Record_undo
  b_Record_undo : Binds K a.d_Record_undo ["self"] []
  me_Record_undo : Meth K a.c_Record "undo" a.f_Record_undo
  f_Record_redo : Fun K "redo" "Record.redo" s_Record_redo a.f_Record_redo a.d_Record_redo
  b_Record_redo : Binds K a.d_Record_redo ["self"] []
  me_Record_redo : Meth K a.c_Record "redo" a.f_Record_redo
  f_Record_panel : Fun K "panel" "Record.panel" s_Record_panel a.f_Record_panel a.d_Record_panel
  b_Record_panel : Binds K a.d_Record_panel ["self"] []
  me_Record_panel : Meth K a.c_Record "panel" a.f_Record_panel
  f_Record_drawn : Fun K "drawn" "Record.drawn" s_Record_drawn a.f_Record_drawn a.d_Record_drawn
  b_Record_drawn : Binds K a.d_Record_drawn ["self"] []
  me_Record_drawn : Meth K a.c_Record "drawn" a.f_Record_drawn
  f_Record_counts : Fun K "counts" "Record.counts" s_Record_counts a.f_Record_counts a.d_Record_counts
  b_Record_counts : Binds K a.d_Record_counts ["self"] []
  me_Record_counts : Meth K a.c_Record "counts" a.f_Record_counts
  f_Record_save : Fun K "save" "Record.save" s_Record_save a.f_Record_save a.d_Record_save
  b_Record_save : Binds K a.d_Record_save ["self"] []
  me_Record_save : Meth K a.c_Record "save" a.f_Record_save
  f_Record_head : Fun K "head" "Record.head" s_Record_head a.f_Record_head a.d_Record_head
  b_Record_head : Binds K a.d_Record_head ["self"] []
  me_Record_head : Meth K a.c_Record "head" a.f_Record_head
  f_call_end : Fun K "call_end" "call_end" s_call_end a.f_call_end a.d_call_end
  b_call_end : Binds K a.d_call_end ["calls", "at"] []
  m_call_end : mg "call_end" = some (.ref a.f_call_end)
  f_answer_to_change : Fun K "answer_to_change" "answer_to_change" s_answer_to_change a.f_answer_to_change a.d_answer_to_change
  b_answer_to_change : Binds K a.d_answer_to_change ["record", "call"] []
  m_answer_to_change : mg "answer_to_change" = some (.ref a.f_answer_to_change)
  f_answer_to_question : Fun K "answer_to_question" "answer_to_question" s_answer_to_question a.f_answer_to_question a.d_answer_to_question
  b_answer_to_question : Binds K a.d_answer_to_question ["record", "number"] []
  m_answer_to_question : mg "answer_to_question" = some (.ref a.f_answer_to_question)
  f_answer_to : Fun K "answer_to" "answer_to" s_answer_to a.f_answer_to a.d_answer_to
  b_answer_to : Binds K a.d_answer_to ["record", "call"] []
  m_answer_to : mg "answer_to" = some (.ref a.f_answer_to)
  f_answers : Fun K "answers" "answers" s_answers a.f_answers a.d_answers
  b_answers : Binds K a.d_answers ["calls"] []
  m_answers : mg "answers" = some (.ref a.f_answers)
  c_Panel : Cls K a.c_Panel
  m_Panel : mg "Panel" = some (.ref a.c_Panel)
  mk_Panel : Mk K a.c_Panel a.f_Panel_init
  n_Panel_high : NoAttr K a.c_Panel "high"
  n_Panel_signs : NoAttr K a.c_Panel "signs"
  n_Panel_wide : NoAttr K a.c_Panel "wide"
  c_Session : Cls K a.c_Session
  m_Session : mg "Session" = some (.ref a.c_Session)
  mk_Session : Mk K a.c_Session a.f_Session_init
  n_Session_done : NoAttr K a.c_Session "done"
  n_Session_panels : NoAttr K a.c_Session "panels"
  n_Session_steps : NoAttr K a.c_Session "steps"
  c_Journal : Cls K a.c_Journal
  m_Journal : mg "Journal" = some (.ref a.c_Journal)
  mk_Journal : Mk K a.c_Journal a.f_Journal_init
  n_Journal_bits : NoAttr K a.c_Journal "bits"
  n_Journal_session : NoAttr K a.c_Journal "session"
  c_Record : Cls K a.c_Record
  m_Record : mg "Record" = some (.ref a.c_Record)
  mk_Record : Mk K a.c_Record a.f_Record_init
  n_Record_journal : NoAttr K a.c_Record "journal"
  g_HEAD_SIZE_panels : mg "HEAD_SIZE_panels" = some (.int (6) a.t_HEAD_SIZE_panels)
  g_MOST_SIDE : mg "MOST_SIDE" = some (.int (8) a.t_MOST_SIDE)
  g_CROSSING : mg "CROSSING" = some (.int (0) a.t_CROSSING)
  g_ALONG : mg "ALONG" = some (.int (1) a.t_ALONG)
  g_MOST_SIGN : mg "MOST_SIGN" = some (.int (2) a.t_MOST_SIGN)
  g_ALL_BITS : mg "ALL_BITS" = some (.int (4294967295) a.t_ALL_BITS)
  g_FOLD : mg "FOLD" = some (.int (2197175160) a.t_FOLD)
  g_MOST_MOTION : mg "MOST_MOTION" = some (.int (7) a.t_MOST_MOTION)
  g_MOST_STEPS : mg "MOST_STEPS" = some (.int (64) a.t_MOST_STEPS)
  g_CHANGE_SIZE : mg "CHANGE_SIZE" = some (.int (8) a.t_CHANGE_SIZE)
  g_SET : mg "SET" = some (.int (0) a.t_SET)
  g_MOVE : mg "MOVE" = some (.int (1) a.t_MOVE)
  g_UNDO : mg "UNDO" = some (.int (2) a.t_UNDO)
  g_REDO : mg "REDO" = some (.int (3) a.t_REDO)
  g_HEAD_SIZE_journals : mg "HEAD_SIZE_journals" = some (.int (8) a.t_HEAD_SIZE_journals)
  g_NOTE_SIZE : mg "NOTE_SIZE" = some (.int (12) a.t_NOTE_SIZE)
  g_UPPER : mg "UPPER" = some (.int (0) a.t_UPPER)
  g_RIGHT : mg "RIGHT" = some (.int (1) a.t_RIGHT)
  g_LOWER : mg "LOWER" = some (.int (2) a.t_LOWER)
  g_CALL_BEGIN : mg "CALL_BEGIN" = some (.int (1) a.t_CALL_BEGIN)
  g_CALL_LOAD : mg "CALL_LOAD" = some (.int (2) a.t_CALL_LOAD)
  g_CALL_PLAY : mg "CALL_PLAY" = some (.int (3) a.t_CALL_PLAY)
  g_CALL_SET_AT : mg "CALL_SET_AT" = some (.int (4) a.t_CALL_SET_AT)
  g_CALL_MOVE : mg "CALL_MOVE" = some (.int (5) a.t_CALL_MOVE)
  g_CALL_UNDO : mg "CALL_UNDO" = some (.int (6) a.t_CALL_UNDO)
  g_CALL_REDO : mg "CALL_REDO" = some (.int (7) a.t_CALL_REDO)
  g_CALL_PANEL : mg "CALL_PANEL" = some (.int (8) a.t_CALL_PANEL)
  g_CALL_DRAWN : mg "CALL_DRAWN" = some (.int (9) a.t_CALL_DRAWN)
  g_CALL_COUNTS : mg "CALL_COUNTS" = some (.int (10) a.t_CALL_COUNTS)
  g_CALL_SAVE : mg "CALL_SAVE" = some (.int (11) a.t_CALL_SAVE)
  g_MOST_PANEL_BYTES : mg "MOST_PANEL_BYTES" = some (.int (1024) a.t_MOST_PANEL_BYTES)
  g_MOST_BYTES : mg "MOST_BYTES" = some (.int (65536) a.t_MOST_BYTES)
  g_OUT_OF_RANGE : mg "OUT_OF_RANGE" = some (.int (-1) a.t_OUT_OF_RANGE)
  g_TOO_LONG : mg "TOO_LONG" = some (.int (-2) a.t_TOO_LONG)
  g_ALL_STEPS_DONE : mg "ALL_STEPS_DONE" = some (.int (-3) a.t_ALL_STEPS_DONE)
  g_NO_PLACE : mg "NO_PLACE" = some (.int (-4) a.t_NO_PLACE)
  g_NOTHING_THERE : mg "NOTHING_THERE" = some (.int (-5) a.t_NOTHING_THERE)
  g_NO_PANEL : mg "NO_PANEL" = some (.int (-6) a.t_NO_PANEL)
  g_NO_SESSION : mg "NO_SESSION" = some (.int (-8) a.t_NO_SESSION)
  g_WRONG_BYTES : mg "WRONG_BYTES" = some (.int (-9) a.t_WRONG_BYTES)
  g_PANEL_MARK : mg "PANEL_MARK" = some (.ref a.p_PANEL_MARK)
  q_PANEL_MARK : ∀ H, SqT K H a.p_PANEL_MARK [.int 80, .int 76, .int 80, .int 49]
  g_SESSION_MARK : mg "SESSION_MARK" = some (.ref a.p_SESSION_MARK)
  q_SESSION_MARK : ∀ H, SqT K H a.p_SESSION_MARK [.int 80, .int 76, .int 83, .int 49]
  g_JOURNAL_MARK : mg "JOURNAL_MARK" = some (.ref a.p_JOURNAL_MARK)
  q_JOURNAL_MARK : ∀ H, SqT K H a.p_JOURNAL_MARK [.int 80, .int 76, .int 74, .int 49]
  g_SIDE_STEPS : mg "SIDE_STEPS" = some (.ref a.p_SIDE_STEPS)
  q_SIDE_STEPS : ∀ H, SqT K H a.p_SIDE_STEPS [.ref a.p_SIDE_STEPS_0, .ref a.p_SIDE_STEPS_1, .ref a.p_SIDE_STEPS_2, .ref a.p_SIDE_STEPS_3]
  q_SIDE_STEPS_0 : ∀ H, SqT K H a.p_SIDE_STEPS_0 [.int (0), .int (-1)]
  q_SIDE_STEPS_1 : ∀ H, SqT K H a.p_SIDE_STEPS_1 [.int (1), .int (0)]
  q_SIDE_STEPS_2 : ∀ H, SqT K H a.p_SIDE_STEPS_2 [.int (0), .int (1)]
  q_SIDE_STEPS_3 : ∀ H, SqT K H a.p_SIDE_STEPS_3 [.int (-1), .int (0)]
  g_UPRIGHT_SIGNS : mg "UPRIGHT_SIGNS" = some (.str "x|-" a.t_UPRIGHT_SIGNS)
  g_LEVEL_SIGNS : mg "LEVEL_SIGNS" = some (.str "x-|" a.t_LEVEL_SIGNS)
  no_any : mg "any" = none
  no_len : mg "len" = none
  no_list : mg "list" = none
  no_ord : mg "ord" = none
  no_range : mg "range" = none
  no_reversed : mg "reversed" = none
/-! ### values -/
def vB (b : Plait.Bytes) : List V := b.map fun c => V.int (c.toNat : Int)
def vN (l : List Nat) : List V := l.map fun (n : Nat) => V.int (n : Int)
/-- a new list is handed back, all else stays -/
def Fresh (H : Hp) (xs : List V) (Q : VK) : Prop := ∀ (p : Addr) (H' : Hp), H p = Option.none → Same H H' → H' p = some (.lst xs) → Q (.ref p) H'
theorem vB_len (b : Plait.Bytes) : (vB b).length = b.length := List.length_map ..
theorem vB_append (b c : Plait.Bytes) : vB (b ++ c) = vB b ++ vB c := List.map_append ..
theorem Same.new {H : Hp} {p : Addr} {o : HO} (h : H p = Option.none) : Same H (upd H p o) := fun b u e => by
  rw [upd_ne (ne_of_none e h)]; exact e
theorem Same.put {H H' : Hp} {p : Addr} {o : HO} (h : H p = Option.none) (s : Same H H') : Same H (upd H' p o) := fun b u e => by
  rw [upd_ne (ne_of_none e h)]; exact s b u e
theorem nb {c : Prop} [Decidable c] (h : (!decide c) = true) : ¬ c := by simpa using h
theorem nb' {c : Prop} [Decidable c] (h : ¬ (!decide c) = true) : c := by simpa using h
theorem db {c : Prop} [Decidable c] (h : decide c = true) : c := of_decide_eq_true h
theorem db' {c : Prop} [Decidable c] (h : ¬ decide c = true) : ¬ c := fun e => h (decide_eq_true e)
theorem vi {m n : Nat} (h : V.int (m : Int) = V.int (n : Int)) : m = n := by
  injection h with h
  omega
/-! ### a loop over reversed(list) -/
theorem for_rev {K : PySem.W.Frag} {a : Addr} {xs : List V} {g : TG} {tb : TS} {D : Ends} {σ : L2.St} {H : Hp} (Pv : Nat → L2.St → Hp → Prop) (h0 : Pv 0 σ H) (hl : ∀ i σ H, i ≤ xs.length → Pv i σ H → SqL K H a xs)
    (hs : ∀ i x σ H, i < xs.length → xs[xs.length - 1 - i]? = some x → Pv i σ H → g x σ H fun σ2 H2 => tb { D with nx := Pv (i + 1), ct := Pv (i + 1), bk := D.nx } σ2 H2) (hd : ∀ σ H, Pv xs.length σ H → D.nx σ H) :
    ∃ W : Nat → Nat → L2.St → Hp → Prop, (∃ m, W 0 m σ H) ∧ ∀ i m σ H, W i m σ H →
      ((Itv K a xs.length).stop i H ∧ D.nx σ H) ∨ ((Itv K a xs.length).go i H ∧ ∃ N : L2.St → Hp → Prop, (∀ σ' H', N σ' H' → ∃ m', m' < m ∧ W (i + 1) m' σ' H') ∧ ∀ x H', (Itv K a xs.length).yld i H x H' → g x σ H' fun σ2 H2 => tb { D with nx := N, ct := N, bk := D.nx } σ2 H2) := by
  refine ⟨fun i m σ H => m = xs.length - i ∧ i ≤ xs.length ∧ Pv i σ H, ⟨xs.length, by simp, Nat.zero_le _, h0⟩, ?_⟩
  rintro i m σ H ⟨rfl, hi, p⟩
  have q := hl i σ H hi p
  by_cases hlt : i < xs.length
  · have hix : xs.length - 1 - i < xs.length := by omega
    refine .inr ⟨⟨hlt, xs, xs[xs.length - 1 - i], q, List.getElem?_eq_getElem hix⟩, Pv (i + 1), fun σ' H' p' => ⟨xs.length - (i + 1), by omega, rfl, hlt, p'⟩, fun x H' y => ?_⟩
    obtain ⟨e, y⟩ := y
    subst e
    exact hs i x σ _ hlt (y xs q) p
  · have e : i = xs.length := by omega
    subst e
    exact .inl ⟨Nat.le_refl _, hd σ H p⟩
/-! ### slices -/
theorem cut_nat (xs : List V) (i j : Nat) : cutV xs (some (i : Int)) (some (j : Int)) = (xs.drop i).take (j - i) := by
  unfold cutV
  rw [HT.sIx_nat, HT.sIx_nat]
  by_cases h : i ≤ xs.length
  · rw [Nat.min_eq_left h]
    by_cases h2 : j ≤ xs.length
    · rw [Nat.min_eq_left h2]
    · rw [Nat.min_eq_right (by omega), List.take_of_length_le (by rw [List.length_drop]; omega), List.take_of_length_le (by rw [List.length_drop]; omega)]
  · rw [show min i xs.length = xs.length from by omega, List.drop_length, List.drop_eq_nil_of_le (by omega), List.take_nil, List.take_nil]
theorem cut_from (xs : List V) (i : Nat) : cutV xs (some (i : Int)) Option.none = xs.drop i := by
  unfold cutV
  rw [HT.sIx_nat, HT.sIx_none]
  by_cases h : i ≤ xs.length
  · rw [Nat.min_eq_left h, List.take_of_length_le (by rw [List.length_drop]; omega)]
  · rw [Nat.min_eq_right (by omega), List.drop_length, List.drop_eq_nil_of_le (by omega), List.take_nil]
theorem cut_to (xs : List V) (j : Nat) : cutV xs Option.none (some (j : Int)) = xs.take j := by
  unfold cutV
  rw [HT.sIx_nat, HT.sIx_none, List.drop_zero, Nat.sub_zero]
  by_cases h : j ≤ xs.length
  · rw [Nat.min_eq_left h]
  · rw [Nat.min_eq_right (by omega), List.take_length, List.take_of_length_le (by omega)]
theorem vB_drop (b : Plait.Bytes) (i : Nat) : (vB b).drop i = vB (b.drop i) := by unfold vB; rw [List.map_drop]
theorem vB_take (b : Plait.Bytes) (i : Nat) : (vB b).take i = vB (b.take i) := by unfold vB; rw [List.map_take]
theorem vB_get {b : Plait.Bytes} {i : Nat} {x : V} (h : (vB b)[i]? = some x) : ∃ c, b[i]? = some c ∧ x = .int (c.toNat : Int) := by
  unfold vB at h
  rw [List.getElem?_map] at h
  cases e : b[i]? with
  | none => rw [e] at h; cases h
  | some c => rw [e] at h; exact ⟨c, rfl, (Option.some.inj h).symm⟩
end Pnl

set_option Elab.async false
set_option maxRecDepth 100000
set_option maxHeartbeats 2000000
namespace Pnl
open PySem PySem.Spec PyProof.Rows L2 PM
variable {P : Program} {w : World} {K : PySem.W.Frag} {mg : Str → Option Value} {base : Heap} {a : Ad}
/-! ### bytework -/
theorem lowN_snoc : ∀ (k n : Nat), lowN (k + 1) n = lowN k n ++ [UInt8.ofNat (n / 256 ^ k % 256)]
  | 0, n => by simp [lowN]
  | k + 1, n => by
    show UInt8.ofNat (n % 256) :: lowN (k + 1) (n / 256) = UInt8.ofNat (n % 256) :: (lowN k (n / 256) ++ _)
    rw [lowN_snoc k (n / 256), Nat.div_div_eq_div_mul, Nat.pow_succ, Nat.mul_comm]
def spLow : Sp := fun vs H Q _ => ∃ n k : Nat, vs = [.int n, .int k] ∧ k ≤ 4 ∧ Fresh H (vB (lowN k n)) Q
theorem ok_low_first (T : Txt K mg a) : FnOk P w K mg base CX0 1 a.f_low_first a.d_low_first ["number", "size"] spLow := by
  have nd := sc_low_first.nd
  refine T.f_low_first.ok sc_low_first (fun vs H Q E h => ?_) (fun cdv A outer s H vs Q E hr h => ?_)
  · obtain ⟨n, k, rfl, _⟩ := h
    rfl
  · obtain ⟨n, k, rfl, hk, q⟩ := h
    refine ⟨_, (pss_cons (ps_set (i := 2) nd rfl (by first | exact Or.inl rfl | exact Or.inr rfl) (pe_lst pa_nil))
        (pss_cons (ps_for PassesOwn.never rfl (pi_range1 (by rfl) T.no_range (pa_cons (pv 1) pa_nil)) (pg_name (i := 3) nd rfl (by first | exact Or.inl rfl | exact Or.inr rfl)) (pss_cons (ps_expr (pe_bm PySem.F.plainAttrs_list PySem.F.slot_list_append PySem.F.type_list_append mt_append (pv 2) (pa_cons (pe_op op_mod (pv 0) pe_int) pa_nil)))
        (pss_one (ps_set (i := 0) nd rfl (by first | exact Or.inl rfl | exact Or.inr rfl) (pe_op op_fdiv (pv 0) pe_int)))))
        (pss_one (ps_ret (pv 2))))), ?_⟩
    refine ⟨Nat.zero_le _, fun l hl => ?_⟩
    refine ⟨_, rfl, (k : Int), rfl, by omega, by omega, for_range (n := ((k : Int)).toNat) (fun i σ H' => ∃ v, σ = [some (.int ((n / 256 ^ i : Nat) : Int)), some (.int k), some (.ref l), v] ∧ H' l = some (.lst (vB (lowN i n))) ∧ Same H H') ?_ ?_ ?_⟩
    · exact ⟨Option.none, by rw [Nat.pow_zero, Nat.div_one]; rfl, upd_same, Same.new hl⟩
    · rintro i σ H' hi ⟨v, rfl, h1, h2⟩
      refine ⟨_, rfl, .inl ⟨rfl, _, SqL.of h1⟩, _, rfl, _, _, rfl, rfl, (by show (0 : Int) < 256; decide), l, _, _, rfl, rfl, h1, ?_, ?_⟩
      · rw [vB_len, lowN_len]
        exact Nat.lt_of_le_of_lt (show i ≤ 4 by omega) (by decide)
      · refine ⟨_, rfl, _, _, rfl, rfl, ⟨by decide, by decide⟩, ?_⟩
        refine ⟨some (.int (0 + (i : Int))), ?_, ?_, Same.put hl h2⟩
        · rw [Nat.pow_succ, ← Nat.div_div_eq_div_mul]
          rfl
        · rw [upd_same, lowN_snoc, vB_append]
          generalize n / 256 ^ i = x
          show some (HO.lst (_ ++ [V.int ((x : Int) % 256)])) = some (HO.lst (_ ++ [V.int ((UInt8.ofNat (x % 256)).toNat : Int)]))
          rw [u8_of (Nat.mod_lt _ (by decide))]
          rfl
    · rintro σ H' ⟨v, rfl, h1, h2⟩
      refine ⟨_, rfl, ?_⟩
      rw [Int.toNat_natCast] at h1
      exact q l H' hl h2 h1
end Pnl

set_option Elab.async false
set_option maxRecDepth 100000
set_option maxHeartbeats 2000000
namespace Pnl
open PySem PySem.Spec PyProof.Rows L2 PM
variable {P : Program} {w : World} {K : PySem.W.Frag} {mg : Str → Option Value} {base : Heap} {a : Ad}
theorem num_cons (c : UInt8) (b : Plait.Bytes) : Plait.num (c :: b) = c.toNat + 256 * Plait.num b := rfl
def spNum (K : PySem.W.Frag) : Sp := fun vs H Q _ => ∃ (p : Addr) (b : Plait.Bytes) (i k : Nat), vs = [.ref p, .int i, .int k] ∧ SqL K H p (vB b) ∧ ∀ H', Same H H' → Q (.int (Plait.num ((b.drop i).take k) : Nat)) H'
theorem ok_number_at (T : Txt K mg a) : FnOk P w K mg base CX0 1 a.f_number_at a.d_number_at ["numbers", "start", "size"] (spNum K) := by
  have nd := sc_number_at.nd
  refine T.f_number_at.ok sc_number_at (fun vs H Q E h => ?_) (fun cdv A outer s H vs Q E hr h => ?_)
  · obtain ⟨p, b, i, k, rfl, _⟩ := h
    rfl
  · obtain ⟨p, b, i, k, rfl, hp, q⟩ := h
    refine ⟨_, (pss_cons (ps_set (i := 3) nd rfl (by first | exact Or.inl rfl | exact Or.inr rfl) pe_int)
        (pss_cons (ps_for PassesOwn.never rfl (pi_reversed (by rfl) T.no_reversed (pa_cons (pe_slice sl_list (pv 0) (po_some (pv 1)) (po_some (pe_op op_add (pv 1) (pv 2)))) pa_nil)) (pg_name (i := 4) nd rfl (by first | exact Or.inl rfl | exact Or.inr rfl)) (pss_one (ps_set (i := 3) nd rfl (by first | exact Or.inl rfl | exact Or.inr rfl) (pe_op op_add (pe_op op_mul (pv 3) pe_int) (pv 4)))))
        (pss_one (ps_ret (pv 3))))), ?_⟩
    refine ⟨_, rfl, _, rfl, _, rfl, _, rfl, _, rfl, _, _, rfl, rfl, _, rfl, p, _, rfl, hp, fun l hl => ?_⟩
    have ec : cutV (vB b) (some (i : Int)) (some ((i : Int) + (k : Int))) = vB ((b.drop i).take k) := by
      rw [show (i : Int) + (k : Int) = ((i + k : Nat) : Int) from by omega, cut_nat, vB_drop, vB_take, show i + k - i = k from by omega]
    rw [ec]
    generalize hd : (b.drop i).take k = d at q ⊢
    refine ⟨l, vB d, rfl, SqL.of upd_same, for_rev (K := K) (a := l) (xs := vB d) (fun j σ H' => ∃ v, σ = [some (.ref p), some (.int i), some (.int k), some (.int ((Plait.num (d.drop (d.length - j)) : Nat) : Int)), v] ∧ H' = upd H l (.lst (vB d))) ?_ ?_ ?_ ?_⟩
    · exact ⟨Option.none, by rw [Nat.sub_zero, List.drop_length]; rfl, rfl⟩
    · rintro j σ H' _ ⟨v, _, rfl⟩
      exact SqL.of upd_same
    · rintro j x σ H' hj hx ⟨v, rfl, rfl⟩
      obtain ⟨c, hc, rfl⟩ := vB_get hx
      rw [vB_len] at hj hc
      refine ⟨_, rfl, _, _, rfl, rfl, .inr ⟨by decide, by decide⟩, _, rfl, _, _, rfl, rfl, ?_⟩
      refine ⟨some (.int (c.toNat : Int)), ?_, rfl⟩
      have e1 : d.drop (d.length - (j + 1)) = c :: d.drop (d.length - j) := by
        rw [List.drop_eq_getElem_cons (show d.length - (j + 1) < d.length by omega), show d.length - (j + 1) + 1 = d.length - j from by omega]
        congr 1
        rw [show d.length - 1 - j = d.length - (j + 1) from by omega] at hc
        exact (List.getElem?_eq_some_iff.mp hc).2
      have e2 : ((Plait.num (c :: d.drop (d.length - j)) : Nat) : Int) = ((Plait.num (d.drop (d.length - j)) : Nat) : Int) * 256 + (c.toNat : Int) := by
        rw [num_cons]
        omega
      rw [e1, e2]
      rfl
    · rintro σ H' ⟨v, rfl, rfl⟩
      refine ⟨_, rfl, ?_⟩
      rw [vB_len, Nat.sub_self, List.drop_zero]
      exact q _ (Same.new hl)
/-! ### bits -/
theorem or_and (x y : Nat) : (x ^^^ y) + (x &&& y) = x ||| y := by
  induction x using Nat.strongRecOn generalizing y with
  | _ x ih =>
    by_cases hx : x = 0
    · subst hx; simp
    · have h := ih (x / 2) (by omega) (y / 2)
      have e1 : (x ^^^ y) / 2 = (x / 2) ^^^ (y / 2) := by simpa using Nat.xor_div_two_pow (n := 1) (a := x) (b := y)
      have e2 : (x &&& y) / 2 = (x / 2) &&& (y / 2) := by simpa using Nat.and_div_two_pow (n := 1) (a := x) (b := y)
      have e3 : (x ||| y) / 2 = (x / 2) ||| (y / 2) := by simpa using Nat.or_div_two_pow (n := 1) (a := x) (b := y)
      have f1 : (x ^^^ y) % 2 = (x % 2) ^^^ (y % 2) := by simpa using Nat.xor_mod_two_pow (n := 1) (a := x) (b := y)
      have f2 : (x &&& y) % 2 = (x % 2) &&& (y % 2) := by simpa using Nat.and_mod_two_pow (n := 1) (a := x) (b := y)
      have f3 : (x ||| y) % 2 = (x % 2) ||| (y % 2) := by simpa using Nat.or_mod_two_pow (n := 1) (a := x) (b := y)
      have g : ((x % 2) ^^^ (y % 2)) + ((x % 2) &&& (y % 2)) = (x % 2) ||| (y % 2) := by
        rcases Nat.mod_two_eq_zero_or_one x with p | p <;> rcases Nat.mod_two_eq_zero_or_one y with r | r <;> rw [p, r] <;> decide
      omega
theorem bit_and (x y : Nat) : Builtin.bitAnd (x : Int) (y : Int) = ((x &&& y : Nat) : Int) := by
  unfold Builtin.bitAnd
  rw [decide_eq_true (show (0 : Int) ≤ (x : Int) by omega), decide_eq_true (show (0 : Int) ≤ (y : Int) by omega)]
  rfl
theorem bit_or (x y : Nat) : Builtin.bitOr (x : Int) (y : Int) = ((x ||| y : Nat) : Int) := by
  unfold Builtin.bitOr Builtin.bitAnd Builtin.bitNot
  rw [decide_eq_false (show ¬ (0 : Int) ≤ -(x : Int) - 1 by omega), decide_eq_false (show ¬ (0 : Int) ≤ -(y : Int) - 1 by omega)]
  simp only
  rw [show (-(-(x : Int) - 1) - 1).toNat = x from by omega, show (-(-(y : Int) - 1) - 1).toNat = y from by omega]
  omega
theorem bit_xor (x y : Nat) : Builtin.bitXor (x : Int) (y : Int) = ((Nat.xor x y : Nat) : Int) := by
  unfold Builtin.bitXor
  rw [bit_or, bit_and]
  have := or_and x y
  show _ = ((x ^^^ y : Nat) : Int)
  omega
def bitsN (k : Nat) (c : Nat) : Nat := (List.range k).foldl (fun (d : Nat) (_ : Nat) => Plait.crcBit d) c
theorem bitsN_succ (k c : Nat) : bitsN (k + 1) c = Plait.crcBit (bitsN k c) := by
  unfold bitsN
  rw [List.range_succ, List.foldl_append]
  rfl
def spBits (K : PySem.W.Frag) : Sp := fun vs H Q _ => ∃ (c : Nat) (p : Addr) (b : Plait.Bytes), vs = [.int c, .ref p] ∧ SqL K H p (vB b) ∧ Q (.int (b.foldl Plait.crcByte c : Nat)) H
theorem ok_bits_after (T : Txt K mg a) : FnOk P w K mg base CX0 1 a.f_bits_after a.d_bits_after ["bits", "numbers"] (spBits K) := by
  have nd := sc_bits_after.nd
  refine T.f_bits_after.ok sc_bits_after (fun vs H Q E h => ?_) (fun cdv A outer s H vs Q E hr h => ?_)
  · obtain ⟨c, p, b, rfl, _⟩ := h
    rfl
  · obtain ⟨c, p, b, rfl, hp, q⟩ := h
    refine ⟨_, (pss_cons (ps_for PassesOwn.never rfl (pi_list (pv 1)) (pg_name (i := 2) nd rfl (by first | exact Or.inl rfl | exact Or.inr rfl)) (pss_cons (ps_set (i := 0) nd rfl (by first | exact Or.inl rfl | exact Or.inr rfl) (pe_op op_xor (pv 0) (pv 2)))
        (pss_one (ps_for PassesOwn.never rfl (pi_range1 (by rfl) T.no_range (pa_cons pe_int pa_nil)) (pg_name (i := 3) nd rfl (by first | exact Or.inl rfl | exact Or.inr rfl)) (pss_cons (ps_set (i := 4) nd rfl (by first | exact Or.inl rfl | exact Or.inr rfl) (pe_op op_and (pv 0) pe_int))
        (pss_cons (ps_set (i := 0) nd rfl (by first | exact Or.inl rfl | exact Or.inr rfl) (pe_op op_shr (pv 0) pe_int))
        (pss_one (ps_if (pt_cmpR op_eq (pv 4) pe_int (nomark _)) (pss_one (ps_set (i := 0) nd rfl (by first | exact Or.inl rfl | exact Or.inr rfl) (pe_op op_xor (pv 0) (pe_glob (v := .int (2197175160)) (by rfl) T.g_FOLD ⟨_, rfl⟩)))) pss_nil))))))))
        (pss_one (ps_ret (pv 0)))), ?_⟩
    refine ⟨_, rfl, p, rfl, ⟨_, hp⟩, for_list (K := K) (a := p) (xs := vB b) (fun j σ H' => ∃ v1 v2 v3, σ = [some (.int (((b.take j).foldl Plait.crcByte c : Nat) : Int)), some (.ref p), v1, v2, v3] ∧ H' = H) ?_ ?_ ?_ ?_⟩
    · exact ⟨Option.none, Option.none, Option.none, rfl, rfl⟩
    · rintro j σ H' _ ⟨v1, v2, v3, _, rfl⟩
      exact hp
    · rintro j x σ H' hx ⟨v1, v2, v3, rfl, rfl⟩
      obtain ⟨x, hc, rfl⟩ := vB_get hx
      generalize hd : (b.take j).foldl Plait.crcByte c = d
      have e1 : (b.take (j + 1)).foldl Plait.crcByte c = bitsN 8 (Nat.xor d x.toNat) := by
        rw [List.take_add_one, hc, List.foldl_append, hd]
        rfl
      refine ⟨_, rfl, _, rfl, _, _, rfl, rfl, ?_⟩
      show ∃ _, _
      refine ⟨8, rfl, by decide, by decide, for_range (n := 8) (fun t σ H'' => ∃ v2 v3, σ = [some (.int ((bitsN t (Nat.xor d x.toNat) : Nat) : Int)), some (.ref p), some (.int (x.toNat : Int)), v2, v3] ∧ H'' = H') ?_ ?_ ?_⟩
      · refine ⟨v2, v3, ?_, rfl⟩
        show [some (V.int (Builtin.bitXor _ _)), _, _, _, _] = _
        rw [bit_xor]
        rfl
      · rintro t σ H'' ht ⟨v2, v3, rfl, rfl⟩
        have es := bitsN_succ t (Nat.xor d x.toNat)
        generalize bitsN t (Nat.xor d x.toNat) = y at es
        refine ⟨_, rfl, _, _, rfl, rfl, ?_⟩
        refine ⟨_, rfl, _, _, rfl, rfl, (by show (0 : Int) ≤ 1; decide), ?_⟩
        refine ⟨_, rfl, rfl, _, rfl, ?_⟩
        have eh : ((y : Int) / 2 ^ ((1 : Int).toNat)) = ((y / 2 : Nat) : Int) := by
          show (y : Int) / 2 = _
          omega
        have el : Builtin.bitAnd (y : Int) 1 = ((y % 2 : Nat) : Int) := by
          rw [bitAnd_m1]
          omega
        refine ite2 (fun h => ?_) (fun h => ?_)
        · have h1 : y % 2 = 1 := by
            have h := of_decide_eq_true h
            injection h with h
            rw [el] at h
            omega
          refine ⟨_, rfl, _, _, rfl, rfl, ?_⟩
          refine ⟨some (.int (0 + (t : Int))), some (.int (Builtin.bitAnd (y : Int) 1)), ?_, rfl⟩
          · show [some (V.int (Builtin.bitXor ((y : Int) / 2 ^ ((1 : Int).toNat)) 2197175160)), _, _, _, _] = _
            rw [eh, show (2197175160 : Int) = ((2197175160 : Nat) : Int) from rfl, bit_xor, es]
            unfold Plait.crcBit
            rw [if_pos h1]
        · have h1 : ¬ y % 2 = 1 := fun e => h (by
            refine decide_eq_true ?_
            show V.int (Builtin.bitAnd (y : Int) 1) = V.int 1
            rw [el, e]
            rfl)
          refine ⟨some (.int (0 + (t : Int))), some (.int (Builtin.bitAnd (y : Int) 1)), ?_, rfl⟩
          · show [some (V.int ((y : Int) / 2 ^ ((1 : Int).toNat))), _, _, _, _] = _
            rw [eh, es]
            unfold Plait.crcBit
            rw [if_neg h1]
      · rintro σ H'' ⟨v2, v3, rfl, rfl⟩
        exact ⟨_, _, _, by rw [e1], rfl⟩
    · rintro σ H' ⟨v1, v2, v3, rfl, rfl⟩
      refine ⟨_, rfl, ?_⟩
      rw [vB_len, List.take_length]
      exact q
def spSum : Sp := fun vs H Q _ => ∃ c : Nat, vs = [.int c] ∧ Fresh H (vB (Plait.low4 (Nat.xor c 0xFFFFFFFF))) Q
theorem ok_sum_bytes (T : Txt K mg a) : FnOk P w K mg base CX0 2 a.f_sum_bytes a.d_sum_bytes ["bits"] spSum := by
  have nd := sc_sum_bytes.nd
  refine T.f_sum_bytes.ok sc_sum_bytes (fun vs H Q E h => ?_) (fun cdv A outer s H vs Q E hr h => ?_)
  · obtain ⟨c, rfl, _⟩ := h
    rfl
  · obtain ⟨c, rfl, q⟩ := h
    refine ⟨_, (pss_one (ps_ret (pe_call (ok_low_first T) (hr.mono (by decide)) (by rfl) T.m_low_first T.f_low_first.kp T.b_low_first .nil pass0 (pa_cons (pe_op op_xor (pv 0) (pe_glob (v := .int (4294967295)) (by rfl) T.g_ALL_BITS ⟨_, rfl⟩)) (pa_cons pe_int pa_nil))))), ?_⟩
    refine ⟨_, rfl, _, _, rfl, rfl, Nat.xor c 0xFFFFFFFF, 4, ?_, by decide, fun p H' hp hs h' => ?_⟩
    · show [V.int (Builtin.bitXor (c : Int) 4294967295), _] = _
      rw [show (4294967295 : Int) = ((4294967295 : Nat) : Int) from rfl, bit_xor]
      rfl
    · rw [lowN4] at h'
      exact q p H' hp hs h'
end Pnl

set_option Elab.async false
set_option maxRecDepth 100000
set_option maxHeartbeats 2000000
namespace Pnl
open PySem PySem.Spec PyProof.Rows L2 PM
variable {P : Program} {w : World} {K : PySem.W.Frag} {mg : Str → Option Value} {base : Heap} {a : Ad}
/-! ### lists of bytes compared -/
def dB (b : Plait.Bytes) : PyData := .list (b.map fun c => .int (c.toNat : Int))
theorem dpB {H : Hp} (b : Plait.Bytes) : DpAll K H (vB b) (b.map fun c => .int (c.toNat : Int)) := by
  induction b with
  | nil => exact .nil
  | cons c b ih => exact .cons (.int _) ih
theorem eqv_B : ∀ (b c : Plait.Bytes), PyData.eqvAll (b.map fun c => .int (c.toNat : Int)) (c.map fun c => .int (c.toNat : Int)) = decide (b = c)
  | [], [] => by simp [PyData.eqvAll]
  | [], _ :: _ => by simp [PyData.eqvAll]
  | _ :: _, [] => by simp [PyData.eqvAll]
  | x :: b, y :: c => by
    have ih := eqv_B b c
    simp only [List.map_cons, PyData.eqvAll, PyData.eqv, ih]
    by_cases h : x = y
    · subst h
      simp
    · have : ¬ ((x.toNat : Int) = (y.toNat : Int)) := fun e => h (UInt8.toNat_inj.mp (by omega))
      simp [h, this]
theorem canB : ∀ b : Plait.Bytes, PyData.canLayAll0 (b.map fun c => .int (c.toNat : Int)) = true
  | [] => by simp [PyData.canLayAll0]
  | c :: b => by
    have ih := canB b
    simp only [List.map_cons, PyData.canLayAll0, ih]
    simp [PyData.canLay0]
theorem depB : ∀ b : Plait.Bytes, PyData.depthAll (b.map fun c => .int (c.toNat : Int)) ≤ 1
  | [] => by simp [PyData.depthAll]
  | c :: b => by
    have ih := depB b
    simp only [List.map_cons, PyData.depthAll, PyData.depth]
    omega
theorem shB (b : Plait.Bytes) : SeqAt.shaped (dB b) = true := by
  unfold SeqAt.shaped dB
  simp only [PyData.canLay0, canB, PyData.depth]
  have := depB b
  simp
  omega
theorem eq_B {H : Hp} {p q : Addr} {b c : Plait.Bytes} {Q : VK} (h1 : SqL K H p (vB b)) (h2 : SqL K H q (vB c)) (h : Q (.bl (decide (b = c))) H) : rEqD K (.ref p) (.ref q) H Q := by
  refine ⟨dB b, dB c, .lst h1 (dpB b), .lst h2 (dpB c), shB b, shB c, ?_⟩
  show Q (.bl (PyData.eqvAll _ _)) H
  rw [eqv_B]; exact h
theorem ne_B {H : Hp} {p q : Addr} {b c : Plait.Bytes} {Q : VK} (h1 : SqL K H p (vB b)) (h2 : SqL K H q (vB c)) (h : Q (.bl (!decide (b = c))) H) : rNeD K (.ref p) (.ref q) H Q := by
  refine ⟨dB b, dB c, .lst h1 (dpB b), .lst h2 (dpB c), shB b, shB c, ?_⟩
  show Q (.bl (!PyData.eqvAll _ _)) H
  rw [eqv_B]; exact h
end Pnl

set_option Elab.async false
set_option maxRecDepth 100000
set_option maxHeartbeats 2000000
namespace Pnl
open PySem PySem.Spec PyProof.Rows L2 PM
variable {P : Program} {w : World} {K : PySem.W.Frag} {mg : Str → Option Value} {base : Heap} {a : Ad}
/-! ### panels -/
def pf (w h : Nat) (l : Addr) : List (Str × V) := [("wide", .int w), ("high", .int h), ("signs", .ref l)]
theorem pf_mk (x y : V) (z : V) : putF "signs" z (putF "high" y (putF "wide" x [])) = ([("wide", x), ("high", y), ("signs", z)] : List (Str × V)) := rfl
def PanAt (a : Ad) (H : Hp) (p : Addr) (D : Plait.Panel) : Prop := ∃ dx l, H p = some (.ins a.c_Panel dx (pf D.wide D.high l)) ∧ H l = some (.lst (vN D.places))
theorem PanAt.same {H H' : Hp} {p : Addr} {D : Plait.Panel} (h : PanAt a H p D) (s : Same H H') : PanAt a H' p D := by
  obtain ⟨dx, l, h1, h2⟩ := h
  exact ⟨dx, l, s _ _ h1, s _ _ h2⟩
def spPanelInit (a : Ad) : Sp := fun vs H Q _ => ∃ (p dx : Addr) (x y z : V), vs = [.ref p, x, y, z] ∧ H p = some (.ins a.c_Panel dx []) ∧ Q .non (upd H p (.ins a.c_Panel dx [("wide", x), ("high", y), ("signs", z)]))
theorem ok_Panel_init (T : Txt K mg a) : FnOk P w K mg base CX0 1 a.f_Panel_init a.d_Panel_init ["self", "wide", "high", "signs"] (spPanelInit a) := by
  have nd := sc_Panel_init.nd
  refine T.f_Panel_init.ok sc_Panel_init (fun vs H Q E h => ?_) (fun cdv A outer s H vs Q E hr h => ?_)
  · obtain ⟨p, dx, x, y, z, rfl, _⟩ := h
    rfl
  · obtain ⟨p, dx, x, y, z, rfl, hp, q⟩ := h
    refine ⟨_, (pss_cons (ps_fld (pv 0) (pv 1) rfl)
        (pss_cons (ps_fld (pv 0) (pv 2) rfl)
        (pss_one (ps_fld (pv 0) (pv 3) rfl)))), ?_⟩
    refine ⟨_, rfl, _, rfl, p, _, dx, [], rfl, hp, T.c_Panel, T.n_Panel_wide, by decide, ?_⟩
    refine ⟨_, rfl, _, rfl, p, _, dx, _, rfl, upd_same, T.c_Panel, T.n_Panel_high, (by show 1 < 1000; decide), ?_⟩
    refine ⟨_, rfl, _, rfl, p, _, dx, _, rfl, upd_same, T.c_Panel, T.n_Panel_signs, (by show 2 < 1000; decide), ?_⟩
    rw [upd_upd, upd_upd]
    exact q
def spUp : Sp := fun vs H Q _ => ∃ w h : Nat, vs = [.int w, .int h] ∧ 1 ≤ w ∧ w ≤ 8 ∧ Q (.int (((w - 1) * h : Nat) : Int)) H
theorem ok_upright_count (T : Txt K mg a) : FnOk P w K mg base CX0 1 a.f_upright_count a.d_upright_count ["wide", "high"] spUp := by
  have nd := sc_upright_count.nd
  refine T.f_upright_count.ok sc_upright_count (fun vs H Q E h => ?_) (fun cdv A outer s H vs Q E hr h => ?_)
  · obtain ⟨x, y, rfl, _⟩ := h
    rfl
  · obtain ⟨x, y, rfl, h1, h8, q⟩ := h
    refine ⟨_, (pss_one (ps_ret (pe_op op_mul (pe_op op_sub (pv 0) pe_int) (pv 1)))), ?_⟩
    refine ⟨_, rfl, _, _, rfl, rfl, _, rfl, _, _, rfl, rfl, .inl ⟨by omega, by omega⟩, ?_⟩
    have e : ((((x - 1) * y : Nat) : Int)) = ((x : Int) - 1) * (y : Int) := by
      rw [Int.natCast_mul, show ((x - 1 : Nat) : Int) = (x : Int) - 1 from by omega]
    rw [e] at q
    exact q
def spPlaces : Sp := fun vs H Q _ => ∃ w h : Nat, vs = [.int w, .int h] ∧ 1 ≤ w ∧ w ≤ 8 ∧ 1 ≤ h ∧ Q (.int ((PM.cnt w h : Nat) : Int)) H
theorem ok_place_count (T : Txt K mg a) : FnOk P w K mg base CX0 2 a.f_place_count a.d_place_count ["wide", "high"] spPlaces := by
  have nd := sc_place_count.nd
  refine T.f_place_count.ok sc_place_count (fun vs H Q E h => ?_) (fun cdv A outer s H vs Q E hr h => ?_)
  · obtain ⟨x, y, rfl, _⟩ := h
    rfl
  · obtain ⟨x, y, rfl, h1, h8, hy, q⟩ := h
    refine ⟨_, (pss_one (ps_ret (pe_op op_add (pe_call (ok_upright_count T) (hr.mono (by decide)) (by rfl) T.m_upright_count T.f_upright_count.kp T.b_upright_count .nil pass0 (pa_cons (pv 0) (pa_cons (pv 1) pa_nil))) (pe_op op_mul (pv 0) (pe_op op_sub (pv 1) pe_int))))), ?_⟩
    refine ⟨_, rfl, _, rfl, x, y, rfl, h1, h8, ?_⟩
    refine ⟨_, rfl, _, rfl, _, _, rfl, rfl, _, _, rfl, rfl, .inl ⟨by omega, by omega⟩, _, _, rfl, rfl, ?_⟩
    have e : ((PM.cnt x y : Nat) : Int) = (((x - 1) * y : Nat) : Int) + (x : Int) * ((y : Int) - 1) := by
      unfold PM.cnt
      rw [Int.natCast_add, Int.natCast_mul x, show ((y - 1 : Nat) : Int) = (y : Int) - 1 from by omega]
    rw [e] at q
    exact q
def spSide : Sp := fun vs H Q _ => ∃ n : Nat, vs = [.int n] ∧ Q (.bl (decide (1 ≤ n ∧ n ≤ 8))) H
theorem ok_is_side (T : Txt K mg a) : FnOk P w K mg base CX0 1 a.f_is_side a.d_is_side ["number"] spSide := by
  have nd := sc_is_side.nd
  refine T.f_is_side.ok sc_is_side (fun vs H Q E h => ?_) (fun cdv A outer s H vs Q E hr h => ?_)
  · obtain ⟨x, rfl, _⟩ := h
    rfl
  · obtain ⟨x, rfl, q⟩ := h
    refine ⟨_, (pss_one (ps_ret (pe_chain op_le op_le pe_int (pv 0) (pe_glob (v := .int (8)) (by rfl) T.g_MOST_SIDE ⟨_, rfl⟩)))), ?_⟩
    refine ⟨_, rfl, _, _, rfl, rfl, _, rfl, ?_⟩
    refine ite2 (fun h => ?_) (fun h => ?_)
    · refine ⟨_, _, rfl, rfl, ?_⟩
      have h1 : (1 : Int) ≤ x := of_decide_eq_true h
      rw [show decide (1 ≤ x ∧ x ≤ 8) = decide ((x : Int) ≤ 8) from by
        apply decide_eq_decide.mpr; omega] at q
      exact q
    · have h1 : ¬ (1 : Int) ≤ x := fun e => h (decide_eq_true e)
      rw [show decide (1 ≤ x ∧ x ≤ 8) = false from decide_eq_false (by omega)] at q
      exact q
end Pnl

set_option Elab.async false
set_option maxRecDepth 100000
set_option maxHeartbeats 2000000
namespace Pnl
open PySem PySem.Spec PyProof.Rows L2 PM
variable {P : Program} {w : World} {K : PySem.W.Frag} {mg : Str → Option Value} {base : Heap} {a : Ad}
theorem vB_mark : ([.int 80, .int 76, .int 80, .int 49] : List V) = vB Plait.MARK := rfl
def spReadPanel (K : PySem.W.Frag) (a : Ad) : Sp := fun vs H Q _ => ∃ (p : Addr) (b : Plait.Bytes), vs = [.ref p] ∧ SqL K H p (vB b) ∧
  (∀ H', Same H H' → (∀ D, Plait.judge b ≠ .ok D) → Q .non H') ∧ ∀ H' q D, Same H H' → Plait.judge b = .ok D → PanAt a H' q D → Q (.ref q) H'
theorem ok_read_panel (T : Txt K mg a) : FnOk P w K mg base CX0 3 a.f_read_panel a.d_read_panel ["numbers"] (spReadPanel K a) := by
  have nd := sc_read_panel.nd
  refine T.f_read_panel.ok sc_read_panel (fun vs H Q E h => ?_) (fun cdv A outer s H vs Q E hr h => ?_)
  · obtain ⟨x, b, rfl, _⟩ := h
    rfl
  · obtain ⟨p, b, rfl, hp, qn, qs⟩ := h
    refine ⟨_, (pss_cons (ps_if (PW.pt (pw_or (pt_cmpR op_lt (pe_callB call_len_seq (by rfl) T.no_len PySem.boot_len (pa_cons (pv 0) pa_nil)) (pe_glob (v := .int (6)) (by rfl) T.g_HEAD_SIZE_panels ⟨_, rfl⟩) (nomark _)) (pw_or1 (pt_cmpR (op_neD hr.units) (pe_slice sl_list (pv 0) (po_some pe_int) (po_some pe_int)) (pe_callTy call_list_of (by rfl) T.no_list PyProof.Rows.boot_list (pa_cons (pe_glob (v := .ref a.p_PANEL_MARK) (by rfl) T.g_PANEL_MARK rfl) pa_nil)) (nomark _))))) (pss_one (ps_ret pe_non)) pss_nil)
        (pss_cons (ps_set (i := 1) nd rfl (by first | exact Or.inl rfl | exact Or.inr rfl) (pe_ix ix_list (pv 0) pe_int (fun _ _ => rfl)))
        (pss_cons (ps_set (i := 2) nd rfl (by first | exact Or.inl rfl | exact Or.inr rfl) (pe_ix ix_list (pv 0) pe_int (fun _ _ => rfl)))
        (pss_cons (ps_if (PW.pt (pw_or (pt_not (pt_val (pe_call (ok_is_side T) (hr.mono (by decide)) (by rfl) T.m_is_side T.f_is_side.kp T.b_is_side .nil pass0 (pa_cons (pv 1) pa_nil)))) (pw_or1 (pt_not (pt_val (pe_call (ok_is_side T) (hr.mono (by decide)) (by rfl) T.m_is_side T.f_is_side.kp T.b_is_side .nil pass0 (pa_cons (pv 2) pa_nil))))))) (pss_one (ps_ret pe_non)) pss_nil)
        (pss_cons (ps_set (i := 3) nd rfl (by first | exact Or.inl rfl | exact Or.inr rfl) (pe_slice sl_list (pv 0) (po_some (pe_glob (v := .int (6)) (by rfl) T.g_HEAD_SIZE_panels ⟨_, rfl⟩)) po_none))
        (pss_cons (ps_if (pt_cmpR op_ne (pe_callB call_len_seq (by rfl) T.no_len PySem.boot_len (pa_cons (pv 3) pa_nil)) (pe_call (ok_place_count T) (hr.mono (by decide)) (by rfl) T.m_place_count T.f_place_count.kp T.b_place_count .nil pass0 (pa_cons (pv 1) (pa_cons (pv 2) pa_nil))) (nomark _)) (pss_one (ps_ret pe_non)) pss_nil)
        (pss_cons (ps_if (pt_val (pe_callB (cr_any rfl) (by rfl) T.no_any boot_any (pa_cons (pe_lc (own := [("sign", 4)]) rfl nd (pi_list (pv 3)) (blkOk_by (by rfl)) (fun _ _ _ _ _ => pg_name (i := 4) nd rfl (by first | exact Or.inl rfl | exact Or.inr rfl)) (fun _ _ _ _ _ => pts_nil) (fun _ _ _ _ _ => (pe_cmpR op_gt (pv 4) (pe_glob (v := .int (2)) (by rfl) T.g_MOST_SIGN ⟨_, rfl⟩) (nomark _)))) pa_nil))) (pss_one (ps_ret pe_non)) pss_nil)
        (pss_one (ps_ret (pe_make T.mk_Panel (ok_Panel_init T) (hr.mono (by decide)) (by rfl) T.m_Panel T.b_Panel_init .nil pass0 (pa_cons (pv 1) (pa_cons (pv 2) (pa_cons (pv 3) pa_nil))))))))))))), ?_⟩
    refine ⟨_, rfl, p, _, rfl, .inl hp, _, _, rfl, rfl, _, rfl, ?_⟩
    refine ite2 (fun h => ?_) (fun h => ?_)
    · refine qn H (Same.refl H) fun D e => ?_
      have h1 : ((vB b).length : Int) < 6 := of_decide_eq_true h
      rw [vB_len] at h1
      unfold Plait.judge at e
      rw [if_pos (.inl (by omega))] at e
      cases e
    · have h6 : ¬ b.length < 6 := fun z => h (decide_eq_true (by show ((vB b).length : Int) < 6; rw [vB_len]; omega))
      refine ⟨_, rfl, _, rfl, _, rfl, p, _, rfl, hp, fun l hl => ?_⟩
      refine ⟨_, _, rfl, .inr (T.q_PANEL_MARK _), fun l2 hl2 => ?_⟩
      have s1 : Same H (upd H l (.lst (cutV (vB b) (some 0) (some 4)))) := Same.new hl
      have e4 : cutV (vB b) (some 0) (some 4) = vB (b.take 4) := by
        rw [show (some (0 : Int)) = some ((0 : Nat) : Int) from rfl, show (some (4 : Int)) = some ((4 : Nat) : Int) from rfl, cut_nat, List.drop_zero, vB_take]
      have s2 := s1.trans (Same.new (o := .lst [.int 80, .int 76, .int 80, .int 49]) hl2)
      refine ne_B (b := b.take 4) (c := Plait.MARK) ?_ (SqL.of upd_same) ?_
      · refine SqL.of ?_
        rw [upd_ne (ne_of_none upd_same hl2), upd_same, e4]
      generalize upd (upd H l _) l2 _ = H2 at s2 ⊢
      refine ⟨_, rfl, ite2 (fun h4 => ?_) (fun h4 => ?_)⟩
      · refine qn H2 s2 fun D e => ?_
        unfold Plait.judge at e
        rw [if_pos (.inr (by simpa using h4))] at e
        cases e
      · have h4' : b.take 4 = Plait.MARK := by simpa using h4
        obtain ⟨bw, bh, r, rfl⟩ := six b h6 h4'
        have hp2 := s2.seq hp
        refine ⟨_, rfl, p, _, _, _, rfl, rfl, hp2, atI_nat (j := 4) rfl, ?_⟩
        refine ⟨_, rfl, p, _, _, _, rfl, rfl, hp2, atI_nat (j := 5) rfl, ?_⟩
        have jc := judge_cons bw bh r
        refine ⟨_, rfl, bw.toNat, rfl, _, rfl, ite2 (fun hw => ?_) (fun hw => ?_)⟩
        · refine qn H2 s2 fun D e => ?_
          have hw' := nb hw
          rw [jc, if_pos (by unfold Plait.SIDE; omega)] at e
          cases e
        have hw' := nb' hw
        rw [if_neg (by unfold Plait.SIDE; omega)] at jc
        refine ⟨_, rfl, bh.toNat, rfl, _, rfl, ite2 (fun hh => ?_) (fun hh => ?_)⟩
        · refine qn H2 s2 fun D e => ?_
          have hh' := nb hh
          rw [jc, if_pos (by unfold Plait.SIDE; omega)] at e
          cases e
        have hh' := nb' hh
        rw [if_neg (by unfold Plait.SIDE; omega)] at jc
        -- signs = numbers[HEAD_SIZE:]
        refine ⟨_, rfl, _, rfl, p, _, rfl, hp2, fun l3 hl3 => ?_⟩
        have e6 : cutV (vB (0x50 :: 0x4C :: 0x50 :: 0x31 :: bw :: bh :: r)) (some 6) Option.none = vB r := by
          rw [show (some (6 : Int)) = some ((6 : Nat) : Int) from rfl, cut_from]
          rfl
        rw [e6]
        have s3 := s2.trans (Same.new (o := .lst (vB r)) hl3)
        have h3 : (upd H2 l3 (.lst (vB r))) l3 = some (.lst (vB r)) := upd_same
        generalize upd H2 l3 (.lst (vB r)) = H3 at s3 h3 ⊢
        refine ⟨_, rfl, l3, _, rfl, .inl (SqL.of h3), _, rfl, _, rfl, bw.toNat, bh.toNat, rfl, hw'.1, hw'.2, hh'.1, rfl, _, rfl, ite2 (fun hl => ?_) (fun hl => ?_)⟩
        · refine qn H3 s3 fun D e => ?_
          have hl' : ¬ r.length = PM.cnt bw.toNat bh.toNat := fun z => nb hl (by rw [vB_len, z])
          rw [jc, if_pos (by rw [List.length_map]; exact hl')] at e
          cases e
        have hl' : r.length = PM.cnt bw.toNat bh.toNat := by
          have z := vi (nb' hl)
          rw [vB_len] at z
          exact z
        rw [if_neg (by rw [List.length_map]; exact fun z => z hl')] at jc
        -- any([sign > MOST_SIGN for sign in signs])
        refine ⟨_, rfl, l3, rfl, ⟨_, SqL.of h3⟩, fun l4 hl4 => lc_list (K := K) (a := l3) (xs := vB r) (fun i H' => Same H3 H' ∧ H' l4 = some (.lst (((r.take i).map fun c => decide (2 < c.toNat)).map V.bl))) ?_ ?_ ?_ ?_⟩
        · exact ⟨Same.new hl4, upd_same⟩
        · rintro i H' _ ⟨s4, _⟩
          exact s4.seq (SqL.of h3)
        · rintro i x H' hx ⟨s4, h4⟩
          obtain ⟨c, hc, rfl⟩ := vB_get hx
          have hi : i < r.length := (List.getElem?_eq_some_iff.mp hc).1
          have hc112 := cnt_le hw'.2 hh'.2
          refine ⟨rfl, ?_⟩
          refine ⟨_, rfl, _, _, rfl, rfl, _, h4, ?_, Same.put hl4 s4, ?_⟩
          · rw [List.length_map, List.length_map, List.length_take]
            exact Nat.lt_of_le_of_lt (Nat.min_le_left _ _) (Nat.lt_of_lt_of_le (show i < 200 by omega) (by decide))
          · rw [upd_same, List.take_add_one, hc, List.map_append, List.map_append]
            show some (HO.lst (_ ++ [V.bl (decide ((2 : Int) < (c.toNat : Int)))])) = some (HO.lst (_ ++ [V.bl (decide (2 < c.toNat))]))
            rw [show decide ((2 : Int) < (c.toNat : Int)) = decide (2 < c.toNat) from decide_eq_decide.mpr (by omega)]
        · rintro H4 ⟨s4, h4⟩
          rw [vB_len, List.take_length] at h4
          refine ⟨l4, _, rfl, SqL.of h4, _, rfl, ite2 (fun hg => ?_) (fun hg => ?_)⟩
          · refine qn H4 (s3.trans s4) fun D e => ?_
            rw [jc] at e
            cases ef : (r.map UInt8.toNat).findIdx? fun (p : Nat) => decide (2 < p) with
            | some i => rw [ef] at e; cases e
            | none =>
              have ef' := findIdx_none.mp ef
              rw [List.any_map, List.any_eq_true] at hg
              obtain ⟨c, hc, hc2⟩ := hg
              have := ef' c.toNat (List.mem_map_of_mem hc)
              simp at hc2
              omega
          · have ef : ((r.map UInt8.toNat).findIdx? fun (p : Nat) => decide (2 < p)) = Option.none := findIdx_none.mpr fun z hz => by
              obtain ⟨c, hc, rfl⟩ := List.mem_map.mp hz
              refine Nat.not_lt.mp fun h2 => hg ?_
              rw [List.any_map, List.any_eq_true]
              exact ⟨c, hc, by simpa using h2⟩
            rw [ef] at jc
            -- return Panel(wide, high, signs)
            refine ⟨_, rfl, _, rfl, _, rfl, fun x dx hx hdx hne => ?_⟩
            refine ⟨x, dx, _, _, _, rfl, upd_same, rfl, ?_⟩
            have s5 : Same H4 (upd (upd (upd H4 dx (.own x)) x (.ins a.c_Panel dx [])) x (.ins a.c_Panel dx (pf bw.toNat bh.toNat l3))) := by
              rw [upd_upd]
              exact Same.put hx (Same.new hdx)
            refine qs _ x _ ((s3.trans s4).trans s5) jc ⟨dx, l3, upd_same, ?_⟩
            refine s5 _ _ (s4 _ _ h3 |>.trans ?_)
            show some (HO.lst (r.map _)) = some (HO.lst ((r.map UInt8.toNat).map _))
            rw [List.map_map]
            rfl
end Pnl

set_option Elab.async false
set_option maxRecDepth 100000
set_option maxHeartbeats 2000000
namespace Pnl
open PySem PySem.Spec PyProof.Rows L2 PM
variable {P : Program} {w : World} {K : PySem.W.Frag} {mg : Str → Option Value} {base : Heap} {a : Ad}
theorem vB_panel {D : Plait.Panel} (R : Right D) : vB D.bytes = [.int 80, .int 76, .int 80, .int 49] ++ [.int D.wide, .int D.high] ++ vN D.places := by
  have hw : (UInt8.ofNat D.wide).toNat = D.wide := u8_of (by have := R.w8; omega)
  have hh : (UInt8.ofNat D.high).toNat = D.high := u8_of (by have := R.h8; omega)
  show [.int 80, .int 76, .int 80, .int 49] ++ (V.int ((UInt8.ofNat D.wide).toNat : Int) :: V.int ((UInt8.ofNat D.high).toNat : Int) :: (D.places.map UInt8.ofNat).map _) = _
  rw [hw, hh, List.append_assoc]
  congr 1
  show V.int D.wide :: V.int D.high :: _ = V.int D.wide :: V.int D.high :: _
  congr 2
  unfold vN
  rw [List.map_map]
  apply List.map_congr_left
  intro z hz
  show V.int ((UInt8.ofNat z).toNat : Int) = _
  rw [u8_of (by have := R.le2 z hz; omega)]
theorem vN_len (l : List Nat) : (vN l).length = l.length := List.length_map ..
theorem line_lt {n : Nat} (h : n ≤ 100000) : n ≤ sizeLine := Nat.le_trans h (by decide)
theorem line_lt' {n : Nat} (h : n ≤ 100000) : n < sizeLine := Nat.lt_of_le_of_lt h (by decide)
def spPanelBytes (a : Ad) : Sp := fun vs H Q _ => ∃ (p : Addr) (D : Plait.Panel), vs = [.ref p] ∧ PanAt a H p D ∧ Right D ∧ Fresh H (vB D.bytes) Q
theorem ok_panel_bytes (T : Txt K mg a) : FnOk P w K mg base CX0 1 a.f_panel_bytes a.d_panel_bytes ["panel"] (spPanelBytes a) := by
  have nd := sc_panel_bytes.nd
  refine T.f_panel_bytes.ok sc_panel_bytes (fun vs H Q E h => ?_) (fun cdv A outer s H vs Q E hr h => ?_)
  · obtain ⟨x, D, rfl, _⟩ := h
    rfl
  · obtain ⟨p, D, rfl, ⟨dx, l, hp, hl⟩, R, q⟩ := h
    refine ⟨_, (pss_one (ps_ret (pe_op op_cat (pe_op op_cat (pe_callTy call_list_of (by rfl) T.no_list PyProof.Rows.boot_list (pa_cons (pe_glob (v := .ref a.p_PANEL_MARK) (by rfl) T.g_PANEL_MARK rfl) pa_nil)) (pe_lst (pa_cons (pe_fld (pv 0) rfl) (pa_cons (pe_fld (pv 0) rfl) pa_nil)))) (pe_fld (pv 0) rfl)))), ?_⟩
    refine ⟨_, _, rfl, .inr (T.q_PANEL_MARK _), fun l1 hl1 => ?_⟩
    have s1 : Same H (upd H l1 (.lst [.int 80, .int 76, .int 80, .int 49])) := Same.new hl1
    have h1 : (upd H l1 (.lst [.int 80, .int 76, .int 80, .int 49])) l1 = some (.lst [.int 80, .int 76, .int 80, .int 49]) := upd_same
    generalize upd H l1 _ = H1 at s1 h1 ⊢
    refine ⟨_, rfl, p, _, dx, _, _, rfl, s1 _ _ hp, T.c_Panel, T.n_Panel_wide, rfl, ?_⟩
    refine ⟨_, rfl, p, _, dx, _, _, rfl, s1 _ _ hp, T.c_Panel, T.n_Panel_high, rfl, ?_⟩
    refine ⟨(by show 2 ≤ sizeLine; decide), fun l2 hl2 => ?_⟩
    have s2 := s1.trans (Same.new (o := .lst [.int D.wide, .int D.high]) hl2)
    have h2 : (upd H1 l2 (.lst [.int D.wide, .int D.high])) l2 = some (.lst [.int D.wide, .int D.high]) := upd_same
    have h1' := (Same.new (o := .lst [.int D.wide, .int D.high]) hl2) _ _ h1
    generalize upd H1 l2 _ = H2 at s2 h2 h1' ⊢
    refine ⟨l1, l2, _, _, rfl, rfl, h1', h2, (by show 4 + 2 ≤ sizeLine; decide), fun l3 hl3 => ?_⟩
    refine ⟨_, rfl, p, _, dx, _, _, rfl, Same.new hl3 _ _ (s2 _ _ hp), T.c_Panel, T.n_Panel_signs, rfl, ?_⟩
    refine ⟨l3, l, _, _, rfl, rfl, upd_same, Same.new hl3 _ _ (s2 _ _ hl), ?_, fun l4 hl4 => ?_⟩
    · rw [vN_len]
      have := R.le112
      exact line_lt (by show 6 + _ ≤ _; omega)
    · have s3 := s2.trans (Same.new (o := .lst ([.int 80, .int 76, .int 80, .int 49] ++ [.int D.wide, .int D.high])) hl3)
      have e := vB_panel R
      rw [← e]
      exact q l4 _ (s3.free hl4) (s3.trans (Same.new hl4)) upd_same
def spWithSign (a : Ad) : Sp := fun vs H Q _ => ∃ (p : Addr) (D : Plait.Panel) (i z : Nat), vs = [.ref p, .int i, .int z] ∧ PanAt a H p D ∧ i < D.places.length ∧ ∀ H' q, Same H H' → PanAt a H' q (D.set i z) → Q (.ref q) H'
theorem ok_with_sign (T : Txt K mg a) : FnOk P w K mg base CX0 3 a.f_with_sign a.d_with_sign ["panel", "place", "sign"] (spWithSign a) := by
  have nd := sc_with_sign.nd
  refine T.f_with_sign.ok sc_with_sign (fun vs H Q E h => ?_) (fun cdv A outer s H vs Q E hr h => ?_)
  · obtain ⟨x, D, i, z, rfl, _⟩ := h
    rfl
  · obtain ⟨p, D, i, z, rfl, ⟨dx, l, hp, hl⟩, hi, q⟩ := h
    refine ⟨_, (pss_cons (ps_set (i := 3) nd rfl (by first | exact Or.inl rfl | exact Or.inr rfl) (pe_callTy call_list_of (by rfl) T.no_list PyProof.Rows.boot_list (pa_cons (pe_fld (pv 0) rfl) pa_nil)))
        (pss_cons (ps_asg (pv 2) (pg_sub (pv 3) (pv 1) set_list))
        (pss_one (ps_ret (pe_make T.mk_Panel (ok_Panel_init T) (hr.mono (by decide)) (by rfl) T.m_Panel T.b_Panel_init .nil pass0 (pa_cons (pe_fld (pv 0) rfl) (pa_cons (pe_fld (pv 0) rfl) (pa_cons (pv 3) pa_nil)))))))), ?_⟩
    refine ⟨_, rfl, p, _, dx, _, _, rfl, hp, T.c_Panel, T.n_Panel_signs, rfl, l, _, rfl, .inl (SqL.of hl), fun l1 hl1 => ?_⟩
    refine ⟨_, rfl, _, rfl, _, rfl, l1, _, _, i, rfl, rfl, upd_same, ?_, ?_⟩
    · unfold ixN
      rw [vN_len, if_pos (by omega), if_pos (by omega)]
      simp
    rw [upd_upd]
    have s1 : Same H (upd H l1 (.lst ((vN D.places).set i (.int z)))) := Same.new hl1
    have h1 : (upd H l1 (.lst ((vN D.places).set i (.int z)))) l1 = some (.lst ((vN D.places).set i (.int z))) := upd_same
    generalize upd H l1 _ = H1 at s1 h1 ⊢
    refine ⟨_, rfl, p, _, dx, _, _, rfl, s1 _ _ hp, T.c_Panel, T.n_Panel_wide, rfl, ?_⟩
    refine ⟨_, rfl, p, _, dx, _, _, rfl, s1 _ _ hp, T.c_Panel, T.n_Panel_high, rfl, ?_⟩
    refine ⟨_, rfl, fun x ex hx hex hne => ?_⟩
    refine ⟨x, ex, _, _, _, rfl, upd_same, rfl, ?_⟩
    rw [upd_upd]
    have s2 := s1.trans (Same.put (o := .ins a.c_Panel ex (pf D.wide D.high l1)) hx (Same.new (o := .own x) hex))
    refine q _ x s2 ⟨ex, l1, upd_same, ?_⟩
    rw [upd_ne (ne_of_none h1 hx), upd_ne (ne_of_none h1 hex), h1]
    show some (HO.lst _) = some (HO.lst (vN (D.places.set i z)))
    unfold vN
    rw [List.map_set]
end Pnl

set_option Elab.async false
set_option maxRecDepth 100000
set_option maxHeartbeats 2000000
namespace Pnl
open PySem PySem.Spec PyProof.Rows L2 PM
variable {P : Program} {w : World} {K : PySem.W.Frag} {mg : Str → Option Value} {base : Heap} {a : Ad}
/-! ### motions -/
theorem vN_get {D : Plait.Panel} {i : Nat} (h : i < D.places.length) : (vN D.places)[i]? = some (.int ((D.state i : Nat) : Int)) := by
  unfold vN Plait.Panel.state
  rw [List.getElem?_map, List.getElem?_eq_getElem h, List.getD_eq_getElem?_getD, List.getElem?_eq_getElem h]
  rfl
def spUpSign (a : Ad) : Sp := fun vs H Q _ => ∃ (p : Addr) (D : Plait.Panel) (x y : Nat), vs = [.ref p, .int x, .int y] ∧ PanAt a H p D ∧ 1 ≤ D.wide ∧ y < 2 ^ 32 ∧ y * (D.wide - 1) + x < D.places.length ∧ Q (.int ((D.state (y * (D.wide - 1) + x) : Nat) : Int)) H
theorem ok_upright_sign (T : Txt K mg a) : FnOk P w K mg base CX0 1 a.f_upright_sign a.d_upright_sign ["panel", "x", "y"] (spUpSign a) := by
  have nd := sc_upright_sign.nd
  refine T.f_upright_sign.ok sc_upright_sign (fun vs H Q E h => ?_) (fun cdv A outer s H vs Q E hr h => ?_)
  · obtain ⟨p, D, x, y, rfl, _⟩ := h
    rfl
  · obtain ⟨p, D, x, y, rfl, ⟨dx, l, hp, hl⟩, h1, hy, hi, q⟩ := h
    refine ⟨_, (pss_one (ps_ret (pe_ix ix_list (pe_fld (pv 0) rfl) (pe_op op_add (pe_op op_mul (pv 2) (pe_op op_sub (pe_fld (pv 0) rfl) pe_int)) (pv 1)) (fun _ _ => rfl)))), ?_⟩
    refine ⟨_, rfl, p, _, dx, _, _, rfl, hp, T.c_Panel, T.n_Panel_signs, rfl, ?_⟩
    refine ⟨_, rfl, _, rfl, p, _, dx, _, _, rfl, hp, T.c_Panel, T.n_Panel_wide, rfl, _, _, rfl, rfl, _, _, rfl, rfl, .inl ⟨by omega, by omega⟩, _, rfl, _, _, rfl, rfl, ?_⟩
    refine ⟨l, _, _, _, rfl, rfl, SqL.of hl, at_of (j := y * (D.wide - 1) + x) ?_ (vN_get hi), q⟩
    rw [Int.natCast_add, Int.natCast_mul, show ((D.wide - 1 : Nat) : Int) = (D.wide : Int) - 1 from by omega]
def spLevSign (a : Ad) : Sp := fun vs H Q _ => ∃ (p : Addr) (D : Plait.Panel) (x y : Nat), vs = [.ref p, .int x, .int y] ∧ PanAt a H p D ∧ Right D ∧ y < 2 ^ 32 ∧ (D.wide - 1) * D.high + (y * D.wide + x) < D.places.length ∧ Q (.int ((D.state ((D.wide - 1) * D.high + (y * D.wide + x)) : Nat) : Int)) H
theorem ok_level_sign (T : Txt K mg a) : FnOk P w K mg base CX0 2 a.f_level_sign a.d_level_sign ["panel", "x", "y"] (spLevSign a) := by
  have nd := sc_level_sign.nd
  refine T.f_level_sign.ok sc_level_sign (fun vs H Q E h => ?_) (fun cdv A outer s H vs Q E hr h => ?_)
  · obtain ⟨p, D, x, y, rfl, _⟩ := h
    rfl
  · obtain ⟨p, D, x, y, rfl, ⟨dx, l, hp, hl⟩, R, hy, hi, q⟩ := h
    refine ⟨_, (pss_one (ps_ret (pe_ix ix_list (pe_fld (pv 0) rfl) (pe_op op_add (pe_op op_add (pe_call (ok_upright_count T) (hr.mono (by decide)) (by rfl) T.m_upright_count T.f_upright_count.kp T.b_upright_count .nil pass0 (pa_cons (pe_fld (pv 0) rfl) (pa_cons (pe_fld (pv 0) rfl) pa_nil))) (pe_op op_mul (pv 2) (pe_fld (pv 0) rfl))) (pv 1)) (fun _ _ => rfl)))), ?_⟩
    refine ⟨_, rfl, p, _, dx, _, _, rfl, hp, T.c_Panel, T.n_Panel_signs, rfl, ?_⟩
    refine ⟨_, rfl, p, _, dx, _, _, rfl, hp, T.c_Panel, T.n_Panel_wide, rfl, _, rfl, p, _, dx, _, _, rfl, hp, T.c_Panel, T.n_Panel_high, rfl, D.wide, D.high, rfl, R.w1, R.w8, ?_⟩
    refine ⟨_, rfl, _, rfl, p, _, dx, _, _, rfl, hp, T.c_Panel, T.n_Panel_wide, rfl, _, _, rfl, rfl, .inl ⟨by omega, by omega⟩, _, _, rfl, rfl, _, rfl, _, _, rfl, rfl, ?_⟩
    refine ⟨l, _, _, _, rfl, rfl, SqL.of hl, at_of (j := (D.wide - 1) * D.high + (y * D.wide + x)) ?_ (vN_get hi), q⟩
    rw [Int.natCast_add, Int.natCast_add, Int.natCast_mul y]
    omega
end Pnl

set_option Elab.async false
set_option maxRecDepth 100000
set_option maxHeartbeats 2000000
namespace Pnl
open PySem PySem.Spec PyProof.Rows L2 PM
variable {P : Program} {w : World} {K : PySem.W.Frag} {mg : Str → Option Value} {base : Heap} {a : Ad}
/-- so many rows of k numbers each -/
def rowsN (k : Nat) (f : Nat → Nat → Nat) (n : Nat) : List Nat := (List.range n).flatMap fun y => (List.range k).map (f y)
theorem rowsN_succ (k : Nat) (f : Nat → Nat → Nat) (n : Nat) : rowsN k f (n + 1) = rowsN k f n ++ (List.range k).map (f n) := by
  unfold rowsN
  rw [List.range_succ, List.flatMap_append]
  simp
theorem rowsN_len (k : Nat) (f : Nat → Nat → Nat) : ∀ n, (rowsN k f n).length = n * k
  | 0 => by simp [rowsN]
  | n + 1 => by rw [rowsN_succ, List.length_append, rowsN_len k f n, List.length_map, List.length_range, Nat.succ_mul]
theorem vN_append (b c : List Nat) : vN (b ++ c) = vN b ++ vN c := List.map_append ..
theorem rg_succ (f : Nat → Nat) (i : Nat) : vN ((List.range (i + 1)).map f) = vN ((List.range i).map f) ++ [.int (f i : Nat)] := by
  rw [List.range_succ, List.map_append, vN_append]; rfl
theorem mirror_places (D : Plait.Panel) : (mirrorP D).places = rowsN (D.wide - 1) (fun y x => D.state (y * (D.wide - 1) + (D.wide - 2 - x))) D.high ++ rowsN D.wide (fun y x => D.state ((D.wide - 1) * D.high + (y * D.wide + (D.wide - 1 - x)))) (D.high - 1) := by
  show (idxMirror D.wide D.high).map D.state = _
  unfold idxMirror rowsN
  simp only [List.map_append, List.map_flatMap, List.map_map]
  rfl
theorem turn_places (D : Plait.Panel) : (turnP D).places = rowsN (D.high - 1) (fun y x => D.state ((D.wide - 1) * D.high + ((D.high - 2 - x) * D.wide + y))) D.wide ++ rowsN D.high (fun y x => D.state ((D.high - 1 - x) * (D.wide - 1) + y)) (D.wide - 1) := by
  show (idxTurn D.wide D.high).map D.state = _
  unfold idxTurn rowsN
  simp only [List.map_append, List.map_flatMap, List.map_map]
  rfl
theorem mul_in {y n k x : Nat} (hy : y < n) (hx : x < k) : y * k + x < n * k := by
  have : (y + 1) * k ≤ n * k := Nat.mul_le_mul_right k hy
  rw [Nat.succ_mul] at this
  omega
theorem up_in {D : Plait.Panel} (R : Right D) {x y : Nat} (hx : x < D.wide - 1) (hy : y < D.high) : y * (D.wide - 1) + x < D.places.length := by
  rw [R.len]
  unfold PM.cnt
  have := mul_in hy hx
  rw [Nat.mul_comm (D.wide - 1) D.high]
  omega
theorem lev_in {D : Plait.Panel} (R : Right D) {x y : Nat} (hx : x < D.wide) (hy : y < D.high - 1) : (D.wide - 1) * D.high + (y * D.wide + x) < D.places.length := by
  rw [R.len]
  unfold PM.cnt
  have := mul_in hy hx
  rw [Nat.mul_comm D.wide (D.high - 1)]
  omega
def spMirror (a : Ad) : Sp := fun vs H Q _ => ∃ (p : Addr) (D : Plait.Panel), vs = [.ref p] ∧ PanAt a H p D ∧ Right D ∧ ∀ H' q, Same H H' → PanAt a H' q (mirrorP D) → Q (.ref q) H'
theorem ok_mirrored (T : Txt K mg a) : FnOk P w K mg base CX0 3 a.f_mirrored a.d_mirrored ["panel"] (spMirror a) := by
  have nd := sc_mirrored.nd
  refine T.f_mirrored.ok sc_mirrored (fun vs H Q E h => ?_) (fun cdv A outer s H vs Q E hr h => ?_)
  · obtain ⟨p, D, rfl, _⟩ := h
    rfl
  · obtain ⟨p, D, rfl, hP, R, q⟩ := h
    have hP0 := hP
    obtain ⟨dx, l, hp, hl⟩ := hP0
    have w1 := R.w1
    have w8 := R.w8
    have h1 := R.h1
    have h8 := R.h8
    refine ⟨_, (pss_cons (ps_set (i := 1) nd rfl (by first | exact Or.inl rfl | exact Or.inr rfl) (pe_fld (pv 0) rfl))
        (pss_cons (ps_set (i := 2) nd rfl (by first | exact Or.inl rfl | exact Or.inr rfl) (pe_lst pa_nil))
        (pss_cons (ps_for PassesOwn.never rfl (pi_range1 (by rfl) T.no_range (pa_cons (pe_fld (pv 0) rfl) pa_nil)) (pg_name (i := 3) nd rfl (by first | exact Or.inl rfl | exact Or.inr rfl)) (pss_one (ps_expr (pe_bm PySem.F.plainAttrs_list PySem.F.slot_list_extend PySem.F.type_list_extend mt_extend (pv 2) (pa_cons (pe_lc (own := [("x", 4)]) rfl nd (pi_range1 (by rfl) T.no_range (pa_cons (pe_op op_sub (pv 1) pe_int) pa_nil)) (blkOk_by (by rfl)) (fun _ _ _ _ _ => pg_name (i := 4) nd rfl (by first | exact Or.inl rfl | exact Or.inr rfl)) (fun _ _ _ _ _ => pts_nil) (fun _ _ _ _ _ => (pe_call (ok_upright_sign T) (hr.mono (by decide)) (by rfl) T.m_upright_sign T.f_upright_sign.kp T.b_upright_sign .nil pass0 (pa_cons (pv 0) (pa_cons (pe_op op_sub (pe_op op_sub (pv 1) pe_int) (pv 4)) (pa_cons (pv 3) pa_nil)))))) pa_nil)))))
        (pss_cons (ps_for PassesOwn.never rfl (pi_range1 (by rfl) T.no_range (pa_cons (pe_op op_sub (pe_fld (pv 0) rfl) pe_int) pa_nil)) (pg_name (i := 3) nd rfl (by first | exact Or.inl rfl | exact Or.inr rfl)) (pss_one (ps_expr (pe_bm PySem.F.plainAttrs_list PySem.F.slot_list_extend PySem.F.type_list_extend mt_extend (pv 2) (pa_cons (pe_lc (own := [("x", 4)]) rfl nd (pi_range1 (by rfl) T.no_range (pa_cons (pv 1) pa_nil)) (blkOk_by (by rfl)) (fun _ _ _ _ _ => pg_name (i := 4) nd rfl (by first | exact Or.inl rfl | exact Or.inr rfl)) (fun _ _ _ _ _ => pts_nil) (fun _ _ _ _ _ => (pe_call (ok_level_sign T) (hr.mono (by decide)) (by rfl) T.m_level_sign T.f_level_sign.kp T.b_level_sign .nil pass0 (pa_cons (pv 0) (pa_cons (pe_op op_sub (pe_op op_sub (pv 1) pe_int) (pv 4)) (pa_cons (pv 3) pa_nil)))))) pa_nil)))))
        (pss_one (ps_ret (pe_make T.mk_Panel (ok_Panel_init T) (hr.mono (by decide)) (by rfl) T.m_Panel T.b_Panel_init .nil pass0 (pa_cons (pv 1) (pa_cons (pe_fld (pv 0) rfl) (pa_cons (pv 2) pa_nil)))))))))), ?_⟩
    refine ⟨_, rfl, p, _, dx, _, _, rfl, hp, T.c_Panel, T.n_Panel_wide, rfl, ?_⟩
    refine ⟨Nat.zero_le _, fun ls hls => ?_⟩
    refine ⟨_, rfl, p, _, dx, _, _, rfl, Same.new hls _ _ hp, T.c_Panel, T.n_Panel_high, rfl, (D.high : Int), rfl, by omega, by omega, for_range (n := ((D.high : Int)).toNat) (fun y σ H' => ∃ v w, σ = [some (.ref p), some (.int D.wide), some (.ref ls), v, w] ∧ H' ls = some (.lst (vN (rowsN (D.wide - 1) (fun y x => D.state (y * (D.wide - 1) + (D.wide - 2 - x))) y))) ∧ Same H H') ?_ ?_ ?_⟩
    · exact ⟨_, _, rfl, upd_same, Same.new hls⟩
    · rintro y σ H' hy ⟨v, v2, rfl, hs, s2⟩
      refine ⟨_, rfl, .inl ⟨rfl, _, SqL.of hs⟩, _, rfl, _, _, rfl, rfl, (D.wide : Int) - 1, rfl, by omega, by omega, fun lc hlc => lc_range (lo := 0) (n := ((D.wide : Int) - 1).toNat) (fun i H'' => Same H' H'' ∧ H'' lc = some (.lst (vN ((List.range i).map fun x => D.state (y * (D.wide - 1) + (D.wide - 2 - x)))))) ?_ ?_ ?_⟩
      · exact ⟨Same.new hlc, upd_same⟩
      · rintro i H'' hi ⟨s4, h4⟩
        refine ⟨rfl, ?_⟩
        refine ⟨_, rfl, _, rfl, _, _, rfl, rfl, _, rfl, _, _, rfl, rfl, _, rfl, p, D, D.wide - 2 - i, y, ?_, hP.same (s2.trans s4), w1, by omega, up_in R (by omega) (by omega), _, h4, ?_, Same.put hlc s4, ?_⟩
        · show [V.ref p, V.int ((D.wide : Int) - 2 - (0 + (i : Int))), V.int (0 + (y : Int))] = _
          rw [show (D.wide : Int) - 2 - (0 + (i : Int)) = ((D.wide - 2 - i : Nat) : Int) from by omega, show (0 : Int) + (y : Int) = (y : Int) from by omega]
        · rw [vN_len, List.length_map, List.length_range]
          exact line_lt' (by omega)
        · rw [upd_same, rg_succ]
      · rintro H4 ⟨s4, h4⟩
        refine ⟨ls, lc, _, _, rfl, rfl, s4 _ _ hs, h4, ?_, ?_⟩
        · rw [vN_len, vN_len, rowsN_len, List.length_map, List.length_range]
          have : y * (D.wide - 1) ≤ 8 * 8 := Nat.mul_le_mul (by omega) (by omega)
          exact line_lt (by omega)
        · refine ⟨some (.int (0 + (y : Int))), v2, rfl, ?_, Same.put hls (s2.trans s4)⟩
          rw [upd_same, rowsN_succ, vN_append, show ((D.wide : Int) - 1).toNat = D.wide - 1 from by omega]
    · rintro σ H1 ⟨v, v2, rfl, hs1, s1⟩
      rw [show ((D.high : Int)).toNat = D.high from by omega] at hs1
      refine ⟨_, rfl, p, _, dx, _, _, rfl, s1 _ _ hp, T.c_Panel, T.n_Panel_high, rfl, _, _, rfl, rfl, (D.high : Int) - 1, rfl, by omega, by omega, for_range (n := ((D.high : Int) - 1).toNat) (fun y σ H' => ∃ v w, σ = [some (.ref p), some (.int D.wide), some (.ref ls), v, w] ∧ H' ls = some (.lst (vN (rowsN (D.wide - 1) (fun y x => D.state (y * (D.wide - 1) + (D.wide - 2 - x))) D.high ++ rowsN D.wide (fun y x => D.state ((D.wide - 1) * D.high + (y * D.wide + (D.wide - 1 - x)))) y))) ∧ Same H H') ?_ ?_ ?_⟩
      · exact ⟨_, _, rfl, by rw [hs1]; simp [rowsN], s1⟩
      · rintro y σ H' hy ⟨v, v2, rfl, hs, s2⟩
        refine ⟨_, rfl, .inl ⟨rfl, _, SqL.of hs⟩, _, rfl, (D.wide : Int), rfl, by omega, by omega, fun lc hlc => lc_range (lo := 0) (n := ((D.wide : Int)).toNat) (fun i H'' => Same H' H'' ∧ H'' lc = some (.lst (vN ((List.range i).map fun x => D.state ((D.wide - 1) * D.high + (y * D.wide + (D.wide - 1 - x))))))) ?_ ?_ ?_⟩
        · exact ⟨Same.new hlc, upd_same⟩
        · rintro i H'' hi ⟨s4, h4⟩
          refine ⟨rfl, ?_⟩
          refine ⟨_, rfl, _, rfl, _, _, rfl, rfl, _, rfl, _, _, rfl, rfl, _, rfl, p, D, D.wide - 1 - i, y, ?_, hP.same (s2.trans s4), R, by omega, lev_in R (by omega) (by omega), _, h4, ?_, Same.put hlc s4, ?_⟩
          · show [V.ref p, V.int ((D.wide : Int) - 1 - (0 + (i : Int))), V.int (0 + (y : Int))] = _
            rw [show (D.wide : Int) - 1 - (0 + (i : Int)) = ((D.wide - 1 - i : Nat) : Int) from by omega, show (0 : Int) + (y : Int) = (y : Int) from by omega]
          · rw [vN_len, List.length_map, List.length_range]
            exact line_lt' (by omega)
          · rw [upd_same, rg_succ]
        · rintro H4 ⟨s4, h4⟩
          refine ⟨ls, lc, _, _, rfl, rfl, s4 _ _ hs, h4, ?_, ?_⟩
          · rw [vN_len, vN_len, List.length_append, rowsN_len, rowsN_len, List.length_map, List.length_range]
            have : y * D.wide ≤ 8 * 8 := Nat.mul_le_mul (by omega) (by omega)
            have : D.high * (D.wide - 1) ≤ 8 * 8 := Nat.mul_le_mul (by omega) (by omega)
            exact line_lt (by omega)
          · refine ⟨some (.int (0 + (y : Int))), v2, rfl, ?_, Same.put hls (s2.trans s4)⟩
            rw [upd_same, rowsN_succ, ← List.append_assoc, vN_append (_ ++ _), show ((D.wide : Int)).toNat = D.wide from by omega]
      · rintro σ H2 ⟨v, v2, rfl, hs2, s2⟩
        rw [show ((D.high : Int) - 1).toNat = D.high - 1 from by omega, ← mirror_places] at hs2
        refine ⟨_, rfl, _, rfl, p, _, dx, _, _, rfl, s2 _ _ hp, T.c_Panel, T.n_Panel_high, rfl, ?_⟩
        refine ⟨_, rfl, fun x ex hx hex hne => ?_⟩
        refine ⟨x, ex, _, _, _, rfl, upd_same, rfl, ?_⟩
        rw [upd_upd]
        have s3 := s2.trans (Same.put (o := .ins a.c_Panel ex (pf D.wide D.high ls)) hx (Same.new (o := .own x) hex))
        refine q _ x s3 ⟨ex, ls, upd_same, ?_⟩
        rw [upd_ne (ne_of_none hs2 hx), upd_ne (ne_of_none hs2 hex), hs2]
def spTurn (a : Ad) : Sp := fun vs H Q _ => ∃ (p : Addr) (D : Plait.Panel), vs = [.ref p] ∧ PanAt a H p D ∧ Right D ∧ ∀ H' q, Same H H' → PanAt a H' q (turnP D) → Q (.ref q) H'
theorem ok_turned (T : Txt K mg a) : FnOk P w K mg base CX0 3 a.f_turned a.d_turned ["panel"] (spTurn a) := by
  have nd := sc_turned.nd
  refine T.f_turned.ok sc_turned (fun vs H Q E h => ?_) (fun cdv A outer s H vs Q E hr h => ?_)
  · obtain ⟨p, D, rfl, _⟩ := h
    rfl
  · obtain ⟨p, D, rfl, hP, R, q⟩ := h
    have hP0 := hP
    obtain ⟨dx, l, hp, hl⟩ := hP0
    have w1 := R.w1
    have w8 := R.w8
    have h1 := R.h1
    have h8 := R.h8
    refine ⟨_, (pss_cons (ps_set (i := 1) nd rfl (by first | exact Or.inl rfl | exact Or.inr rfl) (pe_fld (pv 0) rfl))
        (pss_cons (ps_set (i := 2) nd rfl (by first | exact Or.inl rfl | exact Or.inr rfl) (pe_lst pa_nil))
        (pss_cons (ps_for PassesOwn.never rfl (pi_range1 (by rfl) T.no_range (pa_cons (pe_fld (pv 0) rfl) pa_nil)) (pg_name (i := 3) nd rfl (by first | exact Or.inl rfl | exact Or.inr rfl)) (pss_one (ps_expr (pe_bm PySem.F.plainAttrs_list PySem.F.slot_list_extend PySem.F.type_list_extend mt_extend (pv 2) (pa_cons (pe_lc (own := [("x", 4)]) rfl nd (pi_range1 (by rfl) T.no_range (pa_cons (pe_op op_sub (pv 1) pe_int) pa_nil)) (blkOk_by (by rfl)) (fun _ _ _ _ _ => pg_name (i := 4) nd rfl (by first | exact Or.inl rfl | exact Or.inr rfl)) (fun _ _ _ _ _ => pts_nil) (fun _ _ _ _ _ => (pe_call (ok_level_sign T) (hr.mono (by decide)) (by rfl) T.m_level_sign T.f_level_sign.kp T.b_level_sign .nil pass0 (pa_cons (pv 0) (pa_cons (pv 3) (pa_cons (pe_op op_sub (pe_op op_sub (pv 1) pe_int) (pv 4)) pa_nil)))))) pa_nil)))))
        (pss_cons (ps_for PassesOwn.never rfl (pi_range1 (by rfl) T.no_range (pa_cons (pe_op op_sub (pe_fld (pv 0) rfl) pe_int) pa_nil)) (pg_name (i := 3) nd rfl (by first | exact Or.inl rfl | exact Or.inr rfl)) (pss_one (ps_expr (pe_bm PySem.F.plainAttrs_list PySem.F.slot_list_extend PySem.F.type_list_extend mt_extend (pv 2) (pa_cons (pe_lc (own := [("x", 4)]) rfl nd (pi_range1 (by rfl) T.no_range (pa_cons (pv 1) pa_nil)) (blkOk_by (by rfl)) (fun _ _ _ _ _ => pg_name (i := 4) nd rfl (by first | exact Or.inl rfl | exact Or.inr rfl)) (fun _ _ _ _ _ => pts_nil) (fun _ _ _ _ _ => (pe_call (ok_upright_sign T) (hr.mono (by decide)) (by rfl) T.m_upright_sign T.f_upright_sign.kp T.b_upright_sign .nil pass0 (pa_cons (pv 0) (pa_cons (pv 3) (pa_cons (pe_op op_sub (pe_op op_sub (pv 1) pe_int) (pv 4)) pa_nil)))))) pa_nil)))))
        (pss_one (ps_ret (pe_make T.mk_Panel (ok_Panel_init T) (hr.mono (by decide)) (by rfl) T.m_Panel T.b_Panel_init .nil pass0 (pa_cons (pv 1) (pa_cons (pe_fld (pv 0) rfl) (pa_cons (pv 2) pa_nil)))))))))), ?_⟩
    refine ⟨_, rfl, p, _, dx, _, _, rfl, hp, T.c_Panel, T.n_Panel_high, rfl, ?_⟩
    refine ⟨Nat.zero_le _, fun ls hls => ?_⟩
    refine ⟨_, rfl, p, _, dx, _, _, rfl, Same.new hls _ _ hp, T.c_Panel, T.n_Panel_wide, rfl, (D.wide : Int), rfl, by omega, by omega, for_range (n := ((D.wide : Int)).toNat) (fun y σ H' => ∃ v w, σ = [some (.ref p), some (.int D.high), some (.ref ls), v, w] ∧ H' ls = some (.lst (vN (rowsN (D.high - 1) (fun y x => D.state ((D.wide - 1) * D.high + ((D.high - 2 - x) * D.wide + y))) y))) ∧ Same H H') ?_ ?_ ?_⟩
    · exact ⟨_, _, rfl, upd_same, Same.new hls⟩
    · rintro y σ H' hy ⟨v, v2, rfl, hs, s2⟩
      refine ⟨_, rfl, .inl ⟨rfl, _, SqL.of hs⟩, _, rfl, _, _, rfl, rfl, (D.high : Int) - 1, rfl, by omega, by omega, fun lc hlc => lc_range (lo := 0) (n := ((D.high : Int) - 1).toNat) (fun i H'' => Same H' H'' ∧ H'' lc = some (.lst (vN ((List.range i).map fun x => D.state ((D.wide - 1) * D.high + ((D.high - 2 - x) * D.wide + y)))))) ?_ ?_ ?_⟩
      · exact ⟨Same.new hlc, upd_same⟩
      · rintro i H'' hi ⟨s4, h4⟩
        refine ⟨rfl, ?_⟩
        refine ⟨_, rfl, _, rfl, _, rfl, _, _, rfl, rfl, _, rfl, _, _, rfl, rfl, p, D, y, D.high - 2 - i, ?_, hP.same (s2.trans s4), R, by omega, lev_in R (by omega) (by omega), _, h4, ?_, Same.put hlc s4, ?_⟩
        · show [V.ref p, V.int (0 + (y : Int)), V.int ((D.high : Int) - 2 - (0 + (i : Int)))] = _
          rw [show (D.high : Int) - 2 - (0 + (i : Int)) = ((D.high - 2 - i : Nat) : Int) from by omega, show (0 : Int) + (y : Int) = (y : Int) from by omega]
        · rw [vN_len, List.length_map, List.length_range]
          exact line_lt' (by omega)
        · rw [upd_same, rg_succ]
      · rintro H4 ⟨s4, h4⟩
        refine ⟨ls, lc, _, _, rfl, rfl, s4 _ _ hs, h4, ?_, ?_⟩
        · rw [vN_len, vN_len, rowsN_len, List.length_map, List.length_range]
          have : y * (D.high - 1) ≤ 8 * 8 := Nat.mul_le_mul (by omega) (by omega)
          exact line_lt (by omega)
        · refine ⟨some (.int (0 + (y : Int))), v2, rfl, ?_, Same.put hls (s2.trans s4)⟩
          rw [upd_same, rowsN_succ, vN_append, show ((D.high : Int) - 1).toNat = D.high - 1 from by omega]
    · rintro σ H1 ⟨v, v2, rfl, hs1, s1⟩
      rw [show ((D.wide : Int)).toNat = D.wide from by omega] at hs1
      refine ⟨_, rfl, p, _, dx, _, _, rfl, s1 _ _ hp, T.c_Panel, T.n_Panel_wide, rfl, _, _, rfl, rfl, (D.wide : Int) - 1, rfl, by omega, by omega, for_range (n := ((D.wide : Int) - 1).toNat) (fun y σ H' => ∃ v w, σ = [some (.ref p), some (.int D.high), some (.ref ls), v, w] ∧ H' ls = some (.lst (vN (rowsN (D.high - 1) (fun y x => D.state ((D.wide - 1) * D.high + ((D.high - 2 - x) * D.wide + y))) D.wide ++ rowsN D.high (fun y x => D.state ((D.high - 1 - x) * (D.wide - 1) + y)) y))) ∧ Same H H') ?_ ?_ ?_⟩
      · exact ⟨_, _, rfl, by rw [hs1]; simp [rowsN], s1⟩
      · rintro y σ H' hy ⟨v, v2, rfl, hs, s2⟩
        refine ⟨_, rfl, .inl ⟨rfl, _, SqL.of hs⟩, _, rfl, (D.high : Int), rfl, by omega, by omega, fun lc hlc => lc_range (lo := 0) (n := ((D.high : Int)).toNat) (fun i H'' => Same H' H'' ∧ H'' lc = some (.lst (vN ((List.range i).map fun x => D.state ((D.high - 1 - x) * (D.wide - 1) + y))))) ?_ ?_ ?_⟩
        · exact ⟨Same.new hlc, upd_same⟩
        · rintro i H'' hi ⟨s4, h4⟩
          refine ⟨rfl, ?_⟩
          refine ⟨_, rfl, _, rfl, _, rfl, _, _, rfl, rfl, _, rfl, _, _, rfl, rfl, p, D, y, D.high - 1 - i, ?_, hP.same (s2.trans s4), w1, by omega, up_in R (by omega) (by omega), _, h4, ?_, Same.put hlc s4, ?_⟩
          · show [V.ref p, V.int (0 + (y : Int)), V.int ((D.high : Int) - 1 - (0 + (i : Int)))] = _
            rw [show (D.high : Int) - 1 - (0 + (i : Int)) = ((D.high - 1 - i : Nat) : Int) from by omega, show (0 : Int) + (y : Int) = (y : Int) from by omega]
          · rw [vN_len, List.length_map, List.length_range]
            exact line_lt' (by omega)
          · rw [upd_same, rg_succ]
        · rintro H4 ⟨s4, h4⟩
          refine ⟨ls, lc, _, _, rfl, rfl, s4 _ _ hs, h4, ?_, ?_⟩
          · rw [vN_len, vN_len, List.length_append, rowsN_len, rowsN_len, List.length_map, List.length_range]
            have : y * D.high ≤ 8 * 8 := Nat.mul_le_mul (by omega) (by omega)
            have : D.wide * (D.high - 1) ≤ 8 * 8 := Nat.mul_le_mul (by omega) (by omega)
            exact line_lt (by omega)
          · refine ⟨some (.int (0 + (y : Int))), v2, rfl, ?_, Same.put hls (s2.trans s4)⟩
            rw [upd_same, rowsN_succ, ← List.append_assoc, vN_append (_ ++ _), show ((D.high : Int)).toNat = D.high from by omega]
      · rintro σ H2 ⟨v, v2, rfl, hs2, s2⟩
        rw [show ((D.wide : Int) - 1).toNat = D.wide - 1 from by omega, ← turn_places] at hs2
        refine ⟨_, rfl, _, rfl, p, _, dx, _, _, rfl, s2 _ _ hp, T.c_Panel, T.n_Panel_wide, rfl, ?_⟩
        refine ⟨_, rfl, fun x ex hx hex hne => ?_⟩
        refine ⟨x, ex, _, _, _, rfl, upd_same, rfl, ?_⟩
        rw [upd_upd]
        have s3 := s2.trans (Same.put (o := .ins a.c_Panel ex (pf D.high D.wide ls)) hx (Same.new (o := .own x) hex))
        refine q _ x s3 ⟨ex, ls, upd_same, ?_⟩
        rw [upd_ne (ne_of_none hs2 hx), upd_ne (ne_of_none hs2 hex), hs2]
theorem turnsP_succ : ∀ (n : Nat) (D : Plait.Panel), turnsP (n + 1) D = turnP (turnsP n D)
  | 0, _ => rfl
  | n + 1, D => by
    show turnsP (n + 1) (turnP D) = turnP (turnsP n (turnP D))
    exact turnsP_succ n (turnP D)
def spMoved (a : Ad) : Sp := fun vs H Q _ => ∃ (p : Addr) (D : Plait.Panel) (m : Nat), vs = [.ref p, .int m] ∧ PanAt a H p D ∧ Right D ∧ m < 8 ∧ ∀ H' q, Same H H' → PanAt a H' q (D.moved m) → Q (.ref q) H'
theorem ok_moved (T : Txt K mg a) : FnOk P w K mg base CX0 4 a.f_moved a.d_moved ["panel", "motion"] (spMoved a) := by
  have nd := sc_moved.nd
  refine T.f_moved.ok sc_moved (fun vs H Q E h => ?_) (fun cdv A outer s H vs Q E hr h => ?_)
  · obtain ⟨p, D, m, rfl, _⟩ := h
    rfl
  · obtain ⟨p, D, m, rfl, hP, R, hm, q⟩ := h
    rw [moved_eq R hm] at q
    unfold movedP at q
    refine ⟨_, (pss_cons (ps_if (pt_cmpR op_ge (pv 1) pe_int (nomark _)) (pss_one (ps_set (i := 0) nd rfl (by first | exact Or.inl rfl | exact Or.inr rfl) (pe_call (ok_mirrored T) (hr.mono (by decide)) (by rfl) T.m_mirrored T.f_mirrored.kp T.b_mirrored .nil pass0 (pa_cons (pv 0) pa_nil)))) pss_nil)
        (pss_cons (ps_for PassesOwn.never rfl (pi_range1 (by rfl) T.no_range (pa_cons (pe_op op_mod (pv 1) pe_int) pa_nil)) (pg_name (i := 2) nd rfl (by first | exact Or.inl rfl | exact Or.inr rfl)) (pss_one (ps_set (i := 0) nd rfl (by first | exact Or.inl rfl | exact Or.inr rfl) (pe_call (ok_turned T) (hr.mono (by decide)) (by rfl) T.m_turned T.f_turned.kp T.b_turned .nil pass0 (pa_cons (pv 0) pa_nil)))))
        (pss_one (ps_ret (pv 0))))), ?_⟩
    refine ⟨_, rfl, _, _, rfl, rfl, _, rfl, ?_⟩
    refine ite2 (fun h => ?_) (fun h => ?_)
    · have h4 : 4 ≤ m := by
        have := of_decide_eq_true h
        omega
      rw [if_pos h4] at q
      refine ⟨_, rfl, p, D, rfl, hP, R, fun H1 p1 s1 hP1 => ?_⟩
      refine ⟨_, rfl, _, _, rfl, rfl, (by show (0 : Int) < 4; decide), (m : Int) % 4, rfl, by omega, by omega, for_range (n := ((m : Int) % 4).toNat) (fun i σ H' => ∃ (p' : Addr) (v : Option V), σ = [some (.ref p'), some (.int m), v] ∧ Same H H' ∧ PanAt a H' p' (turnsP i (mirrorP D))) ?_ ?_ ?_⟩
      · exact ⟨p1, _, rfl, s1, hP1⟩
      · rintro i σ H' hi ⟨p', v, rfl, s2, hP2⟩
        refine ⟨_, rfl, p', _, rfl, hP2, R.mirror.turns i, fun H3 p3 s3 hP3 => ?_⟩
        refine ⟨p3, _, rfl, s2.trans s3, ?_⟩
        rw [turnsP_succ]; exact hP3
      · rintro σ H' ⟨p', v, rfl, s2, hP2⟩
        rw [show ((m : Int) % 4).toNat = m % 4 from by omega] at hP2
        exact ⟨_, rfl, q _ _ s2 hP2⟩
    · have h4 : ¬ 4 ≤ m := fun z => h (decide_eq_true (by omega))
      rw [if_neg h4] at q
      refine ⟨_, rfl, _, _, rfl, rfl, (by show (0 : Int) < 4; decide), (m : Int) % 4, rfl, by omega, by omega, for_range (n := ((m : Int) % 4).toNat) (fun i σ H' => ∃ (p' : Addr) (v : Option V), σ = [some (.ref p'), some (.int m), v] ∧ Same H H' ∧ PanAt a H' p' (turnsP i D)) ?_ ?_ ?_⟩
      · exact ⟨p, _, rfl, Same.refl H, hP⟩
      · rintro i σ H' hi ⟨p', v, rfl, s2, hP2⟩
        refine ⟨_, rfl, p', _, rfl, hP2, R.turns i, fun H3 p3 s3 hP3 => ?_⟩
        refine ⟨p3, _, rfl, s2.trans s3, ?_⟩
        rw [turnsP_succ]; exact hP3
      · rintro σ H' ⟨p', v, rfl, s2, hP2⟩
        rw [show ((m : Int) % 4).toNat = m % 4 from by omega] at hP2
        exact ⟨_, rfl, q _ _ s2 hP2⟩
end Pnl

set_option Elab.async false
set_option maxRecDepth 100000
set_option maxHeartbeats 2000000
set_option linter.all false
namespace Pnl
open PySem PySem.Spec PyProof.Rows L2 PM
open Plait (Done Sess)
variable {P : Program} {w : World} {K : PySem.W.Frag} {mg : Str → Option Value} {base : Heap} {a : Ad}
/-- what stands behind a test, told once -/
theorem sec {C G M : Prop} (h : (¬ C → G) → M) (g : ¬ C → G) : M := h g
/-! ### what stays -/
/-- all but instances that are no panels -/
def fixed : HO → Bool
  | .ins _ _ fs => (fs.lookup ("wide" : Str)).isSome
  | _ => true
def Keep (H H' : Hp) : Prop := ∀ b o, H b = some o → fixed o = true → H' b = some o
def But1 (p : Addr) (H H' : Hp) : Prop := ∀ b o, H b = some o → b ≠ p → H' b = some o
theorem _root_.L2.Same.keep {H H' : Hp} (s : Same H H') : Keep H H' := fun b o h _ => s b o h
theorem Keep.trans {H H1 H2 : Hp} (s : Keep H H1) (t : Keep H1 H2) : Keep H H2 := fun b o h f => t b o (s b o h f) f
theorem But1.keep {p : Addr} {H H' : Hp} {o : HO} (s : But1 p H H') (hp : H p = some o) (f : fixed o = false) : Keep H H' := fun b u h fu => s b u h fun e => by
  subst e
  rw [hp] at h
  cases h
  rw [f] at fu
  cases fu
theorem _root_.L2.Same.but {p : Addr} {H H' : Hp} (s : Same H H') : But1 p H H' := fun b o h _ => s b o h
theorem But1.trans {p : Addr} {H H1 H2 : Hp} (s : But1 p H H1) (t : But1 p H1 H2) : But1 p H H2 := fun b o h n => t b o (s b o h n) n
theorem But1.upd {p : Addr} {H : Hp} {o : HO} : But1 p H (upd H p o) := fun b u h n => by rw [upd_ne n]; exact h
theorem PanAt.keep {H H' : Hp} {p : Addr} {D : Plait.Panel} (h : PanAt a H p D) (s : Keep H H') : PanAt a H' p D := by
  obtain ⟨dx, l, h1, h2⟩ := h
  exact ⟨dx, l, s _ _ h1 rfl, s _ _ h2 rfl⟩
theorem Keep.seq {H H' : Hp} {l : Addr} {xs : List V} (s : Keep H H') (h : SqL K H l xs) : SqL K H' l xs := by
  rcases h with (h | ⟨o, h⟩) | h
  · exact .inl (.inl (s _ _ h rfl))
  · exact .inl (.inr ⟨o, s _ _ h rfl⟩)
  · exact .inr h
/-! ### sessions -/
def sf (lp ls : Addr) (n : Nat) : List (Str × V) := [("panels", .ref lp), ("steps", .ref ls), ("done", .int n)]
def Pans (a : Ad) (H : Hp) (B : Plait.Panel) (xs : List Done) (ps : List Addr) : Prop := ps.length = xs.length + 1 ∧ ∀ i, i ≤ xs.length → ∃ E q, Plait.stepsFrom B (xs.take i) = some E ∧ ps[i]? = some q ∧ PanAt a H q E
def Codes (H : Hp) (xs : List Done) (cs : List Addr) : Prop := cs.length = xs.length ∧ ∀ (i : Nat) (x : Done), xs[i]? = some x → ∃ c, cs[i]? = some c ∧ H c = some (.lst (vB x.bytes))
structure SessAt (a : Ad) (H : Hp) (p : Addr) (B : Plait.Panel) (xs : List Done) (n : Nat) : Prop where
  ex : ∃ dx lp ls ps cs, H p = some (.ins a.c_Session dx (sf lp ls n)) ∧ H lp = some (.lst (ps.map V.ref)) ∧ H ls = some (.lst (cs.map V.ref)) ∧ Pans a H B xs ps ∧ Codes H xs cs
  right : Right B
  few : xs.length ≤ 64
  le : n ≤ xs.length
theorem Pans.keep {H H' : Hp} {B : Plait.Panel} {xs : List Done} {ps : List Addr} (h : Pans a H B xs ps) (s : Keep H H') : Pans a H' B xs ps :=
  ⟨h.1, fun i hi => let ⟨E, q, h1, h2, h3⟩ := h.2 i hi; ⟨E, q, h1, h2, h3.keep s⟩⟩
theorem Codes.keep {H H' : Hp} {xs : List Done} {cs : List Addr} (h : Codes H xs cs) (s : Keep H H') : Codes H' xs cs :=
  ⟨h.1, fun i x hi => let ⟨c, h1, h2⟩ := h.2 i x hi; ⟨c, h1, s _ _ h2 rfl⟩⟩
theorem SessAt.keep {H H' : Hp} {p : Addr} {B : Plait.Panel} {xs : List Done} {n : Nat} (h : SessAt a H p B xs n) (s : Keep H H') (hp : ∀ o, H p = some o → H' p = some o) : SessAt a H' p B xs n := by
  obtain ⟨dx, lp, ls, ps, cs, h1, h2, h3, h4, h5⟩ := h.ex
  exact ⟨⟨dx, lp, ls, ps, cs, hp _ h1, s _ _ h2 rfl, s _ _ h3 rfl, h4.keep s, h5.keep s⟩, h.right, h.few, h.le⟩
theorem SessAt.same {H H' : Hp} {p : Addr} {B : Plait.Panel} {xs : List Done} {n : Nat} (h : SessAt a H p B xs n) (s : Same H H') : SessAt a H' p B xs n := h.keep s.keep fun o e => s p o e
/-- the specification's session -/
def ses (B : Plait.Panel) (xs : List Done) (n : Nat) : Sess := ⟨B, xs.take n, xs.drop n⟩
theorem SessAt.good {H : Hp} {p : Addr} {B : Plait.Panel} {xs : List Done} {n : Nat} (h : SessAt a H p B xs n) : Good (ses B xs n) := by
  obtain ⟨dx, lp, ls, ps, cs, h1, h2, h3, h4, h5⟩ := h.ex
  refine ⟨h.right, ?_, ?_⟩
  · show (xs.take n).length + (xs.drop n).length ≤ 64
    rw [List.length_take, List.length_drop]
    have := h.few
    omega
  · show (Plait.stepsFrom B (xs.take n ++ xs.drop n)).isSome = true
    obtain ⟨E, q, e1, _⟩ := h4.2 xs.length (Nat.le_refl _)
    rw [List.take_length] at e1
    rw [List.take_append_drop, e1]
    rfl
def spSessInit (a : Ad) : Sp := fun vs H Q _ => ∃ (p dx : Addr) (x : V), vs = [.ref p, x] ∧ H p = some (.ins a.c_Session dx []) ∧ ∀ H' lp ls, But1 p H H' → H' p = some (.ins a.c_Session dx (sf lp ls 0)) → H' lp = some (.lst [x]) → H' ls = some (.lst []) → Q .non H'
theorem ok_Session_init (T : Txt K mg a) : FnOk P w K mg base CX0 1 a.f_Session_init a.d_Session_init ["self", "first"] (spSessInit a) := by
  have nd := sc_Session_init.nd
  refine T.f_Session_init.ok sc_Session_init (fun vs H Q E h => ?_) (fun cdv A outer s H vs Q E hr h => ?_)
  · obtain ⟨p, dx, x, rfl, _⟩ := h
    rfl
  · obtain ⟨p, dx, x, rfl, hp, q⟩ := h
    refine ⟨_, (pss_cons (ps_fld (pv 0) (pe_lst (pa_cons (pv 1) pa_nil)) rfl)
        (pss_cons (ps_fld (pv 0) (pe_lst pa_nil) rfl)
        (pss_one (ps_fld (pv 0) pe_int rfl)))), ?_⟩
    refine ⟨_, rfl, (by show 1 ≤ sizeLine; decide), fun lp hlp => ?_⟩
    have n1 : p ≠ lp := ne_of_none hp hlp
    refine ⟨_, rfl, p, _, dx, [], rfl, (by rw [upd_ne n1]; exact hp), T.c_Session, T.n_Session_panels, by decide, ?_⟩
    refine ⟨Nat.zero_le _, fun ls hls => ?_⟩
    have e1 : (upd (upd H lp (.lst [x])) p (.ins a.c_Session dx (putF "panels" (.ref lp) []))) lp = some (.lst [x]) := by rw [upd_ne (Ne.symm n1), upd_same]
    have n2 : lp ≠ ls := ne_of_none e1 hls
    have n3 : p ≠ ls := ne_of_none upd_same hls
    refine ⟨_, rfl, p, _, dx, _, rfl, (by rw [upd_ne n3, upd_same]), T.c_Session, T.n_Session_steps, (by show 1 < 1000; decide), ?_⟩
    refine ⟨_, rfl, p, _, dx, _, rfl, upd_same, T.c_Session, T.n_Session_done, (by show 2 < 1000; decide), ?_⟩
    refine q _ lp ls ?_ upd_same ?_ ?_
    · intro b o hb nb
      have m1 : b ≠ lp := ne_of_none hb hlp
      have e2 : (upd (upd H lp (.lst [x])) p (.ins a.c_Session dx (putF "panels" (.ref lp) []))) b = some o := by rw [upd_ne nb, upd_ne m1]; exact hb
      have m2 : b ≠ ls := ne_of_none e2 hls
      rw [upd_ne nb, upd_ne nb, upd_ne m2]
      exact e2
    · rw [upd_ne (Ne.symm n1), upd_ne (Ne.symm n1), upd_ne n2]
      exact e1
    · rw [upd_ne (Ne.symm n3), upd_ne (Ne.symm n3), upd_same]
def spNow (a : Ad) : Sp := fun vs H Q _ => ∃ (p : Addr) (B : Plait.Panel) (xs : List Done) (n : Nat), vs = [.ref p] ∧ SessAt a H p B xs n ∧ ∀ q, PanAt a H q (ses B xs n).now → Q (.ref q) H
theorem ok_panel_now (T : Txt K mg a) : FnOk P w K mg base CX0 1 a.f_panel_now a.d_panel_now ["session"] (spNow a) := by
  have nd := sc_panel_now.nd
  refine T.f_panel_now.ok sc_panel_now (fun vs H Q E h => ?_) (fun cdv A outer s H vs Q E hr h => ?_)
  · obtain ⟨p, B, xs, n, rfl, _⟩ := h
    rfl
  · obtain ⟨p, B, xs, n, rfl, hS, q⟩ := h
    have G := hS.good
    obtain ⟨dx, lp, ls, ps, cs, h1, h2, h3, h4, h5⟩ := hS.ex
    obtain ⟨E', p', e1, e2, e3⟩ := h4.2 n hS.le
    have en : (ses B xs n).now = E' := Option.some.inj (G.now_some.symm.trans e1)
    refine ⟨_, (pss_one (ps_ret (pe_ix ix_list (pe_fld (pv 0) rfl) (pe_fld (pv 0) rfl) (fun _ _ => rfl)))), ?_⟩
    refine ⟨_, rfl, p, _, dx, _, _, rfl, h1, T.c_Session, T.n_Session_panels, rfl, _, rfl, p, _, dx, _, _, rfl, h1, T.c_Session, T.n_Session_done, rfl, ?_⟩
    refine ⟨lp, _, _, _, rfl, rfl, SqL.of h2, at_of (j := n) rfl (v := .ref p') (by rw [List.getElem?_map, e2]; rfl), q p' ?_⟩
    rw [en]; exact e3
def spBack (a : Ad) : Sp := fun vs H Q _ => ∃ (p : Addr) (B : Plait.Panel) (xs : List Done) (n : Nat), vs = [.ref p] ∧ SessAt a H p B xs n ∧ Q (.int ((xs.length - n : Nat) : Int)) H
theorem ok_back_count (T : Txt K mg a) : FnOk P w K mg base CX0 1 a.f_back_count a.d_back_count ["session"] (spBack a) := by
  have nd := sc_back_count.nd
  refine T.f_back_count.ok sc_back_count (fun vs H Q E h => ?_) (fun cdv A outer s H vs Q E hr h => ?_)
  · obtain ⟨p, B, xs, n, rfl, _⟩ := h
    rfl
  · obtain ⟨p, B, xs, n, rfl, hS, q⟩ := h
    obtain ⟨dx, lp, ls, ps, cs, h1, h2, h3, h4, h5⟩ := hS.ex
    have hle := hS.le
    refine ⟨_, (pss_one (ps_ret (pe_op op_sub (pe_callB call_len_seq (by rfl) T.no_len PySem.boot_len (pa_cons (pe_fld (pv 0) rfl) pa_nil)) (pe_fld (pv 0) rfl)))), ?_⟩
    refine ⟨_, rfl, p, _, dx, _, _, rfl, h1, T.c_Session, T.n_Session_steps, rfl, ls, _, rfl, .inl (SqL.of h3), _, rfl, p, _, dx, _, _, rfl, h1, T.c_Session, T.n_Session_done, rfl, _, _, rfl, rfl, ?_⟩
    have e : ((xs.length - n : Nat) : Int) = ((cs.map V.ref).length : Int) - (n : Int) := by
      rw [List.length_map, h5.1]
      omega
    rw [e] at q
    exact q
/-! ### the bytes of a change -/
def codeB (k : UInt8) (f s : Nat) : Plait.Bytes := k :: 0 :: (Plait.low2 f ++ (Plait.low2 s ++ [0, 0]))
theorem codeB_set (p z : Nat) : (Done.set p z).bytes = codeB 0 p z := rfl
theorem codeB_move (m : Nat) : (Done.move m).bytes = codeB 1 m 0 := rfl
theorem codeB_undo : codeB 2 0 0 = PM.UNDO := rfl
theorem codeB_redo : codeB 3 0 0 = PM.REDO := rfl
theorem codeB_at (c0 c1 c2 c3 c4 c5 c6 c7 : UInt8) : codeB c0 (Plait.num [c2, c3]) (Plait.num [c4, c5]) = [c0, 0, c2, c3, c4, c5, 0, 0] := by
  unfold codeB
  rw [low2_num, low2_num]; rfl
theorem codeB_inj {k k' : UInt8} {f s f' s' : Nat} (h1 : f < 65536) (h2 : s < 65536) (h3 : f' < 65536) (h4 : s' < 65536) (h : codeB k f s = codeB k' f' s') : k = k' ∧ f = f' ∧ s = s' := by
  unfold codeB at h
  injection h with h5 h
  injection h with _ h
  obtain ⟨h6, h⟩ := List.append_inj h rfl
  obtain ⟨h7, _⟩ := List.append_inj h rfl
  refine ⟨h5, ?_, ?_⟩
  · rw [← num_low2 h1, ← num_low2 h3, h6]
  · rw [← num_low2 h2, ← num_low2 h4, h7]
theorem eight : ∀ (b : Plait.Bytes), b.length = 8 → ∃ c0 c1 c2 c3 c4 c5 c6 c7, b = [c0, c1, c2, c3, c4, c5, c6, c7]
  | [c0, c1, c2, c3, c4, c5, c6, c7], _ => ⟨c0, c1, c2, c3, c4, c5, c6, c7, rfl⟩
  | [], h => by cases h
  | [_], h => by cases h
  | [_, _], h => by cases h
  | [_, _, _], h => by cases h
  | [_, _, _, _], h => by cases h
  | [_, _, _, _, _], h => by cases h
  | [_, _, _, _, _, _], h => by cases h
  | [_, _, _, _, _, _, _], h => by cases h
  | _ :: _ :: _ :: _ :: _ :: _ :: _ :: _ :: _ :: _, h => by simp at h
theorem codeB_len (k : UInt8) (f s : Nat) : (codeB k f s).length = 8 := rfl
/-- the step's own bytes written anew are they -/
theorem codeB_again (x : Done) : ∃ k f s, x.bytes = codeB k f s ∧ codeB k (Plait.num (Plait.low2 f)) (Plait.num (Plait.low2 s)) = codeB k f s := by
  have key : ∀ n, Plait.low2 (Plait.num (Plait.low2 n)) = Plait.low2 n := fun n => low2_num _ _
  cases x with
  | set p z => exact ⟨0, p, z, rfl, by unfold codeB; rw [key, key]⟩
  | move m => exact ⟨1, m, 0, rfl, by unfold codeB; rw [key, key]⟩
def spChange : Sp := fun vs H Q _ => ∃ (k : UInt8) (f s : Nat), vs = [.int (k.toNat : Int), .int f, .int s] ∧ Fresh H (vB (codeB k f s)) Q
theorem ok_change_bytes (T : Txt K mg a) : FnOk P w K mg base CX0 2 a.f_change_bytes a.d_change_bytes ["kind", "first", "second"] spChange := by
  have nd := sc_change_bytes.nd
  refine T.f_change_bytes.ok sc_change_bytes (fun vs H Q E h => ?_) (fun cdv A outer s H vs Q E hr h => ?_)
  · obtain ⟨k, f, s, rfl, _⟩ := h
    rfl
  · obtain ⟨k, f, s, rfl, q⟩ := h
    refine ⟨_, (pss_one (ps_ret (pe_op op_cat (pe_op op_cat (pe_op op_cat (pe_lst (pa_cons (pv 0) (pa_cons pe_int pa_nil))) (pe_call (ok_low_first T) (hr.mono (by decide)) (by rfl) T.m_low_first T.f_low_first.kp T.b_low_first .nil pass0 (pa_cons (pv 1) (pa_cons pe_int pa_nil)))) (pe_call (ok_low_first T) (hr.mono (by decide)) (by rfl) T.m_low_first T.f_low_first.kp T.b_low_first .nil pass0 (pa_cons (pv 2) (pa_cons pe_int pa_nil)))) (pe_lst (pa_cons pe_int (pa_cons pe_int pa_nil)))))), ?_⟩
    refine ⟨_, rfl, (by show 2 ≤ sizeLine; decide), fun l1 hl1 => ?_⟩
    have s1 : Same H _ := Same.new (o := .lst [.int (k.toNat : Int), .int 0]) hl1
    have h1 : (upd H l1 (.lst [.int (k.toNat : Int), .int 0])) l1 = some (.lst [.int (k.toNat : Int), .int 0]) := upd_same
    refine ⟨_, rfl, f, 2, rfl, by decide, fun l2 H2 hl2 s2 h2 => ?_⟩
    refine ⟨l1, l2, _, _, rfl, rfl, s2 _ _ h1, h2, (by rw [vB_len]; show 2 + 2 ≤ sizeLine; decide), fun l3 hl3 => ?_⟩
    have s3 := (s1.trans s2).trans (Same.new (o := .lst ([.int (k.toNat : Int), .int 0] ++ vB (lowN 2 f))) hl3)
    have h3 : (upd H2 l3 (.lst ([.int (k.toNat : Int), .int 0] ++ vB (lowN 2 f)))) l3 = some (.lst ([.int (k.toNat : Int), .int 0] ++ vB (lowN 2 f))) := upd_same
    refine ⟨_, rfl, s, 2, rfl, by decide, fun l4 H4 hl4 s4 h4 => ?_⟩
    refine ⟨l3, l4, _, _, rfl, rfl, s4 _ _ h3, h4, (by rw [List.length_append, vB_len, vB_len]; show 2 + 2 + 2 ≤ sizeLine; decide), fun l5 hl5 => ?_⟩
    have s5 := (s3.trans s4).trans (Same.new (o := .lst ([.int (k.toNat : Int), .int 0] ++ vB (lowN 2 f) ++ vB (lowN 2 s))) hl5)
    have h5 : (upd H4 l5 (.lst ([.int (k.toNat : Int), .int 0] ++ vB (lowN 2 f) ++ vB (lowN 2 s)))) l5 = some (.lst ([.int (k.toNat : Int), .int 0] ++ vB (lowN 2 f) ++ vB (lowN 2 s))) := upd_same
    refine ⟨(by show 2 ≤ sizeLine; decide), fun l6 hl6 => ?_⟩
    refine ⟨l5, l6, _, _, rfl, rfl, Same.new hl6 _ _ h5, upd_same, (by rw [List.length_append, List.length_append, vB_len, vB_len]; show 2 + 2 + 2 + 2 ≤ sizeLine; decide), fun l7 hl7 => ?_⟩
    have s6 := s5.trans (Same.new (o := .lst [.int 0, .int 0]) hl6)
    refine q l7 _ (s6.free hl7) (s6.trans (Same.new hl7)) ?_
    rw [upd_same]
    rfl
def spBehind (K : PySem.W.Frag) (a : Ad) : Sp := fun vs H Q _ => ∃ (p c : Addr) (D : Plait.Panel) (code : Plait.Bytes), vs = [.ref p, .ref c] ∧ PanAt a H p D ∧ Right D ∧ SqL K H c (vB code) ∧ code.length = 8 ∧
  (∀ H', Same H H' → (∀ (x : Done) E, code = x.bytes → D.step x ≠ some E) → Q .non H') ∧ ∀ H' q (x : Done) E, Same H H' → code = x.bytes → D.step x = some E → PanAt a H' q E → Q (.ref q) H'
theorem ok_panel_behind (T : Txt K mg a) : FnOk P w K mg base CX0 5 a.f_panel_behind a.d_panel_behind ["panel", "code"] (spBehind K a) := by
  have nd := sc_panel_behind.nd
  refine T.f_panel_behind.ok sc_panel_behind (fun vs H Q E h => ?_) (fun cdv A outer s H vs Q E hr h => ?_)
  · obtain ⟨p, c, D, code, rfl, _⟩ := h
    rfl
  · obtain ⟨p, c, D, code, rfl, hP, R, hc, h8, qn, qs⟩ := h
    obtain ⟨c0, c1, c2, c3, c4, c5, c6, c7, rfl⟩ := eight code h8
    have hP0 := hP
    obtain ⟨dx, l, hp, hl⟩ := hP0
    refine ⟨_, (pss_cons (ps_set (i := 2) nd rfl (by first | exact Or.inl rfl | exact Or.inr rfl) (pe_ix ix_list (pv 1) pe_int (fun _ _ => rfl)))
        (pss_cons (ps_set (i := 3) nd rfl (by first | exact Or.inl rfl | exact Or.inr rfl) (pe_call (ok_number_at T) (hr.mono (by decide)) (by rfl) T.m_number_at T.f_number_at.kp T.b_number_at .nil pass0 (pa_cons (pv 1) (pa_cons pe_int (pa_cons pe_int pa_nil)))))
        (pss_cons (ps_set (i := 4) nd rfl (by first | exact Or.inl rfl | exact Or.inr rfl) (pe_call (ok_number_at T) (hr.mono (by decide)) (by rfl) T.m_number_at T.f_number_at.kp T.b_number_at .nil pass0 (pa_cons (pv 1) (pa_cons pe_int (pa_cons pe_int pa_nil)))))
        (pss_cons (ps_if (pt_cmpR (op_neD hr.units) (pv 1) (pe_call (ok_change_bytes T) (hr.mono (by decide)) (by rfl) T.m_change_bytes T.f_change_bytes.kp T.b_change_bytes .nil pass0 (pa_cons (pv 2) (pa_cons (pv 3) (pa_cons (pv 4) pa_nil)))) (nomark _)) (pss_one (ps_ret pe_non)) pss_nil)
        (pss_cons (ps_if (PW.pt (pw_and (pt_cmpR op_eq (pv 2) (pe_glob (v := .int (0)) (by rfl) T.g_SET ⟨_, rfl⟩) (nomark _)) (pw_and (pt_cmpR op_lt (pv 3) (pe_callB call_len_seq (by rfl) T.no_len PySem.boot_len (pa_cons (pe_fld (pv 0) rfl) pa_nil)) (nomark _)) (pw_and1 (pt_cmpR op_le (pv 4) (pe_glob (v := .int (2)) (by rfl) T.g_MOST_SIGN ⟨_, rfl⟩) (nomark _)))))) (pss_one (ps_ret (pe_call (ok_with_sign T) (hr.mono (by decide)) (by rfl) T.m_with_sign T.f_with_sign.kp T.b_with_sign .nil pass0 (pa_cons (pv 0) (pa_cons (pv 3) (pa_cons (pv 4) pa_nil)))))) pss_nil)
        (pss_cons (ps_if (PW.pt (pw_and (pt_cmpR op_eq (pv 2) (pe_glob (v := .int (1)) (by rfl) T.g_MOVE ⟨_, rfl⟩) (nomark _)) (pw_and (pt_cmpR op_le (pv 3) (pe_glob (v := .int (7)) (by rfl) T.g_MOST_MOTION ⟨_, rfl⟩) (nomark _)) (pw_and1 (pt_cmpR op_eq (pv 4) pe_int (nomark _)))))) (pss_one (ps_ret (pe_call (ok_moved T) (hr.mono (by decide)) (by rfl) T.m_moved T.f_moved.kp T.b_moved .nil pass0 (pa_cons (pv 0) (pa_cons (pv 3) pa_nil))))) pss_nil)
        (pss_one (ps_ret pe_non)))))))), ?_⟩
    refine ⟨_, rfl, c, _, _, _, rfl, rfl, hc, atI_nat (j := 0) rfl, ?_⟩
    refine ⟨_, rfl, c, _, 2, 2, rfl, hc, fun H1 s1 => ?_⟩
    refine ⟨_, rfl, c, _, 4, 2, rfl, s1.seq hc, fun H2 s2 => ?_⟩
    have s12 := s1.trans s2
    refine ⟨_, rfl, _, rfl, _, rfl, _, rfl, c0, Plait.num [c2, c3], Plait.num [c4, c5], rfl, fun l1 H3 hl1 s3 h3 => ?_⟩
    have s13 := s12.trans s3
    refine ne_B (b := [c0, c1, c2, c3, c4, c5, c6, c7]) (c := codeB c0 (Plait.num [c2, c3]) (Plait.num [c4, c5])) (s13.seq hc) (SqL.of h3) ?_
    refine ⟨_, rfl, ite2 (fun h => ?_) (fun h => ?_)⟩
    · refine qn H3 s13 fun x E hx _ => ?_
      refine nb h ?_
      obtain ⟨k, f, s, e1, e2⟩ := codeB_again x
      rw [e1] at hx
      have e3 : Plait.low2 f = [c2, c3] := by
        unfold codeB at hx
        injection hx with _ hx
        injection hx with _ hx
        exact (List.append_inj (s₁ := [c2, c3]) hx rfl).1.symm
      have e4 : Plait.low2 s = [c4, c5] := by
        unfold codeB at hx
        injection hx with _ hx
        injection hx with _ hx
        exact (List.append_inj (s₁ := [c4, c5]) (List.append_inj (s₁ := [c2, c3]) hx rfl).2 rfl).1.symm
      have e5 : c0 = k := by
        unfold codeB at hx
        injection hx
      rw [e3, e4, ← hx, ← e5] at e2
      exact e2.symm
    have hcode := nb' h
    have hf := num2_lt c2 c3
    have hs := num2_lt c4 c5
    have hinj : ∀ (k : UInt8) (f s : Nat), f < 65536 → s < 65536 → [c0, c1, c2, c3, c4, c5, c6, c7] = codeB k f s → c0 = k ∧ Plait.num [c2, c3] = f ∧ Plait.num [c4, c5] = s := fun k f s h1 h2 e => codeB_inj hf hs h1 h2 (hcode.symm.trans e)
    have h112 := R.le112
    -- no step
    have no : ∀ H', Same H H' → ¬ (c0 = 0 ∧ Plait.num [c2, c3] < D.places.length ∧ Plait.num [c4, c5] ≤ 2) → ¬ (c0 = 1 ∧ Plait.num [c2, c3] ≤ 7 ∧ Plait.num [c4, c5] = 0) → Q .non H' := by
      intro H' sH n1 n2
      refine qn H' sH fun x E hx hE => ?_
      rcases (step_some R hE).2 with ⟨i, z, rfl, hi, hz, _⟩ | ⟨m, rfl, hm, _⟩
      · rw [R.count] at hi
        rw [codeB_set] at hx
        obtain ⟨j1, j2, j3⟩ := hinj 0 i z (by omega) (by omega) hx
        exact n1 ⟨j1, by omega, by omega⟩
      · rw [codeB_move] at hx
        obtain ⟨j1, j2, j3⟩ := hinj 1 m 0 (by omega) (by omega) hx
        exact n2 ⟨j1, by omega, by omega⟩
    have e0 : ∀ k : UInt8, (V.int (c0.toNat : Int) = V.int (k.toNat : Int)) → c0 = k := fun k e => UInt8.toNat_inj.mp (vi e)
    have h3P := hP.same s13
    -- kind == SET and first < len(panel.signs) and second <= MOST_SIGN
    apply sec (C := c0 = 0 ∧ Plait.num [c2, c3] < D.places.length ∧ Plait.num [c4, c5] ≤ 2)
    case h =>
      intro second
      refine ⟨_, rfl, rfl, _, rfl, ite2 (fun k0 => ?_) (fun k0 => iteF (second fun z => db' k0 (by rw [z.1]; rfl)))⟩
      have z0 := e0 0 (db k0)
      refine ⟨_, rfl, _, rfl, p, _, dx, _, _, rfl, s13 _ _ hp, T.c_Panel, T.n_Panel_signs, rfl, l, _, rfl, .inl (SqL.of (s13 _ _ hl)), _, _, rfl, rfl, _, rfl, ite2 (fun k1 => ?_) (fun k1 => iteF (second fun z => db' k1 (by rw [vN_len]; have := z.2.1; exact Int.ofNat_lt.mpr this)))⟩
      have z1 : Plait.num [c2, c3] < D.places.length := by
        have := db k1
        rw [vN_len] at this
        exact Int.ofNat_lt.mp this
      refine ⟨_, rfl, _, _, rfl, rfl, _, rfl, ite2 (fun k2 => ?_) (fun k2 => second fun z => db' k2 (by have := z.2.2; exact Int.ofNat_le.mpr this))⟩
      have z2 : Plait.num [c4, c5] ≤ 2 := Int.ofNat_le.mp (db k2)
      refine ⟨_, rfl, _, rfl, _, rfl, p, D, Plait.num [c2, c3], Plait.num [c4, c5], rfl, h3P, z1, fun H4 q s4 h4 => ?_⟩
      refine qs H4 q (.set (Plait.num [c2, c3]) (Plait.num [c4, c5])) _ (s13.trans s4) ?_ ?_ h4
      · rw [codeB_set, ← z0]; exact hcode
      · unfold Plait.Panel.step
        simp only
        rw [if_pos ⟨by rw [R.count]; exact z1, z2⟩]
    case g =>
      intro n1
      apply sec (C := c0 = 1 ∧ Plait.num [c2, c3] ≤ 7 ∧ Plait.num [c4, c5] = 0)
      case h =>
        intro third
        refine ⟨_, rfl, rfl, _, rfl, ite2 (fun k0 => ?_) (fun k0 => iteF (third fun z => db' k0 (by rw [z.1]; rfl)))⟩
        have z0 := e0 1 (db k0)
        refine ⟨_, rfl, _, _, rfl, rfl, _, rfl, ite2 (fun k1 => ?_) (fun k1 => iteF (third fun z => db' k1 (by have := z.2.1; exact Int.ofNat_le.mpr this)))⟩
        have z1 : Plait.num [c2, c3] ≤ 7 := Int.ofNat_le.mp (db k1)
        refine ⟨_, rfl, rfl, _, rfl, ite2 (fun k2 => ?_) (fun k2 => third fun z => db' k2 (by show V.int ((Plait.num [c4, c5] : Nat) : Int) = V.int 0; rw [z.2.2]; rfl))⟩
        have z2 : Plait.num [c4, c5] = 0 := vi (n := 0) (db k2)
        refine ⟨_, rfl, _, rfl, p, D, Plait.num [c2, c3], rfl, h3P, R, by omega, fun H4 q s4 h4 => ?_⟩
        refine qs H4 q (.move (Plait.num [c2, c3])) _ (s13.trans s4) ?_ ?_ h4
        · rw [codeB_move, ← z0, ← z2]; exact hcode
        · unfold Plait.Panel.step
          simp only
          rw [if_pos (by unfold Plait.MOTIONS; omega)]
      case g =>
        intro n2
        exact no H3 s13 n1 n2
end Pnl

set_option Elab.async false
set_option maxRecDepth 100000
set_option maxHeartbeats 2000000
set_option linter.all false
namespace Pnl
open PySem PySem.Spec PyProof.Rows L2 PM
open Plait (Done Sess)
variable {P : Program} {w : World} {K : PySem.W.Frag} {mg : Str → Option Value} {base : Heap} {a : Ad}
theorem Pans.snoc {H : Hp} {B E : Plait.Panel} {xs : List Done} {ps : List Addr} {n : Nat} {x : Done} {q : Addr} (h : Pans a H B xs ps) (hn : n ≤ xs.length) (e : Plait.stepsFrom B (xs.take n ++ [x]) = some E) (hq : PanAt a H q E) : Pans a H B (xs.take n ++ [x]) (ps.take (n + 1) ++ [q]) := by
  have hl := h.1
  have l1 : (xs.take n).length = n := by rw [List.length_take]; omega
  have l2 : (ps.take (n + 1)).length = n + 1 := by rw [List.length_take]; omega
  refine ⟨by rw [List.length_append, List.length_append, l1, l2]; rfl, fun i hi => ?_⟩
  rw [List.length_append, l1, List.length_singleton] at hi
  by_cases hin : i ≤ n
  · obtain ⟨E', q', h1, h2, h3⟩ := h.2 i (by omega)
    refine ⟨E', q', ?_, ?_, h3⟩
    · rw [List.take_append_of_le_length (by omega), List.take_take, Nat.min_eq_left hin]; exact h1
    · rw [List.getElem?_append_left (by omega), List.getElem?_take_of_lt (by omega)]; exact h2
  · have ei : i = n + 1 := by omega
    subst ei
    refine ⟨E, q, ?_, ?_, hq⟩
    · rw [List.take_of_length_le (by rw [List.length_append, l1, List.length_singleton]; exact Nat.le_refl _)]; exact e
    · rw [List.getElem?_append_right (by omega), l2, Nat.sub_self]; rfl
theorem Codes.snoc {H : Hp} {xs : List Done} {cs : List Addr} {n : Nat} {x : Done} {c : Addr} (h : Codes H xs cs) (hn : n ≤ xs.length) (hc : H c = some (.lst (vB x.bytes))) : Codes H (xs.take n ++ [x]) (cs.take n ++ [c]) := by
  have hl := h.1
  have l1 : (xs.take n).length = n := by rw [List.length_take]; omega
  have l2 : (cs.take n).length = n := by rw [List.length_take]; omega
  refine ⟨by rw [List.length_append, List.length_append, l1, l2]; rfl, fun i y hi => ?_⟩
  by_cases hin : i < n
  · rw [List.getElem?_append_left (by omega), List.getElem?_take_of_lt hin] at hi
    obtain ⟨c', h1, h2⟩ := h.2 i y hi
    exact ⟨c', by rw [List.getElem?_append_left (by omega), List.getElem?_take_of_lt hin]; exact h1, h2⟩
  · rw [List.getElem?_append_right (by omega), l1] at hi
    have h0 : i - n < 1 := by
      have := (List.getElem?_eq_some_iff.mp hi).1
      simpa using this
    have ei : i = n := by omega
    subst ei
    rw [Nat.sub_self] at hi
    cases hi
    exact ⟨c, by rw [List.getElem?_append_right (by omega), l2, Nat.sub_self]; rfl, hc⟩
theorem ses_snoc {B : Plait.Panel} {xs : List Done} {n : Nat} {x : Done} (hn : n ≤ xs.length) : ses B (xs.take n ++ [x]) (n + 1) = ⟨B, xs.take n ++ [x], []⟩ := by
  have l1 : (xs.take n ++ [x]).length = n + 1 := by rw [List.length_append, List.length_take, List.length_singleton]; omega
  unfold ses
  rw [List.take_of_length_le (by omega), List.drop_eq_nil_of_le (by omega)]
def spDoStep (a : Ad) : Sp := fun vs H Q _ => ∃ (p c : Addr) (B : Plait.Panel) (xs : List Done) (n : Nat) (code : Plait.Bytes), vs = [.ref p, .ref c] ∧ SessAt a H p B xs n ∧ H c = some (.lst (vB code)) ∧ code.length = 8 ∧
  (∀ H', Same H H' → (∀ (x : Done) E, n < 64 → code = x.bytes → (ses B xs n).now.step x ≠ some E) → Q (.bl false) H') ∧
  ∀ H' (x : Done) E, But1 p H H' → n < 64 → code = x.bytes → (ses B xs n).now.step x = some E → SessAt a H' p B (xs.take n ++ [x]) (n + 1) → Q (.bl true) H'
theorem ok_do_step (T : Txt K mg a) : FnOk P w K mg base CX0 6 a.f_do_step a.d_do_step ["session", "code"] (spDoStep a) := by
  have nd := sc_do_step.nd
  refine T.f_do_step.ok sc_do_step (fun vs H Q E h => ?_) (fun cdv A outer s H vs Q E hr h => ?_)
  · obtain ⟨p, c, B, xs, n, code, rfl, _⟩ := h
    rfl
  · obtain ⟨p, c, B, xs, n, code, rfl, hS, hc, h8, qn, qs⟩ := h
    have G := hS.good
    have hS0 := hS
    obtain ⟨⟨dx, lp, ls, ps, cs, h1, h2, h3, h4, h5⟩, R, few, hle⟩ := hS0
    refine ⟨_, (pss_cons (ps_if (pt_cmpR op_ge (pe_fld (pv 0) rfl) (pe_glob (v := .int (64)) (by rfl) T.g_MOST_STEPS ⟨_, rfl⟩) (nomark _)) (pss_one (ps_ret pe_bl)) pss_nil)
        (pss_cons (ps_set (i := 2) nd rfl (by first | exact Or.inl rfl | exact Or.inr rfl) (pe_call (ok_panel_behind T) (hr.mono (by decide)) (by rfl) T.m_panel_behind T.f_panel_behind.kp T.b_panel_behind .nil pass0 (pa_cons (pe_call (ok_panel_now T) (hr.mono (by decide)) (by rfl) T.m_panel_now T.f_panel_now.kp T.b_panel_now .nil pass0 (pa_cons (pv 0) pa_nil)) (pa_cons (pv 1) pa_nil))))
        (pss_cons (ps_if (pt_cmpR op_isN (pv 2) pe_non (nomark _)) (pss_one (ps_ret pe_bl)) pss_nil)
        (pss_cons (ps_fld (pv 0) (pe_op op_cat (pe_slice sl_list (pe_fld (pv 0) rfl) po_none (po_some (pe_fld (pv 0) rfl))) (pe_lst (pa_cons (pv 1) pa_nil))) rfl)
        (pss_cons (ps_fld (pv 0) (pe_op op_cat (pe_slice sl_list (pe_fld (pv 0) rfl) po_none (po_some (pe_op op_add (pe_fld (pv 0) rfl) pe_int))) (pe_lst (pa_cons (pv 2) pa_nil))) rfl)
        (pss_cons (ps_fldaug (pv 0) pe_int in_add)
        (pss_one (ps_ret pe_bl)))))))), ?_⟩
    refine ⟨_, rfl, p, _, dx, _, _, rfl, h1, T.c_Session, T.n_Session_done, rfl, _, _, rfl, rfl, _, rfl, ite2 (fun k => ?_) (fun k => ?_)⟩
    · refine qn H (Same.refl H) fun x E hn => ?_
      have : (64 : Int) ≤ (n : Int) := db k
      omega
    have hn : n < 64 := by
      have : ¬ (64 : Int) ≤ (n : Int) := db' k
      omega
    refine ⟨_, rfl, p, B, xs, n, rfl, hS, fun q hq => ?_⟩
    refine ⟨_, rfl, q, c, _, code, rfl, hq, G.now, SqL.of hc, h8, fun H1 s1 hno => ?_, fun H1 q1 x E s1 hx hE hP1 => ?_⟩
    · refine ⟨_, rfl, rfl, _, rfl, ite2 (fun k => ?_) (fun k => absurd (decide_eq_true rfl) k)⟩
      exact qn H1 s1 fun x E _ => hno x E
    · refine ⟨_, rfl, rfl, _, rfl, ite2 (fun k => absurd (db k) (by intro z; cases z)) (fun k => ?_)⟩
      refine ⟨_, rfl, p, _, dx, _, _, rfl, s1 _ _ h1, T.c_Session, T.n_Session_steps, rfl, _, rfl, p, _, dx, _, _, rfl, s1 _ _ h1, T.c_Session, T.n_Session_done, rfl, _, rfl, ls, _, rfl, SqL.of (s1 _ _ h3), fun l1 hl1 => ?_⟩
      rw [cut_to, ← List.map_take]
      have f1 : (upd H1 l1 (.lst ((cs.take n).map V.ref))) l1 = some (.lst ((cs.take n).map V.ref)) := upd_same
      have t1 : Same H1 (upd H1 l1 (.lst ((cs.take n).map V.ref))) := Same.new hl1
      generalize upd H1 l1 _ = H2 at f1 t1 ⊢
      refine ⟨_, rfl, (by show 1 ≤ sizeLine; decide), fun l2 hl2 => ?_⟩
      have f2 : (upd H2 l2 (.lst [.ref c])) l2 = some (.lst [.ref c]) := upd_same
      have t2 : Same H2 (upd H2 l2 (.lst [.ref c])) := Same.new hl2
      generalize upd H2 l2 _ = H3 at f2 t2 ⊢
      refine ⟨l1, l2, _, _, rfl, rfl, t2 _ _ f1, f2, ?_, fun l3 hl3 => ?_⟩
      · rw [List.length_map, List.length_take]
        exact line_lt (by show _ + 1 ≤ _; omega)
      have f3 : (upd H3 l3 (.lst ((cs.take n).map V.ref ++ [.ref c]))) l3 = some (.lst ((cs.take n ++ [c]).map V.ref)) := by rw [upd_same, List.map_append]; rfl
      have t3 : Same H3 (upd H3 l3 (.lst ((cs.take n).map V.ref ++ [.ref c]))) := Same.new hl3
      generalize upd H3 l3 _ = H4 at f3 t3 ⊢
      have t4 : Same H H4 := ((s1.trans t1).trans t2).trans t3
      refine ⟨_, rfl, p, _, dx, _, rfl, t4 _ _ h1, T.c_Session, T.n_Session_steps, (by show 3 < 1000; decide), ?_⟩
      have b5 : But1 p H4 (upd H4 p (.ins a.c_Session dx (sf lp l3 n))) := But1.upd
      have f5 : (upd H4 p (.ins a.c_Session dx (sf lp l3 n))) p = some (.ins a.c_Session dx (sf lp l3 n)) := upd_same
      show tSeq _ _ _ _ (upd H4 p (.ins a.c_Session dx (sf lp l3 n)))
      generalize upd H4 p _ = H5 at b5 f5 ⊢
      have k5 : Keep H4 H5 := b5.keep (t4 _ _ h1) rfl
      refine ⟨_, rfl, p, _, dx, _, _, rfl, f5, T.c_Session, T.n_Session_panels, rfl, _, rfl, p, _, dx, _, _, rfl, f5, T.c_Session, T.n_Session_done, rfl, _, _, rfl, rfl, _, rfl, lp, _, rfl, SqL.of (k5 _ _ (t4 _ _ h2) rfl), fun l4 hl4 => ?_⟩
      rw [show (n : Int) + 1 = ((n + 1 : Nat) : Int) from rfl, cut_to, ← List.map_take]
      have f6 : (upd H5 l4 (.lst ((ps.take (n + 1)).map V.ref))) l4 = some (.lst ((ps.take (n + 1)).map V.ref)) := upd_same
      have t6 : Same H5 (upd H5 l4 (.lst ((ps.take (n + 1)).map V.ref))) := Same.new hl4
      generalize upd H5 l4 _ = H6 at f6 t6 ⊢
      refine ⟨_, rfl, (by show 1 ≤ sizeLine; decide), fun l5 hl5 => ?_⟩
      have f7 : (upd H6 l5 (.lst [.ref q1])) l5 = some (.lst [.ref q1]) := upd_same
      have t7 : Same H6 (upd H6 l5 (.lst [.ref q1])) := Same.new hl5
      generalize upd H6 l5 _ = H7 at f7 t7 ⊢
      refine ⟨l4, l5, _, _, rfl, rfl, t7 _ _ f6, f7, ?_, fun l6 hl6 => ?_⟩
      · rw [List.length_map, List.length_take]
        exact line_lt (by show _ + 1 ≤ _; omega)
      have f8 : (upd H7 l6 (.lst ((ps.take (n + 1)).map V.ref ++ [.ref q1]))) l6 = some (.lst ((ps.take (n + 1) ++ [q1]).map V.ref)) := by rw [upd_same, List.map_append]; rfl
      have t8 : Same H7 (upd H7 l6 (.lst ((ps.take (n + 1)).map V.ref ++ [.ref q1]))) := Same.new hl6
      generalize upd H7 l6 _ = H8 at f8 t8 ⊢
      have t9 : Same H5 H8 := (t6.trans t7).trans t8
      refine ⟨_, rfl, p, _, dx, _, rfl, t9 _ _ f5, T.c_Session, T.n_Session_panels, (by show 3 < 1000; decide), ?_⟩
      refine ⟨_, rfl, p, _, dx, _, _, rfl, upd_same, T.c_Session, T.n_Session_done, rfl, _, _, rfl, rfl, dx, _, upd_same, (by show 3 < 1000; decide), ?_⟩
      rw [upd_upd]
      have b9 : But1 p H8 (upd H8 p (.ins a.c_Session dx (sf l6 l3 (n + 1)))) := But1.upd
      have f9 : (upd H8 p (.ins a.c_Session dx (sf l6 l3 (n + 1)))) p = some (.ins a.c_Session dx (sf l6 l3 (n + 1))) := upd_same
      show Q (.bl true) (upd H8 p (.ins a.c_Session dx (sf l6 l3 (n + 1))))
      generalize upd H8 p _ = H9 at b9 f9 ⊢
      have k9 : Keep H8 H9 := b9.keep (t9 _ _ f5) rfl
      have kall : Keep H1 H9 := (((t1.trans t2).trans t3).keep.trans k5).trans (t9.keep.trans k9)
      have k0 : Keep H H9 := s1.keep.trans kall
      have ball : But1 p H H9 := (t4.but.trans b5).trans (t9.but.trans b9)
      refine qs H9 x E ball hn hx hE ⟨⟨dx, l6, l3, ps.take (n + 1) ++ [q1], cs.take n ++ [c], f9, k9 _ _ f8 rfl, k9 _ _ (t9 _ _ (k5 _ _ f3 rfl)) rfl, ?_, ?_⟩, R, ?_, ?_⟩
      · refine (h4.keep k0).snoc hle ?_ (hP1.keep kall)
        have e1 := G.now_some
        rw [stepsFrom_append, show Plait.stepsFrom B (xs.take n) = some (ses B xs n).now from e1]
        show Plait.stepsFrom (ses B xs n).now [x] = some E
        unfold Plait.stepsFrom
        rw [hE]
        rfl
      · exact (h5.keep k0).snoc hle (by rw [← hx]; exact k0 _ _ hc rfl)
      · rw [List.length_append, List.length_take, List.length_singleton]
        omega
      · rw [List.length_append, List.length_take, List.length_singleton]
        omega
/-! ### changes -/
theorem undo_none {B : Plait.Panel} {xs : List Done} : (ses B xs 0).change .undo = Option.none := by
  unfold ses Plait.Sess.change
  simp
theorem undo_some {B : Plait.Panel} {xs : List Done} {n : Nat} (h0 : 0 < n) (hn : n ≤ xs.length) : (ses B xs n).change .undo = some (ses B xs (n - 1)) := by
  obtain ⟨m, rfl⟩ : ∃ m, n = m + 1 := ⟨n - 1, by omega⟩
  have hm : m < xs.length := by omega
  have e1 : xs.take (m + 1) = xs.take m ++ [xs[m]] := by rw [List.take_add_one, List.getElem?_eq_getElem hm]; rfl
  unfold ses Plait.Sess.change
  simp only
  rw [e1, List.getLast?_concat, List.dropLast_concat]
  simp only
  rw [show m + 1 - 1 = m from rfl, List.drop_eq_getElem_cons hm]
theorem redo_none {B : Plait.Panel} {xs : List Done} {n : Nat} (h : n = xs.length) : (ses B xs n).change .redo = Option.none := by
  unfold ses Plait.Sess.change
  rw [h, List.drop_length]
theorem redo_some {B : Plait.Panel} {xs : List Done} {n : Nat} (hm : n < xs.length) : (ses B xs n).change .redo = some (ses B xs (n + 1)) := by
  have e1 : xs.take (n + 1) = xs.take n ++ [xs[n]] := by rw [List.take_add_one, List.getElem?_eq_getElem hm]; rfl
  unfold ses Plait.Sess.change
  simp only
  rw [List.drop_eq_getElem_cons hm, e1]
theorem step_chg {B : Plait.Panel} {xs : List Done} {n : Nat} {x : Done} (hn : n ≤ xs.length) : (ses B xs n).change (.step x) = if n < 64 ∧ ((ses B xs n).now.step x).isSome = true then some (ses B (xs.take n ++ [x]) (n + 1)) else Option.none := by
  have e : (ses B xs n).change (.step x) = if (ses B xs n).done.length < Plait.STEPS ∧ ((ses B xs n).now.step x).isSome = true then some ⟨(ses B xs n).base, (ses B xs n).done ++ [x], []⟩ else Option.none := rfl
  have l2 : (ses B xs n).done.length = n := by
    show (xs.take n).length = n
    rw [List.length_take, Nat.min_eq_left hn]
  rw [ses_snoc hn, e, l2]
  rfl
def spDoChange (a : Ad) : Sp := fun vs H Q _ => ∃ (p c : Addr) (B : Plait.Panel) (xs : List Done) (n : Nat) (code : Plait.Bytes), vs = [.ref p, .ref c] ∧ SessAt a H p B xs n ∧ H c = some (.lst (vB code)) ∧ code.length = 8 ∧
  (∀ H', Same H H' → PM.chg (ses B xs n) code = Option.none → Q (.bl false) H') ∧
  ∀ H' (ys : List Done) (m : Nat), But1 p H H' → PM.chg (ses B xs n) code = some (ses B ys m) → SessAt a H' p B ys m → Q (.bl true) H'
theorem ok_do_change (T : Txt K mg a) : FnOk P w K mg base CX0 7 a.f_do_change a.d_do_change ["session", "code"] (spDoChange a) := by
  have nd := sc_do_change.nd
  refine T.f_do_change.ok sc_do_change (fun vs H Q E h => ?_) (fun cdv A outer s H vs Q E hr h => ?_)
  · obtain ⟨p, c, B, xs, n, code, rfl, _⟩ := h
    rfl
  · obtain ⟨p, c, B, xs, n, code, rfl, hS, hc, h8, qn, qs⟩ := h
    have G := hS.good
    have hS0 := hS
    obtain ⟨⟨dx, lp, ls, ps, cs, h1, h2, h3, h4, h5⟩, R, few, hle⟩ := hS0
    have put : ∀ (H1 : Hp) (m : Nat), Same H H1 → m ≤ xs.length → PM.chg (ses B xs n) code = some (ses B xs m) → Q (.bl true) (upd H1 p (.ins a.c_Session dx (sf lp ls m))) := by
      intro H1 m s1 hm he
      have b1 : But1 p H (upd H1 p (.ins a.c_Session dx (sf lp ls m))) := s1.but.trans But1.upd
      have k1 : Keep H (upd H1 p (.ins a.c_Session dx (sf lp ls m))) := b1.keep h1 rfl
      exact qs _ xs m b1 he ⟨⟨dx, lp, ls, ps, cs, upd_same, k1 _ _ h2 rfl, k1 _ _ h3 rfl, h4.keep k1, h5.keep k1⟩, R, few, hm⟩
    refine ⟨_, (pss_cons (ps_if (pt_cmpR (op_eqD hr.units) (pv 1) (pe_call (ok_change_bytes T) (hr.mono (by decide)) (by rfl) T.m_change_bytes T.f_change_bytes.kp T.b_change_bytes .nil pass0 (pa_cons (pe_glob (v := .int (2)) (by rfl) T.g_UNDO ⟨_, rfl⟩) (pa_cons pe_int (pa_cons pe_int pa_nil)))) (nomark _)) (pss_cons (ps_if (pt_cmpR op_eq (pe_fld (pv 0) rfl) pe_int (nomark _)) (pss_one (ps_ret pe_bl)) pss_nil)
        (pss_cons (ps_fldaug (pv 0) pe_int in_sub)
        (pss_one (ps_ret pe_bl)))) pss_nil)
        (pss_cons (ps_if (pt_cmpR (op_eqD hr.units) (pv 1) (pe_call (ok_change_bytes T) (hr.mono (by decide)) (by rfl) T.m_change_bytes T.f_change_bytes.kp T.b_change_bytes .nil pass0 (pa_cons (pe_glob (v := .int (3)) (by rfl) T.g_REDO ⟨_, rfl⟩) (pa_cons pe_int (pa_cons pe_int pa_nil)))) (nomark _)) (pss_cons (ps_if (pt_cmpR op_eq (pe_call (ok_back_count T) (hr.mono (by decide)) (by rfl) T.m_back_count T.f_back_count.kp T.b_back_count .nil pass0 (pa_cons (pv 0) pa_nil)) pe_int (nomark _)) (pss_one (ps_ret pe_bl)) pss_nil)
        (pss_cons (ps_fldaug (pv 0) pe_int in_add)
        (pss_one (ps_ret pe_bl)))) pss_nil)
        (pss_one (ps_ret (pe_call (ok_do_step T) (hr.mono (by decide)) (by rfl) T.m_do_step T.f_do_step.kp T.b_do_step .nil pass0 (pa_cons (pv 0) (pa_cons (pv 1) pa_nil))))))), ?_⟩
    refine ⟨_, rfl, 2, 0, 0, rfl, fun l1 H1 hl1 s1 f1 => ?_⟩
    refine eq_B (b := code) (c := PM.UNDO) (SqL.of (s1 _ _ hc)) (SqL.of f1) ?_
    refine ⟨_, rfl, ite2 (fun k => ?_) (fun k => ?_)⟩
    · have hu : PM.chg (ses B xs n) code = (ses B xs n).change .undo := by unfold PM.chg; rw [if_pos (db k)]
      refine ⟨_, rfl, p, _, dx, _, _, rfl, s1 _ _ h1, T.c_Session, T.n_Session_done, rfl, rfl, _, rfl, ite2 (fun k0 => ?_) (fun k0 => ?_)⟩
      · have z : n = 0 := vi (n := 0) (db k0)
        subst z
        exact qn H1 s1 (by rw [hu]; exact undo_none)
      · have z : n ≠ 0 := fun e => db' k0 (by rw [e]; rfl)
        refine ⟨_, rfl, p, _, dx, _, _, rfl, s1 _ _ h1, T.c_Session, T.n_Session_done, rfl, _, _, rfl, rfl, dx, _, s1 _ _ h1, (by show 3 < 1000; decide), ?_⟩
        have := put H1 (n - 1) s1 (by omega) (by rw [hu]; exact undo_some (by omega) hle)
        unfold sf at this
        rw [show ((n - 1 : Nat) : Int) = (n : Int) - 1 from by omega] at this
        exact this
    have hk := db' k
    refine ⟨_, rfl, 3, 0, 0, rfl, fun l2 H2 hl2 s2 f2 => ?_⟩
    have s12 := s1.trans s2
    refine eq_B (b := code) (c := PM.REDO) (SqL.of (s12 _ _ hc)) (SqL.of f2) ?_
    refine ⟨_, rfl, ite2 (fun k => ?_) (fun k => ?_)⟩
    · have hu : PM.chg (ses B xs n) code = (ses B xs n).change .redo := by unfold PM.chg; rw [if_neg hk, if_pos (db k)]
      refine ⟨_, rfl, p, B, xs, n, rfl, hS.same s12, rfl, _, rfl, ite2 (fun k0 => ?_) (fun k0 => ?_)⟩
      · have z : xs.length - n = 0 := vi (n := 0) (db k0)
        exact qn H2 s12 (by rw [hu]; exact redo_none (by omega))
      · have z : xs.length - n ≠ 0 := fun e => db' k0 (by rw [e]; rfl)
        refine ⟨_, rfl, p, _, dx, _, _, rfl, s12 _ _ h1, T.c_Session, T.n_Session_done, rfl, _, _, rfl, rfl, dx, _, s12 _ _ h1, (by show 3 < 1000; decide), ?_⟩
        exact put H2 (n + 1) s12 (by omega) (by rw [hu]; exact redo_some (by omega))
    have hk2 := db' k
    have hu : PM.chg (ses B xs n) code = match PM.codeDone code with
        | some x => (ses B xs n).change (.step x)
        | Option.none => Option.none := by unfold PM.chg; rw [if_neg hk, if_neg hk2] <;> (cases PM.codeDone code <;> rfl)
    refine ⟨_, rfl, _, rfl, p, c, B, xs, n, code, rfl, hS.same s12, s12 _ _ hc, h8, fun H3 s3 hno => ?_, fun H3 x E b3 hn hx hE hS3 => ?_⟩
    · refine qn H3 (s12.trans s3) ?_
      rw [hu]
      cases hd : PM.codeDone code with
      | none => rfl
      | some x =>
        simp only
        rw [step_chg hle]
        refine if_neg fun z => ?_
        obtain ⟨E, hE⟩ := Option.isSome_iff_exists.mp z.2
        exact hno x E z.1 (codeDone_small hd).1 hE
    · refine qs H3 _ _ (s12.but.trans b3) ?_ hS3
      rw [hu, (codeDone_iff (step_small G.now hE)).mpr hx]
      simp only
      rw [step_chg hle]
      exact if_pos ⟨hn, by rw [hE]; rfl⟩
end Pnl

set_option Elab.async false
set_option maxRecDepth 100000
set_option maxHeartbeats 2000000
set_option linter.all false
namespace Pnl
open PySem PySem.Spec PyProof.Rows L2 PM
open Plait (Done Sess)
variable {P : Program} {w : World} {K : PySem.W.Frag} {mg : Str → Option Value} {base : Heap} {a : Ad}
theorem body_eq (B : Plait.Panel) (xs : List Done) (n : Nat) (hn : n ≤ xs.length) : (ses B xs n).body = Plait.SESSION ++ Plait.low4 B.bytes.length ++ B.bytes ++ Plait.low4 n ++ Plait.low4 (xs.length - n) ++ xs.flatMap Done.bytes := by
  unfold Plait.Sess.body ses
  simp only [List.append_assoc]
  rw [← List.flatMap_append, List.take_append_drop, List.length_take, List.length_drop, Nat.min_eq_left hn]
theorem take_snoc {α : Type} {l : List α} {i : Nat} {x : α} (h : l[i]? = some x) : l.take (i + 1) = l.take i ++ [x] := by
  rw [List.take_add_one, h]; rfl
def spSessBytes (a : Ad) : Sp := fun vs H Q _ => ∃ (p : Addr) (B : Plait.Panel) (xs : List Done) (n : Nat), vs = [.ref p] ∧ SessAt a H p B xs n ∧ Fresh H (vB (ses B xs n).bytes) Q
theorem ok_session_bytes (T : Txt K mg a) : FnOk P w K mg base CX0 3 a.f_session_bytes a.d_session_bytes ["session"] (spSessBytes a) := by
  have nd := sc_session_bytes.nd
  refine T.f_session_bytes.ok sc_session_bytes (fun vs H Q E h => ?_) (fun cdv A outer s H vs Q E hr h => ?_)
  · obtain ⟨p, B, xs, n, rfl, _⟩ := h
    rfl
  · obtain ⟨p, B, xs, n, rfl, hS, q⟩ := h
    have hS0 := hS
    obtain ⟨⟨dx, lp, ls, ps, cs, h1, h2, h3, h4, h5⟩, R, few, hle⟩ := hS0
    obtain ⟨E0', q0, e0, e1, e2⟩ := h4.2 0 (Nat.zero_le _)
    have eB : E0' = B := (Option.some.inj e0).symm
    subst eB
    have hbl := bytes_len E0'
    have h112 := R.le112
    refine ⟨_, (pss_cons (ps_set (i := 1) nd rfl (by first | exact Or.inl rfl | exact Or.inr rfl) (pe_call (ok_panel_bytes T) (hr.mono (by decide)) (by rfl) T.m_panel_bytes T.f_panel_bytes.kp T.b_panel_bytes .nil pass0 (pa_cons (pe_ix ix_list (pe_fld (pv 0) rfl) pe_int (fun _ _ => rfl)) pa_nil)))
        (pss_cons (ps_set (i := 2) nd rfl (by first | exact Or.inl rfl | exact Or.inr rfl) (pe_op op_cat (pe_op op_cat (pe_callTy call_list_of (by rfl) T.no_list PyProof.Rows.boot_list (pa_cons (pe_glob (v := .ref a.p_SESSION_MARK) (by rfl) T.g_SESSION_MARK rfl) pa_nil)) (pe_call (ok_low_first T) (hr.mono (by decide)) (by rfl) T.m_low_first T.f_low_first.kp T.b_low_first .nil pass0 (pa_cons (pe_callB call_len_seq (by rfl) T.no_len PySem.boot_len (pa_cons (pv 1) pa_nil)) (pa_cons pe_int pa_nil)))) (pv 1)))
        (pss_cons (ps_expr (pe_bm PySem.F.plainAttrs_list PySem.F.slot_list_extend PySem.F.type_list_extend mt_extend (pv 2) (pa_cons (pe_call (ok_low_first T) (hr.mono (by decide)) (by rfl) T.m_low_first T.f_low_first.kp T.b_low_first .nil pass0 (pa_cons (pe_fld (pv 0) rfl) (pa_cons pe_int pa_nil))) pa_nil)))
        (pss_cons (ps_expr (pe_bm PySem.F.plainAttrs_list PySem.F.slot_list_extend PySem.F.type_list_extend mt_extend (pv 2) (pa_cons (pe_call (ok_low_first T) (hr.mono (by decide)) (by rfl) T.m_low_first T.f_low_first.kp T.b_low_first .nil pass0 (pa_cons (pe_call (ok_back_count T) (hr.mono (by decide)) (by rfl) T.m_back_count T.f_back_count.kp T.b_back_count .nil pass0 (pa_cons (pv 0) pa_nil)) (pa_cons pe_int pa_nil))) pa_nil)))
        (pss_cons (ps_for PassesOwn.never rfl (pi_list (pe_fld (pv 0) rfl)) (pg_name (i := 3) nd rfl (by first | exact Or.inl rfl | exact Or.inr rfl)) (pss_one (ps_expr (pe_bm PySem.F.plainAttrs_list PySem.F.slot_list_extend PySem.F.type_list_extend mt_extend (pv 2) (pa_cons (pv 3) pa_nil)))))
        (pss_one (ps_ret (pe_op op_cat (pv 2) (pe_call (ok_sum_bytes T) (hr.mono (by decide)) (by rfl) T.m_sum_bytes T.f_sum_bytes.kp T.b_sum_bytes .nil pass0 (pa_cons (pe_call (ok_bits_after T) (hr.mono (by decide)) (by rfl) T.m_bits_after T.f_bits_after.kp T.b_bits_after .nil pass0 (pa_cons (pe_glob (v := .int (4294967295)) (by rfl) T.g_ALL_BITS ⟨_, rfl⟩) (pa_cons (pv 2) pa_nil))) pa_nil)))))))))), ?_⟩
    refine ⟨_, rfl, p, _, dx, _, _, rfl, h1, T.c_Session, T.n_Session_panels, rfl, lp, _, _, _, rfl, rfl, SqL.of h2, atI_nat (j := 0) (v := .ref q0) (by rw [List.getElem?_map, e1]; rfl), q0, E0', rfl, e2, R, fun l1 H1 hl1 s1 f1 => ?_⟩
    refine ⟨_, _, rfl, .inr (T.q_SESSION_MARK _), fun l2 hl2 => ?_⟩
    have f2 : (upd H1 l2 (.lst [.int 80, .int 76, .int 83, .int 49])) l2 = some (.lst (vB Plait.SESSION)) := upd_same
    have t2 : Same H1 (upd H1 l2 (.lst [.int 80, .int 76, .int 83, .int 49])) := Same.new hl2
    generalize upd H1 l2 _ = H2 at f2 t2 ⊢
    refine ⟨_, rfl, l1, _, rfl, .inl (SqL.of (t2 _ _ f1)), (vB E0'.bytes).length, 4, rfl, by decide, fun l3 H3 hl3 t3 f3 => ?_⟩
    rw [vB_len, lowN4] at f3
    refine ⟨l2, l3, _, _, rfl, rfl, t3 _ _ f2, f3, (by rw [vB_len, vB_len]; show 4 + 4 ≤ sizeLine; decide), fun l4 hl4 => ?_⟩
    rw [← vB_append]
    have f4 : (upd H3 l4 (.lst (vB (Plait.SESSION ++ Plait.low4 E0'.bytes.length)))) l4 = some (.lst (vB (Plait.SESSION ++ Plait.low4 E0'.bytes.length))) := upd_same
    have t4 : Same H3 (upd H3 l4 (.lst (vB (Plait.SESSION ++ Plait.low4 E0'.bytes.length)))) := Same.new hl4
    generalize upd H3 l4 _ = H4 at f4 t4 ⊢
    refine ⟨_, rfl, l4, l1, _, _, rfl, rfl, f4, t4 _ _ (t3 _ _ (t2 _ _ f1)), ?_, fun l5 hl5 => ?_⟩
    · rw [vB_len, vB_len, List.length_append, low4_len]
      exact line_lt (by show 4 + 4 + _ ≤ _; omega)
    rw [← vB_append]
    have f5 : (upd H4 l5 (.lst (vB (Plait.SESSION ++ Plait.low4 E0'.bytes.length ++ E0'.bytes)))) l5 = some (.lst (vB (Plait.SESSION ++ Plait.low4 E0'.bytes.length ++ E0'.bytes))) := upd_same
    have t5 : Same H4 (upd H4 l5 (.lst (vB (Plait.SESSION ++ Plait.low4 E0'.bytes.length ++ E0'.bytes)))) := Same.new hl5
    generalize upd H4 l5 _ = H5 at f5 t5 ⊢
    have u5 : Same H H5 := (((s1.trans t2).trans t3).trans t4).trans t5
    have n5 : H l5 = Option.none := (((s1.trans t2).trans t3).trans t4).free hl5
    have n14 : H1 l5 = Option.none := ((t2.trans t3).trans t4).free hl5
    -- numbers.extend(low_first(session.done, 4))
    refine ⟨_, rfl, .inl ⟨rfl, _, SqL.of f5⟩, _, rfl, p, _, dx, _, _, rfl, u5 _ _ h1, T.c_Session, T.n_Session_done, rfl, n, 4, rfl, by decide, fun l6 H6 hl6 t6 f6 => ?_⟩
    rw [lowN4] at f6
    have u6 := u5.trans t6
    refine ⟨l5, l6, _, _, rfl, rfl, t6 _ _ f5, f6, ?_, ?_⟩
    · rw [vB_len, vB_len, List.length_append, List.length_append, low4_len, low4_len]
      exact line_lt (by show 4 + 4 + _ + 4 ≤ _; omega)
    rw [← vB_append]
    have f7 : (upd H6 l5 (.lst (vB (Plait.SESSION ++ Plait.low4 E0'.bytes.length ++ E0'.bytes ++ Plait.low4 n)))) l5 = some (.lst (vB (Plait.SESSION ++ Plait.low4 E0'.bytes.length ++ E0'.bytes ++ Plait.low4 n))) := upd_same
    have u7 : Same H (upd H6 l5 (.lst (vB (Plait.SESSION ++ Plait.low4 E0'.bytes.length ++ E0'.bytes ++ Plait.low4 n)))) := Same.put n5 u6
    generalize upd H6 l5 _ = H7 at f7 u7 ⊢
    -- numbers.extend(low_first(back_count(session), 4))
    refine ⟨_, rfl, .inl ⟨rfl, _, SqL.of f7⟩, _, rfl, p, _, xs, n, rfl, hS.same u7, xs.length - n, 4, rfl, by decide, fun l8 H8 hl8 t8 f8 => ?_⟩
    rw [lowN4] at f8
    have u8 := u7.trans t8
    refine ⟨l5, l8, _, _, rfl, rfl, t8 _ _ f7, f8, ?_, ?_⟩
    · rw [vB_len, vB_len, List.length_append, List.length_append, List.length_append, low4_len, low4_len, low4_len]
      exact line_lt (by show 4 + 4 + _ + 4 + 4 ≤ _; omega)
    rw [← vB_append]
    generalize hpre : Plait.SESSION ++ Plait.low4 E0'.bytes.length ++ E0'.bytes ++ Plait.low4 n ++ Plait.low4 (xs.length - n) = pre
    have hprel : pre.length ≤ 200 := by
      rw [← hpre]
      simp only [List.length_append, low4_len]
      show 4 + 4 + _ + 4 + 4 ≤ _
      omega
    have u9 : Same H (upd H8 l5 (.lst (vB pre))) := Same.put n5 u8
    -- for code in session.steps
    refine ⟨_, rfl, p, _, dx, _, _, rfl, u9 _ _ h1, T.c_Session, T.n_Session_steps, rfl, ls, rfl, ⟨_, SqL.of (u9 _ _ h3)⟩, for_list (K := K) (a := ls) (xs := cs.map V.ref) (fun i σ H' => ∃ v, σ = [some (.ref p), some (.ref l1), some (.ref l5), v] ∧ H' l5 = some (.lst (vB (pre ++ (xs.take i).flatMap Done.bytes))) ∧ Same H H') ?_ ?_ ?_ ?_⟩
    · exact ⟨_, rfl, by rw [upd_same, List.take_zero, List.flatMap_nil, List.append_nil], u9⟩
    · rintro i σ H' _ ⟨v, _, _, u⟩
      exact SqL.of (u _ _ h3)
    · rintro i x σ H' hx ⟨v, rfl, fi, ui⟩
      obtain ⟨c, hc, rfl⟩ : ∃ c, cs[i]? = some c ∧ x = V.ref c := by
        rw [List.getElem?_map] at hx
        cases e : cs[i]? with
        | none => rw [e] at hx; cases hx
        | some c => rw [e] at hx; exact ⟨c, rfl, (Option.some.inj hx).symm⟩
      have hil : i < xs.length := by
        have := (List.getElem?_eq_some_iff.mp hc).1
        have := h5.1
        omega
      have hxi : xs[i]? = some xs[i] := List.getElem?_eq_getElem hil
      obtain ⟨c', hc', hcc⟩ := h5.2 i xs[i] hxi
      have ecc : c' = c := Option.some.inj (hc'.symm.trans hc)
      subst ecc
      refine ⟨_, rfl, .inl ⟨rfl, _, SqL.of fi⟩, _, rfl, l5, c', _, _, rfl, rfl, fi, ui _ _ hcc, ?_, ?_⟩
      · rw [vB_len, vB_len, List.length_append, flat_len, done_len, List.length_take]
        exact line_lt (by omega)
      · refine ⟨_, rfl, ?_, Same.put n5 ui⟩
        rw [upd_same, take_snoc hxi, List.flatMap_append, ← vB_append, List.append_assoc]
        congr 4
        simp
    · rintro σ H9 ⟨v, rfl, f9, u9⟩
      have hl9 : (cs.map V.ref).length = xs.length := by rw [List.length_map, h5.1]
      rw [hl9, List.take_length, ← hpre, ← body_eq _ _ _ hle] at f9
      have hbody : (ses E0' xs n).body.length ≤ 1000 := by
        have := hS.good.len_le.2
        unfold Plait.Sess.bytes at this
        rw [List.length_append, low4_len] at this
        omega
      refine ⟨_, rfl, _, rfl, 4294967295, l5, (ses E0' xs n).body, rfl, SqL.of f9, _, rfl, fun l10 H10 hl10 t10 f10 => ?_⟩
      refine ⟨l5, l10, _, _, rfl, rfl, t10 _ _ f9, f10, ?_, fun l11 hl11 => ?_⟩
      · rw [vB_len, vB_len, low4_len]
        exact line_lt (by omega)
      · refine q l11 _ ((u9.trans t10).free hl11) ((u9.trans t10).trans (Same.new hl11)) ?_
        rw [upd_same, ← vB_append]
        rfl
end Pnl

set_option Elab.async false
set_option maxRecDepth 100000
set_option maxHeartbeats 2000000
set_option linter.all false
namespace Pnl
open PySem PySem.Spec PyProof.Rows L2 PM
open Plait (Done Sess)
variable {P : Program} {w : World} {K : PySem.W.Frag} {mg : Str → Option Value} {base : Heap} {a : Ad}
theorem rg8 {i : Int} {n : Nat} (h0 : 0 ≤ i) (h1 : i < 2 ^ 40) (hn : n ≤ 64) : RgC i (i + (n : Int) * 8) 8 n := by
  have hs : Builtin.Range.rangeSize i (i + (n : Int) * 8) 8 = (n : Int) := by
    unfold Builtin.Range.rangeSize
    rw [if_pos (by decide)]
    split <;> omega
  refine ⟨by decide, by decide, ?_, hs⟩
  unfold Builtin.Range.small
  rw [hs]
  simp only [Builtin.Range.rangeFitsLong, Bool.and_eq_true, Bool.or_eq_true, decide_eq_true_eq, beq_iff_eq, show ((8 : Int) > 0) by decide, if_true]
  omega
theorem But1.from {p : Addr} {H H1 H2 : Hp} (b : But1 p H1 H2) (s : Same H H1) (n : H p = Option.none) : Same H H2 := fun c o h => b c o (s c o h) (ne_of_none h n)
theorem flat_drop : ∀ (i : Nat) (xs : List Done) (r : Plait.Bytes), i ≤ xs.length → (xs.flatMap Done.bytes ++ r).drop (8 * i) = (xs.drop i).flatMap Done.bytes ++ r
  | 0, _, _, _ => rfl
  | i + 1, [], _, h => by simp at h
  | i + 1, x :: xs, r, h => by
    rw [List.flatMap_cons, List.append_assoc, show 8 * (i + 1) = 8 + 8 * i from by omega, ← List.drop_drop, List.drop_left' (done_len x)]
    exact flat_drop i xs r (by simpa using h)
theorem flat_at {i : Nat} {xs : List Done} {r : Plait.Bytes} {x : Done} (h : xs[i]? = some x) : ((xs.flatMap Done.bytes ++ r).drop (8 * i)).take 8 = x.bytes := by
  obtain ⟨hi, e⟩ := List.getElem?_eq_some_iff.mp h
  rw [flat_drop i xs r (by omega), List.drop_eq_getElem_cons hi, e, List.flatMap_cons, List.append_assoc, List.take_left' (done_len x)]
theorem done_inj {x y : Done} (hx : PM.Done.small x) (hy : PM.Done.small y) (e : x.bytes = y.bytes) : x = y := by
  have h1 := (codeDone_iff hx).mpr rfl
  have h2 := (codeDone_iff (code := x.bytes) hy).mpr e
  exact Option.some.inj (h1.symm.trans h2)
theorem now_take {s : Sess} (G : PM.Good s) {i : Nat} {x : Done} (hx : (s.done ++ s.back)[i]? = some x) : ∃ D E, Plait.stepsFrom s.base ((s.done ++ s.back).take i) = some D ∧ D.step x = some E := by
  obtain ⟨hi, e⟩ := List.getElem?_eq_some_iff.mp hx
  have h := G.can
  rw [← List.take_append_drop i (s.done ++ s.back), stepsFrom_append, List.drop_eq_getElem_cons hi, e] at h
  cases hd : Plait.stepsFrom s.base ((s.done ++ s.back).take i) with
  | none => rw [hd] at h; cases h
  | some D =>
    rw [hd] at h
    refine ⟨D, ?_⟩
    have h' : (Plait.stepsFrom D (x :: (s.done ++ s.back).drop (i + 1))).isSome = true := h
    unfold Plait.stepsFrom at h'
    cases he : D.step x with
    | none => rw [he] at h'; cases h'
    | some E => exact ⟨E, rfl, rfl⟩
def spReadSess (K : PySem.W.Frag) (a : Ad) : Sp := fun vs H Q _ => ∃ (l : Addr) (b : Plait.Bytes), vs = [.ref l] ∧ SqL K H l (vB b) ∧
  (∀ H', Same H H' → (∀ s, Plait.sessionIn b ≠ some s) → Q .non H') ∧ ∀ H' p B xs n, Same H H' → Plait.sessionIn b = some (ses B xs n) → H p = Option.none → SessAt a H' p B xs n → Q (.ref p) H'
theorem ok_read_session (T : Txt K mg a) : FnOk P w K mg base CX0 7 a.f_read_session a.d_read_session ["numbers"] (spReadSess K a) := by
  have nd := sc_read_session.nd
  refine T.f_read_session.ok sc_read_session (fun vs H Q E h => ?_) (fun cdv A outer s H vs Q E hr h => ?_)
  · obtain ⟨l, b, rfl, _⟩ := h
    rfl
  · obtain ⟨l, b, rfl, hl, qn, qs⟩ := h
    have qn' : ∀ H', Same H H' → (∀ s, b = s.bytes → PM.Good s → False) → Q .non H' := fun H' s h => qn H' s fun x e => h x ((sessionIn_iff _ _).mp e).1 ((sessionIn_iff _ _).mp e).2
    refine ⟨_, (pss_cons (ps_set (i := 1) nd rfl (by first | exact Or.inl rfl | exact Or.inr rfl) (pe_call (ok_number_at T) (hr.mono (by decide)) (by rfl) T.m_number_at T.f_number_at.kp T.b_number_at .nil pass0 (pa_cons (pv 0) (pa_cons pe_int (pa_cons pe_int pa_nil)))))
        (pss_cons (ps_set (i := 2) nd rfl (by first | exact Or.inl rfl | exact Or.inr rfl) (pe_call (ok_read_panel T) (hr.mono (by decide)) (by rfl) T.m_read_panel T.f_read_panel.kp T.b_read_panel .nil pass0 (pa_cons (pe_slice sl_list (pv 0) (po_some pe_int) (po_some (pe_op op_add pe_int (pv 1)))) pa_nil)))
        (pss_cons (ps_if (pt_cmpR op_isN (pv 2) pe_non (nomark _)) (pss_one (ps_ret pe_non)) pss_nil)
        (pss_cons (ps_set (i := 3) nd rfl (by first | exact Or.inl rfl | exact Or.inr rfl) (pe_call (ok_number_at T) (hr.mono (by decide)) (by rfl) T.m_number_at T.f_number_at.kp T.b_number_at .nil pass0 (pa_cons (pv 0) (pa_cons (pe_op op_add pe_int (pv 1)) (pa_cons pe_int pa_nil)))))
        (pss_cons (ps_set (i := 4) nd rfl (by first | exact Or.inl rfl | exact Or.inr rfl) (pe_op op_add (pv 3) (pe_call (ok_number_at T) (hr.mono (by decide)) (by rfl) T.m_number_at T.f_number_at.kp T.b_number_at .nil pass0 (pa_cons (pv 0) (pa_cons (pe_op op_add pe_int (pv 1)) (pa_cons pe_int pa_nil))))))
        (pss_cons (ps_set (i := 5) nd rfl (by first | exact Or.inl rfl | exact Or.inr rfl) (pe_op op_add pe_int (pv 1)))
        (pss_cons (ps_if (PW.pt (pw_or (pt_cmpR op_gt (pv 4) (pe_glob (v := .int (64)) (by rfl) T.g_MOST_STEPS ⟨_, rfl⟩) (nomark _)) (pw_or1 (pt_cmpR op_ne (pe_callB call_len_seq (by rfl) T.no_len PySem.boot_len (pa_cons (pv 0) pa_nil)) (pe_op op_add (pe_op op_add (pv 5) (pe_op op_mul (pv 4) (pe_glob (v := .int (8)) (by rfl) T.g_CHANGE_SIZE ⟨_, rfl⟩))) pe_int) (nomark _))))) (pss_one (ps_ret pe_non)) pss_nil)
        (pss_cons (ps_set (i := 6) nd rfl (by first | exact Or.inl rfl | exact Or.inr rfl) (pe_make T.mk_Session (ok_Session_init T) (hr.mono (by decide)) (by rfl) T.m_Session T.b_Session_init .nil pass0 (pa_cons (pv 2) pa_nil)))
        (pss_cons (ps_for PassesOwn.never rfl (pi_range3 (by rfl) T.no_range (pa_cons (pv 5) (pa_cons (pe_op op_add (pv 5) (pe_op op_mul (pv 4) (pe_glob (v := .int (8)) (by rfl) T.g_CHANGE_SIZE ⟨_, rfl⟩))) (pa_cons (pe_glob (v := .int (8)) (by rfl) T.g_CHANGE_SIZE ⟨_, rfl⟩) pa_nil)))) (pg_name (i := 7) nd rfl (by first | exact Or.inl rfl | exact Or.inr rfl)) (pss_one (ps_if (pt_not (pt_val (pe_call (ok_do_step T) (hr.mono (by decide)) (by rfl) T.m_do_step T.f_do_step.kp T.b_do_step .nil pass0 (pa_cons (pv 6) (pa_cons (pe_slice sl_list (pv 0) (po_some (pv 7)) (po_some (pe_op op_add (pv 7) (pe_glob (v := .int (8)) (by rfl) T.g_CHANGE_SIZE ⟨_, rfl⟩)))) pa_nil))))) (pss_one (ps_ret pe_non)) pss_nil)))
        (pss_cons (ps_fld (pv 6) (pv 3) rfl)
        (pss_cons (ps_if (pt_cmpR (op_neD hr.units) (pe_call (ok_session_bytes T) (hr.mono (by decide)) (by rfl) T.m_session_bytes T.f_session_bytes.kp T.b_session_bytes .nil pass0 (pa_cons (pv 6) pa_nil)) (pv 0) (nomark _)) (pss_one (ps_ret pe_non)) pss_nil)
        (pss_one (ps_ret (pv 6)))))))))))))), ?_⟩
    refine ⟨_, rfl, l, b, 4, 4, rfl, hl, fun H1 s1 => ?_⟩
    generalize hsize : Plait.num ((b.drop 4).take 4) = size
    have hsz : size < 4294967296 := by
      rw [← hsize]
      have := num_lt ((b.drop 4).take 4)
      have l4 : ((b.drop 4).take 4).length ≤ 4 := by rw [List.length_take]; omega
      exact Nat.lt_of_lt_of_le this (Nat.pow_le_pow_right (by decide) l4)
    have z1 : ∀ s : Sess, b = s.bytes → PM.Good s → size = s.base.bytes.length := fun s e G => by rw [← hsize, e, f_size G]
    -- panel = read_panel(numbers[8:8 + size])
    refine ⟨_, rfl, _, rfl, _, rfl, _, _, rfl, rfl, _, rfl, l, _, rfl, s1.seq hl, fun l2 hl2 => ?_⟩
    have ec : cutV (vB b) (some (8 : Int)) (some ((8 : Int) + (size : Int))) = vB ((b.drop 8).take size) := by
      rw [show (8 : Int) + (size : Int) = ((8 + size : Nat) : Int) from by omega, show (some (8 : Int)) = some ((8 : Nat) : Int) from rfl, cut_nat, vB_drop, vB_take, show 8 + size - 8 = size from by omega]
    rw [ec]
    have f2 : (upd H1 l2 (.lst (vB ((b.drop 8).take size)))) l2 = some (.lst (vB ((b.drop 8).take size))) := upd_same
    have t2 : Same H (upd H1 l2 (.lst (vB ((b.drop 8).take size)))) := s1.trans (Same.new hl2)
    generalize upd H1 l2 _ = H2 at f2 t2 ⊢
    have z2 : ∀ s : Sess, b = s.bytes → PM.Good s → (b.drop 8).take size = s.base.bytes := fun s e G => by rw [z1 s e G, e, f_panel]
    refine ⟨l2, _, rfl, SqL.of f2, fun H3 t3 hno => ?_, fun H3 pan D t3 hj hP3 => ?_⟩
    · refine ⟨_, rfl, rfl, _, rfl, ite2 (fun k => ?_) (fun k => absurd (decide_eq_true rfl) k)⟩
      refine qn' H3 (t2.trans t3) fun s e G => ?_
      exact hno s.base (by rw [z2 s e G]; exact (judge_iff _ _).mpr ⟨rfl, G.base⟩)
    refine ⟨_, rfl, rfl, _, rfl, ite2 (fun k => absurd (db k) (by intro z; cases z)) (fun k => ?_)⟩
    obtain ⟨hDb, R⟩ := (judge_iff _ _).mp hj
    have z3 : ∀ s : Sess, b = s.bytes → PM.Good s → D = s.base := fun s e G => by
      have j2 := (judge_iff _ _).mpr ⟨z2 s e G, G.base⟩
      rw [hj] at j2
      exact (Except.ok.inj j2)
    have u3 := t2.trans t3
    -- done, count, start
    refine ⟨_, rfl, _, rfl, _, _, rfl, rfl, l, b, 8 + size, 4, (by rw [show (((8 + size : Nat)) : Int) = (8 : Int) + (size : Int) from by omega]; rfl), u3.seq hl, fun H4 s4 => ?_⟩
    generalize hdone : Plait.num ((b.drop (8 + size)).take 4) = done
    have u4 := u3.trans s4
    refine ⟨_, rfl, _, rfl, _, rfl, _, _, rfl, rfl, l, b, 12 + size, 4, (by rw [show (((12 + size : Nat)) : Int) = (12 : Int) + (size : Int) from by omega]; rfl), u4.seq hl, fun H5 s5 => ?_⟩
    generalize hback : Plait.num ((b.drop (12 + size)).take 4) = bk
    have u5 := u4.trans s5
    have z4 : ∀ s : Sess, b = s.bytes → PM.Good s → done = s.done.length ∧ bk = s.back.length := fun s e G => by
      constructor
      · rw [← hdone, z1 s e G, e, f_done G]
      · rw [← hback, z1 s e G, e, ← f_back G, List.drop_drop, show 8 + s.base.bytes.length + 4 = 12 + s.base.bytes.length from by omega]
    have n4 : ∀ c : Plait.Bytes, Plait.num (c.take 4) < 4294967296 := fun c => by
      have := num_lt (c.take 4)
      have l4 : (c.take 4).length ≤ 4 := by rw [List.length_take]; omega
      exact Nat.lt_of_lt_of_le this (Nat.pow_le_pow_right (by decide) l4)
    have hdl : done < 4294967296 := by rw [← hdone]; exact n4 _
    have hbl : bk < 4294967296 := by rw [← hback]; exact n4 _
    refine ⟨_, _, rfl, rfl, ?_⟩
    refine ⟨_, rfl, _, _, rfl, rfl, ?_⟩
    -- count > MOST_STEPS or len(numbers) != start + count * CHANGE_SIZE + 4
    refine ⟨_, rfl, _, _, rfl, rfl, _, rfl, ite2 (fun k => ?_) (fun k => ?_)⟩
    · refine qn' H5 u5 fun s e G => ?_
      have h64 : (64 : Int) < (done : Int) + (bk : Int) := db k
      have := z4 s e G
      have := G.few
      omega
    have h64 : done + bk ≤ 64 := by
      have : ¬ (64 : Int) < (done : Int) + (bk : Int) := db' k
      omega
    refine ⟨_, rfl, l, _, rfl, .inl (u5.seq hl), _, rfl, _, rfl, _, _, rfl, rfl, .inr ⟨by decide, by decide⟩, _, _, rfl, rfl, _, _, rfl, rfl, rfl, _, rfl, ite2 (fun k => ?_) (fun k => ?_)⟩
    · refine qn' H5 u5 fun s e G => ?_
      refine nb k ?_
      have h1 := sbytes_len s
      have h2 := z4 s e G
      have h3 := z1 s e G
      rw [vB_len]
      show V.int (b.length : Int) = V.int ((16 : Int) + (size : Int) + ((done : Int) + (bk : Int)) * 8 + 4)
      congr 1
      rw [e, h1]
      omega
    have hlen : b.length = 16 + size + 8 * (done + bk) + 4 := by
      have h1 := nb' k
      rw [vB_len] at h1
      have h2 : (b.length : Int) = (16 : Int) + (size : Int) + ((done : Int) + (bk : Int)) * 8 + 4 := by injection h1
      omega
    -- session = Session(panel)
    refine ⟨_, rfl, fun p dx hx hdx hne => ?_⟩
    refine ⟨p, dx, _, rfl, upd_same, fun H6 lp ls b6 g1 g2 g3 => ⟨rfl, ?_⟩⟩
    have np : H p = Option.none := u5.free hx
    have u6 : Same H H6 := b6.from (Same.put (o := .ins a.c_Session dx []) (u5.free hx) (u5.trans (Same.new (o := .own p) hdx))) np
    have u36 : Same H3 H6 := b6.from (Same.put (o := .ins a.c_Session dx []) ((s4.trans s5).free hx) ((s4.trans s5).trans (Same.new (o := .own p) hdx))) ((s4.trans s5).free hx)
    have S0 : SessAt a H6 p D [] 0 := by
      refine ⟨⟨dx, lp, ls, [pan], [], g1, g2, g3, ⟨rfl, fun i hi => ?_⟩, ⟨rfl, fun i x hi => by cases hi⟩⟩, R, by decide, by decide⟩
      have : i = 0 := by simpa using hi
      subst this
      exact ⟨D, pan, rfl, rfl, hP3.same u36⟩
    -- the loop
    have ec2 : ((16 : Int) + (size : Int) + ((done : Int) + (bk : Int)) * 8) = ((16 : Int) + (size : Int)) + ((done + bk : Nat) : Int) * 8 := by omega
    refine ⟨_, rfl, _, rfl, _, rfl, _, _, rfl, rfl, .inr ⟨by decide, by decide⟩, _, _, rfl, rfl, (16 : Int) + (size : Int), (16 : Int) + (size : Int) + ((done + bk : Nat) : Int) * 8, 8, done + bk, (by rw [← ec2]), rg8 (by omega) (by omega) h64,
      for_rangeC (n := done + bk) (fun i σ H' => ∃ v xs, σ = [some (.ref l), some (.int size), some (.ref pan), some (.int done), some (.int ((done : Int) + (bk : Int))), some (.int ((16 : Int) + (size : Int))), some (.ref p), v] ∧ Same H H' ∧ SessAt a H' p D xs i ∧ xs.length = i ∧ ∀ s, b = s.bytes → PM.Good s → xs = (s.done ++ s.back).take i) ?_ ?_ ?_⟩
    · exact ⟨_, [], rfl, u6, S0, rfl, fun s _ _ => by rw [List.take_zero]⟩
    · rintro i σ H' hi ⟨v, xs, rfl, ui, hS, hxl, hall⟩
      refine ⟨_, rfl, _, rfl, _, rfl, _, rfl, _, rfl, _, _, rfl, rfl, _, rfl, l, _, rfl, ui.seq hl, fun l7 hl7 => ?_⟩
      have ec3 : cutV (vB b) (some ((16 : Int) + (size : Int) + (i : Int) * 8)) (some ((16 : Int) + (size : Int) + (i : Int) * 8 + 8)) = vB ((b.drop (16 + size + 8 * i)).take 8) := by
        rw [show (16 : Int) + (size : Int) + (i : Int) * 8 = ((16 + size + 8 * i : Nat) : Int) from by omega, show ((16 + size + 8 * i : Nat) : Int) + 8 = ((16 + size + 8 * i + 8 : Nat) : Int) from rfl, cut_nat, vB_drop, vB_take, show 16 + size + 8 * i + 8 - (16 + size + 8 * i) = 8 from by omega]
      have ec4 := ec3
      rw [ec3]
      generalize hcode : (b.drop (16 + size + 8 * i)).take 8 = code
      have hc8 : code.length = 8 := by
        rw [← hcode, List.length_take, List.length_drop]
        omega
      have zc : ∀ s : Sess, b = s.bytes → PM.Good s → ∃ x, (s.done ++ s.back)[i]? = some x ∧ code = x.bytes := fun s e G => by
        have h2 := z4 s e G
        have hil : i < (s.done ++ s.back).length := by rw [List.length_append]; omega
        refine ⟨(s.done ++ s.back)[i], List.getElem?_eq_getElem hil, ?_⟩
        have h3 := f_steps (s := s)
        rw [← hcode, show 16 + size + 8 * i = (8 + size) + (8 + 8 * i) from by omega, ← List.drop_drop, ← List.drop_drop, z1 s e G, e, h3]
        exact flat_at (List.getElem?_eq_getElem hil)
      have f7 : (upd H' l7 (.lst (vB code))) l7 = some (.lst (vB code)) := upd_same
      have t7 : Same H' (upd H' l7 (.lst (vB code))) := Same.new hl7
      generalize upd H' l7 _ = H7 at f7 t7 ⊢
      have hxt : xs.take i = xs := by rw [List.take_of_length_le (by omega)]
      refine ⟨p, l7, D, xs, i, code, rfl, hS.same t7, f7, hc8, fun H8 t8 hno => ?_, fun H8 x E b8 hn hx hE hS8 => ?_⟩
      · refine ⟨_, rfl, iteT ?_⟩
        refine qn' H8 (ui.trans (t7.trans t8)) fun s e G => ?_
        obtain ⟨x, hx1, hx2⟩ := zc s e G
        obtain ⟨D', E, hD', hE⟩ := now_take G hx1
        have hnow : (ses D xs i).now = D' := by
          have g := hS.good.now_some
          have g' : Plait.stepsFrom D (xs.take i) = some (ses D xs i).now := g
          rw [hxt, hall s e G, z3 s e G, hD'] at g'
          rw [← hxt, hall s e G, z3 s e G, List.take_take, Nat.min_self]
          exact (Option.some.inj g').symm
        exact hno x E (by omega) hx2 (by rw [hnow]; exact hE)
      · refine ⟨_, rfl, iteF ?_⟩
        refine ⟨_, xs ++ [x], rfl, b8.from (ui.trans t7) np, ?_, by rw [List.length_append, hxl]; rfl, fun s e G => ?_⟩
        · rw [hxt] at hS8; exact hS8
        · obtain ⟨y, hy1, hy2⟩ := zc s e G
          rw [take_snoc hy1, ← hall s e G]
          congr 1
          have sx := step_small hS.good.now hE
          have sy := G.smalls y (List.mem_of_getElem? hy1)
          rw [done_inj sx sy (hx.symm.trans hy2)]
    · rintro σ H7 ⟨v, xs, rfl, u7, hS, hxl, hall⟩
      obtain ⟨⟨dx2, lp2, ls2, ps, cs, h1, h2, h3, h4, h5⟩, R2, few, hle⟩ := hS
      refine ⟨_, rfl, _, rfl, p, _, dx2, _, rfl, h1, T.c_Session, T.n_Session_done, (by show 3 < 1000; decide), ?_⟩
      have b8 : But1 p H7 (upd H7 p (.ins a.c_Session dx2 (sf lp2 ls2 done))) := But1.upd
      have f8 : (upd H7 p (.ins a.c_Session dx2 (sf lp2 ls2 done))) p = some (.ins a.c_Session dx2 (sf lp2 ls2 done)) := upd_same
      show tSeq _ _ _ _ (upd H7 p (.ins a.c_Session dx2 (sf lp2 ls2 done)))
      generalize upd H7 p _ = H8 at b8 f8 ⊢
      have k8 : Keep H7 H8 := b8.keep h1 rfl
      have u8 : Same H H8 := b8.from u7 np
      have S8 : SessAt a H8 p D xs done := ⟨⟨dx2, lp2, ls2, ps, cs, f8, k8 _ _ h2 rfl, k8 _ _ h3 rfl, h4.keep k8, h5.keep k8⟩, R2, few, by omega⟩
      refine ⟨_, rfl, p, D, xs, done, rfl, S8, fun l9 H9 hl9 t9 f9 => ?_⟩
      refine ⟨_, rfl, ne_B (b := (ses D xs done).bytes) (c := b) (SqL.of f9) ((u8.trans t9).seq hl) ?_⟩
      refine ⟨_, rfl, ite2 (fun k => ?_) (fun k => ?_)⟩
      · refine qn' H9 (u8.trans t9) fun s e G => nb k ?_
        have hz := z4 s e G
        have e1 : xs = s.done ++ s.back := by
          rw [hall s e G, List.take_of_length_le (by rw [List.length_append]; omega)]
        have e2 : ses D xs done = s := by
          unfold ses
          rw [e1, z3 s e G, hz.1, List.take_left' rfl, List.drop_left' rfl]
        rw [e2, e]
      · have hb := nb' k
        refine ⟨_, rfl, qs H9 p D xs done (u8.trans t9) ((sessionIn_iff _ _).mpr ⟨hb.symm, S8.good⟩) np (S8.same t9)⟩
end Pnl

set_option Elab.async false
set_option maxRecDepth 100000
set_option maxHeartbeats 2000000
set_option linter.all false
namespace Pnl
open PySem PySem.Spec PyProof.Rows L2 PM
open Plait (Done Sess)
variable {P : Program} {w : World} {K : PySem.W.Frag} {mg : Str → Option Value} {base : Heap} {a : Ad}
/-! ### journals -/
def jf (q : Addr) (n : Nat) : List (Str × V) := [("session", .ref q), ("bits", .int n)]
def But2 (j q : Addr) (H H' : Hp) : Prop := ∀ b o, H b = some o → b ≠ j → b ≠ q → H' b = some o
theorem But2.trans {j q : Addr} {H H1 H2 : Hp} (s : But2 j q H H1) (t : But2 j q H1 H2) : But2 j q H H2 := fun b o h n m => t b o (s b o h n m) n m
theorem _root_.L2.Same.but2 {j q : Addr} {H H' : Hp} (s : Same H H') : But2 j q H H' := fun b o h _ _ => s b o h
theorem But1.l {j q : Addr} {H H' : Hp} (s : But1 j H H') : But2 j q H H' := fun b o h n _ => s b o h n
theorem But1.r {j q : Addr} {H H' : Hp} (s : But1 q H H') : But2 j q H H' := fun b o h _ n => s b o h n
structure JourAt (a : Ad) (H : Hp) (j q : Addr) (B : Plait.Panel) (xs : List Done) (n : Nat) (plain : Plait.Bytes) : Prop where
  ex : ∃ dx, H j = some (.ins a.c_Journal dx (jf q (bitsOf plain)))
  s : SessAt a H q B xs n
theorem JourAt.ne {H : Hp} {j q : Addr} {B : Plait.Panel} {xs : List Done} {n : Nat} {plain : Plait.Bytes} (h : JourAt a H j q B xs n plain) : j ≠ q := by
  obtain ⟨dx, h1⟩ := h.ex
  obtain ⟨dx2, lp, ls, ps, cs, h2, _⟩ := h.s.ex
  exact ne_of h1 h2 (by intro z; injection z with _ _ z; injection z with z _; injection z with z _; revert z; decide)
theorem JourAt.same {H H' : Hp} {j q : Addr} {B : Plait.Panel} {xs : List Done} {n : Nat} {plain : Plait.Bytes} (h : JourAt a H j q B xs n plain) (s : Same H H') : JourAt a H' j q B xs n plain := by
  obtain ⟨dx, h1⟩ := h.ex
  exact ⟨⟨dx, s _ _ h1⟩, h.s.same s⟩
theorem But2.keep {H H' : Hp} {j q : Addr} {B : Plait.Panel} {xs : List Done} {n : Nat} {plain : Plait.Bytes} (b : But2 j q H H') (h : JourAt a H j q B xs n plain) : Keep H H' := fun c o hc f => b c o hc
  (fun e => by
    obtain ⟨dx, h1⟩ := h.ex
    subst e
    rw [h1] at hc
    cases hc
    cases f)
  (fun e => by
    obtain ⟨dx2, lp, ls, ps, cs, h2, _⟩ := h.s.ex
    subst e
    rw [h2] at hc
    cases hc
    cases f)
def spJourInit (a : Ad) : Sp := fun vs H Q _ => ∃ (p dx : Addr) (x y : V), vs = [.ref p, x, y] ∧ H p = some (.ins a.c_Journal dx []) ∧ Q .non (upd H p (.ins a.c_Journal dx [("session", x), ("bits", y)]))
theorem ok_Journal_init (T : Txt K mg a) : FnOk P w K mg base CX0 1 a.f_Journal_init a.d_Journal_init ["self", "session", "bits"] (spJourInit a) := by
  have nd := sc_Journal_init.nd
  refine T.f_Journal_init.ok sc_Journal_init (fun vs H Q E h => ?_) (fun cdv A outer s H vs Q E hr h => ?_)
  · obtain ⟨p, dx, x, y, rfl, _⟩ := h
    rfl
  · obtain ⟨p, dx, x, y, rfl, hp, q⟩ := h
    refine ⟨_, (pss_cons (ps_fld (pv 0) (pv 1) rfl)
        (pss_one (ps_fld (pv 0) (pv 2) rfl))), ?_⟩
    refine ⟨_, rfl, _, rfl, p, _, dx, [], rfl, hp, T.c_Journal, T.n_Journal_session, by decide, ?_⟩
    refine ⟨_, rfl, _, rfl, p, _, dx, _, rfl, upd_same, T.c_Journal, T.n_Journal_bits, (by show 1 < 1000; decide), ?_⟩
    rw [upd_upd]
    exact q
def spBegBytes (a : Ad) : Sp := fun vs H Q _ => ∃ (p : Addr) (B : Plait.Panel) (xs : List Done) (n : Nat), vs = [.ref p] ∧ SessAt a H p B xs n ∧ Fresh H (vB (Plait.headOf (ses B xs n))) Q
theorem ok_beginning_bytes (T : Txt K mg a) : FnOk P w K mg base CX0 4 a.f_beginning_bytes a.d_beginning_bytes ["session"] (spBegBytes a) := by
  have nd := sc_beginning_bytes.nd
  refine T.f_beginning_bytes.ok sc_beginning_bytes (fun vs H Q E h => ?_) (fun cdv A outer s H vs Q E hr h => ?_)
  · obtain ⟨p, B, xs, n, rfl, _⟩ := h
    rfl
  · obtain ⟨p, B, xs, n, rfl, hS, q⟩ := h
    have hlen := hS.good.len_le.2
    refine ⟨_, (pss_cons (ps_set (i := 1) nd rfl (by first | exact Or.inl rfl | exact Or.inr rfl) (pe_call (ok_session_bytes T) (hr.mono (by decide)) (by rfl) T.m_session_bytes T.f_session_bytes.kp T.b_session_bytes .nil pass0 (pa_cons (pv 0) pa_nil)))
        (pss_one (ps_ret (pe_op op_cat (pe_op op_cat (pe_callTy call_list_of (by rfl) T.no_list PyProof.Rows.boot_list (pa_cons (pe_glob (v := .ref a.p_JOURNAL_MARK) (by rfl) T.g_JOURNAL_MARK rfl) pa_nil)) (pe_call (ok_low_first T) (hr.mono (by decide)) (by rfl) T.m_low_first T.f_low_first.kp T.b_low_first .nil pass0 (pa_cons (pe_callB call_len_seq (by rfl) T.no_len PySem.boot_len (pa_cons (pv 1) pa_nil)) (pa_cons pe_int pa_nil)))) (pv 1))))), ?_⟩
    refine ⟨_, rfl, p, B, xs, n, rfl, hS, fun l1 H1 hl1 s1 f1 => ?_⟩
    refine ⟨_, _, rfl, .inr (T.q_JOURNAL_MARK _), fun l2 hl2 => ?_⟩
    have f2 : (upd H1 l2 (.lst [.int 80, .int 76, .int 74, .int 49])) l2 = some (.lst (vB Plait.JOURNAL)) := upd_same
    have t2 : Same H1 (upd H1 l2 (.lst [.int 80, .int 76, .int 74, .int 49])) := Same.new hl2
    generalize upd H1 l2 _ = H2 at f2 t2 ⊢
    refine ⟨_, rfl, l1, _, rfl, .inl (SqL.of (t2 _ _ f1)), (vB (ses B xs n).bytes).length, 4, rfl, by decide, fun l3 H3 hl3 t3 f3 => ?_⟩
    rw [vB_len, lowN4] at f3
    refine ⟨l2, l3, _, _, rfl, rfl, t3 _ _ f2, f3, (by rw [vB_len, vB_len]; show 4 + 4 ≤ sizeLine; decide), fun l4 hl4 => ?_⟩
    rw [← vB_append]
    have f4 : (upd H3 l4 (.lst (vB (Plait.JOURNAL ++ Plait.low4 (ses B xs n).bytes.length)))) l4 = some (.lst (vB (Plait.JOURNAL ++ Plait.low4 (ses B xs n).bytes.length))) := upd_same
    have t4 : Same H3 (upd H3 l4 (.lst (vB (Plait.JOURNAL ++ Plait.low4 (ses B xs n).bytes.length)))) := Same.new hl4
    generalize upd H3 l4 _ = H4 at f4 t4 ⊢
    refine ⟨_, rfl, l4, l1, _, _, rfl, rfl, f4, t4 _ _ (t3 _ _ (t2 _ _ f1)), ?_, fun l5 hl5 => ?_⟩
    · rw [vB_len, vB_len, List.length_append, low4_len]
      exact line_lt (by show 4 + 4 + _ ≤ _; omega)
    have u := ((s1.trans t2).trans t3).trans t4
    refine q l5 _ (u.free hl5) (u.trans (Same.new hl5)) ?_
    rw [upd_same, ← vB_append]
    unfold Plait.headOf
    rw [List.append_assoc]
def spBegun (a : Ad) : Sp := fun vs H Q _ => ∃ (q : Addr) (B : Plait.Panel) (xs : List Done) (n : Nat), vs = [.ref q] ∧ SessAt a H q B xs n ∧ ∀ H' j, Same H H' → H j = Option.none → JourAt a H' j q B xs n (Plait.headOf (ses B xs n)) → Q (.ref j) H'
theorem ok_begun_journal (T : Txt K mg a) : FnOk P w K mg base CX0 5 a.f_begun_journal a.d_begun_journal ["session"] (spBegun a) := by
  have nd := sc_begun_journal.nd
  refine T.f_begun_journal.ok sc_begun_journal (fun vs H Q E h => ?_) (fun cdv A outer s H vs Q E hr h => ?_)
  · obtain ⟨p, B, xs, n, rfl, _⟩ := h
    rfl
  · obtain ⟨q0, B, xs, n, rfl, hS, q⟩ := h
    refine ⟨_, (pss_one (ps_ret (pe_make T.mk_Journal (ok_Journal_init T) (hr.mono (by decide)) (by rfl) T.m_Journal T.b_Journal_init .nil pass0 (pa_cons (pv 0) (pa_cons (pe_call (ok_bits_after T) (hr.mono (by decide)) (by rfl) T.m_bits_after T.f_bits_after.kp T.b_bits_after .nil pass0 (pa_cons (pe_glob (v := .int (4294967295)) (by rfl) T.g_ALL_BITS ⟨_, rfl⟩) (pa_cons (pe_call (ok_beginning_bytes T) (hr.mono (by decide)) (by rfl) T.m_beginning_bytes T.f_beginning_bytes.kp T.b_beginning_bytes .nil pass0 (pa_cons (pv 0) pa_nil)) pa_nil))) pa_nil))))), ?_⟩
    refine ⟨_, rfl, _, rfl, q0, B, xs, n, rfl, hS, fun l1 H1 hl1 s1 f1 => ?_⟩
    refine ⟨4294967295, l1, Plait.headOf (ses B xs n), rfl, SqL.of f1, fun x dx hx hdx hne => ?_⟩
    refine ⟨x, dx, _, _, rfl, upd_same, rfl, ?_⟩
    rw [upd_upd]
    have t : Same H1 (upd (upd H1 dx (.own x)) x (.ins a.c_Journal dx (jf q0 (bitsOf (Plait.headOf (ses B xs n)))))) := Same.put hx (Same.new hdx)
    exact q _ x (s1.trans t) (s1.free hx) ⟨⟨dx, upd_same⟩, hS.same (s1.trans t)⟩
def spNote (a : Ad) : Sp := fun vs H Q _ => ∃ (j q c : Addr) (B : Plait.Panel) (xs : List Done) (n : Nat) (plain code : Plait.Bytes) (u : Sess), vs = [.ref j, .ref c] ∧ JourAt a H j q B xs n plain ∧ H c = some (.lst (vB code)) ∧ code.length = 8 ∧ PM.chg (ses B xs n) code = some u ∧
  ∀ H' l ys m, PM.chg (ses B xs n) code = some (ses B ys m) → But2 j q H H' → JourAt a H' j q B ys m (plain ++ code) → H' l = some (.lst (vB (code ++ Plait.low4 (Plait.crc (plain ++ code))))) → Q (.ref l) H'
theorem ok_note_change (T : Txt K mg a) : FnOk P w K mg base CX0 8 a.f_note_change a.d_note_change ["journal", "code"] (spNote a) := by
  have nd := sc_note_change.nd
  refine T.f_note_change.ok sc_note_change (fun vs H Q E h => ?_) (fun cdv A outer s H vs Q E hr h => ?_)
  · obtain ⟨j, q, c, B, xs, n, plain, code, u, rfl, _⟩ := h
    rfl
  · obtain ⟨j, q0, c, B, xs, n, plain, code, u, rfl, hJ, hc, h8, hu, q⟩ := h
    have hne := hJ.ne
    obtain ⟨⟨dx, hj⟩, hS⟩ := hJ
    refine ⟨_, (pss_cons (ps_expr (pe_call (ok_do_change T) (hr.mono (by decide)) (by rfl) T.m_do_change T.f_do_change.kp T.b_do_change .nil pass0 (pa_cons (pe_fld (pv 0) rfl) (pa_cons (pv 1) pa_nil))))
        (pss_cons (ps_fld (pv 0) (pe_call (ok_bits_after T) (hr.mono (by decide)) (by rfl) T.m_bits_after T.f_bits_after.kp T.b_bits_after .nil pass0 (pa_cons (pe_fld (pv 0) rfl) (pa_cons (pv 1) pa_nil))) rfl)
        (pss_one (ps_ret (pe_op op_cat (pv 1) (pe_call (ok_sum_bytes T) (hr.mono (by decide)) (by rfl) T.m_sum_bytes T.f_sum_bytes.kp T.b_sum_bytes .nil pass0 (pa_cons (pe_fld (pv 0) rfl) pa_nil))))))), ?_⟩
    refine ⟨_, rfl, j, _, dx, _, _, rfl, hj, T.c_Journal, T.n_Journal_session, rfl, _, rfl, q0, c, B, xs, n, code, rfl, hS, hc, h8, fun H1 s1 hno => ?_, fun H1 ys m b1 hys hS1 => ?_⟩
    · rw [hno] at hu
      cases hu
    have hj1 := b1 _ _ hj hne
    have nc : c ≠ q0 := by
      obtain ⟨dx2, lp, ls, ps, cs, h2, _⟩ := hS.ex
      exact ne_of hc h2 (by intro z; cases z)
    have hc1 := b1 _ _ hc nc
    refine ⟨_, rfl, j, _, dx, _, _, rfl, hj1, T.c_Journal, T.n_Journal_bits, rfl, _, rfl, bitsOf plain, c, code, rfl, SqL.of hc1, _, rfl, j, _, dx, _, rfl, hj1, T.c_Journal, T.n_Journal_bits, (by show 2 < 1000; decide), ?_⟩
    rw [← bitsOf_append]
    have b2 : But1 j H1 (upd H1 j (.ins a.c_Journal dx (jf q0 (bitsOf (plain ++ code))))) := But1.upd
    have f2 : (upd H1 j (.ins a.c_Journal dx (jf q0 (bitsOf (plain ++ code))))) j = some (.ins a.c_Journal dx (jf q0 (bitsOf (plain ++ code)))) := upd_same
    have ef : putF "bits" (V.int ((bitsOf (plain ++ code) : Nat) : Int)) (jf q0 (bitsOf plain)) = jf q0 (bitsOf (plain ++ code)) := rfl
    rw [ef]
    generalize upd H1 j _ = H2 at b2 f2 ⊢
    have k2 : Keep H1 H2 := b2.keep hj1 rfl
    refine ⟨_, rfl, _, rfl, j, _, dx, _, _, rfl, f2, T.c_Journal, T.n_Journal_bits, rfl, bitsOf (plain ++ code), rfl, fun l3 H3 hl3 s3 f3 => ?_⟩
    refine ⟨c, l3, _, _, rfl, rfl, s3 _ _ (k2 _ _ hc1 rfl), f3, (by rw [vB_len, vB_len, h8, low4_len]; decide), fun l4 hl4 => ?_⟩
    have t4 : Same H2 (upd H3 l4 (.lst (vB code ++ vB (Plait.low4 (Nat.xor (bitsOf (plain ++ code)) 0xFFFFFFFF))))) := s3.trans (Same.new hl4)
    have f4 : (upd H3 l4 (.lst (vB code ++ vB (Plait.low4 (Nat.xor (bitsOf (plain ++ code)) 0xFFFFFFFF))))) l4 = some (.lst (vB (code ++ Plait.low4 (Plait.crc (plain ++ code))))) := by rw [upd_same, ← vB_append]; rfl
    generalize upd H3 l4 _ = H4 at t4 f4 ⊢
    refine q H4 l4 ys m hys ((b1.r.trans b2.l).trans t4.but2) ⟨⟨dx, t4 _ _ f2⟩, ?_⟩ f4
    exact hS1.keep (k2.trans t4.keep) fun o ho => t4 _ _ (b2 _ _ ho (Ne.symm hne))
def spBegSize (K : PySem.W.Frag) : Sp := fun vs H Q _ => ∃ (l : Addr) (b : Plait.Bytes), vs = [.ref l] ∧ SqL K H l (vB b) ∧ ∀ H', Same H H' → Q (.int ((8 + Plait.num ((b.drop 4).take 4) : Nat) : Int)) H'
theorem ok_beginning_size (T : Txt K mg a) : FnOk P w K mg base CX0 2 a.f_beginning_size a.d_beginning_size ["numbers"] (spBegSize K) := by
  have nd := sc_beginning_size.nd
  refine T.f_beginning_size.ok sc_beginning_size (fun vs H Q E h => ?_) (fun cdv A outer s H vs Q E hr h => ?_)
  · obtain ⟨l, b, rfl, _⟩ := h
    rfl
  · obtain ⟨l, b, rfl, hl, q⟩ := h
    refine ⟨_, (pss_one (ps_ret (pe_op op_add (pe_glob (v := .int (8)) (by rfl) T.g_HEAD_SIZE_journals ⟨_, rfl⟩) (pe_call (ok_number_at T) (hr.mono (by decide)) (by rfl) T.m_number_at T.f_number_at.kp T.b_number_at .nil pass0 (pa_cons (pv 0) (pa_cons pe_int (pa_cons pe_int pa_nil))))))), ?_⟩
    refine ⟨_, rfl, l, b, 4, 4, rfl, hl, fun H1 s1 => ⟨_, _, rfl, rfl, ?_⟩⟩
    have := q H1 s1
    rw [Int.natCast_add] at this
    exact this
def spReadBeg (K : PySem.W.Frag) (a : Ad) : Sp := fun vs H Q _ => ∃ (l : Addr) (b : Plait.Bytes), vs = [.ref l] ∧ SqL K H l (vB b) ∧
  (∀ H', Same H H' → Plait.headIn b = Option.none → Q .non H') ∧ ∀ H' j q B xs n, Same H H' → Plait.headIn b = some (ses B xs n) → H j = Option.none → H q = Option.none → JourAt a H' j q B xs n (Plait.headOf (ses B xs n)) → Q (.ref j) H'
theorem ok_read_beginning (T : Txt K mg a) : FnOk P w K mg base CX0 8 a.f_read_beginning a.d_read_beginning ["numbers"] (spReadBeg K a) := by
  have nd := sc_read_beginning.nd
  refine T.f_read_beginning.ok sc_read_beginning (fun vs H Q E h => ?_) (fun cdv A outer s H vs Q E hr h => ?_)
  · obtain ⟨l, b, rfl, _⟩ := h
    rfl
  · obtain ⟨l, b, rfl, hl, qn, qs⟩ := h
    refine ⟨_, (pss_cons (ps_set (i := 1) nd rfl (by first | exact Or.inl rfl | exact Or.inr rfl) (pe_call (ok_beginning_size T) (hr.mono (by decide)) (by rfl) T.m_beginning_size T.f_beginning_size.kp T.b_beginning_size .nil pass0 (pa_cons (pv 0) pa_nil)))
        (pss_cons (ps_if (PW.pt (pw_or (pt_cmpR (op_neD hr.units) (pe_slice sl_list (pv 0) (po_some pe_int) (po_some pe_int)) (pe_callTy call_list_of (by rfl) T.no_list PyProof.Rows.boot_list (pa_cons (pe_glob (v := .ref a.p_JOURNAL_MARK) (by rfl) T.g_JOURNAL_MARK rfl) pa_nil)) (nomark _)) (pw_or1 (pt_cmpR op_lt (pe_callB call_len_seq (by rfl) T.no_len PySem.boot_len (pa_cons (pv 0) pa_nil)) (pv 1) (nomark _))))) (pss_one (ps_ret pe_non)) pss_nil)
        (pss_cons (ps_set (i := 2) nd rfl (by first | exact Or.inl rfl | exact Or.inr rfl) (pe_call (ok_read_session T) (hr.mono (by decide)) (by rfl) T.m_read_session T.f_read_session.kp T.b_read_session .nil pass0 (pa_cons (pe_slice sl_list (pv 0) (po_some (pe_glob (v := .int (8)) (by rfl) T.g_HEAD_SIZE_journals ⟨_, rfl⟩)) (po_some (pv 1))) pa_nil)))
        (pss_cons (ps_if (pt_cmpR op_isN (pv 2) pe_non (nomark _)) (pss_one (ps_ret pe_non)) pss_nil)
        (pss_one (ps_ret (pe_call (ok_begun_journal T) (hr.mono (by decide)) (by rfl) T.m_begun_journal T.f_begun_journal.kp T.b_begun_journal .nil pass0 (pa_cons (pv 2) pa_nil)))))))), ?_⟩
    refine ⟨_, rfl, l, b, rfl, hl, fun H1 s1 => ?_⟩
    have hh : Plait.headIn b = if b.take 4 = Plait.JOURNAL ∧ 8 + Plait.num ((b.drop 4).take 4) ≤ b.length then Plait.sessionIn ((b.drop 8).take (Plait.num ((b.drop 4).take 4))) else Option.none := rfl
    generalize Plait.num ((b.drop 4).take 4) = size at hh ⊢
    refine ⟨_, rfl, _, rfl, _, rfl, l, _, rfl, s1.seq hl, fun l2 hl2 => ?_⟩
    have ec : cutV (vB b) (some (0 : Int)) (some (4 : Int)) = vB (b.take 4) := by
      rw [show (some (0 : Int)) = some ((0 : Nat) : Int) from rfl, show (some (4 : Int)) = some ((4 : Nat) : Int) from rfl, cut_nat, List.drop_zero, vB_take]
    rw [ec]
    have f2 : (upd H1 l2 (.lst (vB (b.take 4)))) l2 = some (.lst (vB (b.take 4))) := upd_same
    have t2 : Same H (upd H1 l2 (.lst (vB (b.take 4)))) := s1.trans (Same.new hl2)
    generalize upd H1 l2 _ = H2 at f2 t2 ⊢
    refine ⟨_, _, rfl, .inr (T.q_JOURNAL_MARK _), fun l3 hl3 => ?_⟩
    have f3 : (upd H2 l3 (.lst [.int 80, .int 76, .int 74, .int 49])) l3 = some (.lst (vB Plait.JOURNAL)) := upd_same
    have t3 : Same H2 (upd H2 l3 (.lst [.int 80, .int 76, .int 74, .int 49])) := Same.new hl3
    generalize upd H2 l3 _ = H3 at f3 t3 ⊢
    have u3 := t2.trans t3
    refine ne_B (b := b.take 4) (c := Plait.JOURNAL) (SqL.of (t3 _ _ f2)) (SqL.of f3) ?_
    refine ⟨_, rfl, ite2 (fun k => ?_) (fun k => ?_)⟩
    · refine qn H3 u3 ?_
      rw [hh, if_neg fun z => nb k z.1]
    have hm := nb' k
    refine ⟨_, rfl, l, _, rfl, .inl (u3.seq hl), _, rfl, _, _, rfl, rfl, _, rfl, ite2 (fun k => ?_) (fun k => ?_)⟩
    · have hk : ((vB b).length : Int) < ((8 + size : Nat) : Int) := db k
      rw [vB_len] at hk
      refine qn H3 u3 ?_
      rw [hh, if_neg fun z => by omega]
    have hk : ¬ ((vB b).length : Int) < ((8 + size : Nat) : Int) := db' k
    rw [vB_len] at hk
    rw [if_pos ⟨hm, by omega⟩] at hh
    refine ⟨_, rfl, _, rfl, _, rfl, _, rfl, l, _, rfl, u3.seq hl, fun l4 hl4 => ?_⟩
    have ec2 : cutV (vB b) (some (8 : Int)) (some (((8 + size : Nat) : Int))) = vB ((b.drop 8).take size) := by
      rw [show (some (8 : Int)) = some ((8 : Nat) : Int) from rfl, cut_nat, vB_drop, vB_take, show 8 + size - 8 = size from by omega]
    rw [ec2]
    have f4 : (upd H3 l4 (.lst (vB ((b.drop 8).take size)))) l4 = some (.lst (vB ((b.drop 8).take size))) := upd_same
    have t4 : Same H (upd H3 l4 (.lst (vB ((b.drop 8).take size)))) := u3.trans (Same.new hl4)
    generalize upd H3 l4 _ = H4 at f4 t4 ⊢
    refine ⟨l4, _, rfl, SqL.of f4, fun H5 s5 hno => ?_, fun H5 p B xs n s5 hin np hS => ?_⟩
    · refine ⟨_, rfl, rfl, _, rfl, ite2 (fun k => ?_) (fun k => absurd (decide_eq_true rfl) k)⟩
      refine qn H5 (t4.trans s5) ?_
      rw [hh]
      cases hs : Plait.sessionIn ((b.drop 8).take size) with
      | none => rfl
      | some s => exact absurd hs (hno s)
    · refine ⟨_, rfl, rfl, _, rfl, ite2 (fun k => absurd (db k) (by intro z; cases z)) (fun k => ?_)⟩
      refine ⟨_, rfl, p, B, xs, n, rfl, hS, fun H6 j s6 nj hJ => ?_⟩
      exact qs H6 j p B xs n ((t4.trans s5).trans s6) (by rw [hh]; exact hin) ((t4.trans s5).free nj) (t4.free np) hJ
def spPlayNote (a : Ad) : Sp := fun vs H Q _ => ∃ (j q l : Addr) (B : Plait.Panel) (xs : List Done) (n : Nat) (plain note : Plait.Bytes), vs = [.ref j, .ref l] ∧ JourAt a H j q B xs n plain ∧ H l = some (.lst (vB note)) ∧ note.length = 12 ∧
  (∀ H', Same H H' → (∀ u, ¬ (note.drop 8 = Plait.low4 (Plait.crc (plain ++ note.take 8)) ∧ PM.chg (ses B xs n) (note.take 8) = some u)) → Q (.bl false) H') ∧
  ∀ H' ys m, But2 j q H H' → note.drop 8 = Plait.low4 (Plait.crc (plain ++ note.take 8)) → PM.chg (ses B xs n) (note.take 8) = some (ses B ys m) → JourAt a H' j q B ys m (plain ++ note.take 8) → Q (.bl true) H'
theorem ok_play_note (T : Txt K mg a) : FnOk P w K mg base CX0 8 a.f_play_note a.d_play_note ["journal", "note"] (spPlayNote a) := by
  have nd := sc_play_note.nd
  refine T.f_play_note.ok sc_play_note (fun vs H Q E h => ?_) (fun cdv A outer s H vs Q E hr h => ?_)
  · obtain ⟨j, q, l, B, xs, n, plain, note, rfl, _⟩ := h
    rfl
  · obtain ⟨j, q0, l, B, xs, n, plain, note, rfl, hJ, hl, h12, qn, qs⟩ := h
    have hne := hJ.ne
    obtain ⟨⟨dx, hj⟩, hS⟩ := hJ
    have h8 : (note.take 8).length = 8 := by rw [List.length_take]; omega
    refine ⟨_, (pss_cons (ps_set (i := 2) nd rfl (by first | exact Or.inl rfl | exact Or.inr rfl) (pe_slice sl_list (pv 1) po_none (po_some (pe_glob (v := .int (8)) (by rfl) T.g_CHANGE_SIZE ⟨_, rfl⟩))))
        (pss_cons (ps_set (i := 3) nd rfl (by first | exact Or.inl rfl | exact Or.inr rfl) (pe_call (ok_bits_after T) (hr.mono (by decide)) (by rfl) T.m_bits_after T.f_bits_after.kp T.b_bits_after .nil pass0 (pa_cons (pe_fld (pv 0) rfl) (pa_cons (pv 2) pa_nil))))
        (pss_cons (ps_if (pt_cmpR (op_neD hr.units) (pe_slice sl_list (pv 1) (po_some (pe_glob (v := .int (8)) (by rfl) T.g_CHANGE_SIZE ⟨_, rfl⟩)) po_none) (pe_call (ok_sum_bytes T) (hr.mono (by decide)) (by rfl) T.m_sum_bytes T.f_sum_bytes.kp T.b_sum_bytes .nil pass0 (pa_cons (pv 3) pa_nil)) (nomark _)) (pss_one (ps_ret pe_bl)) pss_nil)
        (pss_cons (ps_if (pt_not (pt_val (pe_call (ok_do_change T) (hr.mono (by decide)) (by rfl) T.m_do_change T.f_do_change.kp T.b_do_change .nil pass0 (pa_cons (pe_fld (pv 0) rfl) (pa_cons (pv 2) pa_nil))))) (pss_one (ps_ret pe_bl)) pss_nil)
        (pss_cons (ps_fld (pv 0) (pv 3) rfl)
        (pss_one (ps_ret pe_bl))))))), ?_⟩
    refine ⟨_, rfl, _, rfl, l, _, rfl, SqL.of hl, fun l1 hl1 => ?_⟩
    rw [show (some (8 : Int)) = some ((8 : Nat) : Int) from rfl, cut_to, vB_take]
    have f1 : (upd H l1 (.lst (vB (note.take 8)))) l1 = some (.lst (vB (note.take 8))) := upd_same
    have t1 : Same H (upd H l1 (.lst (vB (note.take 8)))) := Same.new hl1
    generalize upd H l1 _ = H1 at f1 t1 ⊢
    refine ⟨_, rfl, j, _, dx, _, _, rfl, t1 _ _ hj, T.c_Journal, T.n_Journal_bits, rfl, _, rfl, bitsOf plain, l1, note.take 8, rfl, SqL.of f1, ?_⟩
    rw [← bitsOf_append]
    refine ⟨_, rfl, _, rfl, l, _, rfl, SqL.of (t1 _ _ hl), fun l2 hl2 => ?_⟩
    rw [show (some (8 : Int)) = some ((8 : Nat) : Int) from rfl, cut_from, vB_drop]
    have f2 : (upd H1 l2 (.lst (vB (note.drop 8)))) l2 = some (.lst (vB (note.drop 8))) := upd_same
    have t2 : Same H1 (upd H1 l2 (.lst (vB (note.drop 8)))) := Same.new hl2
    generalize upd H1 l2 _ = H2 at f2 t2 ⊢
    refine ⟨_, rfl, bitsOf (plain ++ note.take 8), rfl, fun l3 H3 hl3 t3 f3 => ?_⟩
    have u3 : Same H H3 := (t1.trans t2).trans t3
    refine ne_B (b := note.drop 8) (c := Plait.low4 (Plait.crc (plain ++ note.take 8))) (SqL.of (t3 _ _ f2)) (SqL.of f3) ?_
    refine ⟨_, rfl, ite2 (fun k => ?_) (fun k => ?_)⟩
    · exact qn H3 u3 fun u z => nb k z.1
    have hk := nb' k
    refine ⟨_, rfl, j, _, dx, _, _, rfl, u3 _ _ hj, T.c_Journal, T.n_Journal_session, rfl, _, rfl, q0, l1, B, xs, n, note.take 8, rfl, hS.same u3, t3 _ _ (t2 _ _ f1), h8, fun H4 s4 hno => ?_, fun H4 ys m b4 hys hS4 => ?_⟩
    · refine ⟨_, rfl, iteT ?_⟩
      exact qn H4 (u3.trans s4) fun u z => by rw [hno] at z; cases z.2
    · refine ⟨_, rfl, iteF ?_⟩
      have hj4 := b4 _ _ (u3 _ _ hj) hne
      refine ⟨_, rfl, _, rfl, j, _, dx, _, rfl, hj4, T.c_Journal, T.n_Journal_bits, (by show 2 < 1000; decide), ?_⟩
      have b5 : But1 j H4 (upd H4 j (.ins a.c_Journal dx (jf q0 (bitsOf (plain ++ note.take 8))))) := But1.upd
      have f5 : (upd H4 j (.ins a.c_Journal dx (jf q0 (bitsOf (plain ++ note.take 8))))) j = some (.ins a.c_Journal dx (jf q0 (bitsOf (plain ++ note.take 8)))) := upd_same
      show Q (.bl true) (upd H4 j (.ins a.c_Journal dx (jf q0 (bitsOf (plain ++ note.take 8)))))
      generalize upd H4 j _ = H5 at b5 f5 ⊢
      have k5 : Keep H4 H5 := b5.keep hj4 rfl
      refine qs H5 ys m ((u3.but2.trans b4.r).trans b5.l) hk hys ⟨⟨dx, f5⟩, ?_⟩
      exact hS4.keep k5 fun o ho => b5 _ _ ho (Ne.symm hne)
/-- while notes are played -/
def PlayInv (a : Ad) (H : Hp) (j q l : Addr) (B : Plait.Panel) (xs : List Done) (n : Nat) (plain b : Plait.Bytes) (start : Nat) (mm : Nat) (σ : L2.St) (H' : Hp) : Prop :=
  ∃ (k : Nat) (ys : List Done) (m : Nat) (pl : Plait.Bytes), mm = b.length - (start + 12 * k) ∧ σ = [some (.ref j), some (.ref l), some (.int ((start + 12 * k : Nat) : Int)), some (.int (k : Nat))] ∧ (k = 0 ∨ start + 12 * k ≤ b.length) ∧ But2 j q H H' ∧ JourAt a H' j q B ys m pl ∧
    ∀ f, Plait.playFrom (f + k) (b.drop start) plain (ses B xs n) = ((Plait.playFrom f (b.drop (start + 12 * k)) pl (ses B ys m)).1 + k, (Plait.playFrom f (b.drop (start + 12 * k)) pl (ses B ys m)).2)
def spPlayNotes (K : PySem.W.Frag) (a : Ad) : Sp := fun vs H Q _ => ∃ (j q l : Addr) (B : Plait.Panel) (xs : List Done) (n : Nat) (plain b : Plait.Bytes) (start : Nat), vs = [.ref j, .ref l, .int (start : Nat)] ∧ JourAt a H j q B xs n plain ∧ SqL K H l (vB b) ∧
  ∀ H' (k : Nat) ys m pl, But2 j q H H' → (∀ f, (b.drop start).length / 12 ≤ f → Plait.playFrom f (b.drop start) plain (ses B xs n) = (k, pl, ses B ys m)) → k ≤ b.length → JourAt a H' j q B ys m pl → Q (.int (k : Nat)) H'
theorem ok_play_notes (T : Txt K mg a) : FnOk P w K mg base CX0 9 a.f_play_notes a.d_play_notes ["journal", "numbers", "start"] (spPlayNotes K a) := by
  have nd := sc_play_notes.nd
  refine T.f_play_notes.ok sc_play_notes (fun vs H Q E h => ?_) (fun cdv A outer s H vs Q E hr h => ?_)
  · obtain ⟨j, q, l, B, xs, n, plain, b, start, rfl, _⟩ := h
    rfl
  · obtain ⟨j, q0, l, B, xs, n, plain, b, start, rfl, hJ, hl, q⟩ := h
    refine ⟨_, (pss_cons (ps_set (i := 3) nd rfl (by first | exact Or.inl rfl | exact Or.inr rfl) pe_int)
        (pss_cons (ps_while PassesOwn.never (PW.pt (pw_and (pt_cmpR op_le (pe_op op_add (pv 2) (pe_glob (v := .int (12)) (by rfl) T.g_NOTE_SIZE ⟨_, rfl⟩)) (pe_callB call_len_seq (by rfl) T.no_len PySem.boot_len (pa_cons (pv 1) pa_nil)) (nomark _)) (pw_and1 (pt_val (pe_call (ok_play_note T) (hr.mono (by decide)) (by rfl) T.m_play_note T.f_play_note.kp T.b_play_note .nil pass0 (pa_cons (pv 0) (pa_cons (pe_slice sl_list (pv 1) (po_some (pv 2)) (po_some (pe_op op_add (pv 2) (pe_glob (v := .int (12)) (by rfl) T.g_NOTE_SIZE ⟨_, rfl⟩)))) pa_nil))))))) (pss_cons (ps_aug (i := 2) nd rfl (by first | exact Or.inl rfl | exact Or.inr rfl) (pe_glob (v := .int (12)) (by rfl) T.g_NOTE_SIZE ⟨_, rfl⟩) ip_add)
        (pss_one (ps_aug (i := 3) nd rfl (by first | exact Or.inl rfl | exact Or.inr rfl) pe_int ip_add))))
        (pss_one (ps_ret (pv 3))))), ?_⟩
    refine ⟨PlayInv a H j q0 l B xs n plain b start, ⟨_, 0, xs, n, plain, rfl, rfl, .inl rfl, (Same.refl H).but2, hJ, fun f => rfl⟩, ?_⟩
    rintro mm σ H' ⟨k, ys, m, pl, rfl, rfl, hk, b1, hJ1, hplay⟩
    have hl1 : SqL K H' l (vB b) := (b1.keep hJ).seq hl
    have stop : ∀ H'', Same H' H'' → (∀ u, ¬ PM.goes (b.drop (start + 12 * k)) pl (ses B ys m) u) → Q (.int (k : Nat)) H'' := by
      intro H'' s2 hno
      refine q H'' k ys m pl (b1.trans s2.but2) (fun f hf => ?_) (by omega) (hJ1.same s2)
      have hfk : k ≤ f := by
        rcases hk with z | z
        · omega
        · rw [List.length_drop] at hf
          omega
      have e := hplay (f - k)
      rw [show f - k + k = f from by omega, play_stop hJ1.s.good hno] at e
      rw [e]
      show (0 + k, _) = _
      rw [Nat.zero_add]
    refine ⟨_, rfl, _, _, rfl, rfl, _, rfl, l, _, rfl, .inl hl1, _, _, rfl, rfl, _, rfl, ite2 (fun c => ?_) (fun c => iteF ?_)⟩
    · have hc : ((start + 12 * k : Nat) : Int) + 12 ≤ ((vB b).length : Int) := db c
      rw [vB_len] at hc
      refine ⟨_, rfl, _, rfl, _, rfl, _, rfl, _, rfl, _, _, rfl, rfl, _, rfl, l, _, rfl, hl1, fun l2 hl2 => ?_⟩
      rw [show ((start + 12 * k : Nat) : Int) + 12 = ((start + 12 * k + 12 : Nat) : Int) from by omega, cut_nat, vB_drop, vB_take, show start + 12 * k + 12 - (start + 12 * k) = 12 from by omega]
      have f2 : (upd H' l2 (.lst (vB ((b.drop (start + 12 * k)).take 12)))) l2 = some (.lst (vB ((b.drop (start + 12 * k)).take 12))) := upd_same
      have t2 : Same H' (upd H' l2 (.lst (vB ((b.drop (start + 12 * k)).take 12)))) := Same.new hl2
      generalize upd H' l2 _ = H2 at f2 t2 ⊢
      have hlen : 12 ≤ (b.drop (start + 12 * k)).length := by rw [List.length_drop]; omega
      have e8 : ((b.drop (start + 12 * k)).take 12).take 8 = (b.drop (start + 12 * k)).take 8 := by rw [List.take_take]; rfl
      have e4 : ((b.drop (start + 12 * k)).take 12).drop 8 = ((b.drop (start + 12 * k)).drop 8).take 4 := by rw [List.drop_take]
      refine ⟨j, q0, l2, B, ys, m, pl, _, rfl, hJ1.same t2, f2, (by rw [List.length_take]; omega), fun H3 s3 hno => ?_, fun H3 zs m' b3 hsum hchg hJ3 => ?_⟩
      · refine ⟨_, rfl, iteF ?_⟩
        refine ⟨_, rfl, stop H3 (t2.trans s3) fun u z => ?_⟩
        rw [e8, e4] at hno
        exact hno u ⟨z.2.1, z.2.2⟩
      · rw [e8, e4] at hsum
        rw [e8] at hchg hJ3
        refine ⟨_, rfl, iteT ?_⟩
        refine ⟨fun σ' H'' => ∃ m', m' < b.length - (start + 12 * k) ∧ PlayInv a H j q0 l B xs n plain b start m' σ' H'', fun σ' H'' z => z, ?_⟩
        refine ⟨_, rfl, _, _, rfl, rfl, ?_⟩
        refine ⟨_, rfl, _, _, rfl, rfl, ?_⟩
        refine ⟨_, ?_, k + 1, zs, m', pl ++ (b.drop (start + 12 * k)).take 8, rfl, ?_, .inr (by omega), (b1.trans t2.but2).trans b3, hJ3, fun f => ?_⟩
        · omega
        · rw [show (((start + 12 * (k + 1) : Nat)) : Int) = ((start + 12 * k : Nat) : Int) + 12 from by omega]
          rfl
        · have e := hplay (f + 1)
          rw [play_go hJ1.s.good ⟨hlen, hsum, hchg⟩ f, List.drop_drop] at e
          rw [show f + (k + 1) = f + 1 + k from by omega, e, show start + 12 * (k + 1) = start + 12 * k + 12 from by omega]
          show (_ + 1 + k, _) = (_ + (k + 1), _)
          rw [Nat.add_assoc, Nat.add_comm 1 k]
    · have hc : ¬ ((start + 12 * k : Nat) : Int) + 12 ≤ ((vB b).length : Int) := db' c
      rw [vB_len] at hc
      refine ⟨_, rfl, stop H' (Same.refl H') fun u z => ?_⟩
      have := z.1
      rw [List.length_drop] at this
      omega
end Pnl

set_option Elab.async false
set_option maxRecDepth 100000
set_option maxHeartbeats 2000000
set_option linter.all false
namespace Pnl
open PySem PySem.Spec PyProof.Rows L2 PM
open TL (joinL join_eq tl_join tl)
variable {P : Program} {w : World} {K : PySem.W.Frag} {mg : Str → Option Value} {base : Heap} {a : Ad}
/-! ### texts of bytes -/
def sOf (b : Plait.Bytes) : Str := ⟨(b.map UInt8.toNat).toArray⟩
theorem sOf_append (b c : Plait.Bytes) : sOf b ++ sOf c = sOf (b ++ c) := by
  show Str.mk (_ ++ _) = Str.mk _
  congr 1
  show (b.map UInt8.toNat).toArray ++ (c.map UInt8.toNat).toArray = _
  simp
theorem sOf_len (b : Plait.Bytes) : (sOf b).length = b.length := by
  show (b.map UInt8.toNat).toArray.size = _
  simp
theorem s_o : Str.ofString "o" = sOf [111] := by decide +kernel
theorem s_nl : Str.ofString "\n" = sOf [10] := by decide +kernel
theorem s_blank : Str.ofString " " = sOf [32] := by decide +kernel
theorem s_up : Str.ofString "x|-" = sOf [120, 124, 45] := by decide +kernel
theorem s_lev : Str.ofString "x-|" = sOf [120, 45, 124] := by decide +kernel
theorem at_up {z : Nat} (h : z ≤ 2) : atI (sOf [120, 124, 45]).cps.toList (z : Int) = some (Plait.signAt true z).toNat := by
  refine atI_nat ?_
  match z, h with
  | 0, _ => rfl
  | 1, _ => rfl
  | 2, _ => rfl
theorem at_lev {z : Nat} (h : z ≤ 2) : atI (sOf [120, 45, 124]).cps.toList (z : Int) = some (Plait.signAt false z).toNat := by
  refine atI_nat ?_
  match z, h with
  | 0, _ => rfl
  | 1, _ => rfl
  | 2, _ => rfl
theorem map_two {α : Type} (f : Nat → α) (n : Nat) : (List.range (n + 2)).map f = (List.range n).map f ++ [f n, f (n + 1)] := by
  rw [List.range_succ, List.range_succ]
  simp
theorem flat_two {α : Type} (f : Nat → List α) (n : Nat) : (List.range (n + 2)).flatMap f = (List.range n).flatMap f ++ (f n ++ f (n + 1)) := by
  rw [List.range_succ, List.range_succ]
  simp
def upG (D : Plait.Panel) (y i : Nat) : UInt8 := if i % 2 = 0 then 111 else Plait.signAt true (D.state (y * (D.wide - 1) + i / 2))
def levG (f : Nat → UInt8) (i : Nat) : UInt8 := if i % 2 = 1 then 32 else f (i / 2)
theorem join_signs : ∀ (n : Nat) (f : Nat → UInt8), joinL [32] ((List.range (n + 1)).map fun x => [(f x).toNat]) = ((List.range (2 * n + 1)).map (levG f)).map UInt8.toNat
  | 0, f => rfl
  | n + 1, f => by
    have ih := join_signs n fun x => f (x + 1)
    have e1 : (List.range (n + 1 + 1)).map (fun x => [(f x).toNat]) = [(f 0).toNat] :: (List.range (n + 1)).map (fun x => [(f (x + 1)).toNat]) := by
      rw [List.range_succ_eq_map, List.map_cons, List.map_map]; rfl
    have e2 : (List.range (2 * (n + 1) + 1)).map (levG f) = levG f 0 :: levG f 1 :: (List.range (2 * n + 1)).map (levG fun x => f (x + 1)) := by
      rw [show 2 * (n + 1) + 1 = (2 * n + 1) + 1 + 1 from by omega, List.range_succ_eq_map, List.map_cons, List.map_map, List.range_succ_eq_map, List.map_cons, List.map_map]
      show _ :: _ :: _ = _ :: _ :: _
      congr 2
      apply List.map_congr_left
      intro i _
      show levG f (i + 1 + 1) = levG _ i
      unfold levG
      by_cases h : i % 2 = 1
      · rw [if_pos h, if_pos (by omega)]
      · rw [if_neg h, if_neg (by omega), show (i + 1 + 1) / 2 = i / 2 + 1 from by omega]
    rw [e1, e2]
    have e3 : (List.range (n + 1)).map (fun x => [(f (x + 1)).toNat]) ≠ [] := by simp
    cases hr : (List.range (n + 1)).map (fun x => [(f (x + 1)).toNat]) with
    | nil => exact absurd hr e3
    | cons p r =>
      rw [hr] at ih
      show [(f 0).toNat] ++ ([32] ++ joinL [32] (p :: r)) = _
      rw [ih]
      rfl
theorem join_text (n : Nat) (f : Nat → UInt8) : PySem.Txt.join (sOf [32]) ((List.range (n + 1)).map fun x => (⟨#[(f x).toNat]⟩ : Str)) = sOf ((List.range (2 * n + 1)).map (levG f)) := by
  rw [join_eq]
  have h := tl_join (sOf [32]) ((List.range (n + 1)).map fun x => (⟨#[(f x).toNat]⟩ : Str))
  rw [List.map_map] at h
  have h2 : tl (Str.join (sOf [32]) ((List.range (n + 1)).map fun x => (⟨#[(f x).toNat]⟩ : Str))) = ((List.range (2 * n + 1)).map (levG f)).map UInt8.toNat := h.trans (join_signs n f)
  generalize Str.join (sOf [32]) ((List.range (n + 1)).map fun x => (⟨#[(f x).toNat]⟩ : Str)) = z at h2 ⊢
  obtain ⟨c⟩ := z
  have h3 : c.toList = ((List.range (2 * n + 1)).map (levG f)).map UInt8.toNat := h2
  unfold sOf
  rw [← h3]
theorem rowSigns_eq (D : Plait.Panel) (y : Nat) : D.rowSigns y = (List.range (2 * D.wide - 1)).map (upG D y) := rfl
theorem betweenSigns_eq (D : Plait.Panel) (y : Nat) : D.betweenSigns y = (List.range (2 * D.wide - 1)).map (levG fun x => Plait.signAt false (D.state ((D.wide - 1) * D.high + (y * D.wide + x)))) := rfl
def spSquare (a : Ad) : Sp := fun vs H Q _ => ∃ (p : Addr) (D : Plait.Panel) (y : Nat), vs = [.ref p, .int y] ∧ PanAt a H p D ∧ Right D ∧ y < D.high ∧ Q (.str (sOf (D.rowSigns y ++ [10]))) H
theorem ok_square_line (T : Txt K mg a) : FnOk P w K mg base CX0 2 a.f_square_line a.d_square_line ["panel", "y"] (spSquare a) := by
  have nd := sc_square_line.nd
  refine T.f_square_line.ok sc_square_line (fun vs H Q E h => ?_) (fun cdv A outer s H vs Q E hr h => ?_)
  · obtain ⟨p, D, y, rfl, _⟩ := h
    rfl
  · obtain ⟨p, D, y, rfl, hP, R, hy, q⟩ := h
    have hP0 := hP
    obtain ⟨dx, l, hp, hl⟩ := hP0
    have w1 := R.w1
    have w8 := R.w8
    have h8 := R.h8
    refine ⟨_, (pss_cons (ps_set (i := 2) nd rfl (by first | exact Or.inl rfl | exact Or.inr rfl) pe_str)
        (pss_cons (ps_for PassesOwn.never rfl (pi_range1 (by rfl) T.no_range (pa_cons (pe_op op_sub (pe_fld (pv 0) rfl) pe_int) pa_nil)) (pg_name (i := 3) nd rfl (by first | exact Or.inl rfl | exact Or.inr rfl)) (pss_one (ps_aug (i := 2) nd rfl (by first | exact Or.inl rfl | exact Or.inr rfl) (pe_op op_add_str (pe_ix ix_str (pe_glob (v := .str "x|-") (by rfl) T.g_UPRIGHT_SIGNS ⟨_, rfl⟩) (pe_call (ok_upright_sign T) (hr.mono (by decide)) (by rfl) T.m_upright_sign T.f_upright_sign.kp T.b_upright_sign .nil pass0 (pa_cons (pv 0) (pa_cons (pv 3) (pa_cons (pv 1) pa_nil)))) (fun _ _ => rfl)) pe_str) iop_add_str)))
        (pss_one (ps_ret (pe_op op_add_str (pv 2) pe_str))))), ?_⟩
    refine ⟨_, rfl, p, _, dx, _, _, rfl, hp, T.c_Panel, T.n_Panel_wide, rfl, _, _, rfl, rfl, (D.wide : Int) - 1, rfl, by omega, by omega, for_range (n := ((D.wide : Int) - 1).toNat) (fun x σ H' => ∃ v, σ = [some (.ref p), some (.int y), some (.str (sOf ((List.range (2 * x + 1)).map (upG D y)))), v] ∧ H' = H) ?_ ?_ ?_⟩
    · refine ⟨Option.none, ?_, rfl⟩
      show [some (V.ref p), some (V.int y), some (V.str (Str.ofString "o")), Option.none] = _
      rw [s_o]; rfl
    · rintro x σ H' hx ⟨v, rfl, rfl⟩
      have hst := state_le R.le2 (y * (D.wide - 1) + x)
      refine ⟨_, rfl, ?_⟩
      refine ⟨_, rfl, _, rfl, _, rfl, p, D, x, y, ?_, hP, w1, by omega, up_in R (by omega) hy, ?_⟩
      · show [V.ref p, V.int (0 + (x : Int)), V.int (y : Int)] = _
        rw [show (0 : Int) + (x : Int) = (x : Int) from by omega]
      refine ⟨_, _, (Plait.signAt true (D.state (y * (D.wide - 1) + x))).toNat, rfl, rfl, ?_, ?_, ?_⟩
      · rw [s_up, sOf_len]; decide
      · rw [s_up]; exact at_up hst
      refine ⟨sOf [Plait.signAt true (D.state (y * (D.wide - 1) + x))], sOf [111], rfl, by rw [s_o], by rw [sOf_len, sOf_len]; exact line_lt (by show 1 + 1 ≤ 100000; decide), ?_⟩
      rw [sOf_append]
      refine ⟨_, _, rfl, rfl, ?_, ?_⟩
      · rw [sOf_len, sOf_len, List.length_map, List.length_range]
        exact line_lt (by show _ + 2 ≤ _; omega)
      rw [sOf_append]
      refine ⟨some (.int (0 + (x : Int))), ?_, rfl⟩
      rw [show 2 * (x + 1) + 1 = 2 * x + 1 + 2 from by omega, map_two]
      have e1 : upG D y (2 * x + 1) = Plait.signAt true (D.state (y * (D.wide - 1) + x)) := by
        unfold upG
        rw [if_neg (by omega), show (2 * x + 1) / 2 = x from by omega]
      have e2 : upG D y (2 * x + 1 + 1) = 111 := by
        unfold upG
        rw [if_pos (by omega)]
      rw [e1, e2]
      rfl
    · rintro σ H' ⟨v, rfl, rfl⟩
      refine ⟨_, rfl, _, sOf [10], rfl, by rw [s_nl], ?_, ?_⟩
      · rw [sOf_len, sOf_len, List.length_map, List.length_range]
        exact line_lt (by show _ + 1 ≤ _; omega)
      · rw [sOf_append, show 2 * ((D.wide : Int) - 1).toNat + 1 = 2 * D.wide - 1 from by omega, ← rowSigns_eq]
        exact q
def spLevel (a : Ad) : Sp := fun vs H Q _ => ∃ (p : Addr) (D : Plait.Panel) (y : Nat), vs = [.ref p, .int y] ∧ PanAt a H p D ∧ Right D ∧ y < D.high - 1 ∧ ∀ H', Same H H' → Q (.str (sOf (D.betweenSigns y ++ [10]))) H'
theorem ok_level_line (T : Txt K mg a) : FnOk P w K mg base CX0 3 a.f_level_line a.d_level_line ["panel", "y"] (spLevel a) := by
  have nd := sc_level_line.nd
  refine T.f_level_line.ok sc_level_line (fun vs H Q E h => ?_) (fun cdv A outer s H vs Q E hr h => ?_)
  · obtain ⟨p, D, y, rfl, _⟩ := h
    rfl
  · obtain ⟨p, D, y, rfl, hP, R, hy, q⟩ := h
    have hP0 := hP
    obtain ⟨dx, l, hp, hl⟩ := hP0
    have w1 := R.w1
    have w8 := R.w8
    have h8 := R.h8
    refine ⟨_, (pss_cons (ps_setLc (i := 2) (own := [("x", 3)]) rfl nd rfl rfl (sw_true rfl rfl rfl rfl) (pi_range1 (by rfl) T.no_range (pa_cons (pe_fld (pv 0) rfl) pa_nil)) (blkOk_by (by rfl)) (fun _ _ _ _ _ => pg_name (i := 3) nd rfl (by first | exact Or.inl rfl | exact Or.inr rfl)) (fun _ _ _ _ _ => pts_nil) (fun _ _ _ _ _ => (pe_ix ix_str (pe_glob (v := .str "x-|") (by rfl) T.g_LEVEL_SIGNS ⟨_, rfl⟩) (pe_call (ok_level_sign T) (hr.mono (by decide)) (by rfl) T.m_level_sign T.f_level_sign.kp T.b_level_sign .nil pass0 (pa_cons (pv 0) (pa_cons (pv 3) (pa_cons (pv 1) pa_nil)))) (fun _ _ => rfl))))
        (pss_one (ps_ret (pe_op op_add_str (pe_join pe_str (pv 2)) pe_str)))), ?_⟩
    refine ⟨_, rfl, p, _, dx, _, _, rfl, hp, T.c_Panel, T.n_Panel_wide, rfl, (D.wide : Int), rfl, by omega, by omega, fun lc hlc => lc_range (lo := 0) (n := ((D.wide : Int)).toNat) (fun i H'' => Same H H'' ∧ H'' lc = some (.lst (((List.range i).map fun x => (⟨#[(Plait.signAt false (D.state ((D.wide - 1) * D.high + (y * D.wide + x)))).toNat]⟩ : Str)).map V.str))) ?_ ?_ ?_⟩
    · exact ⟨Same.new hlc, upd_same⟩
    · rintro i H'' hi ⟨s4, h4⟩
      refine ⟨rfl, ?_⟩
      have hst := state_le R.le2 ((D.wide - 1) * D.high + (y * D.wide + i))
      refine ⟨_, rfl, _, rfl, _, rfl, p, D, i, y, ?_, hP.same s4, R, by omega, lev_in R (by omega) hy, ?_⟩
      · show [V.ref p, V.int (0 + (i : Int)), V.int (y : Int)] = _
        rw [show (0 : Int) + (i : Int) = (i : Int) from by omega]
      refine ⟨_, _, (Plait.signAt false (D.state ((D.wide - 1) * D.high + (y * D.wide + i)))).toNat, rfl, rfl, ?_, ?_, ?_⟩
      · rw [s_lev, sOf_len]; decide
      · rw [s_lev]; exact at_lev hst
      refine ⟨_, h4, ?_, Same.put hlc s4, ?_⟩
      · rw [List.length_map, List.length_map, List.length_range]
        exact line_lt' (by omega)
      · rw [upd_same, List.range_succ, List.map_append, List.map_append]
        rfl
    · rintro H4 ⟨s4, h4⟩
      rw [show ((D.wide : Int)).toNat = (D.wide - 1) + 1 from by omega] at h4
      refine ⟨⟨_, rfl⟩, _, rfl, sOf [32], lc, _, (by rw [s_blank]), rfl, .inl (SqL.of h4), ?_, ?_⟩
      · rw [List.map_map, List.length_map, List.length_range, sOf_len]
        have : ∀ l : List Nat, (l.map ((fun x : Str => x.length) ∘ fun x => (⟨#[(Plait.signAt false (D.state ((D.wide - 1) * D.high + (y * D.wide + x)))).toNat]⟩ : Str))).sum = l.length := by
          intro l
          induction l with
          | nil => rfl
          | cons z l ih => rw [List.map_cons, List.sum_cons, ih, List.length_cons, Nat.add_comm]; rfl
        rw [this, List.length_range]
        show _ + _ * 1 ≤ _
        omega
      · rw [join_text, show 2 * (D.wide - 1) + 1 = 2 * D.wide - 1 from by omega, ← betweenSigns_eq]
        have hbl : (D.betweenSigns y).length ≤ 100 := by
          rw [betweenSigns_eq, List.length_map, List.length_range]; omega
        refine ⟨_, sOf [10], rfl, by rw [s_nl], ?_, ?_⟩
        · rw [sOf_len, sOf_len]
          exact line_lt (by show _ + 1 ≤ _; omega)
        · rw [sOf_append]
          exact q H4 s4
def drawL (D : Plait.Panel) (i : Nat) : Plait.Bytes := (if i % 2 = 0 then D.rowSigns (i / 2) else D.betweenSigns (i / 2)) ++ [10]
theorem drawn_eq (D : Plait.Panel) : D.drawn = (List.range (2 * D.high - 1)).flatMap (drawL D) := rfl
theorem drawL_len {D : Plait.Panel} (R : Right D) (i : Nat) : (drawL D i).length ≤ 16 := by
  have := R.w8
  unfold drawL
  split
  · rw [List.length_append, rowSigns_eq, List.length_map, List.length_range, List.length_singleton]; omega
  · rw [List.length_append, betweenSigns_eq, List.length_map, List.length_range, List.length_singleton]; omega
theorem draws_len {D : Plait.Panel} (R : Right D) : ∀ n, ((List.range n).flatMap (drawL D)).length ≤ 16 * n
  | 0 => by simp
  | n + 1 => by
    have h1 := draws_len R n
    have h2 := drawL_len R n
    rw [List.range_succ, List.flatMap_append, List.length_append]
    simp only [List.flatMap_cons, List.flatMap_nil, List.append_nil]
    omega
def spDrawing (a : Ad) : Sp := fun vs H Q _ => ∃ (p : Addr) (D : Plait.Panel), vs = [.ref p] ∧ PanAt a H p D ∧ Right D ∧ ∀ H', Same H H' → Q (.str (sOf D.drawn)) H'
theorem ok_drawing (T : Txt K mg a) : FnOk P w K mg base CX0 4 a.f_drawing a.d_drawing ["panel"] (spDrawing a) := by
  have nd := sc_drawing.nd
  refine T.f_drawing.ok sc_drawing (fun vs H Q E h => ?_) (fun cdv A outer s H vs Q E hr h => ?_)
  · obtain ⟨p, D, rfl, _⟩ := h
    rfl
  · obtain ⟨p, D, rfl, hP, R, q⟩ := h
    have hP0 := hP
    obtain ⟨dx, l, hp, hl⟩ := hP0
    have h1 := R.h1
    have h8 := R.h8
    refine ⟨_, (pss_cons (ps_set (i := 1) nd rfl (by first | exact Or.inl rfl | exact Or.inr rfl) (pe_call (ok_square_line T) (hr.mono (by decide)) (by rfl) T.m_square_line T.f_square_line.kp T.b_square_line .nil pass0 (pa_cons (pv 0) (pa_cons pe_int pa_nil))))
        (pss_cons (ps_for PassesOwn.never rfl (pi_range1 (by rfl) T.no_range (pa_cons (pe_op op_sub (pe_fld (pv 0) rfl) pe_int) pa_nil)) (pg_name (i := 2) nd rfl (by first | exact Or.inl rfl | exact Or.inr rfl)) (pss_one (ps_aug (i := 1) nd rfl (by first | exact Or.inl rfl | exact Or.inr rfl) (pe_op op_add_str (pe_call (ok_level_line T) (hr.mono (by decide)) (by rfl) T.m_level_line T.f_level_line.kp T.b_level_line .nil pass0 (pa_cons (pv 0) (pa_cons (pv 2) pa_nil))) (pe_call (ok_square_line T) (hr.mono (by decide)) (by rfl) T.m_square_line T.f_square_line.kp T.b_square_line .nil pass0 (pa_cons (pv 0) (pa_cons (pe_op op_add (pv 2) pe_int) pa_nil)))) iop_add_str)))
        (pss_one (ps_ret (pv 1))))), ?_⟩
    refine ⟨_, rfl, p, D, 0, rfl, hP, R, by omega, ?_⟩
    refine ⟨_, rfl, p, _, dx, _, _, rfl, hp, T.c_Panel, T.n_Panel_high, rfl, _, _, rfl, rfl, (D.high : Int) - 1, rfl, by omega, by omega, for_range (n := ((D.high : Int) - 1).toNat) (fun y σ H' => ∃ v, σ = [some (.ref p), some (.str (sOf ((List.range (2 * y + 1)).flatMap (drawL D)))), v] ∧ Same H H') ?_ ?_ ?_⟩
    · refine ⟨Option.none, ?_, Same.refl H⟩
      have e : (List.range (2 * 0 + 1)).flatMap (drawL D) = D.rowSigns 0 ++ [10] := by
        show drawL D 0 ++ [] = _
        rw [List.append_nil]; rfl
      rw [e]; rfl
    · rintro y σ H' hy ⟨v, rfl, s2⟩
      refine ⟨_, rfl, ?_⟩
      refine ⟨_, rfl, _, rfl, p, D, y, ?_, hP.same s2, R, by omega, fun H3 s3 => ?_⟩
      · show [V.ref p, V.int (0 + (y : Int))] = _
        rw [show (0 : Int) + (y : Int) = (y : Int) from by omega]
      refine ⟨_, rfl, _, rfl, _, _, rfl, rfl, p, D, y + 1, ?_, (hP.same s2).same s3, R, by omega, ?_⟩
      · show [V.ref p, V.int (0 + (y : Int) + 1)] = _
        rw [show (0 : Int) + (y : Int) + 1 = ((y + 1 : Nat) : Int) from by omega]
      have hd1 : drawL D (2 * y + 1) = D.betweenSigns y ++ [10] := by
        unfold drawL
        rw [if_neg (by omega), show (2 * y + 1) / 2 = y from by omega]
      have hd2 : drawL D (2 * y + 1 + 1) = D.rowSigns (y + 1) ++ [10] := by
        unfold drawL
        rw [if_pos (by omega), show (2 * y + 1 + 1) / 2 = y + 1 from by omega]
      have l1 := drawL_len R (2 * y + 1)
      have l2 := drawL_len R (2 * y + 1 + 1)
      have l3 := draws_len R (2 * y + 1)
      rw [hd1] at l1
      rw [hd2] at l2
      refine ⟨_, _, rfl, rfl, ?_, ?_⟩
      · rw [sOf_len, sOf_len]
        exact line_lt (by omega)
      rw [sOf_append]
      refine ⟨_, _, rfl, rfl, ?_, ?_⟩
      · rw [sOf_len, sOf_len, List.length_append]
        exact line_lt (by omega)
      rw [sOf_append, ← hd1, ← hd2, ← flat_two]
      exact ⟨_, rfl, s2.trans s3⟩
    · rintro σ H' ⟨v, rfl, s2⟩
      refine ⟨_, rfl, ?_⟩
      rw [show 2 * ((D.high : Int) - 1).toNat + 1 = 2 * D.high - 1 from by omega, ← drawn_eq]
      exact q H' s2
/-- over a text -/
theorem lc_str {x : Str} {g : TG} {tt : TT} {te : TE} {vs : List Nat} {σ : L2.St} {H1 : Hp} {D : Addr} {Qd : Hp → Prop} (Pv : Nat → Hp → Prop) (h0 : Pv 0 (upd H1 D (.lst [])))
    (hs : ∀ i c H, x.cps[i]? = some c → Pv i H → g (.str ⟨#[c]⟩) (wipe σ vs) H fun σ2 H2 => wipe σ2 vs = wipe σ vs ∧ tt σ2 H2 fun b H3 =>
      if b = true then te σ2 H3 fun y H4 => ∃ acc, H4 D = some (.lst acc) ∧ acc.length < sizeLine ∧ Pv (i + 1) (upd H4 D (.lst (acc ++ [y]))) else Pv (i + 1) H3) (hd : ∀ H, Pv x.cps.size H → Qd H) :
    ∃ W : Nat → Nat → Hp → Prop, (∃ m, W 0 m (upd H1 D (.lst []))) ∧ ∀ i m H, W i m H →
      ((Its x).stop i H ∧ Qd H) ∨ ((Its x).go i H ∧ ∃ Nx : Hp → Prop, (∀ H', Nx H' → ∃ m', m' < m ∧ W (i + 1) m' H') ∧ ∀ z H', (Its x).yld i H z H' → g z (wipe σ vs) H' fun σ2 H2 => wipe σ2 vs = wipe σ vs ∧ tt σ2 H2 fun b H3 =>
        if b = true then te σ2 H3 fun y H4 => ∃ acc, H4 D = some (.lst acc) ∧ acc.length < sizeLine ∧ Nx (upd H4 D (.lst (acc ++ [y]))) else Nx H3) := by
  refine ⟨fun i m H => m = x.cps.size - i ∧ i ≤ x.cps.size ∧ Pv i H, ⟨x.cps.size, by simp, Nat.zero_le _, h0⟩, ?_⟩
  rintro i m H ⟨rfl, hi, p⟩
  by_cases hlt : i < x.cps.size
  · refine .inr ⟨hlt, Pv (i + 1), fun H' p' => ⟨x.cps.size - (i + 1), by omega, rfl, hlt, p'⟩, fun z H' y => ?_⟩
    obtain ⟨e, c, hc, y⟩ := y
    subst e y
    exact hs i c _ hc p
  · have e : i = x.cps.size := by omega
    subst e
    exact .inl ⟨Nat.le_refl _, hd H p⟩
def spDrawBytes (a : Ad) : Sp := fun vs H Q _ => ∃ (p : Addr) (D : Plait.Panel), vs = [.ref p] ∧ PanAt a H p D ∧ Right D ∧ Fresh H (vB D.drawn) Q
theorem ok_drawing_bytes (T : Txt K mg a) : FnOk P w K mg base CX0 5 a.f_drawing_bytes a.d_drawing_bytes ["panel"] (spDrawBytes a) := by
  have nd := sc_drawing_bytes.nd
  refine T.f_drawing_bytes.ok sc_drawing_bytes (fun vs H Q E h => ?_) (fun cdv A outer s H vs Q E hr h => ?_)
  · obtain ⟨p, D, rfl, _⟩ := h
    rfl
  · obtain ⟨p, D, rfl, hP, R, q⟩ := h
    refine ⟨_, (pss_one (ps_ret (pe_lc (own := [("letter", 1)]) rfl nd (pi_str (pe_call (ok_drawing T) (hr.mono (by decide)) (by rfl) T.m_drawing T.f_drawing.kp T.b_drawing .nil pass0 (pa_cons (pv 0) pa_nil))) (blkOk_by (by rfl)) (fun _ _ _ _ _ => pg_name (i := 1) nd rfl (by first | exact Or.inl rfl | exact Or.inr rfl)) (fun _ _ _ _ _ => pts_nil) (fun _ _ _ _ _ => (pe_callB call_ord (by rfl) T.no_ord PyProof.Rows.boot_ord (pa_cons (pv 1) pa_nil)))))), ?_⟩
    refine ⟨_, rfl, p, D, rfl, hP, R, fun H1 s1 => ?_⟩
    have hlen : D.drawn.length ≤ 1000 := by
      have := draws_len R (2 * D.high - 1)
      have := R.h8
      rw [drawn_eq]
      omega
    generalize D.drawn = t at q hlen ⊢
    have hcs : (sOf t).cps.size = t.length := sOf_len t
    refine ⟨_, rfl, fun lc hlc => lc_str (x := sOf t) (fun i H'' => Same H1 H'' ∧ H'' lc = some (.lst (vB (t.take i)))) ?_ ?_ ?_⟩
    · exact ⟨Same.new hlc, by rw [upd_same]; rfl⟩
    · rintro i c H'' hc ⟨s4, h4⟩
      have hc' : ∃ x, t[i]? = some x ∧ x.toNat = c := by
        unfold sOf at hc
        simp only [List.getElem?_toArray, List.getElem?_map] at hc
        cases ht : t[i]? with
        | none => rw [ht] at hc; cases hc
        | some x => rw [ht] at hc; exact ⟨x, rfl, Option.some.inj hc⟩
      obtain ⟨x, hx, rfl⟩ := hc'
      refine ⟨rfl, ?_⟩
      refine ⟨_, rfl, _, rfl, rfl, _, h4, ?_, Same.put hlc s4, ?_⟩
      · rw [vB_len, List.length_take]
        exact line_lt' (by omega)
      · rw [upd_same, List.take_add_one, hx, vB_append]
        rfl
    · rintro H4 ⟨s4, h4⟩
      rw [hcs, List.take_length] at h4
      exact q lc H4 (s1.free hlc) (s1.trans s4) h4
end Pnl

set_option Elab.async false
set_option maxRecDepth 100000
set_option maxHeartbeats 2000000
set_option linter.all false
namespace Pnl
open PySem PySem.Spec PyProof.Rows L2 PM
variable {P : Program} {w : World} {K : PySem.W.Frag} {mg : Str → Option Value} {base : Heap} {a : Ad}
/-! ### list.count of ints -/
def rLCount (K : PySem.W.Frag) : V → List V → Hp → VK → Prop := fun x xs H Q => ∃ (l : Addr) (ns : List Int) (k : Int), x = V.ref l ∧ xs = [.int k] ∧ SqL K H l (ns.map V.int) ∧ Q (.int (ns.count k : Nat)) H
theorem mt_lcount {X : Cx} : MtR X "list.count" (rLCount X.K) := by
  intro pins s σ H x xs v us Q I rx rxs h
  obtain ⟨l, ns, k, rfl, rfl, hs, q⟩ := h
  cases rx
  cases rxs with
  | cons ry rt =>
    cases rt
    obtain ⟨t, rfl⟩ := ry
    obtain ⟨its, rv, ⟨o, n, ho, hc, _, hd⟩, _⟩ := I.list hs
    exact PyProof.Rows.count_list_ints ⟨o, ho, hc, n, hd⟩ rv.ints ⟨.int _, H, I.tok _, ⟨_, rfl⟩, q⟩
theorem all_states {D : Plait.Panel} : (List.range D.places.length).map D.state = D.places := by
  apply List.ext_getElem
  · rw [List.length_map, List.length_range]
  · intro i h1 h2
    rw [List.getElem_map, List.getElem_range]
    show D.places.getD i 1 = _
    rw [List.getD_eq_getElem?_getD, List.getElem?_eq_getElem h2]; rfl
theorem crossings_eq {D : Plait.Panel} (R : Right D) : D.crossings.length = (D.places.map fun (n : Nat) => (n : Int)).count 0 := by
  unfold Plait.Panel.crossings
  rw [R.count, ← List.countP_eq_length_filter]
  unfold List.count
  rw [List.countP_map]
  conv => rhs; rw [← all_states (D := D), List.countP_map]
  apply List.countP_congr
  intro p _
  show (D.state p == 0) = true ↔ (((D.state p : Nat) : Int) == 0) = true
  rw [beq_iff_eq, beq_iff_eq]
  omega
/-! ### sides -/
def sideXY (D : Plait.Panel) (x y k : Nat) : Nat :=
  if k = 0 then (if 0 < y then D.state ((D.wide - 1) * D.high + ((y - 1) * D.wide + x)) else 1)
  else if k = 1 then (if x < D.wide - 1 then D.state (y * (D.wide - 1) + x) else 1)
  else if k = 2 then (if y < D.high - 1 then D.state ((D.wide - 1) * D.high + (y * D.wide + x)) else 1)
  else (if 0 < x then D.state (y * (D.wide - 1) + (x - 1)) else 1)
def spSideSign (a : Ad) : Sp := fun vs H Q _ => ∃ (p : Addr) (D : Plait.Panel) (x y k : Nat), vs = [.ref p, .int x, .int y, .int k] ∧ PanAt a H p D ∧ Right D ∧ x < D.wide ∧ y < D.high ∧ k < 4 ∧ Q (.int ((sideXY D x y k : Nat) : Int)) H
theorem ok_side_sign (T : Txt K mg a) : FnOk P w K mg base CX0 3 a.f_side_sign a.d_side_sign ["panel", "x", "y", "side"] (spSideSign a) := by
  have nd := sc_side_sign.nd
  refine T.f_side_sign.ok sc_side_sign (fun vs H Q E h => ?_) (fun cdv A outer s H vs Q E hr h => ?_)
  · obtain ⟨p, D, x, y, k, rfl, _⟩ := h
    rfl
  · obtain ⟨p, D, x, y, k, rfl, hP, R, hx, hy, hk, q⟩ := h
    have hP0 := hP
    obtain ⟨dx, l, hp, hl⟩ := hP0
    have w8 := R.w8
    have h8 := R.h8
    have w1 := R.w1
    have h1 := R.h1
    unfold sideXY at q
    refine ⟨_, (pss_cons (ps_if (pt_cmpR op_eq (pv 3) (pe_glob (v := .int (0)) (by rfl) T.g_UPPER ⟨_, rfl⟩) (nomark _)) (pss_one (ps_ret (pe_ifExp (pt_cmpR op_gt (pv 2) pe_int (nomark _)) (pe_call (ok_level_sign T) (hr.mono (by decide)) (by rfl) T.m_level_sign T.f_level_sign.kp T.b_level_sign .nil pass0 (pa_cons (pv 0) (pa_cons (pv 1) (pa_cons (pe_op op_sub (pv 2) pe_int) pa_nil)))) (pe_glob (v := .int (1)) (by rfl) T.g_ALONG ⟨_, rfl⟩)))) pss_nil)
        (pss_cons (ps_if (pt_cmpR op_eq (pv 3) (pe_glob (v := .int (1)) (by rfl) T.g_RIGHT ⟨_, rfl⟩) (nomark _)) (pss_one (ps_ret (pe_ifExp (pt_cmpR op_lt (pv 1) (pe_op op_sub (pe_fld (pv 0) rfl) pe_int) (nomark _)) (pe_call (ok_upright_sign T) (hr.mono (by decide)) (by rfl) T.m_upright_sign T.f_upright_sign.kp T.b_upright_sign .nil pass0 (pa_cons (pv 0) (pa_cons (pv 1) (pa_cons (pv 2) pa_nil)))) (pe_glob (v := .int (1)) (by rfl) T.g_ALONG ⟨_, rfl⟩)))) pss_nil)
        (pss_cons (ps_if (pt_cmpR op_eq (pv 3) (pe_glob (v := .int (2)) (by rfl) T.g_LOWER ⟨_, rfl⟩) (nomark _)) (pss_one (ps_ret (pe_ifExp (pt_cmpR op_lt (pv 2) (pe_op op_sub (pe_fld (pv 0) rfl) pe_int) (nomark _)) (pe_call (ok_level_sign T) (hr.mono (by decide)) (by rfl) T.m_level_sign T.f_level_sign.kp T.b_level_sign .nil pass0 (pa_cons (pv 0) (pa_cons (pv 1) (pa_cons (pv 2) pa_nil)))) (pe_glob (v := .int (1)) (by rfl) T.g_ALONG ⟨_, rfl⟩)))) pss_nil)
        (pss_one (ps_ret (pe_ifExp (pt_cmpR op_gt (pv 1) pe_int (nomark _)) (pe_call (ok_upright_sign T) (hr.mono (by decide)) (by rfl) T.m_upright_sign T.f_upright_sign.kp T.b_upright_sign .nil pass0 (pa_cons (pv 0) (pa_cons (pe_op op_sub (pv 1) pe_int) (pa_cons (pv 2) pa_nil)))) (pe_glob (v := .int (1)) (by rfl) T.g_ALONG ⟨_, rfl⟩))))))), ?_⟩
    refine ⟨_, rfl, rfl, _, rfl, ite2 (fun c => ?_) (fun c => ?_)⟩
    · have z : k = 0 := vi (n := 0) (db c)
      rw [if_pos z] at q
      refine ⟨_, rfl, _, _, rfl, rfl, _, rfl, ite2 (fun c => ?_) (fun c => ?_)⟩
      · have z2 : 0 < y := Int.ofNat_lt.mp (db c)
        rw [if_pos z2] at q
        refine ⟨_, rfl, _, rfl, _, rfl, _, _, rfl, rfl, p, D, x, y - 1, ?_, hP, R, by omega, lev_in R hx (by omega), q⟩
        show [V.ref p, V.int (x : Int), V.int ((y : Int) - 1)] = _
        rw [show (y : Int) - 1 = ((y - 1 : Nat) : Int) from by omega]
      · have z2 : ¬ 0 < y := fun e => db' c (Int.ofNat_lt.mpr e)
        rw [if_neg z2] at q
        exact q
    have n0 : k ≠ 0 := fun e => db' c (by rw [e]; rfl)
    rw [if_neg n0] at q
    refine ⟨_, rfl, rfl, _, rfl, ite2 (fun c => ?_) (fun c => ?_)⟩
    · have z : k = 1 := vi (n := 1) (db c)
      rw [if_pos z] at q
      refine ⟨_, rfl, _, rfl, p, _, dx, _, _, rfl, hp, T.c_Panel, T.n_Panel_wide, rfl, _, _, rfl, rfl, _, _, rfl, rfl, _, rfl, ite2 (fun c => ?_) (fun c => ?_)⟩
      · have c' : (x : Int) < (D.wide : Int) - 1 := db c
        have z2 : x < D.wide - 1 := by omega
        rw [if_pos z2] at q
        exact ⟨_, rfl, _, rfl, _, rfl, p, D, x, y, rfl, hP, w1, by omega, up_in R z2 hy, q⟩
      · have c' : ¬ (x : Int) < (D.wide : Int) - 1 := db' c
        rw [if_neg (by omega)] at q
        exact q
    have n1 : k ≠ 1 := fun e => db' c (by rw [e]; rfl)
    rw [if_neg n1] at q
    refine ⟨_, rfl, rfl, _, rfl, ite2 (fun c => ?_) (fun c => ?_)⟩
    · have z : k = 2 := vi (n := 2) (db c)
      rw [if_pos z] at q
      refine ⟨_, rfl, _, rfl, p, _, dx, _, _, rfl, hp, T.c_Panel, T.n_Panel_high, rfl, _, _, rfl, rfl, _, _, rfl, rfl, _, rfl, ite2 (fun c => ?_) (fun c => ?_)⟩
      · have c' : (y : Int) < (D.high : Int) - 1 := db c
        have z2 : y < D.high - 1 := by omega
        rw [if_pos z2] at q
        exact ⟨_, rfl, _, rfl, _, rfl, p, D, x, y, rfl, hP, R, by omega, lev_in R hx z2, q⟩
      · have c' : ¬ (y : Int) < (D.high : Int) - 1 := db' c
        rw [if_neg (by omega)] at q
        exact q
    have n2 : k ≠ 2 := fun e => db' c (by rw [e]; rfl)
    rw [if_neg n2] at q
    refine ⟨_, rfl, _, _, rfl, rfl, _, rfl, ite2 (fun c => ?_) (fun c => ?_)⟩
    · have z2 : 0 < x := Int.ofNat_lt.mp (db c)
      rw [if_pos z2] at q
      refine ⟨_, rfl, _, rfl, _, _, rfl, rfl, _, rfl, p, D, x - 1, y, ?_, hP, w1, by omega, up_in R (by omega) hy, q⟩
      show [V.ref p, V.int ((x : Int) - 1), V.int (y : Int)] = _
      rw [show (x : Int) - 1 = ((x - 1 : Nat) : Int) from by omega]
    · have z2 : ¬ 0 < x := fun e => db' c (Int.ofNat_lt.mpr e)
      rw [if_neg z2] at q
      exact q
def spEndAt : Sp := fun vs H Q _ => ∃ (s k : Nat) (b : Bool), vs = [.int s, .int k, .bl b] ∧ s < 2 ^ 32 ∧ k < 4 ∧ Q (.int ((en s k b : Nat) : Int)) H
theorem ok_end_at (T : Txt K mg a) : FnOk P w K mg base CX0 1 a.f_end_at a.d_end_at ["square", "side", "begins"] spEndAt := by
  have nd := sc_end_at.nd
  refine T.f_end_at.ok sc_end_at (fun vs H Q E h => ?_) (fun cdv A outer s H vs Q E hr h => ?_)
  · obtain ⟨s, k, b, rfl, _⟩ := h
    rfl
  · obtain ⟨s, k, b, rfl, hs, hk, q⟩ := h
    refine ⟨_, (pss_cons (ps_if (pt_val (pv 2)) (pss_one (ps_ret (pe_op op_add (pe_op op_mul pe_int (pv 0)) (pe_op op_mul pe_int (pv 1))))) pss_nil)
        (pss_one (ps_ret (pe_op op_add (pe_op op_add (pe_op op_mul pe_int (pv 0)) (pe_op op_mul pe_int (pe_op op_mod (pe_op op_add (pv 1) pe_int) pe_int))) pe_int)))), ?_⟩
    cases b with
    | true =>
      refine ⟨_, rfl, _, rfl, iteT ?_⟩
      refine ⟨_, rfl, _, _, rfl, rfl, .inl ⟨by decide, by decide⟩, _, rfl, _, _, rfl, rfl, .inl ⟨by decide, by decide⟩, _, _, rfl, rfl, ?_⟩
      have e : ((en s k true : Nat) : Int) = 8 * (s : Int) + 2 * (k : Int) := by
        show ((Plait.firstEnd s k : Nat) : Int) = _
        unfold Plait.firstEnd
        omega
      rw [e] at q
      exact q
    | false =>
      refine ⟨_, rfl, _, rfl, iteF ?_⟩
      refine ⟨_, rfl, _, _, rfl, rfl, .inl ⟨by decide, by decide⟩, _, rfl, _, _, rfl, rfl, _, _, rfl, rfl, (by show (0 : Int) < 4; decide), _, _, rfl, rfl, .inl ⟨by decide, by decide⟩, _, _, rfl, rfl, _, _, rfl, rfl, ?_⟩
      have e : ((en s k false : Nat) : Int) = 8 * (s : Int) + 2 * (((k : Int) + 3) % 4) + 1 := by
        show ((Plait.lastEnd s k : Nat) : Int) = _
        unfold Plait.lastEnd
        omega
      rw [e] at q
      exact q
/-! ### joined ends -/
theorem en_own (e : Nat) : e = en (e / 8) (Plait.sideOf e) (decide (e % 2 = 0)) := by
  by_cases h : e % 2 = 0
  · rw [decide_eq_true h]
    simp only [en, Plait.sideOf, Plait.firstEnd, if_true]; omega
  · rw [decide_eq_false h]
    simp only [en, Plait.sideOf, Plait.lastEnd, Bool.false_eq_true, if_false]; omega
theorem rc {D : Plait.Panel} (w1 : 1 ≤ D.wide) (s : Nat) (h : s < D.wide * D.high) : s / D.wide < D.high ∧ s % D.wide < D.wide ∧ s = s / D.wide * D.wide + s % D.wide := by
  refine ⟨Nat.div_lt_of_lt_mul h, Nat.mod_lt _ (by omega), ?_⟩
  have := Nat.div_add_mod s D.wide
  rw [Nat.mul_comm] at this
  exact this.symm
/-- what the program finds on a side, and the square beyond -/
theorem side_is {D : Plait.Panel} (R : Right D) {s k : Nat} (hs : s < D.wide * D.high) (hk : k < 4) :
    (D.beyond s k = Option.none ∧ sideXY D (s % D.wide) (s / D.wide) k = 1) ∨ ∃ t, D.beyond s k = some t ∧ sideXY D (s % D.wide) (s / D.wide) k = D.state (D.placeOf s k) := by
  have w1 := R.w1
  have h1 := R.h1
  unfold Plait.Panel.beyond Plait.Panel.placeOf sideXY Plait.Panel.row Plait.Panel.col Plait.Panel.uprights
  match k, hk with
  | 0, _ =>
    by_cases c : 0 < s / D.wide
    · right; simp [c]
    · left; simp [c]
  | 1, _ =>
    by_cases c : s % D.wide + 1 < D.wide
    · right
      have c2 : s % D.wide < D.wide - 1 := by omega
      simp [c, c2]
    · left
      have c2 : ¬ s % D.wide < D.wide - 1 := by omega
      simp [c, c2]
  | 2, _ =>
    by_cases c : s / D.wide + 1 < D.high
    · right
      have c2 : s / D.wide < D.high - 1 := by omega
      simp [c, c2]
    · left
      have c2 : ¬ s / D.wide < D.high - 1 := by omega
      simp [c, c2]
  | 3, _ =>
    by_cases c : 0 < s % D.wide
    · right; simp [c]
    · left; simp [c]
theorem step_is {D : Plait.Panel} (R : Right D) {s k t : Nat} (T : Txt K mg a) (hs : s < D.wide * D.high) (hk : k < 4) (hb : D.beyond s k = some t) :
    ∃ (q : Addr) (dx dy : Int), ([.ref a.p_SIDE_STEPS_0, .ref a.p_SIDE_STEPS_1, .ref a.p_SIDE_STEPS_2, .ref a.p_SIDE_STEPS_3] : List V)[k]? = some (.ref q) ∧ (∀ H, SqT K H q [.int dx, .int dy]) ∧ -1 ≤ dy ∧ dy ≤ 1 ∧
      (((s / D.wide : Nat) : Int) + dy) * (D.wide : Int) + ((s % D.wide : Nat) : Int) + dx = (t : Int) := by
  obtain ⟨r1, r2, r3⟩ := rc R.w1 s hs
  have r4 : (s : Int) = ((s / D.wide : Nat) : Int) * (D.wide : Int) + ((s % D.wide : Nat) : Int) := by
    rw [← Int.natCast_mul, ← Int.natCast_add, ← r3]
  unfold Plait.Panel.beyond Plait.Panel.row Plait.Panel.col at hb
  match k, hk, hb with
  | 0, _, hb =>
    refine ⟨a.p_SIDE_STEPS_0, 0, -1, rfl, T.q_SIDE_STEPS_0, by decide, by decide, ?_⟩
    rw [if_pos rfl] at hb
    split at hb
    · rename_i c
      cases hb
      have : D.wide ≤ s := by
        have : 1 * D.wide ≤ s / D.wide * D.wide := Nat.mul_le_mul_right _ c
        omega
      rw [Int.add_mul]
      omega
    · cases hb
  | 1, _, hb =>
    refine ⟨a.p_SIDE_STEPS_1, 1, 0, rfl, T.q_SIDE_STEPS_1, by decide, by decide, ?_⟩
    rw [if_neg (by decide), if_pos rfl] at hb
    split at hb
    · cases hb
      rw [Int.add_zero]
      omega
    · cases hb
  | 2, _, hb =>
    refine ⟨a.p_SIDE_STEPS_2, 0, 1, rfl, T.q_SIDE_STEPS_2, by decide, by decide, ?_⟩
    rw [if_neg (by decide), if_neg (by decide), if_pos rfl] at hb
    split at hb
    · cases hb
      rw [Int.add_mul]
      omega
    · cases hb
  | 3, _, hb =>
    refine ⟨a.p_SIDE_STEPS_3, -1, 0, rfl, T.q_SIDE_STEPS_3, by decide, by decide, ?_⟩
    rw [if_neg (by decide), if_neg (by decide), if_neg (by decide)] at hb
    split at hb
    · rename_i c
      cases hb
      rw [Int.add_zero]
      omega
    · cases hb
def spJoined (a : Ad) : Sp := fun vs H Q _ => ∃ (p : Addr) (D : Plait.Panel) (e : Nat), vs = [.ref p, .int e] ∧ PanAt a H p D ∧ Right D ∧ e < 2 * D.pieces ∧ Q (.int ((D.joined e : Nat) : Int)) H
theorem ok_joined_end (T : Txt K mg a) : FnOk P w K mg base CX0 4 a.f_joined_end a.d_joined_end ["panel", "end"] (spJoined a) := by
  have nd := sc_joined_end.nd
  refine T.f_joined_end.ok sc_joined_end (fun vs H Q E h => ?_) (fun cdv A outer s H vs Q E hr h => ?_)
  · obtain ⟨p, D, e, rfl, _⟩ := h
    rfl
  · obtain ⟨p, D, e, rfl, hP, R, he, q⟩ := h
    have hP0 := hP
    obtain ⟨dx, l, hp, hl⟩ := hP0
    have w8 := R.w8
    have h8 := R.h8
    have w1 := R.w1
    have h1 := R.h1
    have hs : e / 8 < D.wide * D.high := by
      unfold Plait.Panel.pieces Plait.Panel.squares at he
      omega
    have h64 : D.wide * D.high ≤ 8 * 8 := Nat.mul_le_mul w8 h8
    obtain ⟨r1, r2, r3⟩ := rc w1 (e / 8) hs
    have hk := side_lt e
    have ek : ((e : Int) % 8 / 2 + (e : Int) % 2) % 4 = ((Plait.sideOf e : Nat) : Int) := by
      unfold Plait.sideOf
      omega
    have eb : decide (V.int ((e : Int) % 2) = V.int 0) = decide (e % 2 = 0) := by
      apply decide_eq_decide.mpr
      constructor
      · intro z; injection z with z; omega
      · intro z; rw [show (e : Int) % 2 = 0 from by omega]
    have ex : (e : Int) / 8 % (D.wide : Int) = ((e / 8 % D.wide : Nat) : Int) := by rw [Int.natCast_emod]; rfl
    have ey : (e : Int) / 8 / (D.wide : Int) = ((e / 8 / D.wide : Nat) : Int) := by rw [Int.natCast_ediv]; rfl
    have hj := joined_en (D := D) (s := e / 8) hk (decide (e % 2 = 0))
    rw [← en_own e] at hj
    have hside := side_is R hs hk
    generalize Plait.sideOf e = k at hk ek hj hside
    refine ⟨_, (pss_cons (ps_set (i := 2) nd rfl (by first | exact Or.inl rfl | exact Or.inr rfl) (pe_op op_fdiv (pv 1) pe_int))
        (pss_cons (ps_set (i := 3) nd rfl (by first | exact Or.inl rfl | exact Or.inr rfl) (pe_op op_mod (pv 2) (pe_fld (pv 0) rfl)))
        (pss_cons (ps_set (i := 4) nd rfl (by first | exact Or.inl rfl | exact Or.inr rfl) (pe_op op_fdiv (pv 2) (pe_fld (pv 0) rfl)))
        (pss_cons (ps_set (i := 5) nd rfl (by first | exact Or.inl rfl | exact Or.inr rfl) (pe_cmpR op_eq (pe_op op_mod (pv 1) pe_int) pe_int (nomark _)))
        (pss_cons (ps_set (i := 6) nd rfl (by first | exact Or.inl rfl | exact Or.inr rfl) (pe_op op_mod (pe_op op_add (pe_op op_fdiv (pe_op op_mod (pv 1) pe_int) pe_int) (pe_op op_mod (pv 1) pe_int)) pe_int))
        (pss_cons (ps_set (i := 7) nd rfl (by first | exact Or.inl rfl | exact Or.inr rfl) (pe_call (ok_side_sign T) (hr.mono (by decide)) (by rfl) T.m_side_sign T.f_side_sign.kp T.b_side_sign .nil pass0 (pa_cons (pv 0) (pa_cons (pv 3) (pa_cons (pv 4) (pa_cons (pv 6) pa_nil))))))
        (pss_cons (ps_if (pt_cmpR op_eq (pv 7) (pe_glob (v := .int (1)) (by rfl) T.g_ALONG ⟨_, rfl⟩) (nomark _)) (pss_one (ps_ret (pe_call (ok_end_at T) (hr.mono (by decide)) (by rfl) T.m_end_at T.f_end_at.kp T.b_end_at .nil pass0 (pa_cons (pv 2) (pa_cons (pv 6) (pa_cons (pe_not (pv 5)) pa_nil)))))) pss_nil)
        (pss_cons (ps_set (i := 8) nd rfl (by first | exact Or.inl rfl | exact Or.inr rfl) (pe_ix ix_tup (pe_glob (v := .ref a.p_SIDE_STEPS) (by rfl) T.g_SIDE_STEPS rfl) (pv 6) (fun _ _ => rfl)))
        (pss_cons (ps_set (i := 9) nd rfl (by first | exact Or.inl rfl | exact Or.inr rfl) (pe_op op_add (pe_op op_add (pe_op op_mul (pe_op op_add (pv 4) (pe_ix ix_tup (pv 8) pe_int (fun _ _ => rfl))) (pe_fld (pv 0) rfl)) (pv 3)) (pe_ix ix_tup (pv 8) pe_int (fun _ _ => rfl))))
        (pss_one (ps_ret (pe_call (ok_end_at T) (hr.mono (by decide)) (by rfl) T.m_end_at T.f_end_at.kp T.b_end_at .nil pass0 (pa_cons (pv 9) (pa_cons (pe_op op_mod (pe_op op_add (pv 6) pe_int) pe_int) (pa_cons (pe_ifExp (pt_cmpR op_eq (pv 7) (pe_glob (v := .int (0)) (by rfl) T.g_CROSSING ⟨_, rfl⟩) (nomark _)) (pv 5) (pe_not (pv 5))) pa_nil))))))))))))))), ?_⟩
    refine ⟨_, rfl, _, _, rfl, rfl, ⟨by decide, by decide⟩, ?_⟩
    refine ⟨_, rfl, _, rfl, p, _, dx, _, _, rfl, hp, T.c_Panel, T.n_Panel_wide, rfl, _, _, rfl, rfl, (by omega), ?_⟩
    refine ⟨_, rfl, _, rfl, p, _, dx, _, _, rfl, hp, T.c_Panel, T.n_Panel_wide, rfl, _, _, rfl, rfl, ⟨by omega, by omega⟩, ?_⟩
    refine ⟨_, rfl, _, _, rfl, rfl, (by show (0 : Int) < 2; decide), rfl, ?_⟩
    refine ⟨_, rfl, _, _, rfl, rfl, (by show (0 : Int) < 8; decide), _, _, rfl, rfl, ⟨by decide, by decide⟩, _, rfl, _, _, rfl, rfl, (by show (0 : Int) < 2; decide), _, _, rfl, rfl, _, _, rfl, rfl, (by show (0 : Int) < 4; decide), ?_⟩
    refine ⟨_, rfl, _, rfl, _, rfl, _, rfl, p, D, e / 8 % D.wide, e / 8 / D.wide, k, ?_, hP, R, r2, r1, hk, ?_⟩
    · show [V.ref p, V.int ((e : Int) / 8 % (D.wide : Int)), V.int ((e : Int) / 8 / (D.wide : Int)), V.int (((e : Int) % 8 / 2 + (e : Int) % 2) % 4)] = _
      rw [ex, ey, ek]
    refine ⟨_, rfl, rfl, _, rfl, ite2 (fun c => ?_) (fun c => ?_)⟩
    · have z : sideXY D (e / 8 % D.wide) (e / 8 / D.wide) k = 1 := vi (n := 1) (db c)
      refine ⟨_, rfl, _, rfl, _, rfl, _, rfl, e / 8, k, !decide (e % 2 = 0), ?_, by omega, hk, ?_⟩
      · show [V.int ((e : Int) / 8), V.int (((e : Int) % 8 / 2 + (e : Int) % 2) % 4), V.bl (!decide (V.int ((e : Int) % 2) = V.int 0))] = _
        rw [ek, eb]; rfl
      · rcases hside with ⟨hb, _⟩ | ⟨t, hb, hz⟩
        · rw [hb] at hj
          rw [hj] at q
          exact q
        · rw [hb] at hj
          simp only at hj
          rw [if_pos (hz.symm.trans z)] at hj
          rw [hj] at q
          exact q
    · have z : sideXY D (e / 8 % D.wide) (e / 8 / D.wide) k ≠ 1 := fun e' => db' c (by rw [e']; rfl)
      rcases hside with ⟨_, hz⟩ | ⟨t, hb, hz⟩
      · exact absurd hz z
      obtain ⟨sq, sx, sy, hq1, hq2, hlo, hhi, ht⟩ := step_is R T hs hk hb
      have htl := (chkB_at w1 w8 h1 h8 (show e / 8 < D.squares from hs) hk hb).1
      rw [hb] at hj
      simp only at hj
      rw [← hz, if_neg z] at hj
      have hz2 := state_le R.le2 (D.placeOf (e / 8) k)
      rw [← hz] at hz2
      unfold Plait.Panel.squares at htl
      have y0 : (0 : Int) ≤ ((e / 8 / D.wide : Nat) : Int) := Int.natCast_nonneg _
      refine ⟨_, rfl, a.p_SIDE_STEPS, _, _, _, rfl, rfl, T.q_SIDE_STEPS _, at_of (j := k) ek hq1, ?_⟩
      refine ⟨_, rfl, _, rfl, sq, _, _, _, rfl, rfl, hq2 _, atI_nat (j := 1) rfl, _, _, rfl, rfl, _, rfl, p, _, dx, _, _, rfl, hp, T.c_Panel, T.n_Panel_wide, rfl, _, _, rfl, rfl, .inl ⟨by rw [ey]; omega, by rw [ey]; omega⟩, _, rfl, _, _, rfl, rfl, _, rfl, sq, _, _, _, rfl, rfl, hq2 _, atI_nat (j := 0) rfl, _, _, rfl, rfl, ?_⟩
      refine ⟨_, rfl, _, rfl, _, _, rfl, rfl, _, _, rfl, rfl, (by show (0 : Int) < 4; decide), _, rfl, rfl, _, rfl, ite2 (fun c => ?_) (fun c => ?_)⟩
      · have z0 : sideXY D (e / 8 % D.wide) (e / 8 / D.wide) k = 0 := vi (n := 0) (db c)
        refine ⟨_, rfl, t, (k + 2) % 4, decide (e % 2 = 0), ?_, by omega, by omega, ?_⟩
        · show [V.int (((e : Int) / 8 / (D.wide : Int) + sy) * (D.wide : Int) + (e : Int) / 8 % (D.wide : Int) + sx), V.int ((((e : Int) % 8 / 2 + (e : Int) % 2) % 4 + 2) % 4), V.bl (decide (V.int ((e : Int) % 2) = V.int 0))] = _
          rw [ex, ey, ek, eb, ht]; rfl
        · rw [if_neg (by omega)] at hj
          rw [hj] at q
          exact q
      · have z0 : sideXY D (e / 8 % D.wide) (e / 8 / D.wide) k ≠ 0 := fun e' => db' c (by rw [e']; rfl)
        refine ⟨_, rfl, _, rfl, t, (k + 2) % 4, !decide (e % 2 = 0), ?_, by omega, by omega, ?_⟩
        · show [V.int (((e : Int) / 8 / (D.wide : Int) + sy) * (D.wide : Int) + (e : Int) / 8 % (D.wide : Int) + sx), V.int ((((e : Int) % 8 / 2 + (e : Int) % 2) % 4 + 2) % 4), V.bl (!decide (V.int ((e : Int) % 2) = V.int 0))] = _
          rw [ex, ey, ek, eb, ht]; rfl
        · rw [if_pos (by omega)] at hj
          rw [hj] at q
          exact q
end Pnl

set_option Elab.async false
set_option maxRecDepth 100000
set_option maxHeartbeats 2000000
set_option linter.all false
namespace Pnl
open PySem PySem.Spec PyProof.Rows L2 PM
variable {P : Program} {w : World} {K : PySem.W.Frag} {mg : Str → Option Value} {base : Heap} {a : Ad}
theorem xor_one (e : Nat) : Nat.xor e 1 = Plait.otherEnd e := by
  show e ^^^ 1 = _
  have e1 : (e ^^^ 1) / 2 = (e / 2) ^^^ (1 / 2) := by simpa using Nat.xor_div_two_pow (n := 1) (a := e) (b := 1)
  have f1 : (e ^^^ 1) % 2 = (e % 2) ^^^ (1 % 2) := by simpa using Nat.xor_mod_two_pow (n := 1) (a := e) (b := 1)
  rw [show (1 : Nat) / 2 = 0 from rfl, Nat.xor_zero] at e1
  unfold Plait.otherEnd
  rcases Nat.mod_two_eq_zero_or_one e with p | p
  · rw [p] at f1
    have f2 : (e ^^^ 1) % 2 = 1 := f1
    rw [if_pos p]
    omega
  · rw [p] at f1
    have f2 : (e ^^^ 1) % 2 = 0 := f1
    rw [if_neg (by omega)]
    omega
/-- a dict that holds these numbers -/
def Seen (H : Hp) (d : Addr) (L : Nat) (S : Nat → Prop) : Prop := ∃ kvs, H d = some (.dK kvs) ∧ kvs.length ≤ L ∧ ∀ i : Nat, (valV kvs (Sum.inl (i : Int))).isSome = true ↔ S i
theorem Seen.iff {H : Hp} {d : Addr} {L : Nat} {S S' : Nat → Prop} (h : Seen H d L S) (e : ∀ i, S i ↔ S' i) : Seen H d L S' := by
  obtain ⟨kvs, h1, h2, h3⟩ := h
  exact ⟨kvs, h1, h2, fun i => (h3 i).trans (e i)⟩
theorem Seen.le {H : Hp} {d : Addr} {L L' : Nat} {S : Nat → Prop} (h : Seen H d L S) (e : L ≤ L') : Seen H d L' S := by
  obtain ⟨kvs, h1, h2, h3⟩ := h
  exact ⟨kvs, h1, Nat.le_trans h2 e, h3⟩
theorem PanAt.but1 {H H' : Hp} {p d : Addr} {D : Plait.Panel} {kvs : List (Key × V)} (h : PanAt a H p D) (b : But1 d H H') (hd : H d = some (.dK kvs)) : PanAt a H' p D := by
  obtain ⟨dx, l, h1, h2⟩ := h
  exact ⟨dx, l, b _ _ h1 (ne_of h1 hd (by intro z; cases z)), b _ _ h2 (ne_of h2 hd (by intro z; cases z))⟩
def FInv (D : Plait.Panel) (H : Hp) (p d : Addr) (piece L : Nat) (S : Nat → Prop) (m : Nat) (σ : L2.St) (H' : Hp) : Prop :=
  ∃ k : Nat, m = D.pieces - k ∧ k ≤ D.pieces ∧ σ = [some (.ref p), some (.int (piece : Nat)), some (.ref d), some (.int ((it D.joined k (2 * piece) : Nat) : Int))] ∧ But1 d H H' ∧ Seen H' d (L + k) (fun q => S q ∨ ∃ i, i < k ∧ it D.joined i (2 * piece) / 2 = q) ∧
    ∀ i1 i2, i1 < i2 → i2 < k → it D.joined i1 (2 * piece) / 2 ≠ it D.joined i2 (2 * piece) / 2
def spFollow (a : Ad) : Sp := fun vs H Q _ => ∃ (p d : Addr) (D : Plait.Panel) (piece L : Nat) (S : Nat → Prop), vs = [.ref p, .int (piece : Nat), .ref d] ∧ PanAt a H p D ∧ Right D ∧ piece < D.pieces ∧ Seen H d L S ∧ L ≤ 90000 ∧ ¬ S piece ∧ (∀ i j, i < D.pieces → S i → Lk D.joined i j → S j) ∧
  ∀ H', But1 d H H' → Seen H' d (L + D.pieces) (fun q => S q ∨ Lk D.joined piece q) → Q .non H'
theorem pieces_le {D : Plait.Panel} (R : Right D) : D.pieces ≤ 256 := by
  have : D.wide * D.high ≤ 8 * 8 := Nat.mul_le_mul R.w8 R.h8
  unfold Plait.Panel.pieces Plait.Panel.squares
  omega
theorem ok_follow_strand (T : Txt K mg a) : FnOk P w K mg base CX0 5 a.f_follow_strand a.d_follow_strand ["panel", "piece", "seen"] (spFollow a) := by
  have nd := sc_follow_strand.nd
  refine T.f_follow_strand.ok sc_follow_strand (fun vs H Q E h => ?_) (fun cdv A outer s H vs Q E hr h => ?_)
  · obtain ⟨p, d, D, piece, L, S, rfl, _⟩ := h
    rfl
  · obtain ⟨p, d, D, piece, L, S, rfl, hP, R, hpc, hSeen, hL, hnS, hcl, q⟩ := h
    have J := joins R.w1 R.w8 R.h1 R.h8
    have h256 := pieces_le R
    have hSeen0 := hSeen
    obtain ⟨kvs0, hd0, hl0, hv0⟩ := hSeen0
    refine ⟨_, (pss_cons (ps_set (i := 3) nd rfl (by first | exact Or.inl rfl | exact Or.inr rfl) (pe_op op_mul pe_int (pv 1)))
        (pss_one (ps_while PassesOwn.never (pt_cmp (pc_dnotin (hu_of hr) (pe_op op_fdiv (pv 3) pe_int) (pv 2))) (pss_cons (ps_dput (hu_of hr) (pv 2) (pe_op op_fdiv (pv 3) pe_int) pe_bl rfl)
        (pss_one (ps_set (i := 3) nd rfl (by first | exact Or.inl rfl | exact Or.inr rfl) (pe_call (ok_joined_end T) (hr.mono (by decide)) (by rfl) T.m_joined_end T.f_joined_end.kp T.b_joined_end .nil pass0 (pa_cons (pv 0) (pa_cons (pe_op op_xor (pv 3) pe_int) pa_nil))))))))), ?_⟩
    refine ⟨_, rfl, _, _, rfl, rfl, .inl ⟨by decide, by decide⟩, ?_⟩
    refine ⟨FInv D H p d piece L S, ⟨_, 0, rfl, Nat.zero_le _, ?_, (Same.refl H).but, hSeen.iff fun i => ⟨.inl, fun z => z.elim id fun ⟨i, hi, _⟩ => absurd hi (Nat.not_lt_zero _)⟩, fun i1 i2 _ h => absurd h (Nat.not_lt_zero _)⟩, ?_⟩
    · show [_, _, _, some (V.int (2 * (piece : Int)))] = [_, _, _, some (V.int ((2 * piece : Nat) : Int))]
      rw [show ((2 * piece : Nat) : Int) = 2 * (piece : Int) from by omega]
    rintro m σ H' ⟨k, rfl, hk, rfl, b1, ⟨kvs, hd, hl, hv⟩, hdist⟩
    have he := J.it_lt k (e := 2 * piece) (by omega)
    have hek : ∃ e, e = it D.joined k (2 * piece) := ⟨_, rfl⟩
    obtain ⟨e, hek⟩ := hek
    rw [← hek] at he ⊢
    have e2 : (e : Int) / 2 = ((e / 2 : Nat) : Int) := by omega
    refine ⟨_, rfl, _, _, rfl, rfl, ⟨by decide, by decide⟩, _, rfl, d, _, rfl, DGet.k (k := Sum.inl ((e : Int) / 2)) hd, _, rfl, ite2 (fun c => ?_) (fun c => ?_)⟩
    · rw [e2] at c
      have hns : ¬ (S (e / 2) ∨ ∃ i, i < k ∧ it D.joined i (2 * piece) / 2 = e / 2) := fun z => by
        rw [(hv (e / 2)).mpr z] at c
        cases c
      have hdist' : ∀ i1 i2, i1 < i2 → i2 < k + 1 → it D.joined i1 (2 * piece) / 2 ≠ it D.joined i2 (2 * piece) / 2 := fun i1 i2 h1 h2 z => by
        by_cases h3 : i2 < k
        · exact hdist i1 i2 h1 h3 z
        · have : i2 = k := by omega
          subst this
          exact hns (.inr ⟨i1, h1, by rw [hek]; exact z⟩)
      have hkN : k < D.pieces := by
        by_cases z : k < D.pieces
        · exact z
        · obtain ⟨x, y, hxy, hy, exy⟩ := pigeon D.pieces (fun i => it D.joined i (2 * piece) / 2) (fun i _ => by have := J.it_lt i (e := 2 * piece) (by omega); show it D.joined i (2 * piece) / 2 < D.pieces; omega)
          exact absurd exy (hdist' x y hxy (by omega))
      refine ⟨fun σ' H'' => ∃ m', m' < D.pieces - k ∧ FInv D H p d piece L S m' σ' H'', fun σ' H'' z => z, ?_⟩
      refine ⟨_, rfl, _, rfl, _, _, rfl, rfl, ⟨by decide, by decide⟩, d, _, rfl, DPut.k (k := Sum.inl ((e : Int) / 2)) hd (line_lt' (by omega)), ?_⟩
      rw [e2]
      have b2 : But1 d H' (upd H' d (.dK (putK kvs (Sum.inl ((e / 2 : Nat) : Int)) (.bl true)))) := But1.upd
      have f2 : (upd H' d (.dK (putK kvs (Sum.inl ((e / 2 : Nat) : Int)) (.bl true)))) d = some (.dK (putK kvs (Sum.inl ((e / 2 : Nat) : Int)) (.bl true))) := upd_same
      generalize upd H' d _ = H2 at b2 f2 ⊢
      refine ⟨_, rfl, _, rfl, _, _, rfl, rfl, p, D, Plait.otherEnd e, ?_, hP.but1 (b1.trans b2) hd0, R, oe_lt he, ?_⟩
      · show [V.ref p, V.int (Builtin.bitXor (e : Int) 1)] = _
        rw [show (1 : Int) = ((1 : Nat) : Int) from rfl, bit_xor, xor_one]
      refine ⟨_, ?_, k + 1, rfl, hkN, ?_, b1.trans b2, ⟨_, f2, ?_, fun i => ?_⟩, hdist'⟩
      · omega
      · rw [it_succ, ← hek]
        rfl
      · have := length_putK kvs (Sum.inl ((e / 2 : Nat) : Int)) (.bl true)
        omega
      · rw [valV_put]
        by_cases z : i = e / 2
        · rw [if_pos (by rw [z])]
          exact ⟨fun _ => .inr ⟨k, by omega, by rw [← hek]; exact z.symm⟩, fun _ => rfl⟩
        · rw [if_neg (by intro z2; injection z2 with z2; exact z (by omega)), hv i]
          constructor
          · rintro (h1 | ⟨i', h1, h2⟩)
            · exact .inl h1
            · exact .inr ⟨i', by omega, h2⟩
          · rintro (h1 | ⟨i', h1, h2⟩)
            · exact .inl h1
            · refine .inr ⟨i', ?_, h2⟩
              by_cases h3 : i' < k
              · exact h3
              · have : i' = k := by omega
                subst this
                rw [← hek] at h2
                exact absurd h2.symm z
    · rw [e2] at c
      have hin : S (e / 2) ∨ ∃ i, i < k ∧ it D.joined i (2 * piece) / 2 = e / 2 := by
        refine (hv (e / 2)).mp ?_
        cases hz : (valV kvs (Sum.inl ((e / 2 : Nat) : Int))).isSome with
        | true => rfl
        | false => rw [hz] at c; exact absurd rfl c
      have hlk : Lk D.joined piece (e / 2) := ⟨k, by rw [← hek]⟩
      refine q H' b1 ((Seen.le ⟨kvs, hd, hl, hv⟩ (by omega)).iff fun x => ?_)
      rcases hin with h1 | ⟨i, hi, h2⟩
      · exact absurd (hcl _ _ (by omega) h1 (J.symm hpc hlk)) hnS
      · have hper : it D.joined (k - i) (2 * piece) = 2 * piece := by
          have hil := J.it_lt i (e := 2 * piece) (by omega)
          have ek : it D.joined k (2 * piece) = it D.joined (k - i) (it D.joined i (2 * piece)) := by rw [← it_add]; congr 1; omega
          rw [hek] at h2
          rcases piece_cases h2 with z | z
          · refine J.it_inj i (J.it_lt _ (by omega)) (by omega) ?_
            rw [← it_add, show k - i + i = k from by omega]
            exact z
          · rw [ek] at z
            exact absurd z (J.apart _ hil)
        constructor
        · rintro (h3 | ⟨i', h3, h4⟩)
          · exact .inl h3
          · exact .inr ⟨i', h4⟩
        · rintro (h3 | ⟨m', h4⟩)
          · exact .inl h3
          · refine .inr ⟨m' % (k - i), ?_, ?_⟩
            · have := Nat.mod_lt m' (show 0 < k - i by omega)
              omega
            · rw [← it_mod hper]; exact h4
def spStrands (a : Ad) : Sp := fun vs H Q _ => ∃ (p : Addr) (D : Plait.Panel), vs = [.ref p] ∧ PanAt a H p D ∧ Right D ∧ ∀ H', Same H H' → Q (.int ((D.traced.count : Nat) : Int)) H'
theorem ok_strand_count (T : Txt K mg a) : FnOk P w K mg base CX0 6 a.f_strand_count a.d_strand_count ["panel"] (spStrands a) := by
  have nd := sc_strand_count.nd
  refine T.f_strand_count.ok sc_strand_count (fun vs H Q E h => ?_) (fun cdv A outer s H vs Q E hr h => ?_)
  · obtain ⟨p, D, rfl, _⟩ := h
    rfl
  · obtain ⟨p, D, rfl, hP, R, q⟩ := h
    have J := joins R.w1 R.w8 R.h1 R.h8
    have h256 := pieces_le R
    have hP0 := hP
    obtain ⟨dx, l, hp, hl⟩ := hP0
    have w8 := R.w8
    have h8 := R.h8
    have en : 4 * (D.wide : Int) * (D.high : Int) = ((D.pieces : Nat) : Int) := by
      unfold Plait.Panel.pieces Plait.Panel.squares
      rw [Int.natCast_mul, Int.natCast_mul, Int.mul_assoc]
      rfl
    rw [headsTo_all J] at q
    refine ⟨_, (pss_cons (ps_set (i := 1) nd rfl (by first | exact Or.inl rfl | exact Or.inr rfl) pe_dnewK)
        (pss_cons (ps_set (i := 2) nd rfl (by first | exact Or.inl rfl | exact Or.inr rfl) pe_int)
        (pss_cons (ps_for PassesOwn.never rfl (pi_range1 (by rfl) T.no_range (pa_cons (pe_op op_mul (pe_op op_mul pe_int (pe_fld (pv 0) rfl)) (pe_fld (pv 0) rfl)) pa_nil)) (pg_name (i := 3) nd rfl (by first | exact Or.inl rfl | exact Or.inr rfl)) (pss_one (ps_if (pt_cmp (pc_dnotin (hu_of hr) (pv 3) (pv 1))) (pss_cons (ps_expr (pe_call (ok_follow_strand T) (hr.mono (by decide)) (by rfl) T.m_follow_strand T.f_follow_strand.kp T.b_follow_strand .nil pass0 (pa_cons (pv 0) (pa_cons (pv 3) (pa_cons (pv 1) pa_nil)))))
        (pss_one (ps_aug (i := 2) nd rfl (by first | exact Or.inl rfl | exact Or.inr rfl) pe_int ip_add))) pss_nil)))
        (pss_one (ps_ret (pv 2)))))), ?_⟩
    refine fun d hd => ?_
    have t1 : Same H (upd H d (.dK [])) := Same.new hd
    have f1 : (upd H d (.dK [])) d = some (.dK []) := upd_same
    generalize upd H d _ = H1 at t1 f1 ⊢
    refine ⟨_, rfl, p, _, dx, _, _, rfl, t1 _ _ hp, T.c_Panel, T.n_Panel_wide, rfl, _, _, rfl, rfl, .inl ⟨by decide, by decide⟩, _, rfl, p, _, dx, _, _, rfl, t1 _ _ hp, T.c_Panel, T.n_Panel_high, rfl, _, _, rfl, rfl, .inl ⟨by omega, by omega⟩, 4 * (D.wide : Int) * (D.high : Int), rfl, by rw [en]; omega, by rw [en]; omega,
      for_range (n := (4 * (D.wide : Int) * (D.high : Int)).toNat) (fun i σ H' => ∃ v, σ = [some (.ref p), some (.ref d), some (.int ((headsTo D i : Nat) : Int)), v] ∧ Same H H' ∧ Seen H' d (i * 256) (fun x => ∃ y, y < i ∧ Lk D.joined y x)) ?_ ?_ ?_⟩
    · exact ⟨Option.none, rfl, t1, [], f1, Nat.zero_le _, fun i => ⟨fun z => (by cases z), fun ⟨y, hy, _⟩ => absurd hy (Nat.not_lt_zero _)⟩⟩
    · rintro i σ H' hi ⟨v, rfl, s2, ⟨kvs, hdk, hlk, hv⟩⟩
      rw [en, Int.toNat_natCast] at hi
      refine ⟨_, rfl, _, rfl, d, _, rfl, DGet.k (k := Sum.inl (0 + (i : Int))) hdk, _, rfl, ite2 (fun c => ?_) (fun c => ?_)⟩
      · rw [show (0 : Int) + (i : Int) = (i : Int) from by omega] at c ⊢
        have hno : ¬ ∃ y, y < i ∧ Lk D.joined y i := fun z => by
          rw [(hv i).mpr z] at c
          cases c
        have hhead : Head D i := fun x hx => Nat.not_lt.mp fun z => hno ⟨x, z, J.symm hi hx⟩
        refine ⟨_, rfl, _, rfl, _, rfl, p, d, D, i, i * 256, (fun x => ∃ y, y < i ∧ Lk D.joined y x), rfl, hP.same s2, R, hi, ⟨kvs, hdk, hlk, hv⟩, by omega, hno, ?_, fun H3 b3 hs3 => ?_⟩
        · rintro x z hx ⟨y, hy, hyx⟩ hxz
          exact ⟨y, hy, J.trans (by omega) hyx hxz⟩
        refine ⟨_, rfl, _, _, rfl, rfl, ?_⟩
        refine ⟨some (.int (i : Int)), ?_, fun b o hb => b3 _ _ (s2 _ _ hb) (ne_of_none hb hd), (hs3.le (by omega)).iff fun x => ?_⟩
        · rw [headsTo_succ.1 hhead]
          rfl
        · constructor
          · rintro (⟨y, hy, h1⟩ | h1)
            · exact ⟨y, by omega, h1⟩
            · exact ⟨i, by omega, h1⟩
          · rintro ⟨y, hy, h1⟩
            by_cases z : y < i
            · exact .inl ⟨y, z, h1⟩
            · have : y = i := by omega
              subst this
              exact .inr h1
      · rw [show (0 : Int) + (i : Int) = (i : Int) from by omega] at c ⊢
        have hyes : ∃ y, y < i ∧ Lk D.joined y i := by
          refine (hv i).mp ?_
          cases hz : (valV kvs (Sum.inl (i : Int))).isSome with
          | true => rfl
          | false => rw [hz] at c; exact absurd rfl c
        obtain ⟨y, hy, hyi⟩ := hyes
        have hnh : ¬ Head D i := fun z => by
          have := z y (J.symm (by omega) hyi)
          omega
        refine ⟨some (.int (i : Int)), ?_, s2, (Seen.le ⟨kvs, hdk, hlk, hv⟩ (by omega)).iff fun x => ?_⟩
        · rw [headsTo_succ.2 hnh]
          rfl
        · constructor
          · rintro ⟨y', hy', h1⟩
            exact ⟨y', by omega, h1⟩
          · rintro ⟨y', hy', h1⟩
            by_cases z : y' < i
            · exact ⟨y', z, h1⟩
            · have : y' = i := by omega
              subst this
              exact ⟨y, hy, J.trans (by omega) hyi h1⟩
    · rintro σ H' ⟨v, rfl, s2, _⟩
      refine ⟨_, rfl, ?_⟩
      rw [en, Int.toNat_natCast]
      exact q H' s2
end Pnl

set_option Elab.async false
set_option maxRecDepth 100000
set_option maxHeartbeats 2000000
set_option linter.all false
namespace Pnl
open PySem PySem.Spec PyProof.Rows L2 PM
open Plait (Done Sess)
open PlaitS (Rec Reply says gives tells State Call changed does begun)
variable {P : Program} {w : World} {K : PySem.W.Frag} {mg : Str → Option Value} {base : Heap} {a : Ad}
/-! ### the record -/
def rf (v : V) : List (Str × V) := [("journal", v)]
def RecAt (a : Ad) (H : Hp) (r : Addr) : State → Prop
  | .none => ∃ dx, H r = some (.ins a.c_Record dx (rf .non))
  | .some R => ∃ dx j q B xs n, H r = some (.ins a.c_Record dx (rf (.ref j))) ∧ JourAt a H j q B xs n R.plain ∧ R.sess = ses B xs n
theorem RecAt.obj {H : Hp} {r : Addr} {st : State} (h : RecAt a H r st) : ∃ dx v, H r = some (.ins a.c_Record dx (rf v)) := by
  cases st with
  | none => obtain ⟨dx, h⟩ := h; exact ⟨dx, _, h⟩
  | some R => obtain ⟨dx, j, q, B, xs, n, h, _⟩ := h; exact ⟨dx, _, h⟩
theorem RecAt.same {H H' : Hp} {r : Addr} {st : State} (h : RecAt a H r st) (s : Same H H') : RecAt a H' r st := by
  cases st with
  | none => obtain ⟨dx, h⟩ := h; exact ⟨dx, s _ _ h⟩
  | some R => obtain ⟨dx, j, q, B, xs, n, h, hJ, e⟩ := h; exact ⟨dx, j, q, B, xs, n, s _ _ h, hJ.same s, e⟩
theorem ne_rec {H : Hp} {r j q : Addr} {dx : Addr} {v : V} {B : Plait.Panel} {xs : List Done} {n : Nat} {plain : Plait.Bytes} (hr : H r = some (.ins a.c_Record dx (rf v))) (h : JourAt a H j q B xs n plain) : r ≠ j ∧ r ≠ q := by
  obtain ⟨dx1, h1⟩ := h.ex
  obtain ⟨dx2, lp, ls, ps, cs, h2, _⟩ := h.s.ex
  exact ⟨ne_of hr h1 (by intro z; injection z with _ _ z; injection z with z _; injection z with z _; revert z; decide), ne_of hr h2 (by intro z; injection z with _ _ z; injection z with z _; injection z with z _; revert z; decide)⟩
/-- the journal put into the record -/
theorem RecAt.put {H : Hp} {r j q : Addr} {dx : Addr} {v : V} {B : Plait.Panel} {xs : List Done} {n : Nat} {plain : Plait.Bytes} (hr : H r = some (.ins a.c_Record dx (rf v))) (h : JourAt a H j q B xs n plain) :
    RecAt a (upd H r (.ins a.c_Record dx (rf (.ref j)))) r (some ⟨ses B xs n, plain⟩) ∧ Keep H (upd H r (.ins a.c_Record dx (rf (.ref j)))) := by
  obtain ⟨n1, n2⟩ := ne_rec hr h
  have b : But1 r H (upd H r (.ins a.c_Record dx (rf (.ref j)))) := But1.upd
  have k : Keep H (upd H r (.ins a.c_Record dx (rf (.ref j)))) := b.keep hr rfl
  refine ⟨⟨dx, j, q, B, xs, n, upd_same, ⟨?_, ?_⟩, rfl⟩, k⟩
  · obtain ⟨dx1, h1⟩ := h.ex
    exact ⟨dx1, b _ _ h1 (Ne.symm n1)⟩
  · exact h.s.keep k fun o ho => b _ _ ho (Ne.symm n2)
def Ans (a : Ad) (H : Hp) (r : Addr) (st : State) (rep : Reply) (Q : VK) : Prop := ∀ H' l, Keep H H' → RecAt a H' r st → H' l = some (.lst ((repInts rep).map V.int)) → (repInts rep).length ≤ 1000 → Q (.ref l) H'
theorem Ans.says {H H1 : Hp} {r l : Addr} {st : State} {z : Int} {Q : VK} (A : Ans a H r st (says z) Q) (hR : RecAt a H1 r st) (k : Keep H H1) (hl : H1 l = Option.none) : Q (.ref l) (upd H1 l (.lst [.int z])) :=
  A _ l (k.trans (Same.new hl).keep) (hR.same (Same.new hl)) upd_same (by show 1 ≤ 1000; decide)
theorem one_line : 1 ≤ sizeLine := by decide
theorem sess_new {H : Hp} {p dx lp ls pan : Addr} {D : Plait.Panel} (R : Right D) (g1 : H p = some (.ins a.c_Session dx (sf lp ls 0))) (g2 : H lp = some (.lst [.ref pan])) (g3 : H ls = some (.lst [])) (hP : PanAt a H pan D) : SessAt a H p D [] 0 := by
  refine ⟨⟨dx, lp, ls, [pan], [], g1, g2, g3, ⟨rfl, fun i hi => ?_⟩, ⟨rfl, fun i x hi => by cases hi⟩⟩, R, by decide, by decide⟩
  have : i = 0 := by simpa using hi
  subst this
  exact ⟨D, pan, rfl, rfl, hP⟩
def spRecInit (a : Ad) : Sp := fun vs H Q _ => ∃ (p dx : Addr), vs = [.ref p] ∧ H p = some (.ins a.c_Record dx []) ∧ Q .non (upd H p (.ins a.c_Record dx (rf .non)))
theorem ok_Record_init (T : Txt K mg a) : FnOk P w K mg base CX0 1 a.f_Record_init a.d_Record_init ["self"] (spRecInit a) := by
  have nd := sc_Record_init.nd
  refine T.f_Record_init.ok sc_Record_init (fun vs H Q E h => ?_) (fun cdv A outer s H vs Q E hr h => ?_)
  · obtain ⟨p, dx, rfl, _⟩ := h
    rfl
  · obtain ⟨p, dx, rfl, hp, q⟩ := h
    refine ⟨_, (pss_one (ps_fld (pv 0) pe_non rfl)), ?_⟩
    exact ⟨_, rfl, p, _, dx, [], rfl, hp, T.c_Record, T.n_Record_journal, by decide, q⟩
def spCounted : Sp := fun vs H Q _ => ∃ (l : Addr) (xs : List V), vs = [.ref l] ∧ H l = some (.lst xs) ∧ xs.length ≤ 90000 ∧ ∀ H' l', Same H H' → H' l' = some (.lst (.int (xs.length : Nat) :: xs)) → Q (.ref l') H'
theorem ok_counted (T : Txt K mg a) : FnOk P w K mg base CX0 1 a.f_counted a.d_counted ["numbers"] spCounted := by
  have nd := sc_counted.nd
  refine T.f_counted.ok sc_counted (fun vs H Q E h => ?_) (fun cdv A outer s H vs Q E hr h => ?_)
  · obtain ⟨l, xs, rfl, _⟩ := h
    rfl
  · obtain ⟨l, xs, rfl, hl, hx, q⟩ := h
    refine ⟨_, (pss_one (ps_ret (pe_op op_cat (pe_lst (pa_cons (pe_callB call_len_seq (by rfl) T.no_len PySem.boot_len (pa_cons (pv 0) pa_nil)) pa_nil)) (pv 0)))), ?_⟩
    refine ⟨_, rfl, l, _, rfl, .inl (SqL.of hl), one_line, fun l1 hl1 => ?_⟩
    refine ⟨_, rfl, l1, l, _, _, rfl, rfl, upd_same, Same.new hl1 _ _ hl, line_lt (by show 1 + _ ≤ _; omega), fun l2 hl2 => ?_⟩
    exact q _ l2 ((Same.new hl1).trans (Same.new hl2)) upd_same
def spBegin (K : PySem.W.Frag) (a : Ad) : Sp := fun vs H Q _ => ∃ (r l : Addr) (b : Plait.Bytes) (st : State), vs = [.ref r, .ref l] ∧ RecAt a H r st ∧ SqL K H l (vB b) ∧ Ans a H r (PlaitS.step st (.begin_ b)).1 (PlaitS.step st (.begin_ b)).2 Q
theorem ok_Record_begin (T : Txt K mg a) : FnOk P w K mg base CX0 6 a.f_Record_begin a.d_Record_begin ["self", "numbers"] (spBegin K a) := by
  have nd := sc_Record_begin.nd
  refine T.f_Record_begin.ok sc_Record_begin (fun vs H Q E h => ?_) (fun cdv A outer s H vs Q E hr h => ?_)
  · obtain ⟨r, l, b, st, rfl, _⟩ := h
    rfl
  · obtain ⟨r, l, b, st, rfl, hR, hl, q⟩ := h
    obtain ⟨dxr, vr, hrec⟩ := hR.obj
    have hst : PlaitS.step st (.begin_ b) = if PlaitS.LOOKED < b.length then (st, says (-2)) else (match Plait.judge b with
      | .error _ => (st, says (-6))
      | .ok D => (some (begun ⟨D, [], []⟩), says 0)) := rfl
    rw [hst] at q
    refine ⟨_, (pss_cons (ps_if (pt_cmpR op_gt (pe_callB call_len_seq (by rfl) T.no_len PySem.boot_len (pa_cons (pv 1) pa_nil)) (pe_glob (v := .int (1024)) (by rfl) T.g_MOST_PANEL_BYTES ⟨_, rfl⟩) (nomark _)) (pss_one (ps_ret (pe_lst (pa_cons (pe_glob (v := .int (-2)) (by rfl) T.g_TOO_LONG ⟨_, rfl⟩) pa_nil)))) pss_nil)
        (pss_cons (ps_set (i := 2) nd rfl (by first | exact Or.inl rfl | exact Or.inr rfl) (pe_call (ok_read_panel T) (hr.mono (by decide)) (by rfl) T.m_read_panel T.f_read_panel.kp T.b_read_panel .nil pass0 (pa_cons (pv 1) pa_nil)))
        (pss_cons (ps_if (pt_cmpR op_isN (pv 2) pe_non (nomark _)) (pss_one (ps_ret (pe_lst (pa_cons (pe_glob (v := .int (-6)) (by rfl) T.g_NO_PANEL ⟨_, rfl⟩) pa_nil)))) pss_nil)
        (pss_cons (ps_fld (pv 0) (pe_call (ok_begun_journal T) (hr.mono (by decide)) (by rfl) T.m_begun_journal T.f_begun_journal.kp T.b_begun_journal .nil pass0 (pa_cons (pe_make T.mk_Session (ok_Session_init T) (hr.mono (by decide)) (by rfl) T.m_Session T.b_Session_init .nil pass0 (pa_cons (pv 2) pa_nil)) pa_nil)) rfl)
        (pss_one (ps_ret (pe_lst (pa_cons pe_int pa_nil)))))))), ?_⟩
    refine ⟨_, rfl, l, _, rfl, .inl hl, _, _, rfl, rfl, _, rfl, ite2 (fun c => ?_) (fun c => ?_)⟩
    · have c' : (1024 : Int) < ((vB b).length : Int) := db c
      rw [vB_len] at c'
      rw [if_pos (by unfold PlaitS.LOOKED; omega)] at q
      exact ⟨one_line, fun l1 hl1 => q.says hR (Same.refl H).keep hl1⟩
    have c' : ¬ (1024 : Int) < ((vB b).length : Int) := db' c
    rw [vB_len] at c'
    rw [if_neg (by unfold PlaitS.LOOKED; omega)] at q
    refine ⟨_, rfl, l, b, rfl, hl, fun H1 s1 hno => ?_, fun H1 pan D s1 hj hP1 => ?_⟩
    · refine ⟨_, rfl, rfl, _, rfl, ite2 (fun k => ?_) (fun k => absurd (decide_eq_true rfl) k)⟩
      cases hj : Plait.judge b with
      | ok D => exact absurd hj (hno D)
      | error e =>
        rw [hj] at q
        exact ⟨one_line, fun l1 hl1 => q.says (hR.same s1) s1.keep hl1⟩
    · refine ⟨_, rfl, rfl, _, rfl, ite2 (fun k => absurd (db k) (by intro z; cases z)) (fun k => ?_)⟩
      rw [hj] at q
      have RD := ((judge_iff _ _).mp hj).2
      refine ⟨_, rfl, fun x dx hx hdx hne => ⟨x, dx, _, rfl, upd_same, fun H2 lp ls b2 g1 g2 g3 => ⟨rfl, ?_⟩⟩⟩
      have t2 : Same H1 H2 := b2.from (Same.put (o := .ins a.c_Session dx []) hx (Same.new (o := .own x) hdx)) hx
      refine ⟨x, D, [], 0, rfl, sess_new RD g1 g2 g3 (hP1.same t2), fun H3 j s3 nj hJ => ?_⟩
      have u3 : Same H H3 := (s1.trans t2).trans s3
      refine ⟨_, rfl, r, _, dxr, _, rfl, u3 _ _ hrec, T.c_Record, T.n_Record_journal, (by show 1 < 1000; decide), ?_⟩
      obtain ⟨R4, k4⟩ := RecAt.put (u3 _ _ hrec) hJ
      exact ⟨one_line, fun l1 hl1 => q.says R4 (u3.keep.trans k4) hl1⟩
def spLoad (K : PySem.W.Frag) (a : Ad) : Sp := fun vs H Q _ => ∃ (r l : Addr) (b : Plait.Bytes) (st : State), vs = [.ref r, .ref l] ∧ RecAt a H r st ∧ SqL K H l (vB b) ∧ Ans a H r (PlaitS.step st (.load b)).1 (PlaitS.step st (.load b)).2 Q
theorem ok_Record_load (T : Txt K mg a) : FnOk P w K mg base CX0 8 a.f_Record_load a.d_Record_load ["self", "numbers"] (spLoad K a) := by
  have nd := sc_Record_load.nd
  refine T.f_Record_load.ok sc_Record_load (fun vs H Q E h => ?_) (fun cdv A outer s H vs Q E hr h => ?_)
  · obtain ⟨r, l, b, st, rfl, _⟩ := h
    rfl
  · obtain ⟨r, l, b, st, rfl, hR, hl, q⟩ := h
    obtain ⟨dxr, vr, hrec⟩ := hR.obj
    have hst : PlaitS.step st (.load b) = if PlaitS.LONG < b.length then (st, says (-2)) else (match Plait.sessionIn b with
      | .none => (st, says (-9))
      | .some u => (some (begun u), says 0)) := rfl
    rw [hst] at q
    refine ⟨_, (pss_cons (ps_if (pt_cmpR op_gt (pe_callB call_len_seq (by rfl) T.no_len PySem.boot_len (pa_cons (pv 1) pa_nil)) (pe_glob (v := .int (65536)) (by rfl) T.g_MOST_BYTES ⟨_, rfl⟩) (nomark _)) (pss_one (ps_ret (pe_lst (pa_cons (pe_glob (v := .int (-2)) (by rfl) T.g_TOO_LONG ⟨_, rfl⟩) pa_nil)))) pss_nil)
        (pss_cons (ps_set (i := 2) nd rfl (by first | exact Or.inl rfl | exact Or.inr rfl) (pe_call (ok_read_session T) (hr.mono (by decide)) (by rfl) T.m_read_session T.f_read_session.kp T.b_read_session .nil pass0 (pa_cons (pv 1) pa_nil)))
        (pss_cons (ps_if (pt_cmpR op_isN (pv 2) pe_non (nomark _)) (pss_one (ps_ret (pe_lst (pa_cons (pe_glob (v := .int (-9)) (by rfl) T.g_WRONG_BYTES ⟨_, rfl⟩) pa_nil)))) pss_nil)
        (pss_cons (ps_fld (pv 0) (pe_call (ok_begun_journal T) (hr.mono (by decide)) (by rfl) T.m_begun_journal T.f_begun_journal.kp T.b_begun_journal .nil pass0 (pa_cons (pv 2) pa_nil)) rfl)
        (pss_one (ps_ret (pe_lst (pa_cons pe_int pa_nil)))))))), ?_⟩
    refine ⟨_, rfl, l, _, rfl, .inl hl, _, _, rfl, rfl, _, rfl, ite2 (fun c => ?_) (fun c => ?_)⟩
    · have c' : (65536 : Int) < ((vB b).length : Int) := db c
      rw [vB_len] at c'
      rw [if_pos (by unfold PlaitS.LONG; omega)] at q
      exact ⟨one_line, fun l1 hl1 => q.says hR (Same.refl H).keep hl1⟩
    have c' : ¬ (65536 : Int) < ((vB b).length : Int) := db' c
    rw [vB_len] at c'
    rw [if_neg (by unfold PlaitS.LONG; omega)] at q
    refine ⟨_, rfl, l, b, rfl, hl, fun H1 s1 hno => ?_, fun H1 p B xs n s1 hin np hS => ?_⟩
    · refine ⟨_, rfl, rfl, _, rfl, ite2 (fun k => ?_) (fun k => absurd (decide_eq_true rfl) k)⟩
      cases hj : Plait.sessionIn b with
      | some s => exact absurd hj (hno s)
      | none =>
        rw [hj] at q
        exact ⟨one_line, fun l1 hl1 => q.says (hR.same s1) s1.keep hl1⟩
    · refine ⟨_, rfl, rfl, _, rfl, ite2 (fun k => absurd (db k) (by intro z; cases z)) (fun k => ?_)⟩
      rw [hin] at q
      refine ⟨_, rfl, p, B, xs, n, rfl, hS, fun H3 j s3 nj hJ => ?_⟩
      have u3 : Same H H3 := s1.trans s3
      refine ⟨_, rfl, r, _, dxr, _, rfl, u3 _ _ hrec, T.c_Record, T.n_Record_journal, (by show 1 < 1000; decide), ?_⟩
      obtain ⟨R4, k4⟩ := RecAt.put (u3 _ _ hrec) hJ
      exact ⟨one_line, fun l1 hl1 => q.says R4 (u3.keep.trans k4) hl1⟩
theorem head_size {b : Plait.Bytes} {s : Sess} (h : Plait.headIn b = some s) : 8 + Plait.num ((b.drop 4).take 4) = (Plait.headOf s).length := by
  unfold Plait.headIn at h
  split at h
  · rename_i c
    have e := ((sessionIn_iff _ _).mp h).1
    have := congrArg List.length e
    rw [List.length_take, List.length_drop] at this
    rw [head_len]
    omega
  · cases h
def spPlay (K : PySem.W.Frag) (a : Ad) : Sp := fun vs H Q _ => ∃ (r l : Addr) (b : Plait.Bytes) (st : State), vs = [.ref r, .ref l] ∧ RecAt a H r st ∧ SqL K H l (vB b) ∧ b.length ≤ 70000 ∧ Ans a H r (PlaitS.step st (.play b)).1 (PlaitS.step st (.play b)).2 Q
theorem ok_Record_play (T : Txt K mg a) : FnOk P w K mg base CX0 10 a.f_Record_play a.d_Record_play ["self", "numbers"] (spPlay K a) := by
  have nd := sc_Record_play.nd
  refine T.f_Record_play.ok sc_Record_play (fun vs H Q E h => ?_) (fun cdv A outer s H vs Q E hr h => ?_)
  · obtain ⟨r, l, b, st, rfl, _⟩ := h
    rfl
  · obtain ⟨r, l, b, st, rfl, hR, hl, hb7, q⟩ := h
    obtain ⟨dxr, vr, hrec⟩ := hR.obj
    have hst : PlaitS.step st (.play b) = if PlaitS.LONG < b.length then (st, says (-2)) else (match Plait.headIn b with
      | .none => (st, says (-9))
      | .some u => (some ⟨(Plait.playFrom (b.length / 12) (b.drop (Plait.headOf u).length) (Plait.headOf u) u).2.2, (Plait.playFrom (b.length / 12) (b.drop (Plait.headOf u).length) (Plait.headOf u) u).2.1⟩, tells ((Plait.playFrom (b.length / 12) (b.drop (Plait.headOf u).length) (Plait.headOf u) u).1 : Nat) [(Plait.headOf u).length + 12 * (Plait.playFrom (b.length / 12) (b.drop (Plait.headOf u).length) (Plait.headOf u) u).1])) := rfl
    rw [hst] at q
    refine ⟨_, (pss_cons (ps_if (pt_cmpR op_gt (pe_callB call_len_seq (by rfl) T.no_len PySem.boot_len (pa_cons (pv 1) pa_nil)) (pe_glob (v := .int (65536)) (by rfl) T.g_MOST_BYTES ⟨_, rfl⟩) (nomark _)) (pss_one (ps_ret (pe_lst (pa_cons (pe_glob (v := .int (-2)) (by rfl) T.g_TOO_LONG ⟨_, rfl⟩) pa_nil)))) pss_nil)
        (pss_cons (ps_set (i := 2) nd rfl (by first | exact Or.inl rfl | exact Or.inr rfl) (pe_call (ok_read_beginning T) (hr.mono (by decide)) (by rfl) T.m_read_beginning T.f_read_beginning.kp T.b_read_beginning .nil pass0 (pa_cons (pv 1) pa_nil)))
        (pss_cons (ps_if (pt_cmpR op_isN (pv 2) pe_non (nomark _)) (pss_one (ps_ret (pe_lst (pa_cons (pe_glob (v := .int (-9)) (by rfl) T.g_WRONG_BYTES ⟨_, rfl⟩) pa_nil)))) pss_nil)
        (pss_cons (ps_set (i := 3) nd rfl (by first | exact Or.inl rfl | exact Or.inr rfl) (pe_call (ok_beginning_size T) (hr.mono (by decide)) (by rfl) T.m_beginning_size T.f_beginning_size.kp T.b_beginning_size .nil pass0 (pa_cons (pv 1) pa_nil)))
        (pss_cons (ps_set (i := 4) nd rfl (by first | exact Or.inl rfl | exact Or.inr rfl) (pe_call (ok_play_notes T) (hr.mono (by decide)) (by rfl) T.m_play_notes T.f_play_notes.kp T.b_play_notes .nil pass0 (pa_cons (pv 2) (pa_cons (pv 1) (pa_cons (pv 3) pa_nil)))))
        (pss_cons (ps_fld (pv 0) (pv 2) rfl)
        (pss_one (ps_ret (pe_lst (pa_cons (pv 4) (pa_cons (pe_op op_add (pv 3) (pe_op op_mul (pv 4) (pe_glob (v := .int (12)) (by rfl) T.g_NOTE_SIZE ⟨_, rfl⟩))) pa_nil))))))))))), ?_⟩
    refine ⟨_, rfl, l, _, rfl, .inl hl, _, _, rfl, rfl, _, rfl, ite2 (fun c => ?_) (fun c => ?_)⟩
    · have c' : (65536 : Int) < ((vB b).length : Int) := db c
      rw [vB_len] at c'
      rw [if_pos (by unfold PlaitS.LONG; omega)] at q
      exact ⟨one_line, fun l1 hl1 => q.says hR (Same.refl H).keep hl1⟩
    have c' : ¬ (65536 : Int) < ((vB b).length : Int) := db' c
    rw [vB_len] at c'
    rw [if_neg (by unfold PlaitS.LONG; omega)] at q
    refine ⟨_, rfl, l, b, rfl, hl, fun H1 s1 hno => ?_, fun H1 j qs B xs n s1 hin nj nq hJ => ?_⟩
    · refine ⟨_, rfl, rfl, _, rfl, ite2 (fun k => ?_) (fun k => absurd (decide_eq_true rfl) k)⟩
      rw [hno] at q
      exact ⟨one_line, fun l1 hl1 => q.says (hR.same s1) s1.keep hl1⟩
    · refine ⟨_, rfl, rfl, _, rfl, ite2 (fun k => absurd (db k) (by intro z; cases z)) (fun k => ?_)⟩
      have hsz := head_size hin
      rw [hin] at q
      simp only at q
      have hhl : (Plait.headOf (ses B xs n)).length ≤ 1000 := by
        have := hJ.s.good.len_le.2
        rw [head_len]
        omega
      rw [← hsz] at q hhl
      refine ⟨_, rfl, l, b, rfl, s1.seq hl, fun H2 s2 => ?_⟩
      have u2 := s1.trans s2
      refine ⟨_, rfl, _, rfl, _, rfl, j, qs, l, B, xs, n, Plait.headOf (ses B xs n), b, 8 + Plait.num ((b.drop 4).take 4), rfl, hJ.same s2, u2.seq hl, fun H3 k ys m pl b3 hplay hkb hJ3 => ?_⟩
      have hpl := hplay (b.length / 12) (by
        rw [List.length_drop]
        exact Nat.div_le_div_right (by omega))
      rw [hpl] at q
      simp only at q
      have hr3 := b3 _ _ (u2 _ _ hrec) (ne_of_none hrec nj) (ne_of_none hrec nq)
      have k3 : Keep H H3 := u2.keep.trans (b3.keep (hJ.same s2))
      refine ⟨_, rfl, _, rfl, r, _, dxr, _, rfl, hr3, T.c_Record, T.n_Record_journal, (by show 1 < 1000; decide), ?_⟩
      obtain ⟨R4, k4⟩ := RecAt.put hr3 hJ3
      refine ⟨_, rfl, _, rfl, _, rfl, _, _, rfl, rfl, .inr ⟨by decide, by decide⟩, _, _, rfl, rfl, (by show 2 ≤ sizeLine; decide), fun l1 hl1 => ?_⟩
      refine q _ l1 ((k3.trans k4).trans (Same.new hl1).keep) (R4.same (Same.new hl1)) ?_ (by show 2 ≤ 1000; decide)
      rw [upd_same]
      show some (HO.lst [V.int (k : Int), V.int (((8 + Plait.num ((b.drop 4).take 4) : Nat) : Int) + (k : Int) * 12)]) = some (HO.lst [V.int ((k : Nat) : Int), V.int (((8 + Plait.num ((b.drop 4).take 4) + 12 * k : Nat)) : Int)])
      rw [show (((8 + Plait.num ((b.drop 4).take 4) : Nat) : Int) + (k : Int) * 12) = (((8 + Plait.num ((b.drop 4).take 4) + 12 * k : Nat)) : Int) from by omega]
end Pnl

set_option Elab.async false
set_option maxRecDepth 100000
set_option maxHeartbeats 2000000
set_option linter.all false
namespace Pnl
open PySem PySem.Spec PyProof.Rows L2 PM
open Plait (Done Sess)
open PlaitS (Rec Reply says gives tells State Call changed does begun)
variable {P : Program} {w : World} {K : PySem.W.Frag} {mg : Str → Option Value} {base : Heap} {a : Ad}
theorem vB_rep (b : Plait.Bytes) : (b.map fun (c : UInt8) => (c.toNat : Int)).map V.int = vB b := by
  rw [List.map_map]; rfl
theorem rep_note (b : Plait.Bytes) : (repInts ⟨0, [], b⟩).map V.int = [.int 0] ++ vB b := by
  show V.int 0 :: ([] ++ b.map fun (c : UInt8) => (c.toNat : Int)).map V.int = _
  rw [List.nil_append, vB_rep]; rfl
theorem rep_gives (b : Plait.Bytes) : (repInts (gives b)).map V.int = .int ((vB b).length : Nat) :: vB b := by
  show V.int ((b.length : Nat) : Int) :: ([] ++ b.map fun (c : UInt8) => (c.toNat : Int)).map V.int = _
  rw [List.nil_append, vB_rep, vB_len]
theorem rep_note_len {b : Plait.Bytes} : (repInts ⟨0, [], b⟩).length = 1 + b.length := by
  show (0 :: ([] ++ b.map fun (c : UInt8) => (c.toNat : Int))).length = _
  rw [List.nil_append, List.length_cons, List.length_map]; omega
theorem rep_gives_len {b : Plait.Bytes} : (repInts (gives b)).length = 1 + b.length := by
  show (_ :: ([] ++ b.map fun (c : UInt8) => (c.toNat : Int))).length = _
  rw [List.nil_append, List.length_cons, List.length_map]; omega
/-- what a record with a session is -/
theorem RecAt.some_ {H : Hp} {r : Addr} {R : Rec} (h : RecAt a H r (some R)) : ∃ dx j q B xs n dxj dxs lp ls, H r = some (.ins a.c_Record dx (rf (.ref j))) ∧ JourAt a H j q B xs n R.plain ∧ R.sess = ses B xs n ∧ H j = some (.ins a.c_Journal dxj (jf q (bitsOf R.plain))) ∧ H q = some (.ins a.c_Session dxs (sf lp ls n)) := by
  obtain ⟨dx, j, q, B, xs, n, h, hJ, e⟩ := h
  obtain ⟨dxj, hj⟩ := hJ.ex
  obtain ⟨dxs, lp, ls, ps, cs, hq, _⟩ := hJ.s.ex
  exact ⟨dx, j, q, B, xs, n, dxj, dxs, lp, ls, h, hJ, e, hj, hq⟩
/-- a note is made and handed back behind 0 -/
theorem note_put {H H' : Hp} {r j q dx : Addr} {B : Plait.Panel} {xs ys : List Done} {n m : Nat} {plain pl : Plait.Bytes} (hr : H r = some (.ins a.c_Record dx (rf (.ref j)))) (hJ : JourAt a H j q B xs n plain) (b : But2 j q H H') (hJ' : JourAt a H' j q B ys m pl) :
    RecAt a H' r (some ⟨ses B ys m, pl⟩) := by
  obtain ⟨n1, n2⟩ := ne_rec hr hJ
  exact ⟨dx, j, q, B, ys, m, b _ _ hr n1 n2, hJ', rfl⟩
def spStep (a : Ad) : Sp := fun vs H Q _ => ∃ (r : Addr) (k : UInt8) (f s : Nat) (x : Done) (R : Rec), vs = [.ref r, .int (k.toNat : Int), .int f, .int s] ∧ codeB k f s = x.bytes ∧ RecAt a H r (some R) ∧ (R.sess.now.step x).isSome = true ∧
  Ans a H r (some (changed R Option.none (.step x)).1) (changed R Option.none (.step x)).2 Q
theorem ok_Record_step (T : Txt K mg a) : FnOk P w K mg base CX0 9 a.f_Record_step a.d_Record_step ["self", "kind", "first", "second"] (spStep a) := by
  have nd := sc_Record_step.nd
  refine T.f_Record_step.ok sc_Record_step (fun vs H Q E h => ?_) (fun cdv A outer s H vs Q E hr h => ?_)
  · obtain ⟨r, k, f, s, x, R, rfl, _⟩ := h
    rfl
  · obtain ⟨r, k, f, s, x, R, rfl, hx, hR, hst, q⟩ := h
    have hR0 := hR
    obtain ⟨dx, j, q0, B, xs, n, dxj, dxs, lp, ls, h1, hJ, es, h2, h3⟩ := hR0.some_
    rw [es] at hst
    have hle := hJ.s.le
    have hch : changed R Option.none (.step x) = match R.sess.change (.step x) with
      | .some u => (⟨u, R.plain ++ x.bytes⟩, ⟨0, [], Plait.noteOf R.plain (.step x)⟩)
      | .none => (R, says (-3)) := rfl
    have hcs := step_chg (B := B) (x := x) hle
    refine ⟨_, (pss_cons (ps_if (pt_cmpR op_ge (pe_fld (pe_fld (pe_fld (pv 0) rfl) rfl) rfl) (pe_glob (v := .int (64)) (by rfl) T.g_MOST_STEPS ⟨_, rfl⟩) (nomark _)) (pss_one (ps_ret (pe_lst (pa_cons (pe_glob (v := .int (-3)) (by rfl) T.g_ALL_STEPS_DONE ⟨_, rfl⟩) pa_nil)))) pss_nil)
        (pss_one (ps_ret (pe_op op_cat (pe_lst (pa_cons pe_int pa_nil)) (pe_call (ok_note_change T) (hr.mono (by decide)) (by rfl) T.m_note_change T.f_note_change.kp T.b_note_change .nil pass0 (pa_cons (pe_fld (pv 0) rfl) (pa_cons (pe_call (ok_change_bytes T) (hr.mono (by decide)) (by rfl) T.m_change_bytes T.f_change_bytes.kp T.b_change_bytes .nil pass0 (pa_cons (pv 1) (pa_cons (pv 2) (pa_cons (pv 3) pa_nil)))) pa_nil))))))), ?_⟩
    refine ⟨_, rfl, r, _, dx, _, _, rfl, h1, T.c_Record, T.n_Record_journal, rfl, j, _, dxj, _, _, rfl, h2, T.c_Journal, T.n_Journal_session, rfl, q0, _, dxs, _, _, rfl, h3, T.c_Session, T.n_Session_done, rfl, _, _, rfl, rfl, _, rfl, ite2 (fun c => ?_) (fun c => ?_)⟩
    · have c' : (64 : Int) ≤ (n : Int) := db c
      rw [if_neg (by omega)] at hcs
      rw [es, hcs] at hch
      rw [hch] at q
      exact ⟨one_line, fun l1 hl1 => q.says hR (Same.refl H).keep hl1⟩
    have c' : ¬ (64 : Int) ≤ (n : Int) := db' c
    rw [if_pos ⟨by omega, hst⟩] at hcs
    rw [es, hcs] at hch
    rw [hch] at q
    have hchg : PM.chg (ses B xs n) (codeB k f s) = some (ses B (xs.take n ++ [x]) (n + 1)) := by
      rw [hx]
      exact chg_of hJ.s.good hcs
    refine ⟨one_line, fun l1 hl1 => ?_⟩
    have t1 : Same H (upd H l1 (.lst [.int 0])) := Same.new hl1
    have f1 : (upd H l1 (.lst [.int 0])) l1 = some (.lst [.int 0]) := upd_same
    generalize upd H l1 _ = H1 at t1 f1 ⊢
    refine ⟨_, rfl, r, _, dx, _, _, rfl, t1 _ _ h1, T.c_Record, T.n_Record_journal, rfl, _, rfl, _, rfl, _, rfl, k, f, s, rfl, fun l2 H2 hl2 t2 f2 => ?_⟩
    have u2 := t1.trans t2
    refine ⟨j, q0, l2, B, xs, n, R.plain, codeB k f s, _, rfl, hJ.same u2, f2, codeB_len _ _ _, hchg, fun H3 l3 ys m hys b3 hJ3 f3 => ?_⟩
    have f1' := (b3.keep (hJ.same u2)) _ _ (t2 _ _ f1) rfl
    refine ⟨l1, l3, _, _, rfl, rfl, f1', f3, (by rw [vB_len, List.length_append, codeB_len, low4_len]; show 1 + 12 ≤ sizeLine; decide), fun l4 hl4 => ?_⟩
    have hR3 := note_put (u2 _ _ h1) (hJ.same u2) b3 hJ3
    have em : ses B ys m = ses B (xs.take n ++ [x]) (n + 1) := Option.some.inj (hys.symm.trans hchg)
    rw [em, hx] at hR3
    refine q _ l4 ((u2.keep.trans (b3.keep (hJ.same u2))).trans (Same.new hl4).keep) (hR3.same (Same.new hl4)) ?_ ?_
    · rw [upd_same, rep_note, hx]
      rfl
    · rw [rep_note_len]
      unfold Plait.noteOf
      rw [List.length_append, change_len, low4_len]
      decide
def spSetAt (a : Ad) : Sp := fun vs H Q _ => ∃ (r : Addr) (p z : Nat) (R : Rec), vs = [.ref r, .int p, .int z] ∧ RecAt a H r (some R) ∧ Ans a H r (some (does R (.set p z)).1) (does R (.set p z)).2 Q
theorem ok_Record_set_at (T : Txt K mg a) : FnOk P w K mg base CX0 10 a.f_Record_set_at a.d_Record_set_at ["self", "place", "sign"] (spSetAt a) := by
  have nd := sc_Record_set_at.nd
  refine T.f_Record_set_at.ok sc_Record_set_at (fun vs H Q E h => ?_) (fun cdv A outer s H vs Q E hr h => ?_)
  · obtain ⟨r, p, z, R, rfl, _⟩ := h
    rfl
  · obtain ⟨r, p, z, R, rfl, hR, q⟩ := h
    have hR0 := hR
    obtain ⟨dx, j, q0, B, xs, n, dxj, dxs, lp, ls, h1, hJ, es, h2, h3⟩ := hR0.some_
    have G := hJ.s.good
    have RN := G.now
    rw [← es] at RN
    have hd : does R (.set p z) = changed R (if 2 < z then some (-1) else if R.sess.now.count ≤ p then some (-4) else Option.none) (.step (.set p z)) := rfl
    rw [hd] at q
    refine ⟨_, (pss_cons (ps_if (pt_cmpR op_gt (pv 2) (pe_glob (v := .int (2)) (by rfl) T.g_MOST_SIGN ⟨_, rfl⟩) (nomark _)) (pss_one (ps_ret (pe_lst (pa_cons (pe_glob (v := .int (-1)) (by rfl) T.g_OUT_OF_RANGE ⟨_, rfl⟩) pa_nil)))) pss_nil)
        (pss_cons (ps_if (pt_cmpR op_ge (pv 1) (pe_callB call_len_seq (by rfl) T.no_len PySem.boot_len (pa_cons (pe_fld (pe_call (ok_panel_now T) (hr.mono (by decide)) (by rfl) T.m_panel_now T.f_panel_now.kp T.b_panel_now .nil pass0 (pa_cons (pe_fld (pe_fld (pv 0) rfl) rfl) pa_nil)) rfl) pa_nil)) (nomark _)) (pss_one (ps_ret (pe_lst (pa_cons (pe_glob (v := .int (-4)) (by rfl) T.g_NO_PLACE ⟨_, rfl⟩) pa_nil)))) pss_nil)
        (pss_one (ps_ret (pe_meth (pv 0) T.c_Record T.me_Record_step (ok_Record_step T) (hr.mono (by decide)) T.b_Record_step .nil pass0 (pa_cons (pe_glob (v := .int (0)) (by rfl) T.g_SET ⟨_, rfl⟩) (pa_cons (pv 1) (pa_cons (pv 2) pa_nil)))))))), ?_⟩
    refine ⟨_, rfl, _, _, rfl, rfl, _, rfl, ite2 (fun c => ?_) (fun c => ?_)⟩
    · have c' : (2 : Int) < (z : Int) := db c
      rw [if_pos (by omega)] at q
      exact ⟨one_line, fun l1 hl1 => q.says hR (Same.refl H).keep hl1⟩
    have c' : ¬ (2 : Int) < (z : Int) := db' c
    rw [if_neg (by omega)] at q
    refine ⟨_, rfl, _, rfl, r, _, dx, _, _, rfl, h1, T.c_Record, T.n_Record_journal, rfl, j, _, dxj, _, _, rfl, h2, T.c_Journal, T.n_Journal_session, rfl, q0, B, xs, n, rfl, hJ.s, fun pq hpq => ?_⟩
    obtain ⟨dxp, lq, hp1, hp2⟩ := hpq
    refine ⟨pq, _, dxp, _, _, rfl, hp1, T.c_Panel, T.n_Panel_signs, rfl, lq, _, rfl, .inl (SqL.of hp2), _, _, rfl, rfl, _, rfl, ite2 (fun c2 => ?_) (fun c2 => ?_)⟩
    · have c3 : ((vN (ses B xs n).now.places).length : Int) ≤ (p : Int) := db c2
      rw [vN_len, ← es, ← RN.count] at c3
      rw [if_pos (by omega)] at q
      exact ⟨one_line, fun l1 hl1 => q.says hR (Same.refl H).keep hl1⟩
    have c3 : ¬ ((vN (ses B xs n).now.places).length : Int) ≤ (p : Int) := db' c2
    rw [vN_len, ← es, ← RN.count] at c3
    rw [if_neg (by omega)] at q
    refine ⟨_, rfl, r, dx, _, rfl, h1, rfl, _, rfl, _, rfl, r, 0, p, z, .set p z, R, rfl, rfl, hR, ?_, q⟩
    unfold Plait.Panel.step
    simp only
    rw [if_pos ⟨by omega, by omega⟩]
    rfl
def spMove (a : Ad) : Sp := fun vs H Q _ => ∃ (r : Addr) (m : Nat) (R : Rec), vs = [.ref r, .int m] ∧ RecAt a H r (some R) ∧ Ans a H r (some (does R (.move m)).1) (does R (.move m)).2 Q
theorem ok_Record_move (T : Txt K mg a) : FnOk P w K mg base CX0 10 a.f_Record_move a.d_Record_move ["self", "motion"] (spMove a) := by
  have nd := sc_Record_move.nd
  refine T.f_Record_move.ok sc_Record_move (fun vs H Q E h => ?_) (fun cdv A outer s H vs Q E hr h => ?_)
  · obtain ⟨r, m, R, rfl, _⟩ := h
    rfl
  · obtain ⟨r, m, R, rfl, hR, q⟩ := h
    have hR0 := hR
    obtain ⟨dx, j, q0, B, xs, n, dxj, dxs, lp, ls, h1, hJ, es, h2, h3⟩ := hR0.some_
    have hd : does R (.move m) = changed R (if Plait.MOTIONS ≤ m then some (-1) else Option.none) (.step (.move m)) := rfl
    rw [hd] at q
    refine ⟨_, (pss_cons (ps_if (pt_cmpR op_gt (pv 1) (pe_glob (v := .int (7)) (by rfl) T.g_MOST_MOTION ⟨_, rfl⟩) (nomark _)) (pss_one (ps_ret (pe_lst (pa_cons (pe_glob (v := .int (-1)) (by rfl) T.g_OUT_OF_RANGE ⟨_, rfl⟩) pa_nil)))) pss_nil)
        (pss_one (ps_ret (pe_meth (pv 0) T.c_Record T.me_Record_step (ok_Record_step T) (hr.mono (by decide)) T.b_Record_step .nil pass0 (pa_cons (pe_glob (v := .int (1)) (by rfl) T.g_MOVE ⟨_, rfl⟩) (pa_cons (pv 1) (pa_cons pe_int pa_nil))))))), ?_⟩
    refine ⟨_, rfl, _, _, rfl, rfl, _, rfl, ite2 (fun c => ?_) (fun c => ?_)⟩
    · have c' : (7 : Int) < (m : Int) := db c
      rw [if_pos (by unfold Plait.MOTIONS; omega)] at q
      exact ⟨one_line, fun l1 hl1 => q.says hR (Same.refl H).keep hl1⟩
    have c' : ¬ (7 : Int) < (m : Int) := db' c
    rw [if_neg (by unfold Plait.MOTIONS; omega)] at q
    refine ⟨_, rfl, r, dx, _, rfl, h1, rfl, _, rfl, r, 1, m, 0, .move m, R, rfl, rfl, hR, ?_, q⟩
    unfold Plait.Panel.step
    simp only
    rw [if_pos (by unfold Plait.MOTIONS; omega)]
    rfl
/-- undo and redo: the note -/
theorem change_note {H : Hp} {r j q0 dx : Addr} {B : Plait.Panel} {xs ys : List Done} {n m : Nat} {R : Rec} {c : Plait.Change} {Q : VK} (hJ : JourAt a H j q0 B xs n R.plain) (es : R.sess = ses B xs n) (hc : R.sess.change c = some (ses B ys m)) (q : Ans a H r (some (changed R Option.none c).1) (changed R Option.none c).2 Q) :
    PM.chg (ses B xs n) c.bytes = some (ses B ys m) ∧ Ans a H r (some ⟨ses B ys m, R.plain ++ c.bytes⟩) ⟨0, [], Plait.noteOf R.plain c⟩ Q := by
  have hch : changed R Option.none c = match R.sess.change c with
    | .some u => (⟨u, R.plain ++ c.bytes⟩, ⟨0, [], Plait.noteOf R.plain c⟩)
    | .none => (R, says (-3)) := rfl
  rw [hc] at hch
  rw [hch] at q
  rw [es] at hc
  exact ⟨chg_of hJ.s.good hc, q⟩
def spUndo (a : Ad) : Sp := fun vs H Q _ => ∃ (r : Addr) (R : Rec), vs = [.ref r] ∧ RecAt a H r (some R) ∧ Ans a H r (some (does R .undo).1) (does R .undo).2 Q
theorem ok_Record_undo (T : Txt K mg a) : FnOk P w K mg base CX0 9 a.f_Record_undo a.d_Record_undo ["self"] (spUndo a) := by
  have nd := sc_Record_undo.nd
  refine T.f_Record_undo.ok sc_Record_undo (fun vs H Q E h => ?_) (fun cdv A outer s H vs Q E hr h => ?_)
  · obtain ⟨r, R, rfl, _⟩ := h
    rfl
  · obtain ⟨r, R, rfl, hR, q⟩ := h
    have hR0 := hR
    obtain ⟨dx, j, q0, B, xs, n, dxj, dxs, lp, ls, h1, hJ, es, h2, h3⟩ := hR0.some_
    have hle := hJ.s.le
    have hd : does R .undo = changed R (if R.sess.done.isEmpty = true then some (-5) else Option.none) .undo := rfl
    rw [hd] at q
    have hdn : R.sess.done.length = n := by rw [es]; show (xs.take n).length = n; rw [List.length_take]; omega
    refine ⟨_, (pss_cons (ps_if (pt_cmpR op_eq (pe_fld (pe_fld (pe_fld (pv 0) rfl) rfl) rfl) pe_int (nomark _)) (pss_one (ps_ret (pe_lst (pa_cons (pe_glob (v := .int (-5)) (by rfl) T.g_NOTHING_THERE ⟨_, rfl⟩) pa_nil)))) pss_nil)
        (pss_one (ps_ret (pe_op op_cat (pe_lst (pa_cons pe_int pa_nil)) (pe_call (ok_note_change T) (hr.mono (by decide)) (by rfl) T.m_note_change T.f_note_change.kp T.b_note_change .nil pass0 (pa_cons (pe_fld (pv 0) rfl) (pa_cons (pe_call (ok_change_bytes T) (hr.mono (by decide)) (by rfl) T.m_change_bytes T.f_change_bytes.kp T.b_change_bytes .nil pass0 (pa_cons (pe_glob (v := .int (2)) (by rfl) T.g_UNDO ⟨_, rfl⟩) (pa_cons pe_int (pa_cons pe_int pa_nil)))) pa_nil))))))), ?_⟩
    refine ⟨_, rfl, r, _, dx, _, _, rfl, h1, T.c_Record, T.n_Record_journal, rfl, j, _, dxj, _, _, rfl, h2, T.c_Journal, T.n_Journal_session, rfl, q0, _, dxs, _, _, rfl, h3, T.c_Session, T.n_Session_done, rfl, rfl, _, rfl, ite2 (fun c => ?_) (fun c => ?_)⟩
    · have z : n = 0 := vi (n := 0) (db c)
      rw [if_pos (by rw [List.isEmpty_iff_length_eq_zero, hdn]; exact z)] at q
      exact ⟨one_line, fun l1 hl1 => q.says hR (Same.refl H).keep hl1⟩
    have z : n ≠ 0 := fun e => db' c (by rw [e]; rfl)
    rw [if_neg (by rw [List.isEmpty_iff_length_eq_zero, hdn]; exact z)] at q
    obtain ⟨hchg, q'⟩ := change_note (dx := dx) hJ es (by rw [es]; exact undo_some (by omega) hle) q
    refine ⟨one_line, fun l1 hl1 => ?_⟩
    have t1 : Same H (upd H l1 (.lst [.int 0])) := Same.new hl1
    have f1 : (upd H l1 (.lst [.int 0])) l1 = some (.lst [.int 0]) := upd_same
    generalize upd H l1 _ = H1 at t1 f1 ⊢
    refine ⟨_, rfl, r, _, dx, _, _, rfl, t1 _ _ h1, T.c_Record, T.n_Record_journal, rfl, 2, 0, 0, rfl, fun l2 H2 hl2 t2 f2 => ?_⟩
    have u2 := t1.trans t2
    refine ⟨j, q0, l2, B, xs, n, R.plain, PM.UNDO, _, rfl, hJ.same u2, f2, rfl, hchg, fun H3 l3 ys m hys b3 hJ3 f3 => ?_⟩
    have f1' := (b3.keep (hJ.same u2)) _ _ (t2 _ _ f1) rfl
    refine ⟨l1, l3, _, _, rfl, rfl, f1', f3, (by rw [vB_len, List.length_append, low4_len]; show 1 + 12 ≤ sizeLine; decide), fun l4 hl4 => ?_⟩
    have hR3 := note_put (u2 _ _ h1) (hJ.same u2) b3 hJ3
    have em : ses B ys m = ses B xs (n - 1) := Option.some.inj (hys.symm.trans hchg)
    rw [em] at hR3
    refine q' _ l4 ((u2.keep.trans (b3.keep (hJ.same u2))).trans (Same.new hl4).keep) (hR3.same (Same.new hl4)) ?_ ?_
    · rw [upd_same, rep_note]
      rfl
    · rw [rep_note_len]
      unfold Plait.noteOf
      rw [List.length_append, change_len, low4_len]
      decide
def spRedo (a : Ad) : Sp := fun vs H Q _ => ∃ (r : Addr) (R : Rec), vs = [.ref r] ∧ RecAt a H r (some R) ∧ Ans a H r (some (does R .redo).1) (does R .redo).2 Q
theorem ok_Record_redo (T : Txt K mg a) : FnOk P w K mg base CX0 9 a.f_Record_redo a.d_Record_redo ["self"] (spRedo a) := by
  have nd := sc_Record_redo.nd
  refine T.f_Record_redo.ok sc_Record_redo (fun vs H Q E h => ?_) (fun cdv A outer s H vs Q E hr h => ?_)
  · obtain ⟨r, R, rfl, _⟩ := h
    rfl
  · obtain ⟨r, R, rfl, hR, q⟩ := h
    have hR0 := hR
    obtain ⟨dx, j, q0, B, xs, n, dxj, dxs, lp, ls, h1, hJ, es, h2, h3⟩ := hR0.some_
    have hle := hJ.s.le
    have hd : does R .redo = changed R (if R.sess.back.isEmpty = true then some (-5) else Option.none) .redo := rfl
    rw [hd] at q
    have hdn : R.sess.back.length = xs.length - n := by rw [es]; show (xs.drop n).length = _; rw [List.length_drop]
    refine ⟨_, (pss_cons (ps_if (pt_cmpR op_eq (pe_call (ok_back_count T) (hr.mono (by decide)) (by rfl) T.m_back_count T.f_back_count.kp T.b_back_count .nil pass0 (pa_cons (pe_fld (pe_fld (pv 0) rfl) rfl) pa_nil)) pe_int (nomark _)) (pss_one (ps_ret (pe_lst (pa_cons (pe_glob (v := .int (-5)) (by rfl) T.g_NOTHING_THERE ⟨_, rfl⟩) pa_nil)))) pss_nil)
        (pss_one (ps_ret (pe_op op_cat (pe_lst (pa_cons pe_int pa_nil)) (pe_call (ok_note_change T) (hr.mono (by decide)) (by rfl) T.m_note_change T.f_note_change.kp T.b_note_change .nil pass0 (pa_cons (pe_fld (pv 0) rfl) (pa_cons (pe_call (ok_change_bytes T) (hr.mono (by decide)) (by rfl) T.m_change_bytes T.f_change_bytes.kp T.b_change_bytes .nil pass0 (pa_cons (pe_glob (v := .int (3)) (by rfl) T.g_REDO ⟨_, rfl⟩) (pa_cons pe_int (pa_cons pe_int pa_nil)))) pa_nil))))))), ?_⟩
    refine ⟨_, rfl, r, _, dx, _, _, rfl, h1, T.c_Record, T.n_Record_journal, rfl, j, _, dxj, _, _, rfl, h2, T.c_Journal, T.n_Journal_session, rfl, q0, B, xs, n, rfl, hJ.s, rfl, _, rfl, ite2 (fun c => ?_) (fun c => ?_)⟩
    · have z : xs.length - n = 0 := vi (n := 0) (db c)
      rw [if_pos (by rw [List.isEmpty_iff_length_eq_zero, hdn]; exact z)] at q
      exact ⟨one_line, fun l1 hl1 => q.says hR (Same.refl H).keep hl1⟩
    have z : xs.length - n ≠ 0 := fun e => db' c (by rw [e]; rfl)
    rw [if_neg (by rw [List.isEmpty_iff_length_eq_zero, hdn]; exact z)] at q
    obtain ⟨hchg, q'⟩ := change_note (dx := dx) hJ es (by rw [es]; exact redo_some (by omega)) q
    refine ⟨one_line, fun l1 hl1 => ?_⟩
    have t1 : Same H (upd H l1 (.lst [.int 0])) := Same.new hl1
    have f1 : (upd H l1 (.lst [.int 0])) l1 = some (.lst [.int 0]) := upd_same
    generalize upd H l1 _ = H1 at t1 f1 ⊢
    refine ⟨_, rfl, r, _, dx, _, _, rfl, t1 _ _ h1, T.c_Record, T.n_Record_journal, rfl, 3, 0, 0, rfl, fun l2 H2 hl2 t2 f2 => ?_⟩
    have u2 := t1.trans t2
    refine ⟨j, q0, l2, B, xs, n, R.plain, PM.REDO, _, rfl, hJ.same u2, f2, rfl, hchg, fun H3 l3 ys m hys b3 hJ3 f3 => ?_⟩
    have f1' := (b3.keep (hJ.same u2)) _ _ (t2 _ _ f1) rfl
    refine ⟨l1, l3, _, _, rfl, rfl, f1', f3, (by rw [vB_len, List.length_append, low4_len]; show 1 + 12 ≤ sizeLine; decide), fun l4 hl4 => ?_⟩
    have hR3 := note_put (u2 _ _ h1) (hJ.same u2) b3 hJ3
    have em : ses B ys m = ses B xs (n + 1) := Option.some.inj (hys.symm.trans hchg)
    rw [em] at hR3
    refine q' _ l4 ((u2.keep.trans (b3.keep (hJ.same u2))).trans (Same.new hl4).keep) (hR3.same (Same.new hl4)) ?_ ?_
    · rw [upd_same, rep_note]
      rfl
    · rw [rep_note_len]
      unfold Plait.noteOf
      rw [List.length_append, change_len, low4_len]
      decide
/-! ### questions -/
def spPanel (a : Ad) : Sp := fun vs H Q _ => ∃ (r : Addr) (R : Rec), vs = [.ref r] ∧ RecAt a H r (some R) ∧ Ans a H r (some R) (gives R.sess.now.bytes) Q
theorem ok_Record_panel (T : Txt K mg a) : FnOk P w K mg base CX0 2 a.f_Record_panel a.d_Record_panel ["self"] (spPanel a) := by
  have nd := sc_Record_panel.nd
  refine T.f_Record_panel.ok sc_Record_panel (fun vs H Q E h => ?_) (fun cdv A outer s H vs Q E hr h => ?_)
  · obtain ⟨r, R, rfl, _⟩ := h
    rfl
  · obtain ⟨r, R, rfl, hR, q⟩ := h
    have hR0 := hR
    obtain ⟨dx, j, q0, B, xs, n, dxj, dxs, lp, ls, h1, hJ, es, h2, h3⟩ := hR0.some_
    have RN := hJ.s.good.now
    have hlen : (ses B xs n).now.bytes.length ≤ 200 := by
      have := bytes_len (ses B xs n).now
      have := RN.le112
      omega
    rw [es] at q
    refine ⟨_, (pss_one (ps_ret (pe_call (ok_counted T) (hr.mono (by decide)) (by rfl) T.m_counted T.f_counted.kp T.b_counted .nil pass0 (pa_cons (pe_call (ok_panel_bytes T) (hr.mono (by decide)) (by rfl) T.m_panel_bytes T.f_panel_bytes.kp T.b_panel_bytes .nil pass0 (pa_cons (pe_call (ok_panel_now T) (hr.mono (by decide)) (by rfl) T.m_panel_now T.f_panel_now.kp T.b_panel_now .nil pass0 (pa_cons (pe_fld (pe_fld (pv 0) rfl) rfl) pa_nil)) pa_nil)) pa_nil)))), ?_⟩
    refine ⟨_, rfl, r, _, dx, _, _, rfl, h1, T.c_Record, T.n_Record_journal, rfl, j, _, dxj, _, _, rfl, h2, T.c_Journal, T.n_Journal_session, rfl, q0, B, xs, n, rfl, hJ.s, fun pq hpq => ?_⟩
    refine ⟨pq, _, rfl, hpq, RN, fun l1 H1 hl1 s1 f1 => ?_⟩
    refine ⟨l1, _, rfl, f1, (by rw [vB_len]; omega), fun H2 l2 s2 f2 => ?_⟩
    refine q H2 l2 (s1.trans s2).keep (hR.same (s1.trans s2)) (by rw [rep_gives]; exact f2) (by rw [rep_gives_len]; omega)
def spDrawn (a : Ad) : Sp := fun vs H Q _ => ∃ (r : Addr) (R : Rec), vs = [.ref r] ∧ RecAt a H r (some R) ∧ Ans a H r (some R) (gives R.sess.now.drawn) Q
theorem ok_Record_drawn (T : Txt K mg a) : FnOk P w K mg base CX0 6 a.f_Record_drawn a.d_Record_drawn ["self"] (spDrawn a) := by
  have nd := sc_Record_drawn.nd
  refine T.f_Record_drawn.ok sc_Record_drawn (fun vs H Q E h => ?_) (fun cdv A outer s H vs Q E hr h => ?_)
  · obtain ⟨r, R, rfl, _⟩ := h
    rfl
  · obtain ⟨r, R, rfl, hR, q⟩ := h
    have hR0 := hR
    obtain ⟨dx, j, q0, B, xs, n, dxj, dxs, lp, ls, h1, hJ, es, h2, h3⟩ := hR0.some_
    have RN := hJ.s.good.now
    have hlen : (ses B xs n).now.drawn.length ≤ 300 := by
      have := draws_len RN (2 * (ses B xs n).now.high - 1)
      have := RN.h8
      rw [drawn_eq]
      omega
    rw [es] at q
    refine ⟨_, (pss_one (ps_ret (pe_call (ok_counted T) (hr.mono (by decide)) (by rfl) T.m_counted T.f_counted.kp T.b_counted .nil pass0 (pa_cons (pe_call (ok_drawing_bytes T) (hr.mono (by decide)) (by rfl) T.m_drawing_bytes T.f_drawing_bytes.kp T.b_drawing_bytes .nil pass0 (pa_cons (pe_call (ok_panel_now T) (hr.mono (by decide)) (by rfl) T.m_panel_now T.f_panel_now.kp T.b_panel_now .nil pass0 (pa_cons (pe_fld (pe_fld (pv 0) rfl) rfl) pa_nil)) pa_nil)) pa_nil)))), ?_⟩
    refine ⟨_, rfl, r, _, dx, _, _, rfl, h1, T.c_Record, T.n_Record_journal, rfl, j, _, dxj, _, _, rfl, h2, T.c_Journal, T.n_Journal_session, rfl, q0, B, xs, n, rfl, hJ.s, fun pq hpq => ?_⟩
    refine ⟨pq, _, rfl, hpq, RN, fun l1 H1 hl1 s1 f1 => ?_⟩
    refine ⟨l1, _, rfl, f1, (by rw [vB_len]; omega), fun H2 l2 s2 f2 => ?_⟩
    refine q H2 l2 (s1.trans s2).keep (hR.same (s1.trans s2)) (by rw [rep_gives]; exact f2) (by rw [rep_gives_len]; omega)
theorem vN_ints (l : List Nat) : vN l = (l.map fun (n : Nat) => (n : Int)).map V.int := by
  rw [List.map_map]; rfl
def spCounts (a : Ad) : Sp := fun vs H Q _ => ∃ (r : Addr) (R : Rec), vs = [.ref r] ∧ RecAt a H r (some R) ∧ Ans a H r (some R) (tells 0 [R.sess.now.wide, R.sess.now.high, R.sess.now.crossings.length, R.sess.now.traced.count, R.sess.done.length, R.sess.back.length]) Q
theorem ok_Record_counts (T : Txt K mg a) : FnOk P w K mg base CX0 7 a.f_Record_counts a.d_Record_counts ["self"] (spCounts a) := by
  have nd := sc_Record_counts.nd
  refine T.f_Record_counts.ok sc_Record_counts (fun vs H Q E h => ?_) (fun cdv A outer s H vs Q E hr h => ?_)
  · obtain ⟨r, R, rfl, _⟩ := h
    rfl
  · obtain ⟨r, R, rfl, hR, q⟩ := h
    have hR0 := hR
    obtain ⟨dx, j, q0, B, xs, n, dxj, dxs, lp, ls, h1, hJ, es, h2, h3⟩ := hR0.some_
    have RN := hJ.s.good.now
    have hle := hJ.s.le
    rw [es] at q
    have hd1 : (ses B xs n).done.length = n := by show (xs.take n).length = n; rw [List.length_take]; omega
    have hd2 : (ses B xs n).back.length = xs.length - n := by show (xs.drop n).length = _; rw [List.length_drop]
    rw [hd1, hd2] at q
    refine ⟨_, (pss_cons (ps_set (i := 1) nd rfl (by first | exact Or.inl rfl | exact Or.inr rfl) (pe_fld (pe_fld (pv 0) rfl) rfl))
        (pss_cons (ps_set (i := 2) nd rfl (by first | exact Or.inl rfl | exact Or.inr rfl) (pe_call (ok_panel_now T) (hr.mono (by decide)) (by rfl) T.m_panel_now T.f_panel_now.kp T.b_panel_now .nil pass0 (pa_cons (pv 1) pa_nil)))
        (pss_cons (ps_set (i := 3) nd rfl (by first | exact Or.inl rfl | exact Or.inr rfl) (pe_bm PySem.F.plainAttrs_list PySem.F.slot_list_count PySem.F.type_list_count mt_lcount (pe_fld (pv 2) rfl) (pa_cons (pe_glob (v := .int (0)) (by rfl) T.g_CROSSING ⟨_, rfl⟩) pa_nil)))
        (pss_one (ps_ret (pe_lst (pa_cons pe_int (pa_cons (pe_fld (pv 2) rfl) (pa_cons (pe_fld (pv 2) rfl) (pa_cons (pv 3) (pa_cons (pe_call (ok_strand_count T) (hr.mono (by decide)) (by rfl) T.m_strand_count T.f_strand_count.kp T.b_strand_count .nil pass0 (pa_cons (pv 2) pa_nil)) (pa_cons (pe_fld (pv 1) rfl) (pa_cons (pe_call (ok_back_count T) (hr.mono (by decide)) (by rfl) T.m_back_count T.f_back_count.kp T.b_back_count .nil pass0 (pa_cons (pv 1) pa_nil)) pa_nil))))))))))))), ?_⟩
    refine ⟨_, rfl, r, _, dx, _, _, rfl, h1, T.c_Record, T.n_Record_journal, rfl, j, _, dxj, _, _, rfl, h2, T.c_Journal, T.n_Journal_session, rfl, ?_⟩
    refine ⟨_, rfl, q0, B, xs, n, rfl, hJ.s, fun pq hpq => ?_⟩
    have hpq0 := hpq
    obtain ⟨dxp, lq, hp1, hp2⟩ := hpq0
    rw [vN_ints] at hp2
    refine ⟨_, rfl, pq, _, dxp, _, _, rfl, hp1, T.c_Panel, T.n_Panel_signs, rfl, .inl ⟨rfl, _, SqL.of hp2⟩, lq, _, 0, rfl, rfl, SqL.of hp2, ?_⟩
    rw [← crossings_eq RN]
    refine ⟨_, rfl, pq, _, dxp, _, _, rfl, hp1, T.c_Panel, T.n_Panel_wide, rfl, _, rfl, pq, _, dxp, _, _, rfl, hp1, T.c_Panel, T.n_Panel_high, rfl, _, rfl, _, rfl, pq, _, rfl, hpq, RN, fun H1 s1 => ?_⟩
    refine ⟨_, rfl, q0, _, dxs, _, _, rfl, s1 _ _ h3, T.c_Session, T.n_Session_done, rfl, _, rfl, q0, B, xs, n, rfl, hJ.s.same s1, (by show 7 ≤ sizeLine; decide), fun l1 hl1 => ?_⟩
    exact q _ l1 (s1.trans (Same.new hl1)).keep (hR.same (s1.trans (Same.new hl1))) (by rw [upd_same]; rfl) (by show 7 ≤ 1000; decide)
def spSave (a : Ad) : Sp := fun vs H Q _ => ∃ (r : Addr) (R : Rec), vs = [.ref r] ∧ RecAt a H r (some R) ∧ Ans a H r (some R) (gives R.sess.bytes) Q
theorem ok_Record_save (T : Txt K mg a) : FnOk P w K mg base CX0 4 a.f_Record_save a.d_Record_save ["self"] (spSave a) := by
  have nd := sc_Record_save.nd
  refine T.f_Record_save.ok sc_Record_save (fun vs H Q E h => ?_) (fun cdv A outer s H vs Q E hr h => ?_)
  · obtain ⟨r, R, rfl, _⟩ := h
    rfl
  · obtain ⟨r, R, rfl, hR, q⟩ := h
    have hR0 := hR
    obtain ⟨dx, j, q0, B, xs, n, dxj, dxs, lp, ls, h1, hJ, es, h2, h3⟩ := hR0.some_
    have hlen := hJ.s.good.len_le.2
    rw [es] at q
    refine ⟨_, (pss_one (ps_ret (pe_call (ok_counted T) (hr.mono (by decide)) (by rfl) T.m_counted T.f_counted.kp T.b_counted .nil pass0 (pa_cons (pe_call (ok_session_bytes T) (hr.mono (by decide)) (by rfl) T.m_session_bytes T.f_session_bytes.kp T.b_session_bytes .nil pass0 (pa_cons (pe_fld (pe_fld (pv 0) rfl) rfl) pa_nil)) pa_nil)))), ?_⟩
    refine ⟨_, rfl, r, _, dx, _, _, rfl, h1, T.c_Record, T.n_Record_journal, rfl, j, _, dxj, _, _, rfl, h2, T.c_Journal, T.n_Journal_session, rfl, q0, B, xs, n, rfl, hJ.s, fun l1 H1 hl1 s1 f1 => ?_⟩
    refine ⟨l1, _, rfl, f1, (by rw [vB_len]; omega), fun H2 l2 s2 f2 => ?_⟩
    refine q H2 l2 (s1.trans s2).keep (hR.same (s1.trans s2)) (by rw [rep_gives]; exact f2) (by rw [rep_gives_len]; omega)
def spHead (a : Ad) : Sp := fun vs H Q _ => ∃ (r : Addr) (R : Rec), vs = [.ref r] ∧ RecAt a H r (some R) ∧ Ans a H r (some (begun R.sess)) (gives (Plait.headOf R.sess)) Q
theorem ok_Record_head (T : Txt K mg a) : FnOk P w K mg base CX0 6 a.f_Record_head a.d_Record_head ["self"] (spHead a) := by
  have nd := sc_Record_head.nd
  refine T.f_Record_head.ok sc_Record_head (fun vs H Q E h => ?_) (fun cdv A outer s H vs Q E hr h => ?_)
  · obtain ⟨r, R, rfl, _⟩ := h
    rfl
  · obtain ⟨r, R, rfl, hR, q⟩ := h
    have hR0 := hR
    obtain ⟨dx, j, q0, B, xs, n, dxj, dxs, lp, ls, h1, hJ, es, h2, h3⟩ := hR0.some_
    have hlen := hJ.s.good.len_le.2
    have hhl := head_len (ses B xs n)
    rw [es] at q
    refine ⟨_, (pss_cons (ps_fld (pv 0) (pe_call (ok_begun_journal T) (hr.mono (by decide)) (by rfl) T.m_begun_journal T.f_begun_journal.kp T.b_begun_journal .nil pass0 (pa_cons (pe_fld (pe_fld (pv 0) rfl) rfl) pa_nil)) rfl)
        (pss_one (ps_ret (pe_call (ok_counted T) (hr.mono (by decide)) (by rfl) T.m_counted T.f_counted.kp T.b_counted .nil pass0 (pa_cons (pe_call (ok_beginning_bytes T) (hr.mono (by decide)) (by rfl) T.m_beginning_bytes T.f_beginning_bytes.kp T.b_beginning_bytes .nil pass0 (pa_cons (pe_fld (pe_fld (pv 0) rfl) rfl) pa_nil)) pa_nil))))), ?_⟩
    refine ⟨_, rfl, r, _, dx, _, _, rfl, h1, T.c_Record, T.n_Record_journal, rfl, j, _, dxj, _, _, rfl, h2, T.c_Journal, T.n_Journal_session, rfl, q0, B, xs, n, rfl, hJ.s, fun H1 j1 s1 nj hJ1 => ?_⟩
    refine ⟨_, rfl, r, _, dx, _, rfl, s1 _ _ h1, T.c_Record, T.n_Record_journal, (by show 1 < 1000; decide), ?_⟩
    obtain ⟨R2, k2⟩ := RecAt.put (s1 _ _ h1) hJ1
    have f2 : (upd H1 r (.ins a.c_Record dx (rf (.ref j1)))) r = some (.ins a.c_Record dx (rf (.ref j1))) := upd_same
    have ef : putF "journal" (V.ref j1) (rf (.ref j)) = rf (.ref j1) := rfl
    rw [ef]
    generalize upd H1 r _ = H2 at R2 k2 f2 ⊢
    have R2' := R2
    obtain ⟨dx2, j2, q2, B2, ys, m, dxj2, dxs2, lp2, ls2, g1, gJ, ges, g2, g3⟩ := R2'.some_
    have ge : ses B2 ys m = ses B xs n := ges.symm
    refine ⟨_, rfl, r, _, dx2, _, _, rfl, g1, T.c_Record, T.n_Record_journal, rfl, j2, _, dxj2, _, _, rfl, g2, T.c_Journal, T.n_Journal_session, rfl, q2, B2, ys, m, rfl, gJ.s, fun l3 H3 hl3 s3 f3 => ?_⟩
    rw [ge] at f3
    refine ⟨l3, _, rfl, f3, (by rw [vB_len]; omega), fun H4 l4 s4 f4 => ?_⟩
    refine q H4 l4 ((s1.keep.trans k2).trans (s3.trans s4).keep) (R2.same (s3.trans s4)) (by rw [rep_gives]; exact f4) (by rw [rep_gives_len]; omega)
end Pnl

set_option Elab.async false
set_option maxRecDepth 100000
set_option maxHeartbeats 2000000
set_option linter.all false
namespace Pnl
open PySem PySem.Spec PyProof.Rows L2 PM
open Plait (Done Sess)
open PlaitS (Rec Reply says gives tells State Call changed does begun)
variable {P : Program} {w : World} {K : PySem.W.Frag} {mg : Str → Option Value} {base : Heap} {a : Ad}
/-! ### the one list of calls -/
theorem ints_V (b : Plait.Bytes) : (bInts b).map V.int = vB b := vB_rep b
theorem ints_len (b : Plait.Bytes) : (bInts b).length = b.length := List.length_map ..
theorem drop_at {ns t : List Int} {at_ i : Nat} {v : Int} (h : ns.drop at_ = t) (hv : t[i]? = some v) : (ns.map V.int)[at_ + i]? = some (.int v) := by
  rw [← h, List.getElem?_drop] at hv
  rw [List.getElem?_map, hv]; rfl
theorem enc_kind (c : Call) (rest : List Int) : ∃ k : Int, (encC c ++ rest)[0]? = some k ∧ ((∃ b : Plait.Bytes, k ≤ 3 ∧ (encC c ++ rest)[1]? = some (b.length : Int) ∧ (encC c).length = 2 + b.length) ∨ (k = 4 ∧ (encC c).length = 3) ∨ (k = 5 ∧ (encC c).length = 2) ∨ (5 < k ∧ (encC c).length = 1)) := by
  have row : ∀ b : Plait.Bytes, ∀ k : Int, (k :: (b.length : Int) :: bInts b).length = 2 + b.length := fun b k => by
    rw [List.length_cons, List.length_cons, ints_len]; omega
  cases c with
  | begin_ b => exact ⟨1, rfl, .inl ⟨b, by decide, rfl, row b 1⟩⟩
  | load b => exact ⟨2, rfl, .inl ⟨b, by decide, rfl, row b 2⟩⟩
  | play b => exact ⟨3, rfl, .inl ⟨b, by decide, rfl, row b 3⟩⟩
  | set p z => exact ⟨4, rfl, .inr (.inl ⟨rfl, rfl⟩)⟩
  | move m => exact ⟨5, rfl, .inr (.inr (.inl ⟨rfl, rfl⟩))⟩
  | undo => exact ⟨6, rfl, .inr (.inr (.inr ⟨by decide, rfl⟩))⟩
  | redo => exact ⟨7, rfl, .inr (.inr (.inr ⟨by decide, rfl⟩))⟩
  | panel => exact ⟨8, rfl, .inr (.inr (.inr ⟨by decide, rfl⟩))⟩
  | drawn => exact ⟨9, rfl, .inr (.inr (.inr ⟨by decide, rfl⟩))⟩
  | counts => exact ⟨10, rfl, .inr (.inr (.inr ⟨by decide, rfl⟩))⟩
  | save => exact ⟨11, rfl, .inr (.inr (.inr ⟨by decide, rfl⟩))⟩
  | head => exact ⟨12, rfl, .inr (.inr (.inr ⟨by decide, rfl⟩))⟩
def spCallEnd (K : PySem.W.Frag) : Sp := fun vs H Q _ => ∃ (l : Addr) (ns : List Int) (at_ : Nat) (c : Call) (rest : List Int), vs = [.ref l, .int (at_ : Nat)] ∧ SqL K H l (ns.map V.int) ∧ ns.drop at_ = encC c ++ rest ∧ Q (.int ((at_ + (encC c).length : Nat) : Int)) H
theorem ok_call_end (T : Txt K mg a) : FnOk P w K mg base CX0 1 a.f_call_end a.d_call_end ["calls", "at"] (spCallEnd K) := by
  have nd := sc_call_end.nd
  refine T.f_call_end.ok sc_call_end (fun vs H Q E h => ?_) (fun cdv A outer s H vs Q E hr h => ?_)
  · obtain ⟨l, ns, at_, c, rest, rfl, _⟩ := h
    rfl
  · obtain ⟨l, ns, at_, c, rest, rfl, hl, hd, q⟩ := h
    obtain ⟨k, hk, hkind⟩ := enc_kind c rest
    refine ⟨_, (pss_cons (ps_set (i := 2) nd rfl (by first | exact Or.inl rfl | exact Or.inr rfl) (pe_ix ix_list (pv 0) (pv 1) (fun _ _ => rfl)))
        (pss_cons (ps_if (pt_cmpR op_le (pv 2) (pe_glob (v := .int (3)) (by rfl) T.g_CALL_PLAY ⟨_, rfl⟩) (nomark _)) (pss_one (ps_ret (pe_op op_add (pe_op op_add (pv 1) pe_int) (pe_ix ix_list (pv 0) (pe_op op_add (pv 1) pe_int) (fun _ _ => rfl))))) pss_nil)
        (pss_cons (ps_if (pt_cmpR op_eq (pv 2) (pe_glob (v := .int (4)) (by rfl) T.g_CALL_SET_AT ⟨_, rfl⟩) (nomark _)) (pss_one (ps_ret (pe_op op_add (pv 1) pe_int))) pss_nil)
        (pss_cons (ps_if (pt_cmpR op_eq (pv 2) (pe_glob (v := .int (5)) (by rfl) T.g_CALL_MOVE ⟨_, rfl⟩) (nomark _)) (pss_one (ps_ret (pe_op op_add (pv 1) pe_int))) pss_nil)
        (pss_one (ps_ret (pe_op op_add (pv 1) pe_int))))))), ?_⟩
    refine ⟨_, rfl, _, rfl, l, _, _, _, rfl, rfl, hl, atI_nat (j := at_) (drop_at hd hk), ?_⟩
    refine ⟨_, rfl, _, _, rfl, rfl, _, rfl, ite2 (fun c1 => ?_) (fun c1 => ?_)⟩
    · have c1' : k ≤ 3 := db c1
      rcases hkind with ⟨b, _, h1, h2⟩ | ⟨h1, _⟩ | ⟨h1, _⟩ | ⟨h1, _⟩
      · refine ⟨_, rfl, _, _, rfl, rfl, _, rfl, _, rfl, _, _, rfl, rfl, l, _, _, _, rfl, rfl, hl, at_of (j := at_ + 1) rfl (drop_at hd h1), _, _, rfl, rfl, ?_⟩
        rw [h2, show ((at_ + (2 + b.length) : Nat) : Int) = (at_ : Int) + 2 + (b.length : Int) from by omega] at q
        exact q
      · omega
      · omega
      · omega
    have c1' : ¬ k ≤ 3 := db' c1
    rcases hkind with ⟨b, h1, _⟩ | ⟨h1, h2⟩ | ⟨h1, h2⟩ | ⟨h1, h2⟩
    · omega
    · subst h1
      refine ⟨_, rfl, rfl, _, rfl, ite2 (fun _ => ?_) (fun c2 => absurd rfl (db' c2))⟩
      refine ⟨_, rfl, _, _, rfl, rfl, ?_⟩
      rw [h2] at q
      exact q
    · subst h1
      refine ⟨_, rfl, rfl, _, rfl, ite2 (fun c2 => absurd (db c2) (by decide)) (fun c2 => ?_)⟩
      refine ⟨_, rfl, rfl, _, rfl, ite2 (fun _ => ?_) (fun c2 => absurd rfl (db' c2))⟩
      refine ⟨_, rfl, _, _, rfl, rfl, ?_⟩
      rw [h2] at q
      exact q
    · refine ⟨_, rfl, rfl, _, rfl, ite2 (fun c2 => absurd (db c2) (by intro z; injection z with z; omega)) (fun c2 => ?_)⟩
      refine ⟨_, rfl, rfl, _, rfl, ite2 (fun c2 => absurd (db c2) (by intro z; injection z with z; omega)) (fun c2 => ?_)⟩
      refine ⟨_, rfl, _, _, rfl, rfl, ?_⟩
      rw [h2] at q
      exact q
def isChange : Call → Prop
  | .set _ _ => True
  | .move _ => True
  | .undo => True
  | .redo => True
  | _ => False
theorem yes {A B : Prop} {x : V} (h : A) : if decide (x = x) = true then A else B := by
  rw [if_pos (decide_eq_true rfl)]; exact h
theorem not_ {A B : Prop} {x y : V} (n : x ≠ y) (h : B) : if decide (x = y) = true then A else B := by
  rw [if_neg (by rw [decide_eq_true_eq]; exact n)]; exact h
theorem ni {m n : Int} (h : m ≠ n) : V.int m ≠ V.int n := fun z => h (by injection z)
def spToChange (K : PySem.W.Frag) (a : Ad) : Sp := fun vs H Q _ => ∃ (r l : Addr) (c : Call) (R : Rec), vs = [.ref r, .ref l] ∧ SqL K H l ((encC c).map V.int) ∧ RecAt a H r (some R) ∧ isChange c ∧ Ans a H r (some (does R c).1) (does R c).2 Q
theorem ok_answer_to_change (T : Txt K mg a) : FnOk P w K mg base CX0 11 a.f_answer_to_change a.d_answer_to_change ["record", "call"] (spToChange K a) := by
  have nd := sc_answer_to_change.nd
  refine T.f_answer_to_change.ok sc_answer_to_change (fun vs H Q E h => ?_) (fun cdv A outer s H vs Q E hr h => ?_)
  · obtain ⟨r, l, c, R, rfl, _⟩ := h
    rfl
  · obtain ⟨r, l, c, R, rfl, hl, hR, hc, q⟩ := h
    obtain ⟨dx, v, hrec⟩ := hR.obj
    refine ⟨_, (pss_cons (ps_set (i := 2) nd rfl (by first | exact Or.inl rfl | exact Or.inr rfl) (pe_ix ix_list (pv 1) pe_int (fun _ _ => rfl)))
        (pss_cons (ps_if (pt_cmpR op_eq (pv 2) (pe_glob (v := .int (4)) (by rfl) T.g_CALL_SET_AT ⟨_, rfl⟩) (nomark _)) (pss_one (ps_ret (pe_meth (pv 0) T.c_Record T.me_Record_set_at (ok_Record_set_at T) (hr.mono (by decide)) T.b_Record_set_at .nil pass0 (pa_cons (pe_ix ix_list (pv 1) pe_int (fun _ _ => rfl)) (pa_cons (pe_ix ix_list (pv 1) pe_int (fun _ _ => rfl)) pa_nil))))) pss_nil)
        (pss_cons (ps_if (pt_cmpR op_eq (pv 2) (pe_glob (v := .int (5)) (by rfl) T.g_CALL_MOVE ⟨_, rfl⟩) (nomark _)) (pss_one (ps_ret (pe_meth (pv 0) T.c_Record T.me_Record_move (ok_Record_move T) (hr.mono (by decide)) T.b_Record_move .nil pass0 (pa_cons (pe_ix ix_list (pv 1) pe_int (fun _ _ => rfl)) pa_nil)))) pss_nil)
        (pss_cons (ps_if (pt_cmpR op_eq (pv 2) (pe_glob (v := .int (6)) (by rfl) T.g_CALL_UNDO ⟨_, rfl⟩) (nomark _)) (pss_one (ps_ret (pe_meth0 (pv 0) T.c_Record T.me_Record_undo (ok_Record_undo T) (hr.mono (by decide)) T.b_Record_undo .nil pass0 ))) pss_nil)
        (pss_one (ps_ret (pe_meth0 (pv 0) T.c_Record T.me_Record_redo (ok_Record_redo T) (hr.mono (by decide)) T.b_Record_redo .nil pass0 ))))))), ?_⟩
    cases c with
    | set p z =>
      refine ⟨_, rfl, l, _, _, _, rfl, rfl, hl, atI_nat (j := 0) (v := .int 4) rfl, ?_⟩
      refine ⟨_, rfl, rfl, _, rfl, yes ?_⟩
      refine ⟨_, rfl, r, dx, _, rfl, hrec, rfl, _, rfl, l, _, _, _, rfl, rfl, hl, atI_nat (j := 1) (v := .int p) rfl, _, rfl, l, _, _, _, rfl, rfl, hl, atI_nat (j := 2) (v := .int z) rfl, r, p, z, R, rfl, hR, q⟩
    | move m =>
      refine ⟨_, rfl, l, _, _, _, rfl, rfl, hl, atI_nat (j := 0) (v := .int 5) rfl, ?_⟩
      refine ⟨_, rfl, rfl, _, rfl, not_ (ni (by decide)) ?_⟩
      refine ⟨_, rfl, rfl, _, rfl, yes ?_⟩
      refine ⟨_, rfl, r, dx, _, rfl, hrec, rfl, _, rfl, l, _, _, _, rfl, rfl, hl, atI_nat (j := 1) (v := .int m) rfl, r, m, R, rfl, hR, q⟩
    | undo =>
      refine ⟨_, rfl, l, _, _, _, rfl, rfl, hl, atI_nat (j := 0) (v := .int 6) rfl, ?_⟩
      refine ⟨_, rfl, rfl, _, rfl, not_ (ni (by decide)) ?_⟩
      refine ⟨_, rfl, rfl, _, rfl, not_ (ni (by decide)) ?_⟩
      refine ⟨_, rfl, rfl, _, rfl, yes ?_⟩
      refine ⟨_, rfl, r, dx, _, rfl, hrec, rfl, r, R, rfl, hR, q⟩
    | redo =>
      refine ⟨_, rfl, l, _, _, _, rfl, rfl, hl, atI_nat (j := 0) (v := .int 7) rfl, ?_⟩
      refine ⟨_, rfl, rfl, _, rfl, not_ (ni (by decide)) ?_⟩
      refine ⟨_, rfl, rfl, _, rfl, not_ (ni (by decide)) ?_⟩
      refine ⟨_, rfl, rfl, _, rfl, not_ (ni (by decide)) ?_⟩
      refine ⟨_, rfl, r, dx, _, rfl, hrec, rfl, r, R, rfl, hR, q⟩
    | begin_ b => exact hc.elim
    | load b => exact hc.elim
    | play b => exact hc.elim
    | panel => exact hc.elim
    | drawn => exact hc.elim
    | counts => exact hc.elim
    | save => exact hc.elim
    | head => exact hc.elim
def asksN : Call → Option Int
  | .panel => some 8
  | .drawn => some 9
  | .counts => some 10
  | .save => some 11
  | .head => some 12
  | _ => Option.none
def spToQuestion (a : Ad) : Sp := fun vs H Q _ => ∃ (r : Addr) (k : Int) (c : Call) (R : Rec), vs = [.ref r, .int k] ∧ asksN c = some k ∧ RecAt a H r (some R) ∧ Ans a H r (some (does R c).1) (does R c).2 Q
theorem ok_answer_to_question (T : Txt K mg a) : FnOk P w K mg base CX0 8 a.f_answer_to_question a.d_answer_to_question ["record", "number"] (spToQuestion a) := by
  have nd := sc_answer_to_question.nd
  refine T.f_answer_to_question.ok sc_answer_to_question (fun vs H Q E h => ?_) (fun cdv A outer s H vs Q E hr h => ?_)
  · obtain ⟨r, k, c, R, rfl, _⟩ := h
    rfl
  · obtain ⟨r, k, c, R, rfl, hc, hR, q⟩ := h
    obtain ⟨dx, v, hrec⟩ := hR.obj
    refine ⟨_, (pss_cons (ps_if (pt_cmpR op_eq (pv 1) (pe_glob (v := .int (8)) (by rfl) T.g_CALL_PANEL ⟨_, rfl⟩) (nomark _)) (pss_one (ps_ret (pe_meth0 (pv 0) T.c_Record T.me_Record_panel (ok_Record_panel T) (hr.mono (by decide)) T.b_Record_panel .nil pass0 ))) pss_nil)
        (pss_cons (ps_if (pt_cmpR op_eq (pv 1) (pe_glob (v := .int (9)) (by rfl) T.g_CALL_DRAWN ⟨_, rfl⟩) (nomark _)) (pss_one (ps_ret (pe_meth0 (pv 0) T.c_Record T.me_Record_drawn (ok_Record_drawn T) (hr.mono (by decide)) T.b_Record_drawn .nil pass0 ))) pss_nil)
        (pss_cons (ps_if (pt_cmpR op_eq (pv 1) (pe_glob (v := .int (10)) (by rfl) T.g_CALL_COUNTS ⟨_, rfl⟩) (nomark _)) (pss_one (ps_ret (pe_meth0 (pv 0) T.c_Record T.me_Record_counts (ok_Record_counts T) (hr.mono (by decide)) T.b_Record_counts .nil pass0 ))) pss_nil)
        (pss_cons (ps_if (pt_cmpR op_eq (pv 1) (pe_glob (v := .int (11)) (by rfl) T.g_CALL_SAVE ⟨_, rfl⟩) (nomark _)) (pss_one (ps_ret (pe_meth0 (pv 0) T.c_Record T.me_Record_save (ok_Record_save T) (hr.mono (by decide)) T.b_Record_save .nil pass0 ))) pss_nil)
        (pss_one (ps_ret (pe_meth0 (pv 0) T.c_Record T.me_Record_head (ok_Record_head T) (hr.mono (by decide)) T.b_Record_head .nil pass0 ))))))), ?_⟩
    cases c with
    | panel =>
      cases hc
      refine ⟨_, rfl, rfl, _, rfl, yes ?_⟩
      exact ⟨_, rfl, r, dx, _, rfl, hrec, rfl, r, R, rfl, hR, q⟩
    | drawn =>
      cases hc
      refine ⟨_, rfl, rfl, _, rfl, not_ (ni (by decide)) ?_⟩
      refine ⟨_, rfl, rfl, _, rfl, yes ?_⟩
      exact ⟨_, rfl, r, dx, _, rfl, hrec, rfl, r, R, rfl, hR, q⟩
    | counts =>
      cases hc
      refine ⟨_, rfl, rfl, _, rfl, not_ (ni (by decide)) ?_⟩
      refine ⟨_, rfl, rfl, _, rfl, not_ (ni (by decide)) ?_⟩
      refine ⟨_, rfl, rfl, _, rfl, yes ?_⟩
      exact ⟨_, rfl, r, dx, _, rfl, hrec, rfl, r, R, rfl, hR, q⟩
    | save =>
      cases hc
      refine ⟨_, rfl, rfl, _, rfl, not_ (ni (by decide)) ?_⟩
      refine ⟨_, rfl, rfl, _, rfl, not_ (ni (by decide)) ?_⟩
      refine ⟨_, rfl, rfl, _, rfl, not_ (ni (by decide)) ?_⟩
      refine ⟨_, rfl, rfl, _, rfl, yes ?_⟩
      exact ⟨_, rfl, r, dx, _, rfl, hrec, rfl, r, R, rfl, hR, q⟩
    | head =>
      cases hc
      refine ⟨_, rfl, rfl, _, rfl, not_ (ni (by decide)) ?_⟩
      refine ⟨_, rfl, rfl, _, rfl, not_ (ni (by decide)) ?_⟩
      refine ⟨_, rfl, rfl, _, rfl, not_ (ni (by decide)) ?_⟩
      refine ⟨_, rfl, rfl, _, rfl, not_ (ni (by decide)) ?_⟩
      exact ⟨_, rfl, r, dx, _, rfl, hrec, rfl, r, R, rfl, hR, q⟩
    | begin_ b => cases hc
    | load b => cases hc
    | play b => cases hc
    | set p z => cases hc
    | move m => cases hc
    | undo => cases hc
    | redo => cases hc
/-- a call that is no row's -/
def plainC : Call → Option Int
  | .set _ _ => some 4
  | .move _ => some 5
  | .undo => some 6
  | .redo => some 7
  | c => asksN c
def onRec (st : State) (c : Call) : State × Reply := match st with
  | .none => (Option.none, PlaitS.UNBEGUN)
  | .some R => (some (does R c).1, (does R c).2)
def spAnswerTo (K : PySem.W.Frag) (a : Ad) : Sp := fun vs H Q _ => ∃ (r l : Addr) (c : Call) (st : State), vs = [.ref r, .ref l] ∧ SqL K H l ((encC c).map V.int) ∧ RecAt a H r st ∧ fits c ∧ Ans a H r (PlaitS.step st c).1 (PlaitS.step st c).2 Q
theorem ok_answer_to (T : Txt K mg a) : FnOk P w K mg base CX0 12 a.f_answer_to a.d_answer_to ["record", "call"] (spAnswerTo K a) := by
  have nd := sc_answer_to.nd
  refine T.f_answer_to.ok sc_answer_to (fun vs H Q E h => ?_) (fun cdv A outer s H vs Q E hr h => ?_)
  · obtain ⟨r, l, c, st, rfl, _⟩ := h
    rfl
  · obtain ⟨r, l, c, st, rfl, hl, hR, hf, q⟩ := h
    obtain ⟨dx, v, hrec⟩ := hR.obj
    have cut : ∀ (k : Int) (b : Plait.Bytes), cutV ((k :: (b.length : Int) :: bInts b).map V.int) (some (2 : Int)) Option.none = vB b := fun k b => by
      rw [show (some (2 : Int)) = some ((2 : Nat) : Int) from rfl, cut_from]
      show (bInts b).map V.int = vB b
      exact ints_V b
    have row : ∃ b, (c = .begin_ b ∨ c = .load b ∨ c = .play b) ∨ plainC c ≠ Option.none := by
      cases c with
      | begin_ b => exact ⟨b, .inl (.inl rfl)⟩
      | load b => exact ⟨b, .inl (.inr (.inl rfl))⟩
      | play b => exact ⟨b, .inl (.inr (.inr rfl))⟩
      | _ => exact ⟨[], .inr (by intro z; cases z)⟩
    obtain ⟨b, hrow⟩ := row
    refine ⟨_, (pss_cons (ps_set (i := 2) nd rfl (by first | exact Or.inl rfl | exact Or.inr rfl) (pe_ix ix_list (pv 1) pe_int (fun _ _ => rfl)))
        (pss_cons (ps_if (pt_cmpR op_eq (pv 2) (pe_glob (v := .int (1)) (by rfl) T.g_CALL_BEGIN ⟨_, rfl⟩) (nomark _)) (pss_one (ps_ret (pe_meth (pv 0) T.c_Record T.me_Record_begin (ok_Record_begin T) (hr.mono (by decide)) T.b_Record_begin .nil pass0 (pa_cons (pe_slice sl_list (pv 1) (po_some pe_int) po_none) pa_nil)))) pss_nil)
        (pss_cons (ps_if (pt_cmpR op_eq (pv 2) (pe_glob (v := .int (2)) (by rfl) T.g_CALL_LOAD ⟨_, rfl⟩) (nomark _)) (pss_one (ps_ret (pe_meth (pv 0) T.c_Record T.me_Record_load (ok_Record_load T) (hr.mono (by decide)) T.b_Record_load .nil pass0 (pa_cons (pe_slice sl_list (pv 1) (po_some pe_int) po_none) pa_nil)))) pss_nil)
        (pss_cons (ps_if (pt_cmpR op_eq (pv 2) (pe_glob (v := .int (3)) (by rfl) T.g_CALL_PLAY ⟨_, rfl⟩) (nomark _)) (pss_one (ps_ret (pe_meth (pv 0) T.c_Record T.me_Record_play (ok_Record_play T) (hr.mono (by decide)) T.b_Record_play .nil pass0 (pa_cons (pe_slice sl_list (pv 1) (po_some pe_int) po_none) pa_nil)))) pss_nil)
        (pss_cons (ps_if (pt_cmpR op_isN (pe_fld (pv 0) rfl) pe_non (nomark _)) (pss_one (ps_ret (pe_lst (pa_cons (pe_glob (v := .int (-8)) (by rfl) T.g_NO_SESSION ⟨_, rfl⟩) pa_nil)))) pss_nil)
        (pss_cons (ps_if (pt_cmpR op_le (pv 2) (pe_glob (v := .int (7)) (by rfl) T.g_CALL_REDO ⟨_, rfl⟩) (nomark _)) (pss_one (ps_ret (pe_call (ok_answer_to_change T) (hr.mono (by decide)) (by rfl) T.m_answer_to_change T.f_answer_to_change.kp T.b_answer_to_change .nil pass0 (pa_cons (pv 0) (pa_cons (pv 1) pa_nil))))) pss_nil)
        (pss_one (ps_ret (pe_call (ok_answer_to_question T) (hr.mono (by decide)) (by rfl) T.m_answer_to_question T.f_answer_to_question.kp T.b_answer_to_question .nil pass0 (pa_cons (pv 0) (pa_cons (pv 2) pa_nil))))))))))), ?_⟩
    rcases hrow with (rfl | rfl | rfl) | hp
    · refine ⟨_, rfl, l, _, _, _, rfl, rfl, hl, atI_nat (j := 0) (v := .int 1) rfl, ?_⟩
      refine ⟨_, rfl, rfl, _, rfl, yes ?_⟩
      refine ⟨_, rfl, r, dx, _, rfl, hrec, rfl, _, rfl, _, rfl, l, _, rfl, hl, fun l2 hl2 => ?_⟩
      have ec := cut 1 b
      have t2 : Same H (upd H l2 (.lst (cutV ((encC (.begin_ b)).map V.int) (some 2) Option.none))) := Same.new hl2
      have f2 : (upd H l2 (.lst (cutV ((encC (.begin_ b)).map V.int) (some 2) Option.none))) l2 = some (.lst (vB b)) := upd_same.trans (congrArg (fun z => some (HO.lst z)) ec)
      generalize upd H l2 _ = H2 at t2 f2 ⊢
      exact ⟨r, l2, b, st, rfl, hR.same t2, SqL.of f2, fun H' l' k h1 h2 h3 => q H' l' (t2.keep.trans k) h1 h2 h3⟩
    · refine ⟨_, rfl, l, _, _, _, rfl, rfl, hl, atI_nat (j := 0) (v := .int 2) rfl, ?_⟩
      refine ⟨_, rfl, rfl, _, rfl, not_ (ni (by decide)) ?_⟩
      refine ⟨_, rfl, rfl, _, rfl, yes ?_⟩
      refine ⟨_, rfl, r, dx, _, rfl, hrec, rfl, _, rfl, _, rfl, l, _, rfl, hl, fun l2 hl2 => ?_⟩
      have ec := cut 2 b
      have t2 : Same H (upd H l2 (.lst (cutV ((encC (.load b)).map V.int) (some 2) Option.none))) := Same.new hl2
      have f2 : (upd H l2 (.lst (cutV ((encC (.load b)).map V.int) (some 2) Option.none))) l2 = some (.lst (vB b)) := upd_same.trans (congrArg (fun z => some (HO.lst z)) ec)
      generalize upd H l2 _ = H2 at t2 f2 ⊢
      exact ⟨r, l2, b, st, rfl, hR.same t2, SqL.of f2, fun H' l' k h1 h2 h3 => q H' l' (t2.keep.trans k) h1 h2 h3⟩
    · refine ⟨_, rfl, l, _, _, _, rfl, rfl, hl, atI_nat (j := 0) (v := .int 3) rfl, ?_⟩
      refine ⟨_, rfl, rfl, _, rfl, not_ (ni (by decide)) ?_⟩
      refine ⟨_, rfl, rfl, _, rfl, not_ (ni (by decide)) ?_⟩
      refine ⟨_, rfl, rfl, _, rfl, yes ?_⟩
      refine ⟨_, rfl, r, dx, _, rfl, hrec, rfl, _, rfl, _, rfl, l, _, rfl, hl, fun l2 hl2 => ?_⟩
      have ec := cut 3 b
      have t2 : Same H (upd H l2 (.lst (cutV ((encC (.play b)).map V.int) (some 2) Option.none))) := Same.new hl2
      have f2 : (upd H l2 (.lst (cutV ((encC (.play b)).map V.int) (some 2) Option.none))) l2 = some (.lst (vB b)) := upd_same.trans (congrArg (fun z => some (HO.lst z)) ec)
      generalize upd H l2 _ = H2 at t2 f2 ⊢
      exact ⟨r, l2, b, st, rfl, hR.same t2, SqL.of f2, hf, fun H' l' k h1 h2 h3 => q H' l' (t2.keep.trans k) h1 h2 h3⟩
    · have hk : ∃ k : Int, ((encC c).map V.int)[0]? = some (.int k) ∧ 3 < k ∧ ((k ≤ 7 ∧ isChange c) ∨ (7 < k ∧ asksN c = some k)) ∧ PlaitS.step st c = onRec st c := by
        cases c with
        | begin_ b => exact absurd rfl hp
        | load b => exact absurd rfl hp
        | play b => exact absurd rfl hp
        | set p z => exact ⟨4, rfl, by decide, .inl ⟨by decide, trivial⟩, rfl⟩
        | move m => exact ⟨5, rfl, by decide, .inl ⟨by decide, trivial⟩, rfl⟩
        | undo => exact ⟨6, rfl, by decide, .inl ⟨by decide, trivial⟩, rfl⟩
        | redo => exact ⟨7, rfl, by decide, .inl ⟨by decide, trivial⟩, rfl⟩
        | panel => exact ⟨8, rfl, by decide, .inr ⟨by decide, rfl⟩, rfl⟩
        | drawn => exact ⟨9, rfl, by decide, .inr ⟨by decide, rfl⟩, rfl⟩
        | counts => exact ⟨10, rfl, by decide, .inr ⟨by decide, rfl⟩, rfl⟩
        | save => exact ⟨11, rfl, by decide, .inr ⟨by decide, rfl⟩, rfl⟩
        | head => exact ⟨12, rfl, by decide, .inr ⟨by decide, rfl⟩, rfl⟩
      obtain ⟨k, hk0, hk3, hkind, hstep⟩ := hk
      rw [hstep] at q
      refine ⟨_, rfl, l, _, _, _, rfl, rfl, hl, atI_nat (j := 0) hk0, ?_⟩
      refine ⟨_, rfl, rfl, _, rfl, not_ (ni (by omega)) ?_⟩
      refine ⟨_, rfl, rfl, _, rfl, not_ (ni (by omega)) ?_⟩
      refine ⟨_, rfl, rfl, _, rfl, not_ (ni (by omega)) ?_⟩
      cases st with
      | none =>
        obtain ⟨dx2, h2⟩ := id hR
        refine ⟨_, rfl, r, _, dx2, _, _, rfl, h2, T.c_Record, T.n_Record_journal, rfl, rfl, _, rfl, yes ?_⟩
        exact ⟨one_line, fun l1 hl1 => Ans.says q hR (Same.refl H).keep hl1⟩
      | some R =>
        obtain ⟨dx2, j, q0, B, xs, n, h2, _, _⟩ := id hR
        refine ⟨_, rfl, r, _, dx2, _, _, rfl, h2, T.c_Record, T.n_Record_journal, rfl, rfl, _, rfl, not_ (by intro z; cases z) ?_⟩
        refine ⟨_, rfl, _, _, rfl, rfl, _, rfl, ite2 (fun c1 => ?_) (fun c1 => ?_)⟩
        · have c1' : k ≤ 7 := db c1
          rcases hkind with ⟨_, hch⟩ | ⟨h7, _⟩
          · exact ⟨_, rfl, _, rfl, r, l, c, R, rfl, hl, hR, hch, q⟩
          · omega
        · have c1' : ¬ k ≤ 7 := db' c1
          rcases hkind with ⟨h7, _⟩ | ⟨_, hq⟩
          · omega
          · exact ⟨_, rfl, _, rfl, r, k, c, R, rfl, hq, hR, q⟩
end Pnl

set_option Elab.async false
set_option maxRecDepth 100000
set_option maxHeartbeats 2000000
set_option linter.all false
namespace Pnl
open PySem PySem.Spec PyProof.Rows L2 PM
open Plait (Done Sess)
open PlaitS (Rec Reply says gives tells State Call changed does begun)
variable {P : Program} {w : World} {K : PySem.W.Frag} {mg : Str → Option Value} {base : Heap} {a : Ad}
/-! ### what a locked list has to do with the record -/
def Nf (g : Addr) (H H' : Hp) : Prop := (∃ od u, H g = some (.frz od u)) ∧ But1 g H H'
theorem Nf.lst {g b : Addr} {H H' : Hp} {xs : List V} (n : Nf g H H') (h : H b = some (.lst xs)) : H' b = some (.lst xs) := by
  obtain ⟨⟨od, u, hg⟩, bt⟩ := n
  exact bt _ _ h (ne_of h hg (by intro z; cases z))
theorem Nf.ins {g b C dx : Addr} {H H' : Hp} {fs : List (Str × V)} (n : Nf g H H') (h : H b = some (.ins C dx fs)) : H' b = some (.ins C dx fs) := by
  obtain ⟨⟨od, u, hg⟩, bt⟩ := n
  exact bt _ _ h (ne_of h hg (by intro z; cases z))
theorem PanAt.nf {g p : Addr} {H H' : Hp} {D : Plait.Panel} (n : Nf g H H') (h : PanAt a H p D) : PanAt a H' p D := by
  obtain ⟨dx, l, h1, h2⟩ := h
  exact ⟨dx, l, n.ins h1, n.lst h2⟩
theorem SessAt.nf {g p : Addr} {H H' : Hp} {B : Plait.Panel} {xs : List Done} {m : Nat} (n : Nf g H H') (h : SessAt a H p B xs m) : SessAt a H' p B xs m := by
  obtain ⟨⟨dx, lp, ls, ps, cs, h1, h2, h3, h4, h5⟩, R, few, le⟩ := h
  refine ⟨⟨dx, lp, ls, ps, cs, n.ins h1, n.lst h2, n.lst h3, ⟨h4.1, fun i hi => ?_⟩, ⟨h5.1, fun i x hi => ?_⟩⟩, R, few, le⟩
  · obtain ⟨E, q, g1, g2, g3⟩ := h4.2 i hi
    exact ⟨E, q, g1, g2, g3.nf n⟩
  · obtain ⟨c, g1, g2⟩ := h5.2 i x hi
    exact ⟨c, g1, n.lst g2⟩
theorem RecAt.nf {g r : Addr} {H H' : Hp} {st : State} (n : Nf g H H') (h : RecAt a H r st) : RecAt a H' r st := by
  cases st with
  | none => obtain ⟨dx, h⟩ := h; exact ⟨dx, n.ins h⟩
  | some R =>
    obtain ⟨dx, j, q, B, xs, m, h, ⟨⟨dxj, hj⟩, hS⟩, e⟩ := h
    exact ⟨dx, j, q, B, xs, m, n.ins h, ⟨⟨dxj, n.ins hj⟩, hS.nf n⟩, e⟩
theorem seq_upd {g l : Addr} {H : Hp} {xs : List V} {o : HO} (hq : l ≠ g ∨ ∀ H, SqL K H l xs) (h : SqL K H l xs) : SqL K (upd H g o) l xs := by
  rcases hq with hq | hq
  · rcases h with (h | ⟨o', h⟩) | h
    · exact .inl (.inl (by rw [upd_ne hq]; exact h))
    · exact .inl (.inr ⟨o', by rw [upd_ne hq]; exact h⟩)
    · exact .inr h
  · exact hq _
structure AInv (K : PySem.W.Frag) (a : Ad) (l r g : Addr) (ns : List Int) (ks : List Call) (m : Nat) (σ : L2.St) (H' : Hp) : Prop where
  ex : ∃ (ks1 ks2 : List Call) (st : State) (o : List Int) (v1 v2 : Option V), ks = ks1 ++ ks2 ∧ m = ks2.length ∧ σ = [some (.ref l), some (.ref r), some (.ref g), some (.int (((ks1.flatMap encC).length : Nat) : Int)), v1, v2] ∧ H' g = some (.lst (o.map V.int)) ∧ o.length ≤ ks1.length * 1001 ∧
    out Option.none ks = o ++ out st ks2 ∧ ∀ x, RecAt a (upd H' g x) r st
  q : l ≠ g ∨ ∀ H, SqL K H l (ns.map V.int)
  l : SqL K H' l (ns.map V.int)
def spAnswers (K : PySem.W.Frag) : Sp := fun vs H Q _ => ∃ (l : Addr) (ns : List Int), vs = [.ref l] ∧ SqL K H l (ns.map V.int) ∧ PyWqaqbt.answers_asked ns = true ∧ ∀ (H' : Hp) (p : Addr), H' p = some (.lst ((PyWqaqbt.answers ns).map V.int)) → Q (.ref p) H'
theorem enc_pos (c : Call) : 0 < (encC c).length := by
  cases c <;> simp [encC]
theorem ok_answers (T : Txt K mg a) : FnOk P w K mg base CX0 13 a.f_answers a.d_answers ["calls"] (spAnswers K) := by
  have nd := sc_answers.nd
  refine T.f_answers.ok sc_answers (fun vs H Q E h => ?_) (fun cdv A outer s H vs Q E hr h => ?_)
  · obtain ⟨l, ns, rfl, _⟩ := h
    rfl
  · obtain ⟨l, ns, rfl, hl, hask, q⟩ := h
    obtain ⟨ks, hns, hfits, h200, hans⟩ := asked_view hask
    rw [hans] at q
    refine ⟨_, (pss_cons (ps_set (i := 1) nd rfl (by first | exact Or.inl rfl | exact Or.inr rfl) (pe_make0 T.mk_Record (ok_Record_init T) (hr.mono (by decide)) (by rfl) T.m_Record T.b_Record_init .nil pass0 ))
        (pss_cons (ps_set (i := 2) nd rfl (by first | exact Or.inl rfl | exact Or.inr rfl) (pe_lst pa_nil))
        (pss_cons (ps_set (i := 3) nd rfl (by first | exact Or.inl rfl | exact Or.inr rfl) pe_int)
        (pss_cons (ps_while PassesOwn.never (pt_cmpR op_lt (pv 3) (pe_callB call_len_seq (by rfl) T.no_len PySem.boot_len (pa_cons (pv 0) pa_nil)) (nomark _)) (pss_cons (ps_set (i := 4) nd rfl (by first | exact Or.inl rfl | exact Or.inr rfl) (pe_call (ok_call_end T) (hr.mono (by decide)) (by rfl) T.m_call_end T.f_call_end.kp T.b_call_end .nil pass0 (pa_cons (pv 0) (pa_cons (pv 3) pa_nil))))
        (pss_cons (ps_lock (ps_set (i := 5) nd rfl (by first | exact Or.inl rfl | exact Or.inr rfl) (pe_call (ok_answer_to T) (hr.mono (by decide)) (by rfl) T.m_answer_to T.f_answer_to.kp T.b_answer_to .nil pass0 (pa_cons (pv 1) (pa_cons (pe_slice sl_list (pv 0) (po_some (pv 3)) (po_some (pv 4))) pa_nil)))))
        (pss_cons (ps_expr (pe_bm PySem.F.plainAttrs_list PySem.F.slot_list_append PySem.F.type_list_append mt_append (pv 2) (pa_cons (pe_callB call_len_seq (by rfl) T.no_len PySem.boot_len (pa_cons (pv 5) pa_nil)) pa_nil)))
        (pss_cons (ps_expr (pe_bm PySem.F.plainAttrs_list PySem.F.slot_list_extend PySem.F.type_list_extend mt_extend (pv 2) (pa_cons (pv 5) pa_nil)))
        (pss_one (ps_set (i := 3) nd rfl (by first | exact Or.inl rfl | exact Or.inr rfl) (pv 4))))))))
        (pss_one (ps_ret (pv 2))))))), ?_⟩
    refine fun r dx hr0 hdx hne => ⟨r, dx, rfl, upd_same, rfl, ?_⟩
    rw [upd_upd]
    have t1 : Same H (upd (upd H dx (.own r)) r (.ins a.c_Record dx (rf .non))) := Same.put hr0 (Same.new hdx)
    have f1 : (upd (upd H dx (.own r)) r (.ins a.c_Record dx (rf .non))) r = some (.ins a.c_Record dx (rf .non)) := upd_same
    generalize upd (upd H dx (.own r)) r _ = H1 at t1 f1 ⊢
    refine ⟨Nat.zero_le _, fun g hg => ?_⟩
    have hl1 := t1.seq hl
    have hq : l ≠ g ∨ ∀ H, SqL K H l (ns.map V.int) := by
      rcases hl1 with (h | ⟨o, h⟩) | h
      · exact .inl (ne_of_none h hg)
      · exact .inl (ne_of_none h hg)
      · exact .inr fun _ => .inr h
    refine ⟨AInv K a l r g ns ks, ⟨ks.length, ⟨[], ks, Option.none, [], Option.none, Option.none, rfl, rfl, rfl, upd_same, Nat.zero_le _, rfl, fun x => ?_⟩, hq, seq_upd hq hl1⟩, ?_⟩
    · rw [upd_upd]
      exact ⟨dx, by rw [upd_ne (ne_of_none f1 hg)]; exact f1⟩
    rintro m σ H' ⟨⟨ks1, ks2, st, o, v1, v2, hks, rfl, rfl, fg, hol, hout, hrec⟩, _, hl'⟩
    refine ⟨_, rfl, _, rfl, l, _, rfl, .inl hl', _, _, rfl, rfl, _, rfl, ite2 (fun c => ?_) (fun c => ?_)⟩
    · have c' : (((ks1.flatMap encC).length : Nat) : Int) < ((ns.map V.int).length : Int) := db c
      rw [List.length_map] at c'
      cases hk2 : ks2 with
      | nil =>
        rw [hk2, List.append_nil] at hks
        rw [hns, hks] at c'
        omega
      | cons cc ks3 =>
        subst hk2
        have hdrop : ns.drop (ks1.flatMap encC).length = encC cc ++ ks3.flatMap encC := by
          rw [hns, hks, List.flatMap_append, List.drop_left' rfl, List.flatMap_cons]
        have hlen1 : ks1.length + (ks3.length + 1) ≤ 200 := by
          rw [hks, List.length_append, List.length_cons] at h200
          exact h200
        refine ⟨fun σ' H'' => ∃ m', m' < (cc :: ks3).length ∧ AInv K a l r g ns ks m' σ' H'', fun σ' H'' z => z, ?_⟩
        refine ⟨_, rfl, _, rfl, l, ns, (ks1.flatMap encC).length, cc, ks3.flatMap encC, rfl, hl', hdrop, ?_⟩
        -- answer = answer_to(record, calls[at:end]), the list given locked
        refine ⟨g, .lst (o.map V.int), fg, trivial, fun od => ?_⟩
        have fL : (upd H' g (.frz od (.lst (o.map V.int)))) g = some (.frz od (.lst (o.map V.int))) := upd_same
        have hLl : SqL K (upd H' g (.frz od (.lst (o.map V.int)))) l (ns.map V.int) := seq_upd hq hl'
        have hLr := hrec (.frz od (.lst (o.map V.int)))
        generalize upd H' g (.frz od (.lst (o.map V.int))) = HL at fL hLl hLr ⊢
        refine ⟨_, rfl, _, rfl, _, rfl, _, rfl, _, rfl, _, rfl, l, _, rfl, hLl, fun l2 hl2 => ?_⟩
        have ec : cutV (ns.map V.int) (some (((ks1.flatMap encC).length : Nat) : Int)) (some ((((ks1.flatMap encC).length + (encC cc).length : Nat)) : Int)) = (encC cc).map V.int := by
          rw [cut_nat, ← List.map_drop, ← List.map_take, hdrop, show (ks1.flatMap encC).length + (encC cc).length - (ks1.flatMap encC).length = (encC cc).length from by omega, List.take_left' rfl]
        rw [ec]
        have t2 : Same HL (upd HL l2 (.lst ((encC cc).map V.int))) := Same.new hl2
        have f2 : (upd HL l2 (.lst ((encC cc).map V.int))) l2 = some (.lst ((encC cc).map V.int)) := upd_same
        generalize upd HL l2 _ = H2 at t2 f2 ⊢
        refine ⟨r, l2, cc, st, rfl, SqL.of f2, hLr.same t2, hfits cc (by rw [hks]; simp), fun H3 l3 k3 hR3 f3 hlen3 => ?_⟩
        have fg3 : H3 g = some (.frz od (.lst (o.map V.int))) := k3 _ _ (t2 _ _ fL) rfl
        have ne3 : l3 ≠ g := ne_of f3 fg3 (by intro z; cases z)
        have hl3 : SqL K H3 l (ns.map V.int) := k3.seq (t2.seq hLl)
        refine ⟨fg3, ?_⟩
        generalize hrep : (PlaitS.step st cc).2 = rep at f3 hlen3
        -- given.append(len(answer))
        refine ⟨_, rfl, .inl ⟨rfl, _, SqL.of upd_same⟩, _, rfl, l3, _, rfl, .inl (SqL.of (by rw [upd_ne ne3]; exact f3)), g, _, _, rfl, rfl, upd_same, ?_, ?_⟩
        · rw [List.length_map]
          have : ks1.length * 1001 ≤ 200 * 1001 := Nat.mul_le_mul_right _ (by omega)
          exact Nat.lt_of_le_of_lt (show o.length ≤ 200200 by omega) (by decide)
        rw [upd_upd]
        -- given.extend(answer)
        refine ⟨_, rfl, .inl ⟨rfl, _, SqL.of upd_same⟩, _, rfl, g, l3, _, _, rfl, rfl, upd_same, (by rw [upd_ne ne3]; exact f3), ?_, ?_⟩
        · rw [List.length_append, List.length_map, List.length_map]
          have : ks1.length * 1001 ≤ 200 * 1001 := Nat.mul_le_mul_right _ (by omega)
          exact Nat.le_trans (show o.length + 1 + (repInts rep).length ≤ 300000 by omega) (by decide)
        rw [upd_upd]
        -- at = end
        refine ⟨_, rfl, ?_⟩
        refine ⟨ks3.length, by rw [List.length_cons]; omega, ⟨ks1 ++ [cc], ks3, (PlaitS.step st cc).1, o ++ (((repInts rep).length : Int) :: repInts rep), some (.int (((ks1.flatMap encC).length + (encC cc).length : Nat) : Int)), some (.ref l3), ?_, rfl, ?_, ?_, ?_, ?_, fun x => ?_⟩, hq, seq_upd hq hl3⟩
        · rw [hks, List.append_assoc]; rfl
        · rw [List.flatMap_append, List.length_append, List.flatMap_cons, List.flatMap_nil, List.append_nil]
          rfl
        · rw [upd_same, List.map_append, List.length_map, List.append_assoc]
          rfl
        · rw [List.length_append, List.length_append, List.length_cons, List.length_singleton]
          omega
        · rw [hout, List.append_assoc]
          show o ++ out st (cc :: ks3) = _
          congr 1
          show ((repInts (PlaitS.step st cc).2).length : Int) :: (repInts (PlaitS.step st cc).2 ++ out (PlaitS.step st cc).1 ks3) = _
          rw [hrep]
          rfl
        · rw [upd_upd]
          exact hR3.nf ⟨⟨od, _, fg3⟩, But1.upd⟩
    · have c' : ¬ (((ks1.flatMap encC).length : Nat) : Int) < ((ns.map V.int).length : Int) := db' c
      rw [List.length_map] at c'
      cases hk2 : ks2 with
      | nil =>
        subst hk2
        have ho : out Option.none ks = o := by rw [hout]; show o ++ [] = o; rw [List.append_nil]
        rw [ho] at q
        exact ⟨_, rfl, q H' g fg⟩
      | cons cc ks3 =>
        subst hk2
        have := enc_pos cc
        rw [hns, hks, List.flatMap_append, List.length_append, List.flatMap_cons, List.length_append] at c'
        omega
end Pnl

set_option Elab.async false
set_option maxRecDepth 100000
set_option maxHeartbeats 2000000
set_option linter.all false
namespace Pnl
open PySem PySem.Spec PyProof.Rows L2 PM
/-! ### what the top has written -/
structure FT (K : PySem.W.Frag) (x : Str) (st : Stmt) (f : Addr) (fd : FuncData) : Prop where
  fn : Fun K x x st f fd
  ns : PySem.W.nsIn K mainGlobals x = some (some (.ref f))
theorem ft_mk {K : PySem.W.Frag} {x : Str} {st : Stmt} {f : Addr} {oc : Value} {od an : Option Addr} {osl : Array (Option Value)} {kV doc pm cdv ct : Value} (a : PySem.W.nsIn K mainGlobals x = some (some (.ref f)))
    (l : K.lookup f = some ⟨oc, od, .func (PySem.W.fnOf x x (defArgs st) (defBody st) (defScope st) .none kV doc pm an cdv ct), osl⟩) (c : PySem.W.codeIn K cdv x = true) (k : PySem.W.keepIn K (.ref f) = true) : ∃ f fd, FT K x st f fd :=
  ⟨_, _, fun_mk l c k, a⟩
structure FM (K : PySem.W.Frag) (C : Addr) (x qual : Str) (st : Stmt) (f : Addr) (fd : FuncData) : Prop where
  fn : Fun K x qual st f fd
  at_ : PySem.W.findIn K (.ref C) x = some (some (.ref f))
  is : PySem.W.isFn K (.ref f) = true
theorem fm_mk {K : PySem.W.Frag} {C : Addr} {x qual : Str} {st : Stmt} {f : Addr} {oc : Value} {od an : Option Addr} {osl : Array (Option Value)} {kV doc pm cdv ct : Value} (a : PySem.W.findIn K (.ref C) x = some (some (.ref f))) (i : PySem.W.isFn K (.ref f) = true)
    (l : K.lookup f = some ⟨oc, od, .func (PySem.W.fnOf x qual (defArgs st) (defBody st) (defScope st) .none kV doc pm an cdv ct), osl⟩) (c : PySem.W.codeIn K cdv qual = true) (k : PySem.W.keepIn K (.ref f) = true) : ∃ f fd, FM K C x qual st f fd :=
  ⟨_, _, fun_mk l c k, a, i⟩
structure TupK (K : PySem.W.Frag) (p : Addr) (xs : List V) : Prop where
  ex : ∃ (o : Obj) (its : Array Value) (n : Nat), K.lookup p = some o ∧ o.cls = .type "tuple" ∧ o.data = .seq its n ∧ its.size ≤ sizeLine ∧ Vals xs its.toList
theorem TupK.sq {K : PySem.W.Frag} {p : Addr} {xs : List V} (h : TupK K p xs) (H : Hp) : SqT K H p xs := .inr h.ex
theorem tupK_mk {K : PySem.W.Frag} {p : Addr} {o : Obj} {its : Array Value} {n : Nat} {xs : List V} (l : K.lookup p = some o) (c : o.cls = .type "tuple") (d : o.data = .seq its n) (s : its.size ≤ sizeLine) (v : Vals xs its.toList) : TupK K p xs := ⟨⟨o, its, n, l, c, d, s, v⟩⟩
theorem tup_mk {K : PySem.W.Frag} {p : Addr} {o : Obj} {its : Array Value} {n : Nat} {xs : List V} {x : Str} (a : PySem.W.nsIn K mainGlobals x = some (some (.ref p))) (l : K.lookup p = some o) (c : o.cls = .type "tuple") (d : o.data = .seq its n) (s : its.size ≤ sizeLine) (v : Vals xs its.toList) :
    ∃ p, TupK K p xs ∧ PySem.W.nsIn K mainGlobals x = some (some (.ref p)) := ⟨p, tupK_mk l c d s v, a⟩
theorem int_mk {K : PySem.W.Frag} {x : Str} {v : Int} {t : Tok} (a : PySem.W.nsIn K mainGlobals x = some (some (.int v t))) : ∃ t, PySem.W.nsIn K mainGlobals x = some (some (.int v t)) := ⟨t, a⟩
theorem str_mk {K : PySem.W.Frag} {x v : Str} {t : Tok} (a : PySem.W.nsIn K mainGlobals x = some (some (.str v t))) : ∃ t, PySem.W.nsIn K mainGlobals x = some (some (.str v t)) := ⟨t, a⟩
theorem cm_Panel {K : PySem.W.Frag} {C : Addr} (x0 : PySem.W.nsIn K mainGlobals "Panel" = some (some (.ref C))) (x1 : PySem.W.plainGet K C Str.empty = true) (x2 : PySem.W.hasDictIn K C = true) (x3 : PySem.W.plainOver K C = true) (x4 : PySem.W.findIn K (.ref C) "__setattr__" = some (some (.builtin "object.__setattr__"))) (x5 : PySem.W.makesIn K C = true) (x6 : PySem.W.keepIn K (.ref C) = true) (x7 : PySem.W.findIn K (.ref C) "high" = some none) (x8 : PySem.W.findIn K (.ref C) "signs" = some none) (x9 : PySem.W.findIn K (.ref C) "wide" = some none) (x10 : (∃ f fd, FM K C "__init__" "Panel.__init__" s_Panel_init f fd)) : ∃ C, PySem.W.nsIn K mainGlobals "Panel" = some (some (.ref C)) ∧ PySem.W.plainGet K C Str.empty = true ∧ PySem.W.hasDictIn K C = true ∧ PySem.W.plainOver K C = true ∧ PySem.W.findIn K (.ref C) "__setattr__" = some (some (.builtin "object.__setattr__")) ∧ PySem.W.makesIn K C = true ∧ PySem.W.keepIn K (.ref C) = true ∧ PySem.W.findIn K (.ref C) "high" = some none ∧ PySem.W.findIn K (.ref C) "signs" = some none ∧ PySem.W.findIn K (.ref C) "wide" = some none ∧ (∃ f fd, FM K C "__init__" "Panel.__init__" s_Panel_init f fd) := ⟨C, x0, x1, x2, x3, x4, x5, x6, x7, x8, x9, x10⟩
theorem cm_Session {K : PySem.W.Frag} {C : Addr} (x0 : PySem.W.nsIn K mainGlobals "Session" = some (some (.ref C))) (x1 : PySem.W.plainGet K C Str.empty = true) (x2 : PySem.W.hasDictIn K C = true) (x3 : PySem.W.plainOver K C = true) (x4 : PySem.W.findIn K (.ref C) "__setattr__" = some (some (.builtin "object.__setattr__"))) (x5 : PySem.W.makesIn K C = true) (x6 : PySem.W.keepIn K (.ref C) = true) (x7 : PySem.W.findIn K (.ref C) "done" = some none) (x8 : PySem.W.findIn K (.ref C) "panels" = some none) (x9 : PySem.W.findIn K (.ref C) "steps" = some none) (x10 : (∃ f fd, FM K C "__init__" "Session.__init__" s_Session_init f fd)) : ∃ C, PySem.W.nsIn K mainGlobals "Session" = some (some (.ref C)) ∧ PySem.W.plainGet K C Str.empty = true ∧ PySem.W.hasDictIn K C = true ∧ PySem.W.plainOver K C = true ∧ PySem.W.findIn K (.ref C) "__setattr__" = some (some (.builtin "object.__setattr__")) ∧ PySem.W.makesIn K C = true ∧ PySem.W.keepIn K (.ref C) = true ∧ PySem.W.findIn K (.ref C) "done" = some none ∧ PySem.W.findIn K (.ref C) "panels" = some none ∧ PySem.W.findIn K (.ref C) "steps" = some none ∧ (∃ f fd, FM K C "__init__" "Session.__init__" s_Session_init f fd) := ⟨C, x0, x1, x2, x3, x4, x5, x6, x7, x8, x9, x10⟩
theorem cm_Journal {K : PySem.W.Frag} {C : Addr} (x0 : PySem.W.nsIn K mainGlobals "Journal" = some (some (.ref C))) (x1 : PySem.W.plainGet K C Str.empty = true) (x2 : PySem.W.hasDictIn K C = true) (x3 : PySem.W.plainOver K C = true) (x4 : PySem.W.findIn K (.ref C) "__setattr__" = some (some (.builtin "object.__setattr__"))) (x5 : PySem.W.makesIn K C = true) (x6 : PySem.W.keepIn K (.ref C) = true) (x7 : PySem.W.findIn K (.ref C) "bits" = some none) (x8 : PySem.W.findIn K (.ref C) "session" = some none) (x9 : (∃ f fd, FM K C "__init__" "Journal.__init__" s_Journal_init f fd)) : ∃ C, PySem.W.nsIn K mainGlobals "Journal" = some (some (.ref C)) ∧ PySem.W.plainGet K C Str.empty = true ∧ PySem.W.hasDictIn K C = true ∧ PySem.W.plainOver K C = true ∧ PySem.W.findIn K (.ref C) "__setattr__" = some (some (.builtin "object.__setattr__")) ∧ PySem.W.makesIn K C = true ∧ PySem.W.keepIn K (.ref C) = true ∧ PySem.W.findIn K (.ref C) "bits" = some none ∧ PySem.W.findIn K (.ref C) "session" = some none ∧ (∃ f fd, FM K C "__init__" "Journal.__init__" s_Journal_init f fd) := ⟨C, x0, x1, x2, x3, x4, x5, x6, x7, x8, x9⟩
theorem cm_Record {K : PySem.W.Frag} {C : Addr} (x0 : PySem.W.nsIn K mainGlobals "Record" = some (some (.ref C))) (x1 : PySem.W.plainGet K C Str.empty = true) (x2 : PySem.W.hasDictIn K C = true) (x3 : PySem.W.plainOver K C = true) (x4 : PySem.W.findIn K (.ref C) "__setattr__" = some (some (.builtin "object.__setattr__"))) (x5 : PySem.W.makesIn K C = true) (x6 : PySem.W.keepIn K (.ref C) = true) (x7 : PySem.W.findIn K (.ref C) "journal" = some none) (x8 : (∃ f fd, FM K C "__init__" "Record.__init__" s_Record_init f fd)) (x9 : (∃ f fd, FM K C "begin" "Record.begin" s_Record_begin f fd)) (x10 : (∃ f fd, FM K C "load" "Record.load" s_Record_load f fd)) (x11 : (∃ f fd, FM K C "play" "Record.play" s_Record_play f fd)) (x12 : (∃ f fd, FM K C "set_at" "Record.set_at" s_Record_set_at f fd)) (x13 : (∃ f fd, FM K C "move" "Record.move" s_Record_move f fd)) (x14 : (∃ f fd, FM K C "step" "Record.step" s_Record_step f fd)) (x15 : (∃ f fd, FM K C "undo" "Record.undo" s_Record_undo f fd)) (x16 : (∃ f fd, FM K C "redo" "Record.redo" s_Record_redo f fd)) (x17 : (∃ f fd, FM K C "panel" "Record.panel" s_Record_panel f fd)) (x18 : (∃ f fd, FM K C "drawn" "Record.drawn" s_Record_drawn f fd)) (x19 : (∃ f fd, FM K C "counts" "Record.counts" s_Record_counts f fd)) (x20 : (∃ f fd, FM K C "save" "Record.save" s_Record_save f fd)) (x21 : (∃ f fd, FM K C "head" "Record.head" s_Record_head f fd)) : ∃ C, PySem.W.nsIn K mainGlobals "Record" = some (some (.ref C)) ∧ PySem.W.plainGet K C Str.empty = true ∧ PySem.W.hasDictIn K C = true ∧ PySem.W.plainOver K C = true ∧ PySem.W.findIn K (.ref C) "__setattr__" = some (some (.builtin "object.__setattr__")) ∧ PySem.W.makesIn K C = true ∧ PySem.W.keepIn K (.ref C) = true ∧ PySem.W.findIn K (.ref C) "journal" = some none ∧ (∃ f fd, FM K C "__init__" "Record.__init__" s_Record_init f fd) ∧ (∃ f fd, FM K C "begin" "Record.begin" s_Record_begin f fd) ∧ (∃ f fd, FM K C "load" "Record.load" s_Record_load f fd) ∧ (∃ f fd, FM K C "play" "Record.play" s_Record_play f fd) ∧ (∃ f fd, FM K C "set_at" "Record.set_at" s_Record_set_at f fd) ∧ (∃ f fd, FM K C "move" "Record.move" s_Record_move f fd) ∧ (∃ f fd, FM K C "step" "Record.step" s_Record_step f fd) ∧ (∃ f fd, FM K C "undo" "Record.undo" s_Record_undo f fd) ∧ (∃ f fd, FM K C "redo" "Record.redo" s_Record_redo f fd) ∧ (∃ f fd, FM K C "panel" "Record.panel" s_Record_panel f fd) ∧ (∃ f fd, FM K C "drawn" "Record.drawn" s_Record_drawn f fd) ∧ (∃ f fd, FM K C "counts" "Record.counts" s_Record_counts f fd) ∧ (∃ f fd, FM K C "save" "Record.save" s_Record_save f fd) ∧ (∃ f fd, FM K C "head" "Record.head" s_Record_head f fd) := ⟨C, x0, x1, x2, x3, x4, x5, x6, x7, x8, x9, x10, x11, x12, x13, x14, x15, x16, x17, x18, x19, x20, x21⟩
theorem tm_SIDE_STEPS {K : PySem.W.Frag} {q0 q1 q2 q3 p : Addr} {o : Obj} {its : Array Value} {n : Nat} (a : PySem.W.nsIn K mainGlobals "SIDE_STEPS" = some (some (.ref p))) (l : K.lookup p = some o) (c : o.cls = .type "tuple") (d : o.data = .seq its n) (s : its.size ≤ sizeLine) (v : Vals [.ref q0, .ref q1, .ref q2, .ref q3] its.toList) (t0 : TupK K q0 [.int (0), .int (-1)]) (t1 : TupK K q1 [.int (1), .int (0)]) (t2 : TupK K q2 [.int (0), .int (1)]) (t3 : TupK K q3 [.int (-1), .int (0)]) : ∃ q0 q1 q2 q3 p, TupK K p [.ref q0, .ref q1, .ref q2, .ref q3] ∧ PySem.W.nsIn K mainGlobals "SIDE_STEPS" = some (some (.ref p)) ∧ TupK K q0 [.int (0), .int (-1)] ∧ TupK K q1 [.int (1), .int (0)] ∧ TupK K q2 [.int (0), .int (1)] ∧ TupK K q3 [.int (-1), .int (0)] := ⟨q0, q1, q2, q3, p, ⟨⟨o, its, n, l, c, d, s, v⟩⟩, a, t0, t1, t2, t3⟩
theorem all_mk {P : Program} {w : World} {K : PySem.W.Frag} {h : Heap} {mg : Str → Option Value} {fa : Addr} (X : K.In h) (G : h.Ns mainGlobals mg) (hfa : mg "answers" = some (.ref fa))
    (p_upright_count : ∃ f fd, FT K "upright_count" s_upright_count f fd)
    (p_place_count : ∃ f fd, FT K "place_count" s_place_count f fd)
    (p_upright_sign : ∃ f fd, FT K "upright_sign" s_upright_sign f fd)
    (p_level_sign : ∃ f fd, FT K "level_sign" s_level_sign f fd)
    (p_is_side : ∃ f fd, FT K "is_side" s_is_side f fd)
    (p_read_panel : ∃ f fd, FT K "read_panel" s_read_panel f fd)
    (p_panel_bytes : ∃ f fd, FT K "panel_bytes" s_panel_bytes f fd)
    (p_with_sign : ∃ f fd, FT K "with_sign" s_with_sign f fd)
    (p_square_line : ∃ f fd, FT K "square_line" s_square_line f fd)
    (p_level_line : ∃ f fd, FT K "level_line" s_level_line f fd)
    (p_drawing : ∃ f fd, FT K "drawing" s_drawing f fd)
    (p_drawing_bytes : ∃ f fd, FT K "drawing_bytes" s_drawing_bytes f fd)
    (p_low_first : ∃ f fd, FT K "low_first" s_low_first f fd)
    (p_number_at : ∃ f fd, FT K "number_at" s_number_at f fd)
    (p_bits_after : ∃ f fd, FT K "bits_after" s_bits_after f fd)
    (p_sum_bytes : ∃ f fd, FT K "sum_bytes" s_sum_bytes f fd)
    (p_mirrored : ∃ f fd, FT K "mirrored" s_mirrored f fd)
    (p_turned : ∃ f fd, FT K "turned" s_turned f fd)
    (p_moved : ∃ f fd, FT K "moved" s_moved f fd)
    (p_panel_now : ∃ f fd, FT K "panel_now" s_panel_now f fd)
    (p_back_count : ∃ f fd, FT K "back_count" s_back_count f fd)
    (p_change_bytes : ∃ f fd, FT K "change_bytes" s_change_bytes f fd)
    (p_panel_behind : ∃ f fd, FT K "panel_behind" s_panel_behind f fd)
    (p_do_step : ∃ f fd, FT K "do_step" s_do_step f fd)
    (p_do_change : ∃ f fd, FT K "do_change" s_do_change f fd)
    (p_session_bytes : ∃ f fd, FT K "session_bytes" s_session_bytes f fd)
    (p_read_session : ∃ f fd, FT K "read_session" s_read_session f fd)
    (p_beginning_bytes : ∃ f fd, FT K "beginning_bytes" s_beginning_bytes f fd)
    (p_begun_journal : ∃ f fd, FT K "begun_journal" s_begun_journal f fd)
    (p_note_change : ∃ f fd, FT K "note_change" s_note_change f fd)
    (p_beginning_size : ∃ f fd, FT K "beginning_size" s_beginning_size f fd)
    (p_read_beginning : ∃ f fd, FT K "read_beginning" s_read_beginning f fd)
    (p_play_note : ∃ f fd, FT K "play_note" s_play_note f fd)
    (p_play_notes : ∃ f fd, FT K "play_notes" s_play_notes f fd)
    (p_side_sign : ∃ f fd, FT K "side_sign" s_side_sign f fd)
    (p_end_at : ∃ f fd, FT K "end_at" s_end_at f fd)
    (p_joined_end : ∃ f fd, FT K "joined_end" s_joined_end f fd)
    (p_follow_strand : ∃ f fd, FT K "follow_strand" s_follow_strand f fd)
    (p_strand_count : ∃ f fd, FT K "strand_count" s_strand_count f fd)
    (p_counted : ∃ f fd, FT K "counted" s_counted f fd)
    (p_call_end : ∃ f fd, FT K "call_end" s_call_end f fd)
    (p_answer_to_change : ∃ f fd, FT K "answer_to_change" s_answer_to_change f fd)
    (p_answer_to_question : ∃ f fd, FT K "answer_to_question" s_answer_to_question f fd)
    (p_answer_to : ∃ f fd, FT K "answer_to" s_answer_to f fd)
    (p_answers : ∃ f fd, FT K "answers" s_answers f fd)
    (p_Panel : ∃ C, PySem.W.nsIn K mainGlobals "Panel" = some (some (.ref C)) ∧ PySem.W.plainGet K C Str.empty = true ∧ PySem.W.hasDictIn K C = true ∧ PySem.W.plainOver K C = true ∧ PySem.W.findIn K (.ref C) "__setattr__" = some (some (.builtin "object.__setattr__")) ∧ PySem.W.makesIn K C = true ∧ PySem.W.keepIn K (.ref C) = true ∧ PySem.W.findIn K (.ref C) "high" = some none ∧ PySem.W.findIn K (.ref C) "signs" = some none ∧ PySem.W.findIn K (.ref C) "wide" = some none ∧ (∃ f fd, FM K C "__init__" "Panel.__init__" s_Panel_init f fd))
    (p_Session : ∃ C, PySem.W.nsIn K mainGlobals "Session" = some (some (.ref C)) ∧ PySem.W.plainGet K C Str.empty = true ∧ PySem.W.hasDictIn K C = true ∧ PySem.W.plainOver K C = true ∧ PySem.W.findIn K (.ref C) "__setattr__" = some (some (.builtin "object.__setattr__")) ∧ PySem.W.makesIn K C = true ∧ PySem.W.keepIn K (.ref C) = true ∧ PySem.W.findIn K (.ref C) "done" = some none ∧ PySem.W.findIn K (.ref C) "panels" = some none ∧ PySem.W.findIn K (.ref C) "steps" = some none ∧ (∃ f fd, FM K C "__init__" "Session.__init__" s_Session_init f fd))
    (p_Journal : ∃ C, PySem.W.nsIn K mainGlobals "Journal" = some (some (.ref C)) ∧ PySem.W.plainGet K C Str.empty = true ∧ PySem.W.hasDictIn K C = true ∧ PySem.W.plainOver K C = true ∧ PySem.W.findIn K (.ref C) "__setattr__" = some (some (.builtin "object.__setattr__")) ∧ PySem.W.makesIn K C = true ∧ PySem.W.keepIn K (.ref C) = true ∧ PySem.W.findIn K (.ref C) "bits" = some none ∧ PySem.W.findIn K (.ref C) "session" = some none ∧ (∃ f fd, FM K C "__init__" "Journal.__init__" s_Journal_init f fd))
    (p_Record : ∃ C, PySem.W.nsIn K mainGlobals "Record" = some (some (.ref C)) ∧ PySem.W.plainGet K C Str.empty = true ∧ PySem.W.hasDictIn K C = true ∧ PySem.W.plainOver K C = true ∧ PySem.W.findIn K (.ref C) "__setattr__" = some (some (.builtin "object.__setattr__")) ∧ PySem.W.makesIn K C = true ∧ PySem.W.keepIn K (.ref C) = true ∧ PySem.W.findIn K (.ref C) "journal" = some none ∧ (∃ f fd, FM K C "__init__" "Record.__init__" s_Record_init f fd) ∧ (∃ f fd, FM K C "begin" "Record.begin" s_Record_begin f fd) ∧ (∃ f fd, FM K C "load" "Record.load" s_Record_load f fd) ∧ (∃ f fd, FM K C "play" "Record.play" s_Record_play f fd) ∧ (∃ f fd, FM K C "set_at" "Record.set_at" s_Record_set_at f fd) ∧ (∃ f fd, FM K C "move" "Record.move" s_Record_move f fd) ∧ (∃ f fd, FM K C "step" "Record.step" s_Record_step f fd) ∧ (∃ f fd, FM K C "undo" "Record.undo" s_Record_undo f fd) ∧ (∃ f fd, FM K C "redo" "Record.redo" s_Record_redo f fd) ∧ (∃ f fd, FM K C "panel" "Record.panel" s_Record_panel f fd) ∧ (∃ f fd, FM K C "drawn" "Record.drawn" s_Record_drawn f fd) ∧ (∃ f fd, FM K C "counts" "Record.counts" s_Record_counts f fd) ∧ (∃ f fd, FM K C "save" "Record.save" s_Record_save f fd) ∧ (∃ f fd, FM K C "head" "Record.head" s_Record_head f fd))
    (p_HEAD_SIZE_panels : ∃ t, PySem.W.nsIn K mainGlobals "HEAD_SIZE_panels" = some (some (.int (6) t)))
    (p_MOST_SIDE : ∃ t, PySem.W.nsIn K mainGlobals "MOST_SIDE" = some (some (.int (8) t)))
    (p_CROSSING : ∃ t, PySem.W.nsIn K mainGlobals "CROSSING" = some (some (.int (0) t)))
    (p_ALONG : ∃ t, PySem.W.nsIn K mainGlobals "ALONG" = some (some (.int (1) t)))
    (p_MOST_SIGN : ∃ t, PySem.W.nsIn K mainGlobals "MOST_SIGN" = some (some (.int (2) t)))
    (p_ALL_BITS : ∃ t, PySem.W.nsIn K mainGlobals "ALL_BITS" = some (some (.int (4294967295) t)))
    (p_FOLD : ∃ t, PySem.W.nsIn K mainGlobals "FOLD" = some (some (.int (2197175160) t)))
    (p_MOST_MOTION : ∃ t, PySem.W.nsIn K mainGlobals "MOST_MOTION" = some (some (.int (7) t)))
    (p_MOST_STEPS : ∃ t, PySem.W.nsIn K mainGlobals "MOST_STEPS" = some (some (.int (64) t)))
    (p_CHANGE_SIZE : ∃ t, PySem.W.nsIn K mainGlobals "CHANGE_SIZE" = some (some (.int (8) t)))
    (p_SET : ∃ t, PySem.W.nsIn K mainGlobals "SET" = some (some (.int (0) t)))
    (p_MOVE : ∃ t, PySem.W.nsIn K mainGlobals "MOVE" = some (some (.int (1) t)))
    (p_UNDO : ∃ t, PySem.W.nsIn K mainGlobals "UNDO" = some (some (.int (2) t)))
    (p_REDO : ∃ t, PySem.W.nsIn K mainGlobals "REDO" = some (some (.int (3) t)))
    (p_HEAD_SIZE_journals : ∃ t, PySem.W.nsIn K mainGlobals "HEAD_SIZE_journals" = some (some (.int (8) t)))
    (p_NOTE_SIZE : ∃ t, PySem.W.nsIn K mainGlobals "NOTE_SIZE" = some (some (.int (12) t)))
    (p_UPPER : ∃ t, PySem.W.nsIn K mainGlobals "UPPER" = some (some (.int (0) t)))
    (p_RIGHT : ∃ t, PySem.W.nsIn K mainGlobals "RIGHT" = some (some (.int (1) t)))
    (p_LOWER : ∃ t, PySem.W.nsIn K mainGlobals "LOWER" = some (some (.int (2) t)))
    (p_CALL_BEGIN : ∃ t, PySem.W.nsIn K mainGlobals "CALL_BEGIN" = some (some (.int (1) t)))
    (p_CALL_LOAD : ∃ t, PySem.W.nsIn K mainGlobals "CALL_LOAD" = some (some (.int (2) t)))
    (p_CALL_PLAY : ∃ t, PySem.W.nsIn K mainGlobals "CALL_PLAY" = some (some (.int (3) t)))
    (p_CALL_SET_AT : ∃ t, PySem.W.nsIn K mainGlobals "CALL_SET_AT" = some (some (.int (4) t)))
    (p_CALL_MOVE : ∃ t, PySem.W.nsIn K mainGlobals "CALL_MOVE" = some (some (.int (5) t)))
    (p_CALL_UNDO : ∃ t, PySem.W.nsIn K mainGlobals "CALL_UNDO" = some (some (.int (6) t)))
    (p_CALL_REDO : ∃ t, PySem.W.nsIn K mainGlobals "CALL_REDO" = some (some (.int (7) t)))
    (p_CALL_PANEL : ∃ t, PySem.W.nsIn K mainGlobals "CALL_PANEL" = some (some (.int (8) t)))
    (p_CALL_DRAWN : ∃ t, PySem.W.nsIn K mainGlobals "CALL_DRAWN" = some (some (.int (9) t)))
    (p_CALL_COUNTS : ∃ t, PySem.W.nsIn K mainGlobals "CALL_COUNTS" = some (some (.int (10) t)))
    (p_CALL_SAVE : ∃ t, PySem.W.nsIn K mainGlobals "CALL_SAVE" = some (some (.int (11) t)))
    (p_MOST_PANEL_BYTES : ∃ t, PySem.W.nsIn K mainGlobals "MOST_PANEL_BYTES" = some (some (.int (1024) t)))
    (p_MOST_BYTES : ∃ t, PySem.W.nsIn K mainGlobals "MOST_BYTES" = some (some (.int (65536) t)))
    (p_OUT_OF_RANGE : ∃ t, PySem.W.nsIn K mainGlobals "OUT_OF_RANGE" = some (some (.int (-1) t)))
    (p_TOO_LONG : ∃ t, PySem.W.nsIn K mainGlobals "TOO_LONG" = some (some (.int (-2) t)))
    (p_ALL_STEPS_DONE : ∃ t, PySem.W.nsIn K mainGlobals "ALL_STEPS_DONE" = some (some (.int (-3) t)))
    (p_NO_PLACE : ∃ t, PySem.W.nsIn K mainGlobals "NO_PLACE" = some (some (.int (-4) t)))
    (p_NOTHING_THERE : ∃ t, PySem.W.nsIn K mainGlobals "NOTHING_THERE" = some (some (.int (-5) t)))
    (p_NO_PANEL : ∃ t, PySem.W.nsIn K mainGlobals "NO_PANEL" = some (some (.int (-6) t)))
    (p_NO_SESSION : ∃ t, PySem.W.nsIn K mainGlobals "NO_SESSION" = some (some (.int (-8) t)))
    (p_WRONG_BYTES : ∃ t, PySem.W.nsIn K mainGlobals "WRONG_BYTES" = some (some (.int (-9) t)))
    (p_UPRIGHT_SIGNS : ∃ t, PySem.W.nsIn K mainGlobals "UPRIGHT_SIGNS" = some (some (.str "x|-" t)))
    (p_LEVEL_SIGNS : ∃ t, PySem.W.nsIn K mainGlobals "LEVEL_SIGNS" = some (some (.str "x-|" t)))
    (p_PANEL_MARK : ∃ p, TupK K p [.int 80, .int 76, .int 80, .int 49] ∧ PySem.W.nsIn K mainGlobals "PANEL_MARK" = some (some (.ref p)))
    (p_SESSION_MARK : ∃ p, TupK K p [.int 80, .int 76, .int 83, .int 49] ∧ PySem.W.nsIn K mainGlobals "SESSION_MARK" = some (some (.ref p)))
    (p_JOURNAL_MARK : ∃ p, TupK K p [.int 80, .int 76, .int 74, .int 49] ∧ PySem.W.nsIn K mainGlobals "JOURNAL_MARK" = some (some (.ref p)))
    (p_SIDE_STEPS : ∃ q0 q1 q2 q3 p, TupK K p [.ref q0, .ref q1, .ref q2, .ref q3] ∧ PySem.W.nsIn K mainGlobals "SIDE_STEPS" = some (some (.ref p)) ∧ TupK K q0 [.int (0), .int (-1)] ∧ TupK K q1 [.int (1), .int (0)] ∧ TupK K q2 [.int (0), .int (1)] ∧ TupK K q3 [.int (-1), .int (0)])
    (p_any : PySem.W.nsIn K mainGlobals "any" = some none)
    (p_len : PySem.W.nsIn K mainGlobals "len" = some none)
    (p_list : PySem.W.nsIn K mainGlobals "list" = some none)
    (p_ord : PySem.W.nsIn K mainGlobals "ord" = some none)
    (p_range : PySem.W.nsIn K mainGlobals "range" = some none)
    (p_reversed : PySem.W.nsIn K mainGlobals "reversed" = some none)
    : ∃ fd : FuncData, (∀ (s : Shared) (us : List Value), us.length = (["calls"] : List Str).length → BindsTo s fd ⟨us, []⟩ ((["calls"] : List Str).zip us)) ∧ ∀ base : Heap, K.In base → base.Ns mainGlobals mg → FnOk P w K mg base CX0 13 fa fd ["calls"] (spAnswers K) := by
  obtain ⟨f_upright_count, d_upright_count, F_upright_count⟩ := p_upright_count
  obtain ⟨f_place_count, d_place_count, F_place_count⟩ := p_place_count
  obtain ⟨f_upright_sign, d_upright_sign, F_upright_sign⟩ := p_upright_sign
  obtain ⟨f_level_sign, d_level_sign, F_level_sign⟩ := p_level_sign
  obtain ⟨f_is_side, d_is_side, F_is_side⟩ := p_is_side
  obtain ⟨f_read_panel, d_read_panel, F_read_panel⟩ := p_read_panel
  obtain ⟨f_panel_bytes, d_panel_bytes, F_panel_bytes⟩ := p_panel_bytes
  obtain ⟨f_with_sign, d_with_sign, F_with_sign⟩ := p_with_sign
  obtain ⟨f_square_line, d_square_line, F_square_line⟩ := p_square_line
  obtain ⟨f_level_line, d_level_line, F_level_line⟩ := p_level_line
  obtain ⟨f_drawing, d_drawing, F_drawing⟩ := p_drawing
  obtain ⟨f_drawing_bytes, d_drawing_bytes, F_drawing_bytes⟩ := p_drawing_bytes
  obtain ⟨f_low_first, d_low_first, F_low_first⟩ := p_low_first
  obtain ⟨f_number_at, d_number_at, F_number_at⟩ := p_number_at
  obtain ⟨f_bits_after, d_bits_after, F_bits_after⟩ := p_bits_after
  obtain ⟨f_sum_bytes, d_sum_bytes, F_sum_bytes⟩ := p_sum_bytes
  obtain ⟨f_mirrored, d_mirrored, F_mirrored⟩ := p_mirrored
  obtain ⟨f_turned, d_turned, F_turned⟩ := p_turned
  obtain ⟨f_moved, d_moved, F_moved⟩ := p_moved
  obtain ⟨f_panel_now, d_panel_now, F_panel_now⟩ := p_panel_now
  obtain ⟨f_back_count, d_back_count, F_back_count⟩ := p_back_count
  obtain ⟨f_change_bytes, d_change_bytes, F_change_bytes⟩ := p_change_bytes
  obtain ⟨f_panel_behind, d_panel_behind, F_panel_behind⟩ := p_panel_behind
  obtain ⟨f_do_step, d_do_step, F_do_step⟩ := p_do_step
  obtain ⟨f_do_change, d_do_change, F_do_change⟩ := p_do_change
  obtain ⟨f_session_bytes, d_session_bytes, F_session_bytes⟩ := p_session_bytes
  obtain ⟨f_read_session, d_read_session, F_read_session⟩ := p_read_session
  obtain ⟨f_beginning_bytes, d_beginning_bytes, F_beginning_bytes⟩ := p_beginning_bytes
  obtain ⟨f_begun_journal, d_begun_journal, F_begun_journal⟩ := p_begun_journal
  obtain ⟨f_note_change, d_note_change, F_note_change⟩ := p_note_change
  obtain ⟨f_beginning_size, d_beginning_size, F_beginning_size⟩ := p_beginning_size
  obtain ⟨f_read_beginning, d_read_beginning, F_read_beginning⟩ := p_read_beginning
  obtain ⟨f_play_note, d_play_note, F_play_note⟩ := p_play_note
  obtain ⟨f_play_notes, d_play_notes, F_play_notes⟩ := p_play_notes
  obtain ⟨f_side_sign, d_side_sign, F_side_sign⟩ := p_side_sign
  obtain ⟨f_end_at, d_end_at, F_end_at⟩ := p_end_at
  obtain ⟨f_joined_end, d_joined_end, F_joined_end⟩ := p_joined_end
  obtain ⟨f_follow_strand, d_follow_strand, F_follow_strand⟩ := p_follow_strand
  obtain ⟨f_strand_count, d_strand_count, F_strand_count⟩ := p_strand_count
  obtain ⟨f_counted, d_counted, F_counted⟩ := p_counted
  obtain ⟨f_call_end, d_call_end, F_call_end⟩ := p_call_end
  obtain ⟨f_answer_to_change, d_answer_to_change, F_answer_to_change⟩ := p_answer_to_change
  obtain ⟨f_answer_to_question, d_answer_to_question, F_answer_to_question⟩ := p_answer_to_question
  obtain ⟨f_answer_to, d_answer_to, F_answer_to⟩ := p_answer_to
  obtain ⟨f_answers, d_answers, F_answers⟩ := p_answers
  obtain ⟨c_Panel, ns_Panel, pg_Panel, hd_Panel, po_Panel, sa_Panel, mk_Panel, kc_Panel, n_Panel_high, n_Panel_signs, n_Panel_wide, ⟨f_Panel_init, d_Panel_init, F_Panel_init⟩⟩ := p_Panel
  obtain ⟨c_Session, ns_Session, pg_Session, hd_Session, po_Session, sa_Session, mk_Session, kc_Session, n_Session_done, n_Session_panels, n_Session_steps, ⟨f_Session_init, d_Session_init, F_Session_init⟩⟩ := p_Session
  obtain ⟨c_Journal, ns_Journal, pg_Journal, hd_Journal, po_Journal, sa_Journal, mk_Journal, kc_Journal, n_Journal_bits, n_Journal_session, ⟨f_Journal_init, d_Journal_init, F_Journal_init⟩⟩ := p_Journal
  obtain ⟨c_Record, ns_Record, pg_Record, hd_Record, po_Record, sa_Record, mk_Record, kc_Record, n_Record_journal, ⟨f_Record_init, d_Record_init, F_Record_init⟩, ⟨f_Record_begin, d_Record_begin, F_Record_begin⟩, ⟨f_Record_load, d_Record_load, F_Record_load⟩, ⟨f_Record_play, d_Record_play, F_Record_play⟩, ⟨f_Record_set_at, d_Record_set_at, F_Record_set_at⟩, ⟨f_Record_move, d_Record_move, F_Record_move⟩, ⟨f_Record_step, d_Record_step, F_Record_step⟩, ⟨f_Record_undo, d_Record_undo, F_Record_undo⟩, ⟨f_Record_redo, d_Record_redo, F_Record_redo⟩, ⟨f_Record_panel, d_Record_panel, F_Record_panel⟩, ⟨f_Record_drawn, d_Record_drawn, F_Record_drawn⟩, ⟨f_Record_counts, d_Record_counts, F_Record_counts⟩, ⟨f_Record_save, d_Record_save, F_Record_save⟩, ⟨f_Record_head, d_Record_head, F_Record_head⟩⟩ := p_Record
  obtain ⟨t_HEAD_SIZE_panels, g_HEAD_SIZE_panels⟩ := p_HEAD_SIZE_panels
  obtain ⟨t_MOST_SIDE, g_MOST_SIDE⟩ := p_MOST_SIDE
  obtain ⟨t_CROSSING, g_CROSSING⟩ := p_CROSSING
  obtain ⟨t_ALONG, g_ALONG⟩ := p_ALONG
  obtain ⟨t_MOST_SIGN, g_MOST_SIGN⟩ := p_MOST_SIGN
  obtain ⟨t_ALL_BITS, g_ALL_BITS⟩ := p_ALL_BITS
  obtain ⟨t_FOLD, g_FOLD⟩ := p_FOLD
  obtain ⟨t_MOST_MOTION, g_MOST_MOTION⟩ := p_MOST_MOTION
  obtain ⟨t_MOST_STEPS, g_MOST_STEPS⟩ := p_MOST_STEPS
  obtain ⟨t_CHANGE_SIZE, g_CHANGE_SIZE⟩ := p_CHANGE_SIZE
  obtain ⟨t_SET, g_SET⟩ := p_SET
  obtain ⟨t_MOVE, g_MOVE⟩ := p_MOVE
  obtain ⟨t_UNDO, g_UNDO⟩ := p_UNDO
  obtain ⟨t_REDO, g_REDO⟩ := p_REDO
  obtain ⟨t_HEAD_SIZE_journals, g_HEAD_SIZE_journals⟩ := p_HEAD_SIZE_journals
  obtain ⟨t_NOTE_SIZE, g_NOTE_SIZE⟩ := p_NOTE_SIZE
  obtain ⟨t_UPPER, g_UPPER⟩ := p_UPPER
  obtain ⟨t_RIGHT, g_RIGHT⟩ := p_RIGHT
  obtain ⟨t_LOWER, g_LOWER⟩ := p_LOWER
  obtain ⟨t_CALL_BEGIN, g_CALL_BEGIN⟩ := p_CALL_BEGIN
  obtain ⟨t_CALL_LOAD, g_CALL_LOAD⟩ := p_CALL_LOAD
  obtain ⟨t_CALL_PLAY, g_CALL_PLAY⟩ := p_CALL_PLAY
  obtain ⟨t_CALL_SET_AT, g_CALL_SET_AT⟩ := p_CALL_SET_AT
  obtain ⟨t_CALL_MOVE, g_CALL_MOVE⟩ := p_CALL_MOVE
  obtain ⟨t_CALL_UNDO, g_CALL_UNDO⟩ := p_CALL_UNDO
  obtain ⟨t_CALL_REDO, g_CALL_REDO⟩ := p_CALL_REDO
  obtain ⟨t_CALL_PANEL, g_CALL_PANEL⟩ := p_CALL_PANEL
  obtain ⟨t_CALL_DRAWN, g_CALL_DRAWN⟩ := p_CALL_DRAWN
  obtain ⟨t_CALL_COUNTS, g_CALL_COUNTS⟩ := p_CALL_COUNTS
  obtain ⟨t_CALL_SAVE, g_CALL_SAVE⟩ := p_CALL_SAVE
  obtain ⟨t_MOST_PANEL_BYTES, g_MOST_PANEL_BYTES⟩ := p_MOST_PANEL_BYTES
  obtain ⟨t_MOST_BYTES, g_MOST_BYTES⟩ := p_MOST_BYTES
  obtain ⟨t_OUT_OF_RANGE, g_OUT_OF_RANGE⟩ := p_OUT_OF_RANGE
  obtain ⟨t_TOO_LONG, g_TOO_LONG⟩ := p_TOO_LONG
  obtain ⟨t_ALL_STEPS_DONE, g_ALL_STEPS_DONE⟩ := p_ALL_STEPS_DONE
  obtain ⟨t_NO_PLACE, g_NO_PLACE⟩ := p_NO_PLACE
  obtain ⟨t_NOTHING_THERE, g_NOTHING_THERE⟩ := p_NOTHING_THERE
  obtain ⟨t_NO_PANEL, g_NO_PANEL⟩ := p_NO_PANEL
  obtain ⟨t_NO_SESSION, g_NO_SESSION⟩ := p_NO_SESSION
  obtain ⟨t_WRONG_BYTES, g_WRONG_BYTES⟩ := p_WRONG_BYTES
  obtain ⟨t_UPRIGHT_SIGNS, g_UPRIGHT_SIGNS⟩ := p_UPRIGHT_SIGNS
  obtain ⟨t_LEVEL_SIGNS, g_LEVEL_SIGNS⟩ := p_LEVEL_SIGNS
  obtain ⟨p_PANEL_MARK, q_PANEL_MARK, g_PANEL_MARK⟩ := p_PANEL_MARK
  obtain ⟨p_SESSION_MARK, q_SESSION_MARK, g_SESSION_MARK⟩ := p_SESSION_MARK
  obtain ⟨p_JOURNAL_MARK, q_JOURNAL_MARK, g_JOURNAL_MARK⟩ := p_JOURNAL_MARK
  obtain ⟨p_SIDE_STEPS_0, p_SIDE_STEPS_1, p_SIDE_STEPS_2, p_SIDE_STEPS_3, p_SIDE_STEPS, q_SIDE_STEPS, g_SIDE_STEPS, q_SIDE_STEPS_0, q_SIDE_STEPS_1, q_SIDE_STEPS_2, q_SIDE_STEPS_3⟩ := p_SIDE_STEPS
  have e := hfa.symm.trans (PySem.W.mg_of X G F_answers.ns)
  cases e
  have T : Txt K mg { f_Panel_init := f_Panel_init, d_Panel_init := d_Panel_init, f_upright_count := f_upright_count, d_upright_count := d_upright_count, f_place_count := f_place_count, d_place_count := d_place_count, f_upright_sign := f_upright_sign, d_upright_sign := d_upright_sign, f_level_sign := f_level_sign, d_level_sign := d_level_sign, f_is_side := f_is_side, d_is_side := d_is_side, f_read_panel := f_read_panel, d_read_panel := d_read_panel, f_panel_bytes := f_panel_bytes, d_panel_bytes := d_panel_bytes, f_with_sign := f_with_sign, d_with_sign := d_with_sign, f_square_line := f_square_line, d_square_line := d_square_line, f_level_line := f_level_line, d_level_line := d_level_line, f_drawing := f_drawing, d_drawing := d_drawing, f_drawing_bytes := f_drawing_bytes, d_drawing_bytes := d_drawing_bytes, f_low_first := f_low_first, d_low_first := d_low_first, f_number_at := f_number_at, d_number_at := d_number_at, f_bits_after := f_bits_after, d_bits_after := d_bits_after, f_sum_bytes := f_sum_bytes, d_sum_bytes := d_sum_bytes, f_mirrored := f_mirrored, d_mirrored := d_mirrored, f_turned := f_turned, d_turned := d_turned, f_moved := f_moved, d_moved := d_moved, f_Session_init := f_Session_init, d_Session_init := d_Session_init, f_panel_now := f_panel_now, d_panel_now := d_panel_now, f_back_count := f_back_count, d_back_count := d_back_count, f_change_bytes := f_change_bytes, d_change_bytes := d_change_bytes, f_panel_behind := f_panel_behind, d_panel_behind := d_panel_behind, f_do_step := f_do_step, d_do_step := d_do_step, f_do_change := f_do_change, d_do_change := d_do_change, f_session_bytes := f_session_bytes, d_session_bytes := d_session_bytes, f_read_session := f_read_session, d_read_session := d_read_session, f_Journal_init := f_Journal_init, d_Journal_init := d_Journal_init, f_beginning_bytes := f_beginning_bytes, d_beginning_bytes := d_beginning_bytes, f_begun_journal := f_begun_journal, d_begun_journal := d_begun_journal, f_note_change := f_note_change, d_note_change := d_note_change, f_beginning_size := f_beginning_size, d_beginning_size := d_beginning_size, f_read_beginning := f_read_beginning, d_read_beginning := d_read_beginning, f_play_note := f_play_note, d_play_note := d_play_note, f_play_notes := f_play_notes, d_play_notes := d_play_notes, f_side_sign := f_side_sign, d_side_sign := d_side_sign, f_end_at := f_end_at, d_end_at := d_end_at, f_joined_end := f_joined_end, d_joined_end := d_joined_end, f_follow_strand := f_follow_strand, d_follow_strand := d_follow_strand, f_strand_count := f_strand_count, d_strand_count := d_strand_count, f_counted := f_counted, d_counted := d_counted, f_Record_init := f_Record_init, d_Record_init := d_Record_init, f_Record_begin := f_Record_begin, d_Record_begin := d_Record_begin, f_Record_load := f_Record_load, d_Record_load := d_Record_load, f_Record_play := f_Record_play, d_Record_play := d_Record_play, f_Record_set_at := f_Record_set_at, d_Record_set_at := d_Record_set_at, f_Record_move := f_Record_move, d_Record_move := d_Record_move, f_Record_step := f_Record_step, d_Record_step := d_Record_step, f_Record_undo := f_Record_undo, d_Record_undo := d_Record_undo, f_Record_redo := f_Record_redo, d_Record_redo := d_Record_redo, f_Record_panel := f_Record_panel, d_Record_panel := d_Record_panel, f_Record_drawn := f_Record_drawn, d_Record_drawn := d_Record_drawn, f_Record_counts := f_Record_counts, d_Record_counts := d_Record_counts, f_Record_save := f_Record_save, d_Record_save := d_Record_save, f_Record_head := f_Record_head, d_Record_head := d_Record_head, f_call_end := f_call_end, d_call_end := d_call_end, f_answer_to_change := f_answer_to_change, d_answer_to_change := d_answer_to_change, f_answer_to_question := f_answer_to_question, d_answer_to_question := d_answer_to_question, f_answer_to := f_answer_to, d_answer_to := d_answer_to, f_answers := fa, d_answers := d_answers, c_Panel := c_Panel, c_Session := c_Session, c_Journal := c_Journal, c_Record := c_Record, t_HEAD_SIZE_panels := t_HEAD_SIZE_panels, t_MOST_SIDE := t_MOST_SIDE, t_CROSSING := t_CROSSING, t_ALONG := t_ALONG, t_MOST_SIGN := t_MOST_SIGN, t_ALL_BITS := t_ALL_BITS, t_FOLD := t_FOLD, t_MOST_MOTION := t_MOST_MOTION, t_MOST_STEPS := t_MOST_STEPS, t_CHANGE_SIZE := t_CHANGE_SIZE, t_SET := t_SET, t_MOVE := t_MOVE, t_UNDO := t_UNDO, t_REDO := t_REDO, t_HEAD_SIZE_journals := t_HEAD_SIZE_journals, t_NOTE_SIZE := t_NOTE_SIZE, t_UPPER := t_UPPER, t_RIGHT := t_RIGHT, t_LOWER := t_LOWER, t_CALL_BEGIN := t_CALL_BEGIN, t_CALL_LOAD := t_CALL_LOAD, t_CALL_PLAY := t_CALL_PLAY, t_CALL_SET_AT := t_CALL_SET_AT, t_CALL_MOVE := t_CALL_MOVE, t_CALL_UNDO := t_CALL_UNDO, t_CALL_REDO := t_CALL_REDO, t_CALL_PANEL := t_CALL_PANEL, t_CALL_DRAWN := t_CALL_DRAWN, t_CALL_COUNTS := t_CALL_COUNTS, t_CALL_SAVE := t_CALL_SAVE, t_MOST_PANEL_BYTES := t_MOST_PANEL_BYTES, t_MOST_BYTES := t_MOST_BYTES, t_OUT_OF_RANGE := t_OUT_OF_RANGE, t_TOO_LONG := t_TOO_LONG, t_ALL_STEPS_DONE := t_ALL_STEPS_DONE, t_NO_PLACE := t_NO_PLACE, t_NOTHING_THERE := t_NOTHING_THERE, t_NO_PANEL := t_NO_PANEL, t_NO_SESSION := t_NO_SESSION, t_WRONG_BYTES := t_WRONG_BYTES, p_PANEL_MARK := p_PANEL_MARK, p_SESSION_MARK := p_SESSION_MARK, p_JOURNAL_MARK := p_JOURNAL_MARK, p_SIDE_STEPS := p_SIDE_STEPS, p_SIDE_STEPS_0 := p_SIDE_STEPS_0, p_SIDE_STEPS_1 := p_SIDE_STEPS_1, p_SIDE_STEPS_2 := p_SIDE_STEPS_2, p_SIDE_STEPS_3 := p_SIDE_STEPS_3, t_UPRIGHT_SIGNS := t_UPRIGHT_SIGNS, t_LEVEL_SIGNS := t_LEVEL_SIGNS } := {
    f_Panel_init := F_Panel_init.fn
    b_Panel_init := F_Panel_init.fn.binds (ps := ["self", "wide", "high", "signs"]) fun _ _ _ _ _ _ us hl => match us, hl with | [_, _, _, _], _ => rfl
    f_upright_count := F_upright_count.fn
    b_upright_count := F_upright_count.fn.binds (ps := ["wide", "high"]) fun _ _ _ _ _ _ us hl => match us, hl with | [_, _], _ => rfl
    m_upright_count := PySem.W.mg_of X G F_upright_count.ns
    f_place_count := F_place_count.fn
    b_place_count := F_place_count.fn.binds (ps := ["wide", "high"]) fun _ _ _ _ _ _ us hl => match us, hl with | [_, _], _ => rfl
    m_place_count := PySem.W.mg_of X G F_place_count.ns
    f_upright_sign := F_upright_sign.fn
    b_upright_sign := F_upright_sign.fn.binds (ps := ["panel", "x", "y"]) fun _ _ _ _ _ _ us hl => match us, hl with | [_, _, _], _ => rfl
    m_upright_sign := PySem.W.mg_of X G F_upright_sign.ns
    f_level_sign := F_level_sign.fn
    b_level_sign := F_level_sign.fn.binds (ps := ["panel", "x", "y"]) fun _ _ _ _ _ _ us hl => match us, hl with | [_, _, _], _ => rfl
    m_level_sign := PySem.W.mg_of X G F_level_sign.ns
    f_is_side := F_is_side.fn
    b_is_side := F_is_side.fn.binds (ps := ["number"]) fun _ _ _ _ _ _ us hl => match us, hl with | [_], _ => rfl
    m_is_side := PySem.W.mg_of X G F_is_side.ns
    f_read_panel := F_read_panel.fn
    b_read_panel := F_read_panel.fn.binds (ps := ["numbers"]) fun _ _ _ _ _ _ us hl => match us, hl with | [_], _ => rfl
    m_read_panel := PySem.W.mg_of X G F_read_panel.ns
    f_panel_bytes := F_panel_bytes.fn
    b_panel_bytes := F_panel_bytes.fn.binds (ps := ["panel"]) fun _ _ _ _ _ _ us hl => match us, hl with | [_], _ => rfl
    m_panel_bytes := PySem.W.mg_of X G F_panel_bytes.ns
    f_with_sign := F_with_sign.fn
    b_with_sign := F_with_sign.fn.binds (ps := ["panel", "place", "sign"]) fun _ _ _ _ _ _ us hl => match us, hl with | [_, _, _], _ => rfl
    m_with_sign := PySem.W.mg_of X G F_with_sign.ns
    f_square_line := F_square_line.fn
    b_square_line := F_square_line.fn.binds (ps := ["panel", "y"]) fun _ _ _ _ _ _ us hl => match us, hl with | [_, _], _ => rfl
    m_square_line := PySem.W.mg_of X G F_square_line.ns
    f_level_line := F_level_line.fn
    b_level_line := F_level_line.fn.binds (ps := ["panel", "y"]) fun _ _ _ _ _ _ us hl => match us, hl with | [_, _], _ => rfl
    m_level_line := PySem.W.mg_of X G F_level_line.ns
    f_drawing := F_drawing.fn
    b_drawing := F_drawing.fn.binds (ps := ["panel"]) fun _ _ _ _ _ _ us hl => match us, hl with | [_], _ => rfl
    m_drawing := PySem.W.mg_of X G F_drawing.ns
    f_drawing_bytes := F_drawing_bytes.fn
    b_drawing_bytes := F_drawing_bytes.fn.binds (ps := ["panel"]) fun _ _ _ _ _ _ us hl => match us, hl with | [_], _ => rfl
    m_drawing_bytes := PySem.W.mg_of X G F_drawing_bytes.ns
    f_low_first := F_low_first.fn
    b_low_first := F_low_first.fn.binds (ps := ["number", "size"]) fun _ _ _ _ _ _ us hl => match us, hl with | [_, _], _ => rfl
    m_low_first := PySem.W.mg_of X G F_low_first.ns
    f_number_at := F_number_at.fn
    b_number_at := F_number_at.fn.binds (ps := ["numbers", "start", "size"]) fun _ _ _ _ _ _ us hl => match us, hl with | [_, _, _], _ => rfl
    m_number_at := PySem.W.mg_of X G F_number_at.ns
    f_bits_after := F_bits_after.fn
    b_bits_after := F_bits_after.fn.binds (ps := ["bits", "numbers"]) fun _ _ _ _ _ _ us hl => match us, hl with | [_, _], _ => rfl
    m_bits_after := PySem.W.mg_of X G F_bits_after.ns
    f_sum_bytes := F_sum_bytes.fn
    b_sum_bytes := F_sum_bytes.fn.binds (ps := ["bits"]) fun _ _ _ _ _ _ us hl => match us, hl with | [_], _ => rfl
    m_sum_bytes := PySem.W.mg_of X G F_sum_bytes.ns
    f_mirrored := F_mirrored.fn
    b_mirrored := F_mirrored.fn.binds (ps := ["panel"]) fun _ _ _ _ _ _ us hl => match us, hl with | [_], _ => rfl
    m_mirrored := PySem.W.mg_of X G F_mirrored.ns
    f_turned := F_turned.fn
    b_turned := F_turned.fn.binds (ps := ["panel"]) fun _ _ _ _ _ _ us hl => match us, hl with | [_], _ => rfl
    m_turned := PySem.W.mg_of X G F_turned.ns
    f_moved := F_moved.fn
    b_moved := F_moved.fn.binds (ps := ["panel", "motion"]) fun _ _ _ _ _ _ us hl => match us, hl with | [_, _], _ => rfl
    m_moved := PySem.W.mg_of X G F_moved.ns
    f_Session_init := F_Session_init.fn
    b_Session_init := F_Session_init.fn.binds (ps := ["self", "first"]) fun _ _ _ _ _ _ us hl => match us, hl with | [_, _], _ => rfl
    f_panel_now := F_panel_now.fn
    b_panel_now := F_panel_now.fn.binds (ps := ["session"]) fun _ _ _ _ _ _ us hl => match us, hl with | [_], _ => rfl
    m_panel_now := PySem.W.mg_of X G F_panel_now.ns
    f_back_count := F_back_count.fn
    b_back_count := F_back_count.fn.binds (ps := ["session"]) fun _ _ _ _ _ _ us hl => match us, hl with | [_], _ => rfl
    m_back_count := PySem.W.mg_of X G F_back_count.ns
    f_change_bytes := F_change_bytes.fn
    b_change_bytes := F_change_bytes.fn.binds (ps := ["kind", "first", "second"]) fun _ _ _ _ _ _ us hl => match us, hl with | [_, _, _], _ => rfl
    m_change_bytes := PySem.W.mg_of X G F_change_bytes.ns
    f_panel_behind := F_panel_behind.fn
    b_panel_behind := F_panel_behind.fn.binds (ps := ["panel", "code"]) fun _ _ _ _ _ _ us hl => match us, hl with | [_, _], _ => rfl
    m_panel_behind := PySem.W.mg_of X G F_panel_behind.ns
    f_do_step := F_do_step.fn
    b_do_step := F_do_step.fn.binds (ps := ["session", "code"]) fun _ _ _ _ _ _ us hl => match us, hl with | [_, _], _ => rfl
    m_do_step := PySem.W.mg_of X G F_do_step.ns
    f_do_change := F_do_change.fn
    b_do_change := F_do_change.fn.binds (ps := ["session", "code"]) fun _ _ _ _ _ _ us hl => match us, hl with | [_, _], _ => rfl
    m_do_change := PySem.W.mg_of X G F_do_change.ns
    f_session_bytes := F_session_bytes.fn
    b_session_bytes := F_session_bytes.fn.binds (ps := ["session"]) fun _ _ _ _ _ _ us hl => match us, hl with | [_], _ => rfl
    m_session_bytes := PySem.W.mg_of X G F_session_bytes.ns
    f_read_session := F_read_session.fn
    b_read_session := F_read_session.fn.binds (ps := ["numbers"]) fun _ _ _ _ _ _ us hl => match us, hl with | [_], _ => rfl
    m_read_session := PySem.W.mg_of X G F_read_session.ns
    f_Journal_init := F_Journal_init.fn
    b_Journal_init := F_Journal_init.fn.binds (ps := ["self", "session", "bits"]) fun _ _ _ _ _ _ us hl => match us, hl with | [_, _, _], _ => rfl
    f_beginning_bytes := F_beginning_bytes.fn
    b_beginning_bytes := F_beginning_bytes.fn.binds (ps := ["session"]) fun _ _ _ _ _ _ us hl => match us, hl with | [_], _ => rfl
    m_beginning_bytes := PySem.W.mg_of X G F_beginning_bytes.ns
    f_begun_journal := F_begun_journal.fn
    b_begun_journal := F_begun_journal.fn.binds (ps := ["session"]) fun _ _ _ _ _ _ us hl => match us, hl with | [_], _ => rfl
    m_begun_journal := PySem.W.mg_of X G F_begun_journal.ns
    f_note_change := F_note_change.fn
    b_note_change := F_note_change.fn.binds (ps := ["journal", "code"]) fun _ _ _ _ _ _ us hl => match us, hl with | [_, _], _ => rfl
    m_note_change := PySem.W.mg_of X G F_note_change.ns
    f_beginning_size := F_beginning_size.fn
    b_beginning_size := F_beginning_size.fn.binds (ps := ["numbers"]) fun _ _ _ _ _ _ us hl => match us, hl with | [_], _ => rfl
    m_beginning_size := PySem.W.mg_of X G F_beginning_size.ns
    f_read_beginning := F_read_beginning.fn
    b_read_beginning := F_read_beginning.fn.binds (ps := ["numbers"]) fun _ _ _ _ _ _ us hl => match us, hl with | [_], _ => rfl
    m_read_beginning := PySem.W.mg_of X G F_read_beginning.ns
    f_play_note := F_play_note.fn
    b_play_note := F_play_note.fn.binds (ps := ["journal", "note"]) fun _ _ _ _ _ _ us hl => match us, hl with | [_, _], _ => rfl
    m_play_note := PySem.W.mg_of X G F_play_note.ns
    f_play_notes := F_play_notes.fn
    b_play_notes := F_play_notes.fn.binds (ps := ["journal", "numbers", "start"]) fun _ _ _ _ _ _ us hl => match us, hl with | [_, _, _], _ => rfl
    m_play_notes := PySem.W.mg_of X G F_play_notes.ns
    f_side_sign := F_side_sign.fn
    b_side_sign := F_side_sign.fn.binds (ps := ["panel", "x", "y", "side"]) fun _ _ _ _ _ _ us hl => match us, hl with | [_, _, _, _], _ => rfl
    m_side_sign := PySem.W.mg_of X G F_side_sign.ns
    f_end_at := F_end_at.fn
    b_end_at := F_end_at.fn.binds (ps := ["square", "side", "begins"]) fun _ _ _ _ _ _ us hl => match us, hl with | [_, _, _], _ => rfl
    m_end_at := PySem.W.mg_of X G F_end_at.ns
    f_joined_end := F_joined_end.fn
    b_joined_end := F_joined_end.fn.binds (ps := ["panel", "end"]) fun _ _ _ _ _ _ us hl => match us, hl with | [_, _], _ => rfl
    m_joined_end := PySem.W.mg_of X G F_joined_end.ns
    f_follow_strand := F_follow_strand.fn
    b_follow_strand := F_follow_strand.fn.binds (ps := ["panel", "piece", "seen"]) fun _ _ _ _ _ _ us hl => match us, hl with | [_, _, _], _ => rfl
    m_follow_strand := PySem.W.mg_of X G F_follow_strand.ns
    f_strand_count := F_strand_count.fn
    b_strand_count := F_strand_count.fn.binds (ps := ["panel"]) fun _ _ _ _ _ _ us hl => match us, hl with | [_], _ => rfl
    m_strand_count := PySem.W.mg_of X G F_strand_count.ns
    f_counted := F_counted.fn
    b_counted := F_counted.fn.binds (ps := ["numbers"]) fun _ _ _ _ _ _ us hl => match us, hl with | [_], _ => rfl
    m_counted := PySem.W.mg_of X G F_counted.ns
    f_Record_init := F_Record_init.fn
    b_Record_init := F_Record_init.fn.binds (ps := ["self"]) fun _ _ _ _ _ _ us hl => match us, hl with | [_], _ => rfl
    f_Record_begin := F_Record_begin.fn
    b_Record_begin := F_Record_begin.fn.binds (ps := ["self", "numbers"]) fun _ _ _ _ _ _ us hl => match us, hl with | [_, _], _ => rfl
    me_Record_begin := ⟨F_Record_begin.at_, F_Record_begin.is, F_Record_begin.fn.kp⟩
    f_Record_load := F_Record_load.fn
    b_Record_load := F_Record_load.fn.binds (ps := ["self", "numbers"]) fun _ _ _ _ _ _ us hl => match us, hl with | [_, _], _ => rfl
    me_Record_load := ⟨F_Record_load.at_, F_Record_load.is, F_Record_load.fn.kp⟩
    f_Record_play := F_Record_play.fn
    b_Record_play := F_Record_play.fn.binds (ps := ["self", "numbers"]) fun _ _ _ _ _ _ us hl => match us, hl with | [_, _], _ => rfl
    me_Record_play := ⟨F_Record_play.at_, F_Record_play.is, F_Record_play.fn.kp⟩
    f_Record_set_at := F_Record_set_at.fn
    b_Record_set_at := F_Record_set_at.fn.binds (ps := ["self", "place", "sign"]) fun _ _ _ _ _ _ us hl => match us, hl with | [_, _, _], _ => rfl
    me_Record_set_at := ⟨F_Record_set_at.at_, F_Record_set_at.is, F_Record_set_at.fn.kp⟩
    f_Record_move := F_Record_move.fn
    b_Record_move := F_Record_move.fn.binds (ps := ["self", "motion"]) fun _ _ _ _ _ _ us hl => match us, hl with | [_, _], _ => rfl
    me_Record_move := ⟨F_Record_move.at_, F_Record_move.is, F_Record_move.fn.kp⟩
    f_Record_step := F_Record_step.fn
    b_Record_step := F_Record_step.fn.binds (ps := ["self", "kind", "first", "second"]) fun _ _ _ _ _ _ us hl => match us, hl with | [_, _, _, _], _ => rfl
    me_Record_step := ⟨F_Record_step.at_, F_Record_step.is, F_Record_step.fn.kp⟩
    f_Record_undo := F_Record_undo.fn
    b_Record_undo := F_Record_undo.fn.binds (ps := ["self"]) fun _ _ _ _ _ _ us hl => match us, hl with | [_], _ => rfl
    me_Record_undo := ⟨F_Record_undo.at_, F_Record_undo.is, F_Record_undo.fn.kp⟩
    f_Record_redo := F_Record_redo.fn
    b_Record_redo := F_Record_redo.fn.binds (ps := ["self"]) fun _ _ _ _ _ _ us hl => match us, hl with | [_], _ => rfl
    me_Record_redo := ⟨F_Record_redo.at_, F_Record_redo.is, F_Record_redo.fn.kp⟩
    f_Record_panel := F_Record_panel.fn
    b_Record_panel := F_Record_panel.fn.binds (ps := ["self"]) fun _ _ _ _ _ _ us hl => match us, hl with | [_], _ => rfl
    me_Record_panel := ⟨F_Record_panel.at_, F_Record_panel.is, F_Record_panel.fn.kp⟩
    f_Record_drawn := F_Record_drawn.fn
    b_Record_drawn := F_Record_drawn.fn.binds (ps := ["self"]) fun _ _ _ _ _ _ us hl => match us, hl with | [_], _ => rfl
    me_Record_drawn := ⟨F_Record_drawn.at_, F_Record_drawn.is, F_Record_drawn.fn.kp⟩
    f_Record_counts := F_Record_counts.fn
    b_Record_counts := F_Record_counts.fn.binds (ps := ["self"]) fun _ _ _ _ _ _ us hl => match us, hl with | [_], _ => rfl
    me_Record_counts := ⟨F_Record_counts.at_, F_Record_counts.is, F_Record_counts.fn.kp⟩
    f_Record_save := F_Record_save.fn
    b_Record_save := F_Record_save.fn.binds (ps := ["self"]) fun _ _ _ _ _ _ us hl => match us, hl with | [_], _ => rfl
    me_Record_save := ⟨F_Record_save.at_, F_Record_save.is, F_Record_save.fn.kp⟩
    f_Record_head := F_Record_head.fn
    b_Record_head := F_Record_head.fn.binds (ps := ["self"]) fun _ _ _ _ _ _ us hl => match us, hl with | [_], _ => rfl
    me_Record_head := ⟨F_Record_head.at_, F_Record_head.is, F_Record_head.fn.kp⟩
    f_call_end := F_call_end.fn
    b_call_end := F_call_end.fn.binds (ps := ["calls", "at"]) fun _ _ _ _ _ _ us hl => match us, hl with | [_, _], _ => rfl
    m_call_end := PySem.W.mg_of X G F_call_end.ns
    f_answer_to_change := F_answer_to_change.fn
    b_answer_to_change := F_answer_to_change.fn.binds (ps := ["record", "call"]) fun _ _ _ _ _ _ us hl => match us, hl with | [_, _], _ => rfl
    m_answer_to_change := PySem.W.mg_of X G F_answer_to_change.ns
    f_answer_to_question := F_answer_to_question.fn
    b_answer_to_question := F_answer_to_question.fn.binds (ps := ["record", "number"]) fun _ _ _ _ _ _ us hl => match us, hl with | [_, _], _ => rfl
    m_answer_to_question := PySem.W.mg_of X G F_answer_to_question.ns
    f_answer_to := F_answer_to.fn
    b_answer_to := F_answer_to.fn.binds (ps := ["record", "call"]) fun _ _ _ _ _ _ us hl => match us, hl with | [_, _], _ => rfl
    m_answer_to := PySem.W.mg_of X G F_answer_to.ns
    f_answers := F_answers.fn
    b_answers := F_answers.fn.binds (ps := ["calls"]) fun _ _ _ _ _ _ us hl => match us, hl with | [_], _ => rfl
    m_answers := PySem.W.mg_of X G F_answers.ns
    c_Panel := ⟨pg_Panel, hd_Panel, po_Panel, sa_Panel⟩
    m_Panel := PySem.W.mg_of X G ns_Panel
    mk_Panel := ⟨mk_Panel, F_Panel_init.at_, F_Panel_init.is, kc_Panel⟩
    n_Panel_high := n_Panel_high
    n_Panel_signs := n_Panel_signs
    n_Panel_wide := n_Panel_wide
    c_Session := ⟨pg_Session, hd_Session, po_Session, sa_Session⟩
    m_Session := PySem.W.mg_of X G ns_Session
    mk_Session := ⟨mk_Session, F_Session_init.at_, F_Session_init.is, kc_Session⟩
    n_Session_done := n_Session_done
    n_Session_panels := n_Session_panels
    n_Session_steps := n_Session_steps
    c_Journal := ⟨pg_Journal, hd_Journal, po_Journal, sa_Journal⟩
    m_Journal := PySem.W.mg_of X G ns_Journal
    mk_Journal := ⟨mk_Journal, F_Journal_init.at_, F_Journal_init.is, kc_Journal⟩
    n_Journal_bits := n_Journal_bits
    n_Journal_session := n_Journal_session
    c_Record := ⟨pg_Record, hd_Record, po_Record, sa_Record⟩
    m_Record := PySem.W.mg_of X G ns_Record
    mk_Record := ⟨mk_Record, F_Record_init.at_, F_Record_init.is, kc_Record⟩
    n_Record_journal := n_Record_journal
    g_HEAD_SIZE_panels := PySem.W.mg_of X G g_HEAD_SIZE_panels
    g_MOST_SIDE := PySem.W.mg_of X G g_MOST_SIDE
    g_CROSSING := PySem.W.mg_of X G g_CROSSING
    g_ALONG := PySem.W.mg_of X G g_ALONG
    g_MOST_SIGN := PySem.W.mg_of X G g_MOST_SIGN
    g_ALL_BITS := PySem.W.mg_of X G g_ALL_BITS
    g_FOLD := PySem.W.mg_of X G g_FOLD
    g_MOST_MOTION := PySem.W.mg_of X G g_MOST_MOTION
    g_MOST_STEPS := PySem.W.mg_of X G g_MOST_STEPS
    g_CHANGE_SIZE := PySem.W.mg_of X G g_CHANGE_SIZE
    g_SET := PySem.W.mg_of X G g_SET
    g_MOVE := PySem.W.mg_of X G g_MOVE
    g_UNDO := PySem.W.mg_of X G g_UNDO
    g_REDO := PySem.W.mg_of X G g_REDO
    g_HEAD_SIZE_journals := PySem.W.mg_of X G g_HEAD_SIZE_journals
    g_NOTE_SIZE := PySem.W.mg_of X G g_NOTE_SIZE
    g_UPPER := PySem.W.mg_of X G g_UPPER
    g_RIGHT := PySem.W.mg_of X G g_RIGHT
    g_LOWER := PySem.W.mg_of X G g_LOWER
    g_CALL_BEGIN := PySem.W.mg_of X G g_CALL_BEGIN
    g_CALL_LOAD := PySem.W.mg_of X G g_CALL_LOAD
    g_CALL_PLAY := PySem.W.mg_of X G g_CALL_PLAY
    g_CALL_SET_AT := PySem.W.mg_of X G g_CALL_SET_AT
    g_CALL_MOVE := PySem.W.mg_of X G g_CALL_MOVE
    g_CALL_UNDO := PySem.W.mg_of X G g_CALL_UNDO
    g_CALL_REDO := PySem.W.mg_of X G g_CALL_REDO
    g_CALL_PANEL := PySem.W.mg_of X G g_CALL_PANEL
    g_CALL_DRAWN := PySem.W.mg_of X G g_CALL_DRAWN
    g_CALL_COUNTS := PySem.W.mg_of X G g_CALL_COUNTS
    g_CALL_SAVE := PySem.W.mg_of X G g_CALL_SAVE
    g_MOST_PANEL_BYTES := PySem.W.mg_of X G g_MOST_PANEL_BYTES
    g_MOST_BYTES := PySem.W.mg_of X G g_MOST_BYTES
    g_OUT_OF_RANGE := PySem.W.mg_of X G g_OUT_OF_RANGE
    g_TOO_LONG := PySem.W.mg_of X G g_TOO_LONG
    g_ALL_STEPS_DONE := PySem.W.mg_of X G g_ALL_STEPS_DONE
    g_NO_PLACE := PySem.W.mg_of X G g_NO_PLACE
    g_NOTHING_THERE := PySem.W.mg_of X G g_NOTHING_THERE
    g_NO_PANEL := PySem.W.mg_of X G g_NO_PANEL
    g_NO_SESSION := PySem.W.mg_of X G g_NO_SESSION
    g_WRONG_BYTES := PySem.W.mg_of X G g_WRONG_BYTES
    g_UPRIGHT_SIGNS := PySem.W.mg_of X G g_UPRIGHT_SIGNS
    g_LEVEL_SIGNS := PySem.W.mg_of X G g_LEVEL_SIGNS
    g_PANEL_MARK := PySem.W.mg_of X G g_PANEL_MARK
    q_PANEL_MARK := fun H => q_PANEL_MARK.sq H
    g_SESSION_MARK := PySem.W.mg_of X G g_SESSION_MARK
    q_SESSION_MARK := fun H => q_SESSION_MARK.sq H
    g_JOURNAL_MARK := PySem.W.mg_of X G g_JOURNAL_MARK
    q_JOURNAL_MARK := fun H => q_JOURNAL_MARK.sq H
    g_SIDE_STEPS := PySem.W.mg_of X G g_SIDE_STEPS
    q_SIDE_STEPS := fun H => q_SIDE_STEPS.sq H
    q_SIDE_STEPS_0 := fun H => q_SIDE_STEPS_0.sq H
    q_SIDE_STEPS_1 := fun H => q_SIDE_STEPS_1.sq H
    q_SIDE_STEPS_2 := fun H => q_SIDE_STEPS_2.sq H
    q_SIDE_STEPS_3 := fun H => q_SIDE_STEPS_3.sq H
    no_any := PySem.W.mg_none_of X G p_any
    no_len := PySem.W.mg_none_of X G p_len
    no_list := PySem.W.mg_none_of X G p_list
    no_ord := PySem.W.mg_none_of X G p_ord
    no_range := PySem.W.mg_none_of X G p_range
    no_reversed := PySem.W.mg_none_of X G p_reversed
  }
  refine ⟨d_answers, ?_, fun base _ _ => ok_answers T⟩
  obtain ⟨oc, od, kV, doc, pm, an, cdv, ct, osl, rfl, _, _⟩ := F_answers.fn.ex
  exact fun s us hu => match us, hu with | [_], _ => .of_eq rfl
end Pnl

open PySem PySem.W PyProof.Rows
set_option Elab.async false
def PySem.W.Fast.tw10016233223401215666 : Nat := 0
def PySem.W.Fast.tw10171012884276873467 : Nat := 0
def PySem.W.Fast.tw10358599243225289261 : Nat := 0
def PySem.W.Fast.tw1037527535361050343 : Nat := 0
def PySem.W.Fast.tw10475212840066421634 : Nat := 0
def PySem.W.Fast.tw10491804190177973706 : Nat := 0
def PySem.W.Fast.tw10530904508344257768 : Nat := 0
def PySem.W.Fast.tw10879396404457377323 : Nat := 0
def PySem.W.Fast.tw11066198749631356734 : Nat := 0
def PySem.W.Fast.tw11068279781095843914 : Nat := 0
def PySem.W.Fast.tw11170310038658652329 : Nat := 0
def PySem.W.Fast.tw11354715485183139722 : Nat := 0
def PySem.W.Fast.tw11393890023478650719 : Nat := 0
def PySem.W.Fast.tw1143690268335244697 : Nat := 0
def PySem.W.Fast.tw11469839152323459277 : Nat := 0
def PySem.W.Fast.tw11651141576254051549 : Nat := 0
def PySem.W.Fast.tw11834931205978161773 : Nat := 0
def PySem.W.Fast.tw1187859363364525897 : Nat := 0
def PySem.W.Fast.tw12098392425591086355 : Nat := 0
def PySem.W.Fast.tw12217872268293064387 : Nat := 0
def PySem.W.Fast.tw12221480434191446541 : Nat := 0
def PySem.W.Fast.tw12257880375938517229 : Nat := 0
def PySem.W.Fast.tw12491787100192653704 : Nat := 0
def PySem.W.Fast.tw12492523139292032540 : Nat := 0
def PySem.W.Fast.tw1256381255348148201 : Nat := 0
def PySem.W.Fast.tw12631077440254071504 : Nat := 0
def PySem.W.Fast.tw12929858473241369463 : Nat := 0
def PySem.W.Fast.tw12959876462301151360 : Nat := 0
def PySem.W.Fast.tw13039324973991010640 : Nat := 0
def PySem.W.Fast.tw13057932833951565909 : Nat := 0
def PySem.W.Fast.tw13068207959531529066 : Nat := 0
def PySem.W.Fast.tw13101940345409686160 : Nat := 0
def PySem.W.Fast.tw13194696332328904472 : Nat := 0
def PySem.W.Fast.tw13252225811324981718 : Nat := 0
def PySem.W.Fast.tw1330155529802651006 : Nat := 0
def PySem.W.Fast.tw13422036330321573288 : Nat := 0
def PySem.W.Fast.tw1350647126265949648 : Nat := 0
def PySem.W.Fast.tw13708109243063823493 : Nat := 0
def PySem.W.Fast.tw13760074838617523959 : Nat := 0
def PySem.W.Fast.tw13797624224360336278 : Nat := 0
def PySem.W.Fast.tw13819335725277585255 : Nat := 0
def PySem.W.Fast.tw13844670168161972277 : Nat := 0
def PySem.W.Fast.tw14025747760629341349 : Nat := 0
def PySem.W.Fast.tw14103595477132403584 : Nat := 0
def PySem.W.Fast.tw14125812270632484506 : Nat := 0
def PySem.W.Fast.tw14197099862269509497 : Nat := 0
def PySem.W.Fast.tw1420739933830387414 : Nat := 0
def PySem.W.Fast.tw14249782564143337270 : Nat := 0
def PySem.W.Fast.tw14289311392223174759 : Nat := 0
def PySem.W.Fast.tw14388568897963542167 : Nat := 0
def PySem.W.Fast.tw14585428536142113952 : Nat := 0
def PySem.W.Fast.tw14670925194684257030 : Nat := 0
def PySem.W.Fast.tw14688932206406578141 : Nat := 0
def PySem.W.Fast.tw14747179417850095584 : Nat := 0
def PySem.W.Fast.tw14754697170236857422 : Nat := 0
def PySem.W.Fast.tw14840936297780189618 : Nat := 0
def PySem.W.Fast.tw14864842505708645764 : Nat := 0
def PySem.W.Fast.tw15146963329965745284 : Nat := 0
def PySem.W.Fast.tw15232613854484139675 : Nat := 0
def PySem.W.Fast.tw15287306152395511648 : Nat := 0
def PySem.W.Fast.tw15308245464932355744 : Nat := 0
def PySem.W.Fast.tw15467386825019900961 : Nat := 0
def PySem.W.Fast.tw15528619321789513365 : Nat := 0
def PySem.W.Fast.tw15607863173266356658 : Nat := 0
def PySem.W.Fast.tw15623184892782477172 : Nat := 0
def PySem.W.Fast.tw15659165378137365363 : Nat := 0
def PySem.W.Fast.tw15731959560623009861 : Nat := 0
def PySem.W.Fast.tw15831897398797167073 : Nat := 0
def PySem.W.Fast.tw15872234934858847337 : Nat := 0
def PySem.W.Fast.tw15944777773228261267 : Nat := 0
def PySem.W.Fast.tw15948743340650782132 : Nat := 0
def PySem.W.Fast.tw15957304416420893837 : Nat := 0
def PySem.W.Fast.tw15959063238671903416 : Nat := 0
def PySem.W.Fast.tw1599475231842874732 : Nat := 0
def PySem.W.Fast.tw16051949843473190130 : Nat := 0
def PySem.W.Fast.tw16071347361886668387 : Nat := 0
def PySem.W.Fast.tw16107637586720339747 : Nat := 0
def PySem.W.Fast.tw16319070307944436035 : Nat := 0
def PySem.W.Fast.tw1650987616200792793 : Nat := 0
def PySem.W.Fast.tw16762574876109471227 : Nat := 0
def PySem.W.Fast.tw16875554213146275347 : Nat := 0
def PySem.W.Fast.tw16950697827339363733 : Nat := 0
def PySem.W.Fast.tw17010624474213910791 : Nat := 0
def PySem.W.Fast.tw17011718553442328245 : Nat := 0
def PySem.W.Fast.tw1704452205485119415 : Nat := 0
def PySem.W.Fast.tw17064849466939450050 : Nat := 0
def PySem.W.Fast.tw17268766676448919573 : Nat := 0
def PySem.W.Fast.tw17445387075808569513 : Nat := 0
def PySem.W.Fast.tw17607338255714993508 : Nat := 0
def PySem.W.Fast.tw17844737606013221628 : Nat := 0
def PySem.W.Fast.tw17852230223582699757 : Nat := 0
def PySem.W.Fast.tw17856167269369163779 : Nat := 0
def PySem.W.Fast.tw17913003061240647803 : Nat := 0
def PySem.W.Fast.tw18040362350762867797 : Nat := 0
def PySem.W.Fast.tw18057448445102418500 : Nat := 0
def PySem.W.Fast.tw18069551629884212442 : Nat := 0
def PySem.W.Fast.tw18159451210539409492 : Nat := 0
def PySem.W.Fast.tw18165792558409214694 : Nat := 0
def PySem.W.Fast.tw18185519753256440743 : Nat := 0
def PySem.W.Fast.tw18205878045943871289 : Nat := 0
def PySem.W.Fast.tw18346481111778699708 : Nat := 0
def PySem.W.Fast.tw1916700221995878810 : Nat := 0
def PySem.W.Fast.tw19669737338465849 : Nat := 0
def PySem.W.Fast.tw2199471084044203442 : Nat := 0
def PySem.W.Fast.tw2281571508911298044 : Nat := 0
def PySem.W.Fast.tw2401885127304487102 : Nat := 0
def PySem.W.Fast.tw2446626679325896101 : Nat := 0
def PySem.W.Fast.tw2504814056370363329 : Nat := 0
def PySem.W.Fast.tw2554480847857533975 : Nat := 0
def PySem.W.Fast.tw2641039428776795516 : Nat := 0
def PySem.W.Fast.tw2910200012520424355 : Nat := 0
def PySem.W.Fast.tw2980882338414268896 : Nat := 0
def PySem.W.Fast.tw3112032388644719772 : Nat := 0
def PySem.W.Fast.tw325923071655203256 : Nat := 0
def PySem.W.Fast.tw339849863579897584 : Nat := 0
def PySem.W.Fast.tw3442184343679603479 : Nat := 0
def PySem.W.Fast.tw3688712654124897326 : Nat := 0
def PySem.W.Fast.tw393160686116342448 : Nat := 0
def PySem.W.Fast.tw3965151045275387861 : Nat := 0
def PySem.W.Fast.tw399675527866137544 : Nat := 0
def PySem.W.Fast.tw4033827598587021023 : Nat := 0
def PySem.W.Fast.tw4086500927473065349 : Nat := 0
def PySem.W.Fast.tw4172505129696328773 : Nat := 0
def PySem.W.Fast.tw4212614925103345707 : Nat := 0
def PySem.W.Fast.tw4223551179848701936 : Nat := 0
def PySem.W.Fast.tw445004410718124216 : Nat := 0
def PySem.W.Fast.tw4621684641574274704 : Nat := 0
def PySem.W.Fast.tw4740335578362793434 : Nat := 0
def PySem.W.Fast.tw4750566005415760040 : Nat := 0
def PySem.W.Fast.tw4786491278441640824 : Nat := 0
def PySem.W.Fast.tw5113522672773166656 : Nat := 0
def PySem.W.Fast.tw520162335782206717 : Nat := 0
def PySem.W.Fast.tw5259006482616520381 : Nat := 0
def PySem.W.Fast.tw5281808046810896430 : Nat := 0
def PySem.W.Fast.tw5295627388154667710 : Nat := 0
def PySem.W.Fast.tw5346858710716959331 : Nat := 0
def PySem.W.Fast.tw5394230277488805583 : Nat := 0
def PySem.W.Fast.tw5450829849962662621 : Nat := 0
def PySem.W.Fast.tw5497311948774222004 : Nat := 0
def PySem.W.Fast.tw551878224110229838 : Nat := 0
def PySem.W.Fast.tw5692308359637417333 : Nat := 0
def PySem.W.Fast.tw5723197322507358317 : Nat := 0
def PySem.W.Fast.tw5871039773138922599 : Nat := 0
def PySem.W.Fast.tw6092663694006295552 : Nat := 0
def PySem.W.Fast.tw6122547165839796342 : Nat := 0
def PySem.W.Fast.tw6296950849833747108 : Nat := 0
def PySem.W.Fast.tw6312324261873886920 : Nat := 0
def PySem.W.Fast.tw6349053311788578153 : Nat := 0
def PySem.W.Fast.tw6373752984310460599 : Nat := 0
def PySem.W.Fast.tw6577581839245916708 : Nat := 0
def PySem.W.Fast.tw6649421946338330944 : Nat := 0
def PySem.W.Fast.tw665717956284728358 : Nat := 0
def PySem.W.Fast.tw6877964036264596366 : Nat := 0
def PySem.W.Fast.tw6886368275691532184 : Nat := 0
def PySem.W.Fast.tw6899592647822579573 : Nat := 0
def PySem.W.Fast.tw6939512432323006316 : Nat := 0
def PySem.W.Fast.tw6978558335172966441 : Nat := 0
def PySem.W.Fast.tw700017464221951973 : Nat := 0
def PySem.W.Fast.tw7197878257256997962 : Nat := 0
def PySem.W.Fast.tw7248447860947464305 : Nat := 0
def PySem.W.Fast.tw7288393801695920153 : Nat := 0
def PySem.W.Fast.tw7299822231790659733 : Nat := 0
def PySem.W.Fast.tw7425645270580899180 : Nat := 0
def PySem.W.Fast.tw7579800007349513315 : Nat := 0
def PySem.W.Fast.tw7848257098954166498 : Nat := 0
def PySem.W.Fast.tw7936095527280455214 : Nat := 0
def PySem.W.Fast.tw8281797107212603778 : Nat := 0
def PySem.W.Fast.tw8363174595325835302 : Nat := 0
def PySem.W.Fast.tw8444925409591134738 : Nat := 0
def PySem.W.Fast.tw879857905034337751 : Nat := 0
def PySem.W.Fast.tw8980778018739715805 : Nat := 0
def PySem.W.Fast.tw9033667164495677440 : Nat := 0
def PySem.W.Fast.tw9051707736452844480 : Nat := 0
def PySem.W.Fast.tw9333697239021515775 : Nat := 0
def PySem.W.Fast.tw9366262343821434324 : Nat := 0
def PySem.W.Fast.tw9420596768867090166 : Nat := 0
def PySem.W.Fast.tw948617383129505900 : Nat := 0
def PySem.W.Fast.tw9544101623891391324 : Nat := 0
def PySem.W.Fast.tw9607632935597728541 : Nat := 0
def PySem.W.Fast.tw9635571509882361393 : Nat := 0
def PySem.W.Fast.tw9638603963965485631 : Nat := 0
def PySem.W.Fast.tw981142923933362899 : Nat := 0
def PySem.W.Fast.tw9894819691379368254 : Nat := 0
set_option maxRecDepth 100000 in
set_option maxHeartbeats 0 in
theorem PySem.Challenge.cw_panelsessions_s01_answers_holds : PySem.Challenge.rw_panelsessions_s01_answers.Holds := by
  w_on; k_headS; (case hw => exact ⟨[.list []], by decide +kernel, by decide +kernel⟩)
  k_fillS
  refine L2.walk_specK (r := PySem.Challenge.rw_panelsessions_s01_answers) (k := 13) (CX := L2.CX0) (ps := ["calls"]) (sp := Pnl.spAnswers) (by decide +kernel) rfl rfl ⟨rfl, by decide, by decide⟩ (fun w h Y => PySem.W.kIn_of Y) ?F ?S (fun _ _ _ _ z => z)
  case F =>
    intro w mg fa h Y KX G hmg
    refine' Pnl.all_mk KX G hmg ?p_upright_count ?p_place_count ?p_upright_sign ?p_level_sign ?p_is_side ?p_read_panel ?p_panel_bytes ?p_with_sign ?p_square_line ?p_level_line ?p_drawing ?p_drawing_bytes ?p_low_first ?p_number_at ?p_bits_after ?p_sum_bytes ?p_mirrored ?p_turned ?p_moved ?p_panel_now ?p_back_count ?p_change_bytes ?p_panel_behind ?p_do_step ?p_do_change ?p_session_bytes ?p_read_session ?p_beginning_bytes ?p_begun_journal ?p_note_change ?p_beginning_size ?p_read_beginning ?p_play_note ?p_play_notes ?p_side_sign ?p_end_at ?p_joined_end ?p_follow_strand ?p_strand_count ?p_counted ?p_call_end ?p_answer_to_change ?p_answer_to_question ?p_answer_to ?p_answers ?p_Panel ?p_Session ?p_Journal ?p_Record ?p_HEAD_SIZE_panels ?p_MOST_SIDE ?p_CROSSING ?p_ALONG ?p_MOST_SIGN ?p_ALL_BITS ?p_FOLD ?p_MOST_MOTION ?p_MOST_STEPS ?p_CHANGE_SIZE ?p_SET ?p_MOVE ?p_UNDO ?p_REDO ?p_HEAD_SIZE_journals ?p_NOTE_SIZE ?p_UPPER ?p_RIGHT ?p_LOWER ?p_CALL_BEGIN ?p_CALL_LOAD ?p_CALL_PLAY ?p_CALL_SET_AT ?p_CALL_MOVE ?p_CALL_UNDO ?p_CALL_REDO ?p_CALL_PANEL ?p_CALL_DRAWN ?p_CALL_COUNTS ?p_CALL_SAVE ?p_MOST_PANEL_BYTES ?p_MOST_BYTES ?p_OUT_OF_RANGE ?p_TOO_LONG ?p_ALL_STEPS_DONE ?p_NO_PLACE ?p_NOTHING_THERE ?p_NO_PANEL ?p_NO_SESSION ?p_WRONG_BYTES ?p_UPRIGHT_SIGNS ?p_LEVEL_SIGNS ?p_PANEL_MARK ?p_SESSION_MARK ?p_JOURNAL_MARK ?p_SIDE_STEPS ?p_any ?p_len ?p_list ?p_ord ?p_range ?p_reversed
    (case p_upright_count => (refine' Pnl.ft_mk ?a ?l ?c ?k; (case a => k_is); (case l => k_is); (case c => k_is); (case k => k_is)))
    (case p_place_count => (refine' Pnl.ft_mk ?a ?l ?c ?k; (case a => k_is); (case l => k_is); (case c => k_is); (case k => k_is)))
    (case p_upright_sign => (refine' Pnl.ft_mk ?a ?l ?c ?k; (case a => k_is); (case l => k_is); (case c => k_is); (case k => k_is)))
    (case p_level_sign => (refine' Pnl.ft_mk ?a ?l ?c ?k; (case a => k_is); (case l => k_is); (case c => k_is); (case k => k_is)))
    (case p_is_side => (refine' Pnl.ft_mk ?a ?l ?c ?k; (case a => k_is); (case l => k_is); (case c => k_is); (case k => k_is)))
    (case p_read_panel => (refine' Pnl.ft_mk ?a ?l ?c ?k; (case a => k_is); (case l => k_is); (case c => k_is); (case k => k_is)))
    (case p_panel_bytes => (refine' Pnl.ft_mk ?a ?l ?c ?k; (case a => k_is); (case l => k_is); (case c => k_is); (case k => k_is)))
    (case p_with_sign => (refine' Pnl.ft_mk ?a ?l ?c ?k; (case a => k_is); (case l => k_is); (case c => k_is); (case k => k_is)))
    (case p_square_line => (refine' Pnl.ft_mk ?a ?l ?c ?k; (case a => k_is); (case l => k_is); (case c => k_is); (case k => k_is)))
    (case p_level_line => (refine' Pnl.ft_mk ?a ?l ?c ?k; (case a => k_is); (case l => k_is); (case c => k_is); (case k => k_is)))
    (case p_drawing => (refine' Pnl.ft_mk ?a ?l ?c ?k; (case a => k_is); (case l => k_is); (case c => k_is); (case k => k_is)))
    (case p_drawing_bytes => (refine' Pnl.ft_mk ?a ?l ?c ?k; (case a => k_is); (case l => k_is); (case c => k_is); (case k => k_is)))
    (case p_low_first => (refine' Pnl.ft_mk ?a ?l ?c ?k; (case a => k_is); (case l => k_is); (case c => k_is); (case k => k_is)))
    (case p_number_at => (refine' Pnl.ft_mk ?a ?l ?c ?k; (case a => k_is); (case l => k_is); (case c => k_is); (case k => k_is)))
    (case p_bits_after => (refine' Pnl.ft_mk ?a ?l ?c ?k; (case a => k_is); (case l => k_is); (case c => k_is); (case k => k_is)))
    (case p_sum_bytes => (refine' Pnl.ft_mk ?a ?l ?c ?k; (case a => k_is); (case l => k_is); (case c => k_is); (case k => k_is)))
    (case p_mirrored => (refine' Pnl.ft_mk ?a ?l ?c ?k; (case a => k_is); (case l => k_is); (case c => k_is); (case k => k_is)))
    (case p_turned => (refine' Pnl.ft_mk ?a ?l ?c ?k; (case a => k_is); (case l => k_is); (case c => k_is); (case k => k_is)))
    (case p_moved => (refine' Pnl.ft_mk ?a ?l ?c ?k; (case a => k_is); (case l => k_is); (case c => k_is); (case k => k_is)))
    (case p_panel_now => (refine' Pnl.ft_mk ?a ?l ?c ?k; (case a => k_is); (case l => k_is); (case c => k_is); (case k => k_is)))
    (case p_back_count => (refine' Pnl.ft_mk ?a ?l ?c ?k; (case a => k_is); (case l => k_is); (case c => k_is); (case k => k_is)))
    (case p_change_bytes => (refine' Pnl.ft_mk ?a ?l ?c ?k; (case a => k_is); (case l => k_is); (case c => k_is); (case k => k_is)))
    (case p_panel_behind => (refine' Pnl.ft_mk ?a ?l ?c ?k; (case a => k_is); (case l => k_is); (case c => k_is); (case k => k_is)))
    (case p_do_step => (refine' Pnl.ft_mk ?a ?l ?c ?k; (case a => k_is); (case l => k_is); (case c => k_is); (case k => k_is)))
    (case p_do_change => (refine' Pnl.ft_mk ?a ?l ?c ?k; (case a => k_is); (case l => k_is); (case c => k_is); (case k => k_is)))
    (case p_session_bytes => (refine' Pnl.ft_mk ?a ?l ?c ?k; (case a => k_is); (case l => k_is); (case c => k_is); (case k => k_is)))
    (case p_read_session => (refine' Pnl.ft_mk ?a ?l ?c ?k; (case a => k_is); (case l => k_is); (case c => k_is); (case k => k_is)))
    (case p_beginning_bytes => (refine' Pnl.ft_mk ?a ?l ?c ?k; (case a => k_is); (case l => k_is); (case c => k_is); (case k => k_is)))
    (case p_begun_journal => (refine' Pnl.ft_mk ?a ?l ?c ?k; (case a => k_is); (case l => k_is); (case c => k_is); (case k => k_is)))
    (case p_note_change => (refine' Pnl.ft_mk ?a ?l ?c ?k; (case a => k_is); (case l => k_is); (case c => k_is); (case k => k_is)))
    (case p_beginning_size => (refine' Pnl.ft_mk ?a ?l ?c ?k; (case a => k_is); (case l => k_is); (case c => k_is); (case k => k_is)))
    (case p_read_beginning => (refine' Pnl.ft_mk ?a ?l ?c ?k; (case a => k_is); (case l => k_is); (case c => k_is); (case k => k_is)))
    (case p_play_note => (refine' Pnl.ft_mk ?a ?l ?c ?k; (case a => k_is); (case l => k_is); (case c => k_is); (case k => k_is)))
    (case p_play_notes => (refine' Pnl.ft_mk ?a ?l ?c ?k; (case a => k_is); (case l => k_is); (case c => k_is); (case k => k_is)))
    (case p_side_sign => (refine' Pnl.ft_mk ?a ?l ?c ?k; (case a => k_is); (case l => k_is); (case c => k_is); (case k => k_is)))
    (case p_end_at => (refine' Pnl.ft_mk ?a ?l ?c ?k; (case a => k_is); (case l => k_is); (case c => k_is); (case k => k_is)))
    (case p_joined_end => (refine' Pnl.ft_mk ?a ?l ?c ?k; (case a => k_is); (case l => k_is); (case c => k_is); (case k => k_is)))
    (case p_follow_strand => (refine' Pnl.ft_mk ?a ?l ?c ?k; (case a => k_is); (case l => k_is); (case c => k_is); (case k => k_is)))
    (case p_strand_count => (refine' Pnl.ft_mk ?a ?l ?c ?k; (case a => k_is); (case l => k_is); (case c => k_is); (case k => k_is)))
    (case p_counted => (refine' Pnl.ft_mk ?a ?l ?c ?k; (case a => k_is); (case l => k_is); (case c => k_is); (case k => k_is)))
    (case p_call_end => (refine' Pnl.ft_mk ?a ?l ?c ?k; (case a => k_is); (case l => k_is); (case c => k_is); (case k => k_is)))
    (case p_answer_to_change => (refine' Pnl.ft_mk ?a ?l ?c ?k; (case a => k_is); (case l => k_is); (case c => k_is); (case k => k_is)))
    (case p_answer_to_question => (refine' Pnl.ft_mk ?a ?l ?c ?k; (case a => k_is); (case l => k_is); (case c => k_is); (case k => k_is)))
    (case p_answer_to => (refine' Pnl.ft_mk ?a ?l ?c ?k; (case a => k_is); (case l => k_is); (case c => k_is); (case k => k_is)))
    (case p_answers => (refine' Pnl.ft_mk ?a ?l ?c ?k; (case a => k_is); (case l => k_is); (case c => k_is); (case k => k_is)))
    (case p_Panel => (refine' Pnl.cm_Panel ?x0 ?x1 ?x2 ?x3 ?x4 ?x5 ?x6 ?x7 ?x8 ?x9 ?x10; (case x0 => k_is); (case x1 => k_is); (case x2 => k_is); (case x3 => k_is); (case x4 => k_is); (case x5 => k_is); (case x6 => k_is); (case x7 => k_is); (case x8 => k_is); (case x9 => k_is); (case x10 => (refine' Pnl.fm_mk ?a ?i ?l ?c ?k; (case a => k_is); (case i => k_is); (case l => k_is); (case c => k_is); (case k => k_is)))))
    (case p_Session => (refine' Pnl.cm_Session ?x0 ?x1 ?x2 ?x3 ?x4 ?x5 ?x6 ?x7 ?x8 ?x9 ?x10; (case x0 => k_is); (case x1 => k_is); (case x2 => k_is); (case x3 => k_is); (case x4 => k_is); (case x5 => k_is); (case x6 => k_is); (case x7 => k_is); (case x8 => k_is); (case x9 => k_is); (case x10 => (refine' Pnl.fm_mk ?a ?i ?l ?c ?k; (case a => k_is); (case i => k_is); (case l => k_is); (case c => k_is); (case k => k_is)))))
    (case p_Journal => (refine' Pnl.cm_Journal ?x0 ?x1 ?x2 ?x3 ?x4 ?x5 ?x6 ?x7 ?x8 ?x9; (case x0 => k_is); (case x1 => k_is); (case x2 => k_is); (case x3 => k_is); (case x4 => k_is); (case x5 => k_is); (case x6 => k_is); (case x7 => k_is); (case x8 => k_is); (case x9 => (refine' Pnl.fm_mk ?a ?i ?l ?c ?k; (case a => k_is); (case i => k_is); (case l => k_is); (case c => k_is); (case k => k_is)))))
    (case p_Record => (refine' Pnl.cm_Record ?x0 ?x1 ?x2 ?x3 ?x4 ?x5 ?x6 ?x7 ?x8 ?x9 ?x10 ?x11 ?x12 ?x13 ?x14 ?x15 ?x16 ?x17 ?x18 ?x19 ?x20 ?x21; (case x0 => k_is); (case x1 => k_is); (case x2 => k_is); (case x3 => k_is); (case x4 => k_is); (case x5 => k_is); (case x6 => k_is); (case x7 => k_is); (case x8 => (refine' Pnl.fm_mk ?a ?i ?l ?c ?k; (case a => k_is); (case i => k_is); (case l => k_is); (case c => k_is); (case k => k_is))); (case x9 => (refine' Pnl.fm_mk ?a ?i ?l ?c ?k; (case a => k_is); (case i => k_is); (case l => k_is); (case c => k_is); (case k => k_is))); (case x10 => (refine' Pnl.fm_mk ?a ?i ?l ?c ?k; (case a => k_is); (case i => k_is); (case l => k_is); (case c => k_is); (case k => k_is))); (case x11 => (refine' Pnl.fm_mk ?a ?i ?l ?c ?k; (case a => k_is); (case i => k_is); (case l => k_is); (case c => k_is); (case k => k_is))); (case x12 => (refine' Pnl.fm_mk ?a ?i ?l ?c ?k; (case a => k_is); (case i => k_is); (case l => k_is); (case c => k_is); (case k => k_is))); (case x13 => (refine' Pnl.fm_mk ?a ?i ?l ?c ?k; (case a => k_is); (case i => k_is); (case l => k_is); (case c => k_is); (case k => k_is))); (case x14 => (refine' Pnl.fm_mk ?a ?i ?l ?c ?k; (case a => k_is); (case i => k_is); (case l => k_is); (case c => k_is); (case k => k_is))); (case x15 => (refine' Pnl.fm_mk ?a ?i ?l ?c ?k; (case a => k_is); (case i => k_is); (case l => k_is); (case c => k_is); (case k => k_is))); (case x16 => (refine' Pnl.fm_mk ?a ?i ?l ?c ?k; (case a => k_is); (case i => k_is); (case l => k_is); (case c => k_is); (case k => k_is))); (case x17 => (refine' Pnl.fm_mk ?a ?i ?l ?c ?k; (case a => k_is); (case i => k_is); (case l => k_is); (case c => k_is); (case k => k_is))); (case x18 => (refine' Pnl.fm_mk ?a ?i ?l ?c ?k; (case a => k_is); (case i => k_is); (case l => k_is); (case c => k_is); (case k => k_is))); (case x19 => (refine' Pnl.fm_mk ?a ?i ?l ?c ?k; (case a => k_is); (case i => k_is); (case l => k_is); (case c => k_is); (case k => k_is))); (case x20 => (refine' Pnl.fm_mk ?a ?i ?l ?c ?k; (case a => k_is); (case i => k_is); (case l => k_is); (case c => k_is); (case k => k_is))); (case x21 => (refine' Pnl.fm_mk ?a ?i ?l ?c ?k; (case a => k_is); (case i => k_is); (case l => k_is); (case c => k_is); (case k => k_is)))))
    (case p_HEAD_SIZE_panels => (refine' Pnl.int_mk ?a; (case a => k_is)))
    (case p_MOST_SIDE => (refine' Pnl.int_mk ?a; (case a => k_is)))
    (case p_CROSSING => (refine' Pnl.int_mk ?a; (case a => k_is)))
    (case p_ALONG => (refine' Pnl.int_mk ?a; (case a => k_is)))
    (case p_MOST_SIGN => (refine' Pnl.int_mk ?a; (case a => k_is)))
    (case p_ALL_BITS => (refine' Pnl.int_mk ?a; (case a => k_is)))
    (case p_FOLD => (refine' Pnl.int_mk ?a; (case a => k_is)))
    (case p_MOST_MOTION => (refine' Pnl.int_mk ?a; (case a => k_is)))
    (case p_MOST_STEPS => (refine' Pnl.int_mk ?a; (case a => k_is)))
    (case p_CHANGE_SIZE => (refine' Pnl.int_mk ?a; (case a => k_is)))
    (case p_SET => (refine' Pnl.int_mk ?a; (case a => k_is)))
    (case p_MOVE => (refine' Pnl.int_mk ?a; (case a => k_is)))
    (case p_UNDO => (refine' Pnl.int_mk ?a; (case a => k_is)))
    (case p_REDO => (refine' Pnl.int_mk ?a; (case a => k_is)))
    (case p_HEAD_SIZE_journals => (refine' Pnl.int_mk ?a; (case a => k_is)))
    (case p_NOTE_SIZE => (refine' Pnl.int_mk ?a; (case a => k_is)))
    (case p_UPPER => (refine' Pnl.int_mk ?a; (case a => k_is)))
    (case p_RIGHT => (refine' Pnl.int_mk ?a; (case a => k_is)))
    (case p_LOWER => (refine' Pnl.int_mk ?a; (case a => k_is)))
    (case p_CALL_BEGIN => (refine' Pnl.int_mk ?a; (case a => k_is)))
    (case p_CALL_LOAD => (refine' Pnl.int_mk ?a; (case a => k_is)))
    (case p_CALL_PLAY => (refine' Pnl.int_mk ?a; (case a => k_is)))
    (case p_CALL_SET_AT => (refine' Pnl.int_mk ?a; (case a => k_is)))
    (case p_CALL_MOVE => (refine' Pnl.int_mk ?a; (case a => k_is)))
    (case p_CALL_UNDO => (refine' Pnl.int_mk ?a; (case a => k_is)))
    (case p_CALL_REDO => (refine' Pnl.int_mk ?a; (case a => k_is)))
    (case p_CALL_PANEL => (refine' Pnl.int_mk ?a; (case a => k_is)))
    (case p_CALL_DRAWN => (refine' Pnl.int_mk ?a; (case a => k_is)))
    (case p_CALL_COUNTS => (refine' Pnl.int_mk ?a; (case a => k_is)))
    (case p_CALL_SAVE => (refine' Pnl.int_mk ?a; (case a => k_is)))
    (case p_MOST_PANEL_BYTES => (refine' Pnl.int_mk ?a; (case a => k_is)))
    (case p_MOST_BYTES => (refine' Pnl.int_mk ?a; (case a => k_is)))
    (case p_OUT_OF_RANGE => (refine' Pnl.int_mk ?a; (case a => k_is)))
    (case p_TOO_LONG => (refine' Pnl.int_mk ?a; (case a => k_is)))
    (case p_ALL_STEPS_DONE => (refine' Pnl.int_mk ?a; (case a => k_is)))
    (case p_NO_PLACE => (refine' Pnl.int_mk ?a; (case a => k_is)))
    (case p_NOTHING_THERE => (refine' Pnl.int_mk ?a; (case a => k_is)))
    (case p_NO_PANEL => (refine' Pnl.int_mk ?a; (case a => k_is)))
    (case p_NO_SESSION => (refine' Pnl.int_mk ?a; (case a => k_is)))
    (case p_WRONG_BYTES => (refine' Pnl.int_mk ?a; (case a => k_is)))
    (case p_UPRIGHT_SIGNS => (refine' Pnl.str_mk ?a; (case a => k_is)))
    (case p_LEVEL_SIGNS => (refine' Pnl.str_mk ?a; (case a => k_is)))
    (case p_PANEL_MARK => (refine' Pnl.tup_mk ?a ?l ?c ?d ?s ?v; (case a => k_is); (case l => k_is); (case c => rfl); (case d => rfl); (case s => decide +kernel); (case v => exact (.cons ⟨_, rfl⟩ (.cons ⟨_, rfl⟩ (.cons ⟨_, rfl⟩ (.cons ⟨_, rfl⟩ (.nil))))))))
    (case p_SESSION_MARK => (refine' Pnl.tup_mk ?a ?l ?c ?d ?s ?v; (case a => k_is); (case l => k_is); (case c => rfl); (case d => rfl); (case s => decide +kernel); (case v => exact (.cons ⟨_, rfl⟩ (.cons ⟨_, rfl⟩ (.cons ⟨_, rfl⟩ (.cons ⟨_, rfl⟩ (.nil))))))))
    (case p_JOURNAL_MARK => (refine' Pnl.tup_mk ?a ?l ?c ?d ?s ?v; (case a => k_is); (case l => k_is); (case c => rfl); (case d => rfl); (case s => decide +kernel); (case v => exact (.cons ⟨_, rfl⟩ (.cons ⟨_, rfl⟩ (.cons ⟨_, rfl⟩ (.cons ⟨_, rfl⟩ (.nil))))))))
    (case p_SIDE_STEPS => (refine' Pnl.tm_SIDE_STEPS ?a ?l ?c ?d ?s ?v ?t0 ?t1 ?t2 ?t3; (case a => k_is); (case l => k_is); (case c => rfl); (case d => rfl); (case s => decide +kernel); (case v => exact (.cons rfl (.cons rfl (.cons rfl (.cons rfl (.nil)))))); (case t0 => (refine' Pnl.tupK_mk ?l ?c ?d ?s ?v; (case l => k_is); (case c => rfl); (case d => rfl); (case s => decide +kernel); (case v => exact (.cons ⟨_, rfl⟩ (.cons ⟨_, rfl⟩ (.nil)))))); (case t1 => (refine' Pnl.tupK_mk ?l ?c ?d ?s ?v; (case l => k_is); (case c => rfl); (case d => rfl); (case s => decide +kernel); (case v => exact (.cons ⟨_, rfl⟩ (.cons ⟨_, rfl⟩ (.nil)))))); (case t2 => (refine' Pnl.tupK_mk ?l ?c ?d ?s ?v; (case l => k_is); (case c => rfl); (case d => rfl); (case s => decide +kernel); (case v => exact (.cons ⟨_, rfl⟩ (.cons ⟨_, rfl⟩ (.nil)))))); (case t3 => (refine' Pnl.tupK_mk ?l ?c ?d ?s ?v; (case l => k_is); (case c => rfl); (case d => rfl); (case s => decide +kernel); (case v => exact (.cons ⟨_, rfl⟩ (.cons ⟨_, rfl⟩ (.nil))))))))
    (case p_any => k_is)
    (case p_len => k_is)
    (case p_list => k_is)
    (case p_ord => k_is)
    (case p_range => k_is)
    (case p_reversed => k_is)
  case S =>
    intro K H xs a hO hwi hask hx
    cases hx with
    | cons h1 h2 =>
      cases h2
      cases h1 with
      | lst hs ha =>
        have e := L2.ints_dw a.1 _ ha
        subst e
        exact ⟨_, a.1, rfl, hs, hask, fun H' p hp => .lst (L2.SqL.of hp) (L2.dw_ints _)⟩

