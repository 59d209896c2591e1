import PyProof.Rows.All
import Wide.All
import OpenK.AllK
import Wide.FinOn
import PyProof.EqAt
import PyProof.EqKinds
import PyProof.TupleCall
import KE.BitLaws
import Open.SpecLaws
import KE.OsHead
import KE.OsGo
import PySem.Challenge.RW_disputation_s01_answers
set_option Elab.async false
set_option linter.all false
set_option maxRecDepth 100000
namespace L2
open PySem PySem.Spec PyProof.Rows
abbrev Key := Sum Int Str
def keyIs : Key → Value → Bool
  | .inl k, v => Value.isInt k v
  | .inr x, v => Value.isStrOf x v
def keyH (w : World) : Key → Int
  | .inl k => hashInt k
  | .inr x => hashStr w x
theorem keyIs_shape : ∀ {k : Key} {v : Value}, keyIs k v = true → (∃ i t, k = Sum.inl i ∧ v = Value.int i t) ∨ (∃ x t, k = Sum.inr x ∧ v = Value.str x t)
  | .inl i, v, h => by
    obtain ⟨t, e⟩ := Value.isInt_shape (k := i) (v := v) h
    exact .inl ⟨i, t, rfl, e⟩
  | .inr x, v, h => by
    obtain ⟨t, e⟩ := Value.isStrOf_shape (x := x) (v := v) h
    exact .inr ⟨x, t, rfl, e⟩
theorem keyIs_int (i : Int) (t : Tok) : keyIs (.inl i) (.int i t) = true := by simp [keyIs, Value.isInt]
theorem keyIs_str (x : Str) (t : Tok) : keyIs (.inr x) (.str x t) = true := by simp [keyIs, Value.isStrOf]
theorem key_ll (a b : Int) : decide ((Sum.inl a : Key) = Sum.inl b) = (a == b) := by
  by_cases e : a = b
  · subst e; simp
  · have h : ¬ (Sum.inl a : Key) = Sum.inl b := fun q => e (Sum.inl.inj q)
    rw [decide_eq_false h]
    exact (beq_eq_false_iff_ne.mpr e).symm
theorem key_rr (a b : Str) : decide ((Sum.inr a : Key) = Sum.inr b) = decide (a = b) := by
  by_cases e : a = b
  · subst e; simp
  · have h : ¬ (Sum.inr a : Key) = Sum.inr b := fun q => e (Sum.inr.inj q)
    rw [decide_eq_false h, decide_eq_false e]
theorem key_lr (a : Int) (b : Str) : decide ((Sum.inl a : Key) = Sum.inr b) = false := decide_eq_false (fun q => nomatch q)
theorem key_rl (a : Str) (b : Int) : decide ((Sum.inr a : Key) = Sum.inl b) = false := decide_eq_false (fun q => nomatch q)
def mixKind (prog : Program) (w : World) : PySem.KeyKind prog w Key where
  is := keyIs
  hash := keyH w
  inj := fun v a b ha hb => by
    rcases keyIs_shape ha with ⟨i, t, rfl, rfl⟩ | ⟨x, t, rfl, rfl⟩
    · rcases keyIs_shape hb with ⟨j, u, rfl, e⟩ | ⟨y, u, rfl, e⟩
      · injection e with e1 _; rw [e1]
      · exact nomatch e
    · rcases keyIs_shape hb with ⟨j, u, rfl, e⟩ | ⟨y, u, rfl, e⟩
      · exact nomatch e
      · injection e with e1 _; rw [e1]
  byValue := fun k v h => by
    rcases keyIs_shape h with ⟨i, t, rfl, rfl⟩ | ⟨x, t, rfl, rfl⟩ <;> rfl
  pyHash := fun hv h => by
    rcases keyIs_shape hv with ⟨i, t, rfl, rfl⟩ | ⟨x, t, rfl, rfl⟩
    · exact wpAny_pyHash_int h
    · exact wpAny_pyHash_str h
  eqBool := fun hu hv h => by
    rcases keyIs_shape hu with ⟨i, t, rfl, rfl⟩ | ⟨x, t, rfl, rfl⟩
    · rcases keyIs_shape hv with ⟨j, u, rfl, rfl⟩ | ⟨y, u, rfl, rfl⟩
      · rw [key_ll] at h; exact wpAny_eqBool_int h
      · rw [key_lr] at h; exact SeqAt.EqAt.int_str i t y u _ _ _ _ h
    · rcases keyIs_shape hv with ⟨j, u, rfl, rfl⟩ | ⟨y, u, rfl, rfl⟩
      · rw [key_rl] at h; exact SeqAt.EqAt.str_int x t j u _ _ _ _ h
      · rw [key_rr] at h; exact wpAny_eqBool_str h
  «strs» := fun k x t v h => by
    rcases keyIs_shape h with ⟨i, u, rfl, e⟩ | ⟨y, u, rfl, e⟩
    · exact nomatch e
    · injection e with e1 _
      subst e1
      cases v <;> rfl
theorem mixKind_int (prog : Program) (w : World) (i : Int) (t : Tok) : (mixKind prog w).is (.inl i) (.int i t) = true := keyIs_int i t
theorem mixKind_str (prog : Program) (w : World) (x : Str) (t : Tok) : (mixKind prog w).is (.inr x) (.str x t) = true := keyIs_str x t
end L2
namespace L2
open PySem PySem.Spec PyProof.Rows
inductive V where
  | non | bl (b : Bool) | int (i : Int) | str (x : Str) | byt (b : Array UInt8) | flt (b : UInt64) | ref (a : Addr) | ty (n : String)
  deriving DecidableEq
def RelV : V → Value → Prop
  | .non, u => u = Value.none
  | .bl b, u => u = Value.bool b
  | .int i, u => ∃ t, u = Value.int i t
  | .str x, u => ∃ t, u = Value.str x t
  | .byt b, u => ∃ t, u = Value.bytes b t
  | .flt b, u => ∃ t, u = Value.float b t
  | .ref a, u => u = Value.ref a
  | .ty n, u => u = Value.type n
abbrev Vals : List V → List Value → Prop := Paired RelV
theorem Vals.length {xs : List V} {us : List Value} (r : Vals xs us) : xs.length = us.length := Paired.length r
theorem Vals.get : ∀ {xs : List V} {us : List Value} {i : Nat} {x : V}, Vals xs us → xs[i]? = some x → ∃ u, us[i]? = some u ∧ RelV x u
  | _, _, _, _, .nil, e => by simp at e
  | _, _, 0, _, .cons r _, e => by simp at e; subst e; exact ⟨_, rfl, r⟩
  | _, _, i + 1, x, .cons _ t, e => by
    obtain ⟨u, h1, h2⟩ := Vals.get (i := i) (x := x) t (by simpa using e)
    exact ⟨u, by simpa using h1, h2⟩
theorem Vals.set {x : V} {u : Value} (r : RelV x u) : ∀ {xs : List V} {us : List Value} (i : Nat), Vals xs us → Vals (xs.set i x) (us.set i u)
  | _, _, _, .nil => .nil
  | _, _, 0, .cons _ t => .cons r t
  | _, _, i + 1, .cons q t => .cons q (Vals.set r i t)
theorem Vals.append : ∀ {xs ys : List V} {us ws : List Value}, Vals xs us → Vals ys ws → Vals (xs ++ ys) (us ++ ws)
  | _, _, _, _, .nil, s => s
  | _, _, _, _, .cons r t, s => .cons r (Vals.append t s)
theorem Vals.take : ∀ {xs : List V} {us : List Value} (n : Nat), Vals xs us → Vals (xs.take n) (us.take n)
  | _, _, 0, _ => .nil
  | _, _, _ + 1, .nil => .nil
  | _, _, n + 1, .cons r t => .cons r (Vals.take n t)
theorem Vals.drop : ∀ {xs : List V} {us : List Value} (n : Nat), Vals xs us → Vals (xs.drop n) (us.drop n)
  | _, _, 0, r => r
  | _, _, _ + 1, .nil => .nil
  | _, _, n + 1, .cons _ t => Vals.drop n t
def RelO : Option V → Option Value → Prop
  | some v, some u => RelV v u
  | none, none => True
  | _, _ => False
def KV {κ : Type} : List (κ × V) → List (κ × Value) → Prop := Paired fun (p : κ × V) (q : κ × Value) => p.1 = q.1 ∧ RelV p.2 q.2
def kV : Key → V
  | .inl i => .int i
  | .inr x => .str x
inductive HO where
  | lst (xs : List V)
  | tup (xs : List V)
  | dK (kvs : List (Key × V)) | dT (kvs : List (List Key × V))
  | set (S : Int → Bool) (n : Nat)
  | ins (C dx : Addr) (fs : List (Str × V))
  | own (x : Addr)
  | xd (fs : List (Str × V))
  | met (f x : Addr)
  | rng (lo hi : Int)
  | frz (o : Obj) (u : HO)
  | tbl (ps : Array Value)
  | ext (φ : Heap → Prop)
abbrev Hp := Addr → Option HO
def upd (H : Hp) (a : Addr) (o : HO) : Hp := fun b => if b = a then some o else H b
theorem upd_same {H : Hp} {a : Addr} {o : HO} : upd H a o a = some o := by unfold upd; rw [if_pos rfl]
theorem upd_ne {H : Hp} {a b : Addr} {o : HO} (h : b ≠ a) : upd H a o b = H b := by unfold upd; rw [if_neg h]
theorem upd_upd {H : Hp} {a : Addr} {o u : HO} : upd (upd H a o) a u = upd H a u := by
  funext b; unfold upd; split <;> rfl
theorem ne_of {H : Hp} {a b : Addr} {o u : HO} (h : H a = some o) (h' : H b = some u) (d : o ≠ u) : a ≠ b := by
  intro e; subst e; rw [h] at h'; exact d (Option.some.inj h')
theorem ne_of_none {H : Hp} {a b : Addr} {o : HO} (h : H a = some o) (h' : H b = none) : a ≠ b := by
  intro e; subst e; rw [h] at h'; cases h'
section
variable (P : Program) (w : World)
def ObjOk (H : Hp) (h : Heap) (a : Addr) : HO → Prop
  | .lst xs => xs.length ≤ sizeLine ∧ ∃ (its : List Value) (n : Nat), Vals xs its ∧ h.get? a = some { cls := .type "list", data := .seq its.toArray n }
  | .tup xs => xs.length ≤ sizeLine ∧ ∃ its : List Value, Vals xs its ∧ IsTup h a its.toArray
  | .dK kvs => kvs.length ≤ sizeLine ∧ (a == sysModules) = false ∧ ∃ vs, KV kvs vs ∧ h.DictOf (mixKind P w) a vs
  | .dT kvs => kvs.length ≤ sizeLine ∧ (a == sysModules) = false ∧ ∃ xs : List (List Key × Addr × Value),
      Paired (fun (p : List Key × V) (q : List Key × Addr × Value) => p.1 = q.1 ∧ H q.2.1 = some (.tup (p.1.map kV)) ∧ RelV p.2 q.2.2) kvs xs ∧
      ∃ o es ep, h.get? a = some o ∧ o.ExactDict ∧ o.data = .dict es ep ∧ es.toList = xs.map (entryOfKey (tupleKind (mixKind P w))) ∧ (xs.map (·.1)).Nodup
  | .set S n => h.SetOf (intKind P w) a S n
  | .ins C dx fs => H dx = some (.own a) ∧ fs.length ≤ 1000 ∧ dx ≠ a ∧ h.get? a = some (PySem.W.instObj C dx) ∧
      ∃ mA, h.Ns1 dx mA ∧ (∀ f, RelO (fs.lookup f) (mA f)) ∧ PySem.Within mA (fs.map (·.1))
  | .own _ => ∃ o, h.get? a = some o
  | .xd fs => ∃ mA, h.Ns1 a mA ∧ ∀ f, RelO (fs.lookup f) (mA f)
  | .rng lo hi => ∃ t u v, h.get? a = some { cls := .type "range", data := .fields #[.int lo t, .int hi u, .int 1 v] }
  | .frz o u => h.get? a = some o ∧ ObjOk H h a u
  | .tbl ps => h.get? a = some { cls := .none, data := .fields ps }
  | .met f x => h.get? a = some (PySem.W.methodObj (.ref f) (.ref x))
  | .ext φ => φ h ∧ (∃ o, h.get? a = some o) ∧ ∀ h1 h2 : Heap, φ h1 → (∀ o, h1.get? a = some o → h2.get? a = some o) → φ h2
def HOk (H : Hp) (h : Heap) : Prop := ∀ a o, H a = some o → ObjOk P w H h a o
end
section
variable {P : Program} {w : World} {H H' : Hp} {h h' : Heap} {a : Addr} {o : HO}
theorem ObjOk.lt (x : ObjOk P w H h a o) : a < h.objs.size := by
  cases o with
  | lst xs => obtain ⟨_, _, _, _, e⟩ := x; exact Heap.lt_size e
  | tup xs => obtain ⟨_, _, _, p⟩ := x; exact p.lt
  | dK kvs => obtain ⟨_, _, _, _, o, _, _, e, _⟩ := x; exact Heap.lt_size e
  | dT kvs => obtain ⟨_, _, _, _, o, _, _, e, _⟩ := x; exact Heap.lt_size e
  | set S n => obtain ⟨o, _, _, _, e, _⟩ := x; exact Heap.lt_size e
  | ins C dx fs => obtain ⟨_, _, _, e, _⟩ := x; exact Heap.lt_size e
  | own y => obtain ⟨_, e⟩ := x; exact Heap.lt_size e
  | xd fs => obtain ⟨_, ⟨_, _, _, e, _⟩, _⟩ := x; exact Heap.lt_size e
  | rng lo hi => obtain ⟨_, _, _, e⟩ := x; exact Heap.lt_size e
  | frz ob u => obtain ⟨e, _⟩ := x; exact Heap.lt_size e
  | tbl ps => exact Heap.lt_size (show h.get? a = some _ from x)
  | met f y => exact Heap.lt_size (show h.get? a = some _ from x)
  | ext φ => obtain ⟨_, ⟨_, e⟩, _⟩ := x; exact Heap.lt_size e
theorem Paired.mapP {α β : Type} {F G : α → β → Prop} : ∀ {l₁ : List α} {l₂ : List β}, Paired F l₁ l₂ → (∀ a b, F a b → G a b) → Paired G l₁ l₂
  | _, _, .nil, _ => .nil
  | _, _, .cons r t, f => .cons (f _ _ r) (Paired.mapP t f)
theorem ObjOk.stay (x : ObjOk P w H h a o) (k : ∀ b u, (b = a ∨ H b = some (.own a)) → h.get? b = some u → h'.get? b = some u)
    (ho : ∀ b, H b = some (.own a) → H' b = some (.own a)) (ht : ∀ b xs, H b = some (.tup xs) → H' b = some (.tup xs)) : ObjOk P w H' h' a o := by
  induction o with
  | lst xs => obtain ⟨z, its, n, r, e⟩ := x; exact ⟨z, its, n, r, k _ _ (.inl rfl) e⟩
  | tup xs => obtain ⟨z, its, r, ob, e, c⟩ := x; exact ⟨z, its, r, ob, k _ _ (.inl rfl) e, c⟩
  | dK kvs => obtain ⟨z, y, vs, r, ob, es, ep, e, c⟩ := x; exact ⟨z, y, vs, r, ob, es, ep, k _ _ (.inl rfl) e, c⟩
  | dT kvs =>
    obtain ⟨z, y, xs, r, ob, es, ep, e, c⟩ := x
    exact ⟨z, y, xs, Paired.mapP r fun p q z => ⟨z.1, ht _ _ z.2.1, z.2.2⟩, ob, es, ep, k _ _ (.inl rfl) e, c⟩
  | set S n => obtain ⟨ob, es, ep, t, e, c⟩ := x; exact ⟨ob, es, ep, t, k _ _ (.inl rfl) e, c⟩
  | ins C dx fs =>
    obtain ⟨d, z, ne, e, mA, ⟨od, es, ep, e2, c⟩, r⟩ := x
    exact ⟨ho _ d, z, ne, k _ _ (.inl rfl) e, mA, ⟨od, es, ep, k _ _ (.inr d) e2, c⟩, r⟩
  | own y => obtain ⟨ob, e⟩ := x; exact ⟨ob, k _ _ (.inl rfl) e⟩
  | xd fs => obtain ⟨mA, ⟨od, es, ep, e, c⟩, r⟩ := x; exact ⟨mA, ⟨od, es, ep, k _ _ (.inl rfl) e, c⟩, r⟩
  | rng lo hi => obtain ⟨t, u, v, e⟩ := x; exact ⟨t, u, v, k _ _ (.inl rfl) e⟩
  | frz ob u ih => obtain ⟨e, q⟩ := x; exact ⟨k _ _ (.inl rfl) e, ih q⟩
  | tbl ps =>
    have e : h.get? a = some { cls := .none, data := .fields ps } := x
    show h'.get? a = some { cls := .none, data := .fields ps }
    exact k a _ (.inl rfl) e
  | met f y =>
    have e : h.get? a = some (PySem.W.methodObj (.ref f) (.ref y)) := x
    show h'.get? a = some (PySem.W.methodObj (.ref f) (.ref y))
    exact k a _ (.inl rfl) e
  | ext φ => obtain ⟨p, ⟨o, e⟩, st⟩ := x; exact ⟨st _ _ p fun o q => k _ _ (.inl rfl) q, ⟨o, k _ _ (.inl rfl) e⟩, st⟩
theorem HOk.lt (x : HOk P w H h) (e : H a = some o) : a < h.objs.size := (x a o e).lt
theorem HOk.fresh (x : HOk P w H h) (e : h.objs.size ≤ a) : H a = none := by
  cases q : H a with
  | none => rfl
  | some u => exact absurd (Nat.lt_of_lt_of_le (x.lt q) e) (Nat.lt_irrefl _)
theorem HOk.kept (x : HOk P w H h) (k : ∀ b u, h.get? b = some u → h'.get? b = some u) : HOk P w H h' := fun a o e =>
  (x a o e).stay (fun b u _ q => k b u q) (fun _ q => q) fun _ _ q => q
theorem HOk.laid (x : HOk P w H h) (k : ∀ b u, h.get? b = some u → h'.get? b = some u) (hp : h.objs.size ≤ a) (new : ObjOk P w (upd H a o) h' a o) : HOk P w (upd H a o) h' := fun b u e => by
  have hn := x.fresh hp
  by_cases hb : b = a
  · subst hb; rw [upd_same] at e; cases e; exact new
  · rw [upd_ne hb] at e
    exact (x b u e).stay (fun c v _ q => k c v q) (fun c q => by rw [upd_ne (ne_of_none q hn)]; exact q) fun c xs q => by rw [upd_ne (ne_of_none q hn)]; exact q
end
def Rd (H : Hp) (a : Addr) (u : HO) : Prop := H a = some u ∨ ∃ o, H a = some (.frz o u)
theorem Rd.ok {P : Program} {w : World} {H : Hp} {h : Heap} {a : Addr} {u : HO} (r : Rd H a u) (x : HOk P w H h) : ObjOk P w H h a u := by
  rcases r with r | ⟨o, r⟩
  · exact x a u r
  · obtain ⟨_, q⟩ := x a _ r
    exact q
def Mut : Option HO → Prop
  | some (.lst _) => True
  | some (.dK _) => True
  | some (.dT _) => True
  | some (.set _ _) => True
  | some (.ins _ _ _) => True
  | some (.ext _) => True
  | _ => False
section
variable {P : Program} {w : World} {H : Hp} {h h' : Heap} {x e : Addr} {o' : HO}
theorem HOk.write (ok : HOk P w H h) (mu : Mut (H x)) (he : e = x ∨ H e = some (.own x)) (k : ∀ b u, b ≠ e → h.get? b = some u → h'.get? b = some u) (heo : ∃ u, h'.get? e = some u)
    (new : ObjOk P w (upd H x o') h' x o') : HOk P w (upd H x o') h' := fun b u q => by
  have nown : ∀ c y, H c = some (.own y) → c ≠ x := fun c y r z => by subst z; rw [r] at mu; exact mu
  have ntup : ∀ c xs, H c = some (.tup xs) → c ≠ x := fun c xs r z => by subst z; rw [r] at mu; exact mu
  by_cases hb : b = x
  · subst hb; rw [upd_same] at q; cases q; exact new
  · rw [upd_ne hb] at q
    by_cases hbe : b = e
    · have q' : H b = some (.own x) := by
        rcases he with z | z
        · exact absurd (hbe.trans z) hb
        · rw [hbe]; exact z
      rw [q] at q'; cases q'
      obtain ⟨v, hv⟩ := heo
      exact ⟨v, by rw [hbe]; exact hv⟩
    · refine (ok b u q).stay (fun c v hc r => k c v ?_ r) (fun c r => by rw [upd_ne (nown c b r)]; exact r) fun c xs r => by rw [upd_ne (ntup c xs r)]; exact r
      rcases hc with rfl | hc
      · exact hbe
      · rintro rfl
        rcases he with z | z
        · exact nown c b hc z
        · rw [hc] at z; cases z; exact hb rfl
end
structure Un (fs ex : List Addr) (H H' : Hp) (h h' : Heap) : Prop where
  keep : ∀ b o, h.get? b = some o → H b = none → b ∉ fs → b ∉ ex → h'.get? b = some o
  slot : ∀ b o, h.get? b = some o → H b = none → b ∈ fs → b ∉ ex → ∃ sl, h'.get? b = some { o with slots := sl }
  free : ∀ b o, h.get? b = some o → H b = none → b ∉ ex → H' b = none
  there : ∀ b o, h.get? b = some o → b ∉ ex → ∃ o', h'.get? b = some o'
  tups : ∀ b xs, H b = some (.tup xs) → H' b = some (.tup xs)
  frzs : ∀ b o u, H b = some (.frz o u) → H' b = some (.frz o u)
  tbls : ∀ b ps, H b = some (.tbl ps) → ∃ more, H' b = some (.tbl (ps ++ more))
section
variable {fs fs' ex ex' : List Addr} {H H1 H2 : Hp} {h h1 h2 h' : Heap} {a x e : Addr} {o : HO}
theorem Un.any (u : Un fs ex H H1 h h1) {b : Addr} {ob : Obj} (q : h.get? b = some ob) (n : H b = none) (hx : b ∉ ex) : ∃ sl, h1.get? b = some { ob with slots := sl } := by
  by_cases hb : b ∈ fs
  · exact u.slot b ob q n hb hx
  · exact ⟨ob.slots, u.keep b ob q n hb hx⟩
theorem Un.kept (k : ∀ b u, h.get? b = some u → h'.get? b = some u) : Un fs ex H H h h' :=
  ⟨fun b ob q _ _ _ => k b ob q, fun b ob q _ _ _ => ⟨ob.slots, k b ob q⟩, fun _ _ _ n _ => n, fun b ob q _ => ⟨ob, k b ob q⟩, fun _ _ q => q, fun _ _ _ q => q, fun _ ps q => ⟨#[], by rw [q]; simp⟩⟩
theorem Un.refl : Un fs ex H H h h := Un.kept fun _ _ q => q
theorem Un.laid (k : ∀ b u, h.get? b = some u → h'.get? b = some u) (hp : h.objs.size ≤ a) (hn : H a = none) : Un fs ex H (upd H a o) h h' where
  keep := fun b u q _ _ _ => k b u q
  slot := fun b u q _ _ _ => ⟨u.slots, k b u q⟩
  free := fun b u q n _ => by rw [upd_ne (Nat.ne_of_lt (Nat.lt_of_lt_of_le (Heap.lt_size q) hp))]; exact n
  there := fun b u q _ => ⟨u, k b u q⟩
  tups := fun b xs q => by rw [upd_ne (ne_of_none q hn)]; exact q
  frzs := fun b u xs q => by rw [upd_ne (ne_of_none q hn)]; exact q
  tbls := fun b ps q => ⟨#[], by rw [upd_ne (ne_of_none q hn), q]; simp⟩
theorem Un.write (mu : Mut (H x)) (he : e = x ∨ H e = some (.own x)) (k : ∀ b u, b ≠ e → h.get? b = some u → h'.get? b = some u) (heo : ∃ u, h'.get? e = some u) : Un fs ex H (upd H x o) h h' := by
  have hx : ∀ b, H b = none → b ≠ x := fun b n z => by subst z; rw [n] at mu; exact mu
  have hb : ∀ b, H b = none → b ≠ e := fun b n z => by
    subst z
    rcases he with r | r
    · exact hx b n r
    · rw [n] at r; cases r
  have hm : ∀ b u, H b = some u → ¬ Mut (some u) → b ≠ x := fun b u q nm z => by subst z; rw [q] at mu; exact nm mu
  refine ⟨fun b u q n _ _ => k b u (hb b n) q, fun b u q n _ _ => ⟨u.slots, k b u (hb b n) q⟩, fun b u q n _ => by rw [upd_ne (hx b n)]; exact n, fun b u q _ => ?_,
    fun b xs q => by rw [upd_ne (hm b _ q fun z => z)]; exact q, fun b u xs q => by rw [upd_ne (hm b _ q fun z => z)]; exact q, fun b ps q => ⟨#[], by rw [upd_ne (hm b _ q fun z => z), q]; simp⟩⟩
  by_cases hbe : b = e
  · subst hbe; exact heo
  · exact ⟨u, k b u hbe q⟩
end
def trk (h : Heap) (H : Hp) : List Addr := (List.range h.objs.size).filter fun a => (H a).isSome
def hidT (h : Heap) (H : Hp) : Heap := PySem.W.hideAll h (trk h H)
theorem hidT_size (h : Heap) (H : Hp) : (hidT h H).objs.size = h.objs.size := PySem.W.hideAll_size _ _
theorem hidT_get {h : Heap} {H : Hp} {b : Addr} {o : Obj} (e : h.get? b = some o) (n : H b = none) : (hidT h H).get? b = some o :=
  PySem.W.hideAll_get _ e fun hm => by
    have q : (H b).isSome = true := (List.mem_filter.mp hm).2
    rw [n] at q; simp at q
theorem of_hidT {h : Heap} {H : Hp} {b : Addr} {o : Obj} (e : (hidT h H).get? b = some o) : h.get? b = some o ∧ H b = none := by
  have e' : h.get? b = some o := PySem.W.of_hideAll (trk h H) e
  refine ⟨e', ?_⟩
  cases q : H b with
  | none => rfl
  | some x =>
    have hm : b ∈ trk h H := List.mem_filter.mpr ⟨List.mem_range.mpr (Heap.lt_size e'), by simp [q]⟩
    have z : (hidT h H).get? b = none := PySem.W.hideAll_none (trk h H) hm
    rw [z] at e; cases e
end L2
namespace L2
open PySem PySem.Spec PyProof.Rows
structure Mod (K : PySem.W.Frag) (mg : Str → Option Value) (base : Heap) : Prop where
  kin : K.In base
  glob : base.Ns mainGlobals mg
  blt : ∃ mb, base.Ns builtinsNs mb ∧ ∀ x : Str, x ≠ "__name__" → mb x = bootBuiltins x
  nolimit : base.NoLimit
structure Cx where
  prog : Program
  w : World
  K : PySem.W.Frag
  mg : Str → Option Value
  base : Heap
  A : Around
  N : List Str
  s_0 : Shared
  H_0 : Hp
  env : Env
  outer : List Env
  stack : List Env
  ex : List Addr
  fn : Str → Bool
  calm : Bool
  pn : List (Addr × Obj)
  xe : Value → Shared → Prop
def frs (l : List Env) : List Addr := l.filterMap (·.frame)
abbrev Cx.fs (X : Cx) : List Addr := frs X.outer
def Vis (sc : Scope) (x : Str) : Prop := sc.names.lookup x = some .local ∨ sc.names.lookup x = some .cell ∨ sc.names.lookup x = some .free
def Loc (sc : Scope) (x : Str) : Prop := sc.names.lookup x = some .local ∨ sc.names.lookup x = some .cell
def Look (env : Env) (h : Heap) (m : Str → Option Value) (x : Str) (u : Value) : Prop :=
  (env.kindOf x = some .local ∧ m x = some u) ∨ ((env.kindOf x = some .cell ∨ env.kindOf x = some .free) ∧ ∃ c, env.cells.lookup x = some c ∧ h.IsCell c (some u))
structure Cx.Ok (X : Cx) : Prop where
  mod : Mod X.K X.mg X.base
  kind : X.env.scope.kind = .function
  glob : X.env.globals = mainGlobals
  blt : X.env.builtins = builtinsNs
  above : X.s_0.heap.objs.size ≤ X.env.locals
  inj : ∀ x y c, X.env.cells.lookup x = some c → X.env.cells.lookup y = some c → x = y
  has : ∀ x, (X.env.kindOf x = some .cell ∨ X.env.kindOf x = some .free) → ∃ c, X.env.cells.lookup x = some c
  cab : ∀ x c, X.fn x = true → X.env.cells.lookup x = some c → X.s_0.heap.objs.size ≤ c
  hd : X.calm = true → X.A.handled = none
  frames : X.A.frames = some X.stack
  stk : X.stack = X.outer ∨ (X.stack = X.env :: X.outer ∧ X.env.frame = some X.env.locals)
  exf : ∀ b ∈ X.ex, b ≠ X.env.locals ∧ ∀ x c, X.env.cells.lookup x = some c → c ≠ b
  bs : ∀ b o, X.base.get? b = some o → X.s_0.heap.get? b = some o ∧ X.H_0 b = none
  bsz : X.base.objs.size ≤ X.s_0.heap.objs.size
  noex : ∀ b o, X.base.get? b = some o → b ∉ X.ex
  exfs : ∀ b ∈ X.ex, b ∉ X.fs
  funs : X.s_0.heap.FunFrames X.base X.outer
  frf : ∀ b ∈ X.fs, X.H_0 b = none
structure Inv (X : Cx) (pins : List (Addr × Obj)) (σ : List (Option V)) (H : Hp) (s : Shared) : Prop where
  ok : X.Ok
  os : s.os = X.s_0.os
  bare : AllBare s.gens
  base : Un X.fs X.ex X.H_0 H X.s_0.heap s.heap
  loc : ∃ m, s.heap.Ns X.env.locals m ∧ ∀ (i : Nat) (x : Str) (v : V), X.N[i]? = some x → σ[i]? = some (some v) → Vis X.env.scope x → ∃ u, RelV v u ∧ Look X.env s.heap m x u
  cell : ∀ x c, X.env.cells.lookup x = some c → ∃ v, s.heap.IsCell c v
  free : H X.env.locals = none
  freeC : ∀ x c, X.env.cells.lookup x = some c → H c = none
  pin : ∀ p ∈ X.pn ++ pins, s.heap.get? p.1 = some p.2 ∧ H p.1 = none ∧ p.1 ≠ X.env.locals ∧ p.1 ∉ X.fs ∧ ∀ v, p.2.data ≠ .cell v
  hok : HOk X.prog X.w H s.heap
  len : σ.length = X.N.length
section
variable {X : Cx} {pins : List (Addr × Obj)} {σ : List (Option V)} {H H' : Hp} {s : Shared} {h' : Heap}
theorem Cx.Ok.nofr (ok : X.Ok) {b : Addr} {o : Obj} (e : X.base.get? b = some o) : b ∉ X.fs := fun hb => by
  have := (ok.funs.mem hb).1
  rw [e] at this; cases this
theorem Inv.bs (I : Inv X pins σ H s) : ∀ b o, X.base.get? b = some o → s.heap.get? b = some o ∧ H b = none := fun b o e =>
  ⟨I.base.keep b o (I.ok.bs b o e).1 (I.ok.bs b o e).2 (I.ok.nofr e) (I.ok.noex b o e), I.base.free b o (I.ok.bs b o e).1 (I.ok.bs b o e).2 (I.ok.noex b o e)⟩
theorem Inv.bk (I : Inv X pins σ H s) : ∀ b o, X.base.get? b = some o → s.heap.get? b = some o := fun b o e => (I.bs b o e).1
theorem Inv.mod (I : Inv X pins σ H s) : Mod X.K X.mg X.base := I.ok.mod
theorem Inv.kIn (I : Inv X pins σ H s) : X.K.In s.heap := I.ok.mod.kin.keeps I.bk
theorem Inv.lt (I : Inv X pins σ H s) : X.env.locals < s.heap.objs.size := let ⟨_, hn, _⟩ := I.loc; hn.lt
theorem Inv.sz (I : Inv X pins σ H s) : X.s_0.heap.objs.size ≤ s.heap.objs.size := Nat.le_trans I.ok.above (Nat.le_of_lt I.lt)
theorem Inv.nofs (I : Inv X pins σ H s) {a : Addr} (h : s.heap.objs.size ≤ a) : a ∉ X.fs := fun hb => by
  obtain ⟨_, o, ho, _⟩ := I.ok.funs.mem hb
  exact absurd (Nat.lt_of_lt_of_le (Heap.lt_size ho) (Nat.le_trans I.sz h)) (Nat.lt_irrefl _)
theorem Inv.cne (I : Inv X pins σ H s) : ∀ x c, X.env.cells.lookup x = some c → c ≠ X.env.locals := fun x c e z => by
  obtain ⟨v, o, ho, hd⟩ := I.cell x c e
  obtain ⟨m, ⟨o', es, ep, ho', hd', _⟩, _⟩ := I.loc
  rw [z, ho'] at ho; cases ho; rw [hd'] at hd; cases hd
theorem Inv.funs (I : Inv X pins σ H s) : s.heap.FunFrames X.base X.outer := by
  have all : ∀ (l : List Env), (∀ b ∈ frs l, b ∈ X.fs) → X.s_0.heap.FunFrames X.base l → s.heap.FunFrames X.base l := by
    intro l
    induction l with
    | nil => intro _ _; trivial
    | cons env r ih =>
      intro hs hl
      obtain ⟨hk, ⟨L, o, hf, hn, ho, hd⟩, hr⟩ := hl
      have hL : L ∈ X.fs := hs L (by unfold frs; rw [List.filterMap_cons, hf]; exact List.mem_cons_self)
      obtain ⟨sl, e⟩ := I.base.slot L o ho (I.ok.frf L hL) hL fun z => I.ok.exfs L z hL
      exact ⟨hk, ⟨L, _, hf, hn, e, hd⟩, ih (fun b hb => hs b (by unfold frs; rw [List.filterMap_cons, hf]; exact List.mem_cons_of_mem _ hb)) hr⟩
  exact all X.outer (fun _ hb => hb) I.ok.funs
theorem Inv.stack (I : Inv X pins σ H s) : s.heap.FunFrames X.base X.stack := by
  rcases I.ok.stk with e | ⟨e, hf⟩
  · rw [e]; exact I.funs
  · rw [e]
    obtain ⟨m, hn, _⟩ := I.loc
    refine .cons (by rw [I.ok.kind]; decide) hf hn ?_ I.funs
    exact Heap.get?_none_of_le (Nat.le_trans I.ok.bsz I.ok.above)
theorem Inv.stkSub (I : Inv X pins σ H s) : ∀ b ∈ frs X.stack, b ∈ X.env.locals :: X.fs := fun b hb => by
  rcases I.ok.stk with e | ⟨e, hf⟩
  · rw [e] at hb; exact List.mem_cons_of_mem _ hb
  · rw [e] at hb
    unfold frs at hb
    rw [List.filterMap_cons, hf] at hb
    exact hb
theorem Inv.stkFree (I : Inv X pins σ H s) : ∀ b ∈ frs X.stack, H b = none := fun b hb => by
  rcases List.mem_cons.mp (I.stkSub b hb) with e | hb
  · rw [e]; exact I.free
  · obtain ⟨_, o, ho, _⟩ := I.ok.funs.mem hb
    exact I.base.free b o ho (I.ok.frf b hb) fun z => I.ok.exfs b z hb
theorem Inv.step {g' : Array GenState} {t' : Nat} {d' : Drawn} {ch : List Addr} (I : Inv X pins σ H s)
    (hch : ∀ b ∈ ch, (b ∈ X.ex ∨ X.s_0.heap.objs.size ≤ b) ∧ b ≠ X.env.locals ∧ (∀ x c, X.env.cells.lookup x = some c → c ≠ b) ∧ ∀ p ∈ X.pn ++ pins, p.1 ≠ b)
    (keep : ∀ b o, b ≠ X.env.locals → b ∉ X.fs → b ∉ ch → s.heap.get? b = some o → H b = none → h'.get? b = some o)
    (slot : ∀ b o, b ≠ X.env.locals → b ∈ X.fs → b ∉ ch → s.heap.get? b = some o → H b = none → ∃ sl, h'.get? b = some { o with slots := sl }) (free : ∀ b o, b ∉ ch → s.heap.get? b = some o → H b = none → H' b = none)
    (there : ∀ b o, b ∉ ch → s.heap.get? b = some o → ∃ o', h'.get? b = some o')
    (tups : ∀ b xs, H b = some (.tup xs) → H' b = some (.tup xs)) (frzs : ∀ b o u, H b = some (.frz o u) → H' b = some (.frz o u)) (tbls : ∀ b ps, H b = some (.tbl ps) → ∃ more, H' b = some (.tbl (ps ++ more)))
    (ns : ∀ m, s.heap.Ns X.env.locals m → h'.Ns X.env.locals m) (hok : HOk X.prog X.w H' h') (hg : AllBare g') :
    Inv X pins σ H' { s with heap := h', gens := g', drawn := d', toks := t' } := by
  have neL : ∀ b o, X.s_0.heap.get? b = some o → b ≠ X.env.locals := fun b o e => Nat.ne_of_lt (Nat.lt_of_lt_of_le (Heap.lt_size e) I.ok.above)
  have neC : ∀ b o, X.s_0.heap.get? b = some o → b ∉ X.ex → b ∉ ch := fun b o e hx hb => by
    rcases (hch b hb).1 with z | z
    · exact hx z
    · exact absurd (Nat.lt_of_lt_of_le (Heap.lt_size e) z) (Nat.lt_irrefl _)
  have cellK : ∀ x c, X.env.cells.lookup x = some c → ∀ v, s.heap.IsCell c v → h'.IsCell c v := fun x c e v ⟨o, ho, hd⟩ => by
    have nch : c ∉ ch := fun z => (hch c z).2.2.1 x c e rfl
    by_cases hc : c ∈ X.fs
    · obtain ⟨sl, q⟩ := slot c o (I.cne x c e) hc nch ho (I.freeC x c e)
      exact ⟨_, q, hd⟩
    · exact ⟨o, keep c o (I.cne x c e) hc nch ho (I.freeC x c e), hd⟩
  refine ⟨I.ok, I.os, hg, ⟨fun b o e n hb hx => ?_, fun b o e n hb hx => ?_, fun b o e n hx => ?_, fun b o e hx => ?_, fun b xs e => tups b xs (I.base.tups b xs e), fun b o xs e => frzs b o xs (I.base.frzs b o xs e), fun b ps e => ?_⟩, ?_, fun x c e => ?_, ?_, fun x c e => ?_, fun p hp => ?_, hok, I.len⟩
  · exact keep b o (neL b o e) hb (neC b o e hx) (I.base.keep b o e n hb hx) (I.base.free b o e n hx)
  · obtain ⟨sl, e1⟩ := I.base.slot b o e n hb hx
    obtain ⟨sl', e2⟩ := slot b _ (neL b o e) hb (neC b o e hx) e1 (I.base.free b o e n hx)
    exact ⟨sl', e2⟩
  · obtain ⟨o', e1⟩ := I.base.there b o e hx
    exact free b o' (neC b o e hx) e1 (I.base.free b o e n hx)
  · obtain ⟨o', e1⟩ := I.base.there b o e hx
    exact there b o' (neC b o e hx) e1
  · obtain ⟨m1, e1⟩ := I.base.tbls b ps e
    obtain ⟨m2, e2⟩ := tbls b _ e1
    exact ⟨m1 ++ m2, by rw [e2, Array.append_assoc]⟩
  · obtain ⟨m, hn, hl⟩ := I.loc
    refine ⟨m, ns m hn, fun i x v e1 e2 e3 => ?_⟩
    obtain ⟨u, r, l⟩ := hl i x v e1 e2 e3
    refine ⟨u, r, ?_⟩
    rcases l with l | ⟨k, c, e, z⟩
    · exact .inl l
    · exact .inr ⟨k, c, e, cellK x c e _ z⟩
  · obtain ⟨v, z⟩ := I.cell x c e
    exact ⟨v, cellK x c e v z⟩
  · obtain ⟨m, ⟨o, _, _, ho, _⟩, _⟩ := I.loc
    exact free _ o (fun z => (hch _ z).2.1 rfl) ho I.free
  · obtain ⟨v, o, ho, hd⟩ := I.cell x c e
    exact free c o (fun z => (hch c z).2.2.1 x c e rfl) ho (I.freeC x c e)
  · obtain ⟨e, n, ne, nf, d⟩ := I.pin p hp
    have nch : p.1 ∉ ch := fun z => (hch p.1 z).2.2.2 p hp rfl
    exact ⟨keep p.1 p.2 ne nf nch e n, free p.1 p.2 nch e n, ne, nf, d⟩
theorem Inv.un {t' : Nat} (I : Inv X pins σ H s) (u : Un X.fs [] H H' s.heap h') (hok : HOk X.prog X.w H' h') : Inv X pins σ H' { s with heap := h', toks := t' } := by
  obtain ⟨m, ⟨o, es, ep, ho, r⟩, _⟩ := id I.loc
  obtain ⟨sl, hL⟩ := u.any ho I.free (by simp)
  exact I.step (g' := s.gens) (d' := s.drawn) (ch := []) (fun _ z => nomatch z) (fun b o _ hb _ e n => u.keep b o e n hb (by simp)) (fun b o _ hb _ e n => u.slot b o e n hb (by simp)) (fun b o _ e n => u.free b o e n (by simp)) (fun b o _ e => u.there b o e (by simp)) u.tups u.frzs u.tbls (fun m' hm => by
    obtain ⟨o', es', ep', ho', r'⟩ := hm
    rw [ho] at ho'; cases ho'
    exact ⟨_, es', ep', hL, r'⟩) hok I.bare
theorem Inv.call {g' : Array GenState} {t' : Nat} {d' : Drawn} {ch : List Addr} (I : Inv X pins σ H s) (u : Un (frs X.stack) ch H H' s.heap h') (hok : HOk X.prog X.w H' h') (hg : AllBare g')
    (hch : ∀ b ∈ ch, (b ∈ X.ex ∨ X.s_0.heap.objs.size ≤ b) ∧ b ≠ X.env.locals ∧ (∀ x c, X.env.cells.lookup x = some c → c ≠ b) ∧ ∀ p ∈ X.pn ++ pins, p.1 ≠ b) :
    Inv X pins σ H' { s with heap := h', gens := g', drawn := d', toks := t' } := by
  obtain ⟨m, ⟨o, es, ep, ho, r⟩, _⟩ := id I.loc
  obtain ⟨sl, hL⟩ := u.any ho I.free fun z => (hch _ z).2.1 rfl
  exact I.step (ch := ch) hch (fun b o hL hb hc e n => u.keep b o e n (fun z => (List.mem_cons.mp (I.stkSub b z)).elim hL hb) hc) (fun b o _ _ hc e n => u.any e n hc) (fun b o hc e n => u.free b o e n hc) (fun b o hc e => u.there b o e hc) u.tups u.frzs u.tbls (fun m' hm => by
    obtain ⟨o', es', ep', ho', r'⟩ := hm
    rw [ho] at ho'; cases ho'
    exact ⟨_, es', ep', hL, r'⟩) hok hg
theorem Inv.turned {t' : Nat} {it : Addr} (I : Inv X pins σ H s) (k : ∀ b o, b ≠ it → s.heap.get? b = some o → h'.get? b = some o) (hn : H it = none) (hL : it ≠ X.env.locals)
    (h1 : it ∈ X.ex ∨ X.s_0.heap.objs.size ≤ it) (h2 : ∀ x c, X.env.cells.lookup x = some c → c ≠ it) (h3 : ∀ p ∈ X.pn ++ pins, p.1 ≠ it) : Inv X pins σ H { s with heap := h', toks := t' } := by
  have nit : ∀ b u, H b = some u → b ≠ it := fun b u e z => by rw [z, hn] at e; cases e
  refine I.step (g' := s.gens) (d' := s.drawn) (ch := [it]) (fun b hb => ?_) (fun b o _ _ hc e _ => k b o (fun z => hc (by simp [z])) e) (fun b o _ _ hc e _ => ⟨o.slots, k b o (fun z => hc (by simp [z])) e⟩) (fun _ _ _ _ n => n)
    (fun b o hc e => ⟨o, k b o (fun z => hc (by simp [z])) e⟩) (fun _ _ e => e) (fun _ _ _ e => e) (fun b ps e => ⟨#[], by rw [e]; simp⟩) (fun m hm => ?_) (fun b u e => ?_) I.bare
  · have e : b = it := by simpa using hb
    subst e
    exact ⟨h1, hL, h2, h3⟩
  · obtain ⟨o, es, ep, ho, r⟩ := hm
    exact ⟨o, es, ep, k _ o (Ne.symm hL) ho, r⟩
  · refine (I.hok b u e).stay (fun c v hc q => k c v ?_ q) (fun _ q => q) fun _ _ q => q
    rcases hc with z | z
    · rw [z]; exact nit b u e
    · exact nit c _ z
theorem Inv.tok (I : Inv X pins σ H s) (t : Nat) : Inv X pins σ H { s with toks := t } := I.un (h' := s.heap) (t' := t) Un.refl I.hok
theorem Inv.kept {t' : Nat} (I : Inv X pins σ H s) (k : ∀ b u, s.heap.get? b = some u → h'.get? b = some u) : Inv X pins σ H { s with heap := h', toks := t' } := I.un (Un.kept k) (I.hok.kept k)
theorem Inv.laid {a : Addr} {o : HO} {t' : Nat} (I : Inv X pins σ H s) (k : ∀ b u, s.heap.get? b = some u → h'.get? b = some u) (hp : s.heap.objs.size ≤ a) (new : ObjOk X.prog X.w (upd H a o) h' a o) :
    Inv X pins σ (upd H a o) { s with heap := h', toks := t' } := I.un (Un.laid k hp (I.hok.fresh hp)) (I.hok.laid k hp new)
theorem Inv.write {x e : Addr} {o : HO} {t' : Nat} (I : Inv X pins σ H s) (mu : Mut (H x)) (he : e = x ∨ H e = some (.own x)) (k : ∀ b u, b ≠ e → s.heap.get? b = some u → h'.get? b = some u) (heo : ∃ u, h'.get? e = some u)
    (new : ObjOk X.prog X.w (upd H x o) h' x o) : Inv X pins σ (upd H x o) { s with heap := h', toks := t' } := I.un (Un.write mu he k heo) (I.hok.write mu he k heo new)
theorem Inv.weak {σ' : List (Option V)} (I : Inv X pins σ H s) (hl : σ'.length = σ.length) (w : ∀ (i : Nat) v, σ'[i]? = some (some v) → σ[i]? = some (some v)) : Inv X pins σ' H s :=
  ⟨I.ok, I.os, I.bare, I.base, let ⟨m, hn, hl'⟩ := I.loc; ⟨m, hn, fun i x v e1 e2 e3 => hl' i x v e1 (w i v e2) e3⟩, I.cell, I.free, I.freeC, I.pin, I.hok, hl.trans I.len⟩
theorem Inv.pins_of {pins' : List (Addr × Obj)} (I : Inv X pins σ H s) (h : ∀ p ∈ pins', s.heap.get? p.1 = some p.2 ∧ H p.1 = none ∧ p.1 ≠ X.env.locals ∧ p.1 ∉ X.fs ∧ ∀ v, p.2.data ≠ .cell v) : Inv X pins' σ H s :=
  ⟨I.ok, I.os, I.bare, I.base, I.loc, I.cell, I.free, I.freeC, fun p hp => (List.mem_append.mp hp).elim (fun z => I.pin p (List.mem_append_left _ z)) (h p), I.hok, I.len⟩
theorem nodup_ix {N : List Str} (hN : N.Nodup) {i j : Nat} {x : Str} (a : N[i]? = some x) (b : N[j]? = some x) : i = j := by
  obtain ⟨h1, e1⟩ := List.getElem?_eq_some_iff.mp a
  obtain ⟨h2, e2⟩ := List.getElem?_eq_some_iff.mp b
  exact (List.getElem_inj hN).mp (e1.trans e2.symm)
theorem store_ok2 {M : Model} {A : Around} {E : Value → Shared → Prop} {i : Nat} {x : Str} {v : V} {u : Value} {Q : Unit → Shared → Prop} (I : Inv X pins σ H s) (hN : X.N.Nodup) (hi : X.N[i]? = some x) (hx : Loc X.env.scope x) (r : RelV v u)
    (h : ∀ s', Inv X pins (σ.set i (some v)) H s' → (∃ a, Heap.SameBut a s.heap s'.heap ∧ (a = X.env.locals ∨ X.env.cells.lookup x = some a)) → Q () s') (hf : X.fn x = true ∨ X.env.scope.names.lookup x = some .local := by first | exact .inl rfl | exact .inr rfl | assumption) : wpAny M A (storeName X.env x u) Q E s := by
  obtain ⟨m, hn, hl⟩ := id I.loc
  have hcls : (X.env.scope.kind == .class || (X.env.scope.kind == .module && X.env.locals != X.env.globals)) = false := by rw [I.ok.kind]; rfl
  have hiσ : i < σ.length := by rw [I.len]; exact (List.getElem?_eq_some_iff.mp hi).1
  have cne := I.cne
  have tracked : ∀ {a : Addr} {h' : Heap}, (∃ o, s.heap.get? a = some o ∧ H a = none) → Heap.SameBut a s.heap h' → HOk X.prog X.w H h' := fun {a h'} ha hs b ob e => by
    obtain ⟨_, _, hfree⟩ := ha
    refine (I.hok b ob e).stay (fun c w' hc q => (hs.2 c ?_).trans q) (fun _ q => q) fun _ _ q => q
    rintro rfl
    rcases hc with rfl | hc
    · rw [hfree] at e; cases e
    · rw [hfree] at hc; cases hc
  rcases hx with hk | hk
  · refine wpAny_storeName_local hk hn (fun h' hn' hs => ?_) hcls
    obtain ⟨oL, _, _, hoL, _⟩ := id hn
    refine h _ ⟨I.ok, I.os, I.bare, ⟨fun b o e n hb hx => ?_, fun b o e n hb hx => ?_, I.base.free, fun b o e hx => ?_, I.base.tups, I.base.frzs, I.base.tbls⟩, ⟨_, hn', fun j y v' e1 e2 e3 => ?_⟩, fun y c e => ?_, I.free, I.freeC, fun p hp => ?_, tracked ⟨oL, hoL, I.free⟩ hs, by simpa using I.len⟩ ⟨_, hs, .inl rfl⟩
    · exact (hs.2 b (Nat.ne_of_lt (Nat.lt_of_lt_of_le (Heap.lt_size e) I.ok.above))).trans (I.base.keep b o e n hb hx)
    · obtain ⟨sl, e1⟩ := I.base.slot b o e n hb hx
      exact ⟨sl, (hs.2 b (Nat.ne_of_lt (Nat.lt_of_lt_of_le (Heap.lt_size e) I.ok.above))).trans e1⟩
    · obtain ⟨o', e1⟩ := I.base.there b o e hx
      exact ⟨o', (hs.2 b (Nat.ne_of_lt (Nat.lt_of_lt_of_le (Heap.lt_size e) I.ok.above))).trans e1⟩
    · by_cases hj : j = i
      · subst hj
        rw [hi] at e1; cases e1
        rw [List.getElem?_set_self hiσ] at e2
        cases e2
        exact ⟨u, r, .inl ⟨hk, by simp⟩⟩
      · rw [List.getElem?_set_ne (Ne.symm hj)] at e2
        obtain ⟨u', r', q⟩ := hl j y v' e1 e2 e3
        refine ⟨u', r', ?_⟩
        rcases q with ⟨k, e⟩ | ⟨k, c, e, z⟩
        · refine .inl ⟨k, ?_⟩
          have : y ≠ x := fun e => hj (nodup_ix hN e1 (e ▸ hi))
          simp [this, e]
        · exact .inr ⟨k, c, e, z.sameBut hs (cne y c e)⟩
    · obtain ⟨w', z⟩ := I.cell y c e
      exact ⟨w', z.sameBut hs (cne y c e)⟩
    · obtain ⟨e, n, ne, nf, d⟩ := I.pin p hp
      exact ⟨(hs.2 p.1 ne).trans e, n, ne, nf, d⟩
  · have hfn : X.fn x = true := by
      rcases hf with z | z
      · exact z
      · rw [z] at hk; cases hk
    obtain ⟨c, hc⟩ := I.ok.has x (.inl hk)
    obtain ⟨w', z⟩ := I.cell x c hc
    refine wpAny_storeName_cell I.ok.kind hk hc z (fun h' hc' hs => ?_)
    obtain ⟨oc, hoc, hocd⟩ := id z
    refine h { s with heap := h' } ⟨I.ok, I.os, I.bare, ⟨fun b o e n hb hx => ?_, fun b o e n hb hx => ?_, I.base.free, fun b o e hx => ?_, I.base.tups, I.base.frzs, I.base.tbls⟩, ⟨m, hn.sameBut hs (Ne.symm (cne x c hc)), fun j y v' e1 e2 e3 => ?_⟩, fun y c' e => ?_, I.free, I.freeC, fun p hp => ?_, tracked ⟨oc, hoc, I.freeC x c hc⟩ hs, by simpa using I.len⟩ ⟨c, hs, .inr hc⟩
    · exact (hs.2 b (Nat.ne_of_lt (Nat.lt_of_lt_of_le (Heap.lt_size e) (I.ok.cab x c hfn hc)))).trans (I.base.keep b o e n hb hx)
    · obtain ⟨sl, e1⟩ := I.base.slot b o e n hb hx
      exact ⟨sl, (hs.2 b (Nat.ne_of_lt (Nat.lt_of_lt_of_le (Heap.lt_size e) (I.ok.cab x c hfn hc)))).trans e1⟩
    · obtain ⟨o', e1⟩ := I.base.there b o e hx
      exact ⟨o', (hs.2 b (Nat.ne_of_lt (Nat.lt_of_lt_of_le (Heap.lt_size e) (I.ok.cab x c hfn hc)))).trans e1⟩
    · by_cases hj : j = i
      · subst hj
        rw [hi] at e1; cases e1
        rw [List.getElem?_set_self hiσ] at e2
        cases e2
        exact ⟨u, r, .inr ⟨.inl hk, c, hc, hc'⟩⟩
      · rw [List.getElem?_set_ne (Ne.symm hj)] at e2
        obtain ⟨u', r', q⟩ := hl j y v' e1 e2 e3
        refine ⟨u', r', ?_⟩
        rcases q with q | ⟨k, c', e, z'⟩
        · exact .inl q
        · refine .inr ⟨k, c', e, z'.sameBut hs ?_⟩
          rintro rfl
          exact hj (nodup_ix hN e1 (I.ok.inj _ _ _ e hc ▸ hi))
    · by_cases hcc : c' = c
      · subst hcc; exact ⟨_, hc'⟩
      · obtain ⟨w2, z2⟩ := I.cell y c' e
        exact ⟨w2, z2.sameBut hs hcc⟩
    · obtain ⟨e, n, ne, nf, d⟩ := I.pin p hp
      refine ⟨(hs.2 p.1 ?_).trans e, n, ne, nf, d⟩
      intro q
      rw [q, hoc] at e
      have q' : oc = p.2 := Option.some.inj e
      exact d w' (by rw [← q']; exact hocd)
theorem store_ok {M : Model} {A : Around} {E : Value → Shared → Prop} {i : Nat} {x : Str} {v : V} {u : Value} {Q : Unit → Shared → Prop} (I : Inv X pins σ H s) (hN : X.N.Nodup) (hi : X.N[i]? = some x) (hx : Loc X.env.scope x) (r : RelV v u)
    (h : ∀ s', Inv X pins (σ.set i (some v)) H s' → Q () s') (hf : X.fn x = true ∨ X.env.scope.names.lookup x = some .local := by first | exact .inl rfl | exact .inr rfl | assumption) : wpAny M A (storeName X.env x u) Q E s :=
  store_ok2 I hN hi hx r (fun s' I' _ => h s' I') hf
theorem Inv.call' {s' : Shared} {ch : List Addr} (I : Inv X pins σ H s) (ho : s'.os = s.os) (u : Un (frs X.stack) ch H H' s.heap s'.heap) (hok : HOk X.prog X.w H' s'.heap) (hg : AllBare s'.gens)
    (hch : ∀ b ∈ ch, (b ∈ X.ex ∨ X.s_0.heap.objs.size ≤ b) ∧ b ≠ X.env.locals ∧ (∀ x c, X.env.cells.lookup x = some c → c ≠ b) ∧ ∀ p ∈ X.pn ++ pins, p.1 ≠ b) : Inv X pins σ H' s' := by
  obtain ⟨h', g', d', t', o'⟩ := s'
  have e : o' = s.os := ho
  subst e
  exact I.call (g' := g') (t' := t') (d' := d') u hok hg hch
end
abbrev XK := Value → Option Addr → Hp → Prop
abbrev St := List (Option V)
abbrev VK := V → Hp → Prop
abbrev TE := St → Hp → VK → Prop
abbrev TT := St → Hp → (Bool → Hp → Prop) → Prop
abbrev TA := St → Hp → (List V → Hp → Prop) → Prop
structure Ends where
  nx : St → Hp → Prop
  rt : VK
  bk : St → Hp → Prop := fun _ _ => False
  ct : St → Hp → Prop := fun _ _ => False
abbrev TS := Ends → St → Hp → Prop
def EP (X : Cx) (pins : List (Addr × Obj)) (σ : St) (Q : VK) (u : Value) (s' : Shared) : Prop := ∃ v H', Inv X pins σ H' s' ∧ RelV v u ∧ Q v H'
def TP (X : Cx) (pins : List (Addr × Obj)) (σ : St) (Q : Bool → Hp → Prop) (b : Bool) (s' : Shared) : Prop := ∃ H', Inv X pins σ H' s' ∧ Q b H'
def AP (X : Cx) (pins : List (Addr × Obj)) (σ : St) (Q : List V → Hp → Prop) (us : List Value) (s' : Shared) : Prop := ∃ vs H', Inv X pins σ H' s' ∧ Vals vs us ∧ Q vs H'
def SP (X : Cx) (pins : List (Addr × Obj)) (D : Ends) (f : Flow) (s' : Shared) : Prop :=
  match f with
  | .next => ∃ σ' H', Inv X pins σ' H' s' ∧ D.nx σ' H'
  | .brk => ∃ σ' H', Inv X pins σ' H' s' ∧ D.bk σ' H'
  | .cont => ∃ σ' H', Inv X pins σ' H' s' ∧ D.ct σ' H'
  | .ret u => ∃ v σ' H', Inv X pins σ' H' s' ∧ RelV v u ∧ D.rt v H'
def PE (X : Cx) (e : Expr) (t : TE) : Prop :=
  ∀ (pins : List (Addr × Obj)) (s : Shared) (σ : St) (H : Hp) (Q : VK), Inv X pins σ H s → t σ H Q → wpAny (model X.prog X.w) X.A (eval e X.env) (EP X pins σ Q) X.xe s
def PT (X : Cx) (e : Expr) (t : TT) : Prop :=
  ∀ (pins : List (Addr × Obj)) (s : Shared) (σ : St) (H : Hp) (Q : Bool → Hp → Prop), Inv X pins σ H s → t σ H Q → wpAny (model X.prog X.w) X.A (isTrue e X.env (eval e X.env)) (TP X pins σ Q) X.xe s
def PW (X : Cx) (e : Expr) (t : TT) : Prop :=
  ∀ (whole : Sem Value) (pins : List (Addr × Obj)) (s : Shared) (σ : St) (H : Hp) (Q : Bool → Hp → Prop), Inv X pins σ H s → t σ H Q → wpAny (model X.prog X.w) X.A (isTrue e X.env whole) (TP X pins σ Q) X.xe s
theorem PW.pt {X : Cx} {e : Expr} {t : TT} (h : PW X e t) : PT X e t := h _
def PA (X : Cx) (es : List Expr) (t : TA) : Prop :=
  ∀ (pos : Pos) (pins : List (Addr × Obj)) (s : Shared) (σ : St) (H : Hp) (Q : List V → Hp → Prop), Inv X pins σ H s → t σ H Q → wpAny (model X.prog X.w) X.A (spliced (backTo pos (starEach es X.env))) (AP X pins σ Q) X.xe s
def PS (X : Cx) (st : Stmt) (t : TS) : Prop :=
  ∀ (pins : List (Addr × Obj)) (s : Shared) (σ : St) (H : Hp) (D : Ends), Inv X pins σ H s → t D σ H → wpAny (model X.prog X.w) X.A (exec st X.env) (SP X pins D) X.xe s
def PSs (X : Cx) (st : List Stmt) (t : TS) : Prop :=
  ∀ (pins : List (Addr × Obj)) (s : Shared) (σ : St) (H : Hp) (D : Ends), Inv X pins σ H s → t D σ H → wpAny (model X.prog X.w) X.A (execs st X.env) (SP X pins D) X.xe s
theorem thn {α : Type} {t : Sem α} {Q Q' : α → Shared → Prop} {M : Model} {A : Around} {E : Value → Shared → Prop} {s : Shared} (h : wpAny M A t Q E s) (hQ : ∀ a s, Q a s → Q' a s) : wpAny M A t Q' E s := wpAny_mono h hQ fun _ _ x => x
end L2
namespace L2
open PySem PySem.Spec PyProof.Rows
section
variable {X : Cx}
def tVar (i : Nat) : TE := fun σ H Q => ∃ v, σ[i]? = some (some v) ∧ Q v H
def tC (v : V) : TE := fun _ H Q => Q v H
theorem pe_var {i : Nat} {x : Str} {pos : Pos} (hN : X.N[i]? = some x) (hv : Vis X.env.scope x) (hd : (x == ("__debug__" : Str)) = false := by decide) (hcd : (x == ("__classdict__" : Str)) = false := by decide) : PE X (.Name x pos) (tVar i) := by
  intro pins s σ H Q I h
  obtain ⟨v, e, h⟩ := h
  obtain ⟨m, hn, hl⟩ := I.loc
  obtain ⟨u, r, l⟩ := hl i x v hN e hv
  have fin : EP X pins σ Q u s := ⟨v, H, I, r, h⟩
  rcases l with ⟨hk, hm⟩ | ⟨hk, c, hc, hcell⟩
  · exact wpAny_Name (wpAny_loadName_local I.ok.kind hk hn hm fin) hd
  · rcases hk with hk | hk
    · exact wpAny_Name (wpAny_loadName_cell I.ok.kind hk hc hcell fin) hd
    · exact wpAny_Name (wpAny_loadName_free I.ok.kind hk hc hcell fin hcd) hd
theorem pe_int {i j pos} : PE X (.Constant (.int i) j pos) (tC (.int i)) := fun _ _ _ H _ I h => wpAny_Constant_int ⟨.int i, H, I.tok _, ⟨_, rfl⟩, h⟩
theorem pe_bl {b j pos} : PE X (.Constant (.bool b) j pos) (tC (.bl b)) := fun _ _ _ H _ I h => Constant_bool ⟨.bl b, H, I, rfl, h⟩
theorem pe_non {j pos} : PE X (.Constant .none j pos) (tC .non) := fun _ _ _ H _ I h => Constant_none ⟨.non, H, I, rfl, h⟩
def Gl (X : Cx) (x : Str) : Prop := X.env.kindOf x = some .globalImplicit
theorem ld_glob {E : Value → Shared → Prop} {pins : List (Addr × Obj)} {s : Shared} {σ : St} {H : Hp} {x : Str} {u : Value} {pos : Pos} {Q : Value → Shared → Prop} (I : Inv X pins σ H s) (hg : Gl X x) (hm : X.mg x = some u) (h : Q u s)
    (hd : (x == ("__debug__" : Str)) = false := by decide) : wpAny (model X.prog X.w) X.A (eval (.Name x pos) X.env) Q E s :=
  Calls.Name_function_global I.ok.kind hg (Calls.loadGlobal_global (by rw [I.ok.glob]; exact I.mod.glob.keeps I.bk) hm h) hd
theorem ld_blt {E : Value → Shared → Prop} {pins : List (Addr × Obj)} {s : Shared} {σ : St} {H : Hp} {x : Str} {u : Value} {pos : Pos} {Q : Value → Shared → Prop} (I : Inv X pins σ H s) (hg : Gl X x) (hm : X.mg x = none) (hv : bootBuiltins x = some u) (h : Q u s)
    (hn : x ≠ "__name__" := by decide) (hd : (x == ("__debug__" : Str)) = false := by decide) : wpAny (model X.prog X.w) X.A (eval (.Name x pos) X.env) Q E s := by
  obtain ⟨mb, h1, h2⟩ := I.mod.blt
  exact Calls.Name_function_global I.ok.kind hg (Calls.loadGlobal_builtin (by rw [I.ok.glob]; exact I.mod.glob.keeps I.bk) hm (by rw [I.ok.blt]; exact h1.keeps I.bk) ((h2 x hn).trans hv) h) hd
theorem pe_glob {x : Str} {v : V} {u : Value} {pos : Pos} (hg : Gl X x) (hm : X.mg x = some u) (r : RelV v u) (hd : (x == ("__debug__" : Str)) = false := by decide) : PE X (.Name x pos) (tC v) :=
  fun _ _ _ H _ I h => ld_glob I hg hm ⟨v, H, I, r, h⟩ hd
variable {a b : Expr} {ta tb : TE} {pos : Pos}
def PC (X : Cx) (op : CmpOp) (a b : Expr) (t : TE) : Prop :=
  ∀ (pins : List (Addr × Obj)) (s : Shared) (σ : St) (H : Hp) (Q : VK), Inv X pins σ H s → t σ H Q →
    wpAny (model X.prog X.w) X.A (eval a X.env) (fun v s₁ => wpAny (model X.prog X.w) X.A (eval b X.env) (fun u s₂ => wpAny (model X.prog X.w) X.A (compareOp op v u) (EP X pins σ Q) X.xe s₂) X.xe s₁) X.xe s
theorem nobehind (b : Expr) {op : CmpOp} (h : op ≠ .In) (h2 : op ≠ .NotIn) : behindInMarks op b = false := by
  have e1 : (op == CmpOp.In) = false := by cases op <;> first | rfl | exact absurd rfl h
  have e2 : (op == CmpOp.NotIn) = false := by cases op <;> first | rfl | exact absurd rfl h2
  cases b <;> simp [behindInMarks, e1, e2]
def tIsN (ta : TE) : TE := fun σ H Q => ta σ H fun x H1 => Q (.bl (decide (x = .non))) H1
def tNotN (ta : TE) : TE := fun σ H Q => ta σ H fun x H1 => Q (.bl (!decide (x = .non))) H1
theorem RelV.none_iff {x : V} {v : Value} (r : RelV x v) : (v == Value.none) = decide (x = .non) := by
  cases x with
  | non => cases r; rfl
  | bl _ => cases r; rfl
  | int _ => obtain ⟨t, rfl⟩ := r; rfl
  | str _ => obtain ⟨t, rfl⟩ := r; rfl
  | byt _ => obtain ⟨t, rfl⟩ := r; rfl
  | flt _ => obtain ⟨t, rfl⟩ := r; rfl
  | ref _ => cases r; rfl
  | ty _ => cases r; rfl
theorem pc_isN {j pos'} (ha : PE X a ta) : PC X .Is a (.Constant .none j pos') (tIsN ta) := by
  intro pins s σ H Q I h
  refine thn (ha pins s σ H _ I h) fun v s1 ⟨x, H1, I1, r1, q1⟩ => ?_
  exact Constant_none (is_none_gen ⟨.bl _, H1, I1, by rw [r1.none_iff]; rfl, q1⟩)
theorem pc_notN {j pos'} (ha : PE X a ta) : PC X .IsNot a (.Constant .none j pos') (tNotN ta) := by
  intro pins s σ H Q I h
  refine thn (ha pins s σ H _ I h) fun v s1 ⟨x, H1, I1, r1, q1⟩ => ?_
  exact Constant_none (isnot_none_gen ⟨.bl _, H1, I1, by rw [r1.none_iff]; rfl, q1⟩)
def tB (t : TE) : TT := fun σ H Q => t σ H fun x H1 => ∃ c, x = .bl c ∧ Q c H1
theorem pe_cmp {op : CmpOp} {t : TE} (h : PC X op a b t) (h1 : behindInMarks op b = false := by first | exact nobehind _ (by decide) (by decide) | rfl) : PE X (.Compare a [op] [b] pos) t := fun pins s σ H Q I hw => wpAny_Compare1 (h pins s σ H Q I hw) h1
theorem pt_cmp {op : CmpOp} {t : TE} (h : PC X op a b t) (h1 : behindInMarks op b = false := by first | exact nobehind _ (by decide) (by decide) | rfl) : PT X (.Compare a [op] [b] pos) (tB t) := by
  intro pins s σ H Q I hw
  refine wpAny_isTrue_Compare1 (thn (h pins s σ H _ I hw) fun v s1 h1 => thn h1 fun u s2 h2 => thn h2 fun c s3 ⟨x, H1, I1, r1, q1⟩ => ?_) h1
  obtain ⟨d, rfl, q⟩ := q1
  cases r1
  exact wpAny_truthy_bool ⟨H1, I1, q⟩
theorem pt_val {e : Expr} {t : TE} (h : PE X e t) (he : ∀ whole, isTrue e X.env whole = (do let v ← whole; standAt e.pos; holding [v] (truthy v)) := by intro _; rfl) : PT X e (tB t) := by
  intro pins s σ H Q I hw
  refine isTrue_plain (thn (h pins s σ H _ I hw) fun v s1 ⟨x, H1, I1, r1, q1⟩ => ?_) (he _)
  obtain ⟨d, rfl, q⟩ := q1
  cases r1
  exact wpAny_truthy_bool ⟨H1, I1, q⟩
variable {tA tB' : TT} {rest : List Expr}
def tAnd (t u : TT) : TT := fun σ H Q => t σ H fun c H1 => if c = true then u σ H1 Q else Q false H1
def tOr (t u : TT) : TT := fun σ H Q => t σ H fun c H1 => if c = true then Q true H1 else u σ H1 Q
def tNot (t : TT) : TT := fun σ H Q => t σ H fun c H1 => Q (!c) H1
theorem pw_and1 (ha : PT X a tA) : PW X (.BoolOp .And [a] pos) tA := by
  intro wh pins s σ H Q I h
  refine isTrue_and (thn (ha pins s σ H Q I h) fun c s1 e => ?_)
  cases c with
  | true => exact isTrue_and_nil e
  | false => exact e
theorem pw_or1 (ha : PT X a tA) : PW X (.BoolOp .Or [a] pos) tA := by
  intro wh pins s σ H Q I h
  refine isTrue_or (thn (ha pins s σ H Q I h) fun c s1 e => ?_)
  cases c with
  | false => exact isTrue_or_nil e
  | true => exact e
theorem pw_and (ha : PT X a tA) (hb : PW X (.BoolOp .And (b :: rest) pos) tB') : PW X (.BoolOp .And (a :: b :: rest) pos) (tAnd tA tB') := by
  intro wh pins s σ H Q I h
  refine isTrue_and (thn (ha pins s σ H _ I h) fun c s1 ⟨H1, I1, q1⟩ => ?_)
  cases c with
  | true => exact hb wh pins s1 σ H1 Q I1 q1
  | false => exact ⟨H1, I1, q1⟩
theorem pw_or (ha : PT X a tA) (hb : PW X (.BoolOp .Or (b :: rest) pos) tB') : PW X (.BoolOp .Or (a :: b :: rest) pos) (tOr tA tB') := by
  intro wh pins s σ H Q I h
  refine isTrue_or (thn (ha pins s σ H _ I h) fun c s1 ⟨H1, I1, q1⟩ => ?_)
  cases c with
  | true => exact ⟨H1, I1, q1⟩
  | false => exact hb wh pins s1 σ H1 Q I1 q1
theorem pt_not (ha : PT X a tA) : PT X (.UnaryOp .Not a pos) (tNot tA) := by
  intro pins s σ H Q I h
  exact isTrue_not (ha pins s σ H (fun c H1 => Q (!c) H1) I h)
def tAndV (ta tb : TE) : TE := fun σ H Q => ta σ H fun x H1 => ∃ c, x = .bl c ∧ if c = true then tb σ H1 Q else Q (.bl false) H1
def tNotV (ta : TE) : TE := fun σ H Q => ta σ H fun x H1 => ∃ c, x = .bl c ∧ Q (.bl (!c)) H1
theorem pe_one {op} {t : TE} (h : PE X a t) : PE X (.BoolOp op [a] pos) t := fun pins s σ H Q I hw => BoolOp_one (h pins s σ H Q I hw)
theorem pe_and (ha : PE X a ta) (hb : PE X (.BoolOp .And (b :: rest) pos) tb) : PE X (.BoolOp .And (a :: b :: rest) pos) (tAndV ta tb) := by
  intro pins s σ H Q I h
  refine BoolOp_and (thn (ha pins s σ H _ I h) fun v s1 ⟨x, H1, I1, r1, q1⟩ => ?_)
  obtain ⟨c, rfl, q1⟩ := q1
  cases r1
  refine wpAny_truthy_bool ?_
  cases c with
  | true => exact hb pins s1 σ H1 Q I1 q1
  | false => exact ⟨.bl false, H1, I1, rfl, q1⟩
theorem pe_not (ha : PE X a ta) : PE X (.UnaryOp .Not a pos) (tNotV ta) := by
  intro pins s σ H Q I h
  refine UnaryOp_ (thn (ha pins s σ H _ I h) fun v s1 ⟨x, H1, I1, r1, q1⟩ => ?_)
  obtain ⟨c, rfl, q1⟩ := q1
  cases r1
  exact not_of (wpAny_truthy_bool ⟨.bl (!c), H1, I1, rfl, q1⟩)
def tIf (t : TT) (ta tb : TE) : TE := fun σ H Q => t σ H fun c H1 => if c = true then ta σ H1 Q else tb σ H1 Q
theorem pe_ifExp {c : Expr} (hc : PT X c tA) (ha : PE X a ta) (hb : PE X b tb) : PE X (.IfExp c a b pos) (tIf tA ta tb) := by
  intro pins s σ H Q I h
  refine wpAny_IfExp (thn (hc pins s σ H _ I h) fun d s1 ⟨H1, I1, q1⟩ => ?_)
  cases d with
  | true => exact ha pins s1 σ H1 Q I1 q1
  | false => exact hb pins s1 σ H1 Q I1 q1
end
end L2
namespace L2
open PySem PySem.Spec PyProof.Rows
def SqL (K : PySem.W.Frag) (H : Hp) (a : Addr) (xs : List V) : Prop :=
  Rd H a (.lst xs) ∨
    ∃ (o : Obj) (its : Array Value) (n : Nat), K.lookup a = some o ∧ o.cls = .type "list" ∧ o.dict = none ∧ o.data = .seq its n ∧ its.size ≤ sizeLine ∧ Vals xs its.toList
def SqT (K : PySem.W.Frag) (H : Hp) (a : Addr) (xs : List V) : Prop :=
  Rd H a (.tup xs) ∨
    ∃ (o : Obj) (its : Array Value) (n : Nat), K.lookup a = some o ∧ o.cls = .type "tuple" ∧ o.data = .seq its n ∧ its.size ≤ sizeLine ∧ Vals xs its.toList
def absV : Value → Option V
  | .none => some .non
  | .bool b => some (.bl b)
  | .int i _ => some (.int i)
  | .str x _ => some (.str x)
  | .bytes b _ => some (.byt b)
  | .float b _ => some (.flt b)
  | .ref a => some (.ref a)
  | .type n => some (.ty n)
  | _ => none
theorem RelV.abs {x : V} {u : Value} (r : RelV x u) : absV u = some x := by
  cases x with
  | non => cases r; rfl
  | bl _ => cases r; rfl
  | int _ => obtain ⟨t, rfl⟩ := r; rfl
  | str _ => obtain ⟨t, rfl⟩ := r; rfl
  | byt _ => obtain ⟨t, rfl⟩ := r; rfl
  | flt _ => obtain ⟨t, rfl⟩ := r; rfl
  | ref _ => cases r; rfl
  | ty _ => cases r; rfl
theorem RelV.inj {x y : V} {u : Value} (r : RelV x u) (q : RelV y u) : x = y := Option.some.inj (r.abs.symm.trans q.abs)
theorem Vals.inj : ∀ {xs ys : List V} {us : List Value}, Vals xs us → Vals ys us → xs = ys
  | _, _, _, .nil, .nil => rfl
  | _, _, _, .cons r t, .cons r' t' => by rw [r.inj r', Vals.inj t t']
section
variable {X : Cx} {pins : List (Addr × Obj)} {σ : St} {H : Hp} {s : Shared} {a : Addr} {xs ys : List V}
theorem SqL.of {K : PySem.W.Frag} (h : H a = some (.lst xs)) : SqL K H a xs := .inl (.inl h)
theorem SqT.of {K : PySem.W.Frag} (h : H a = some (.tup xs)) : SqT K H a xs := .inl (.inl h)
theorem Inv.list (I : Inv X pins σ H s) (h : SqL X.K H a xs) : ∃ its : List Value, Vals xs its ∧ PlainL s.heap a its.toArray ∧ xs.length ≤ sizeLine := by
  rcases h with h | ⟨o, its, n, hk, hc, hd, hs, hz, r⟩
  · obtain ⟨z, its, n, r, e⟩ := h.ok I.hok
    exact ⟨its, r, ⟨_, n, e, rfl, rfl, rfl⟩, z⟩
  · refine ⟨its.toList, r, ⟨o, n, I.kIn a o hk, hc, hd, by simpa using hs⟩, ?_⟩
    have e := r.length
    simp only [Array.length_toList] at e
    omega
theorem Inv.tuple (I : Inv X pins σ H s) (h : SqT X.K H a xs) : ∃ its : List Value, Vals xs its ∧ IsTup s.heap a its.toArray ∧ xs.length ≤ sizeLine := by
  rcases h with h | ⟨o, its, n, hk, hc, hs, hz, r⟩
  · obtain ⟨z, its, r, p⟩ := h.ok I.hok
    exact ⟨its, r, p, z⟩
  · refine ⟨its.toList, r, ⟨o, I.kIn a o hk, hc, n, by simpa using hs⟩, ?_⟩
    have e := r.length
    simp only [Array.length_toList] at e
    omega
theorem Inv.list_inj (I : Inv X pins σ H s) (h : SqL X.K H a xs) (h' : SqL X.K H a ys) : xs = ys := by
  obtain ⟨its, r, ⟨o, n, e, _, _, d⟩, _⟩ := I.list h
  obtain ⟨its', r', ⟨o', n', e', _, _, d'⟩, _⟩ := I.list h'
  rw [e] at e'; cases e'
  rw [d] at d'
  injection d' with d1 _
  have : its = its' := by simpa using congrArg Array.toList d1
  subst this
  exact r.inj r'
theorem Inv.tuple_inj (I : Inv X pins σ H s) (h : SqT X.K H a xs) (h' : SqT X.K H a ys) : xs = ys := by
  obtain ⟨its, r, ⟨o, e, _, n, d⟩, _⟩ := I.tuple h
  obtain ⟨its', r', ⟨o', e', _, n', d'⟩, _⟩ := I.tuple h'
  rw [e] at e'; cases e'
  rw [d] at d'
  injection d' with d1 _
  have : its = its' := by simpa using congrArg Array.toList d1
  subst this
  exact r.inj r'
end
abbrev Cx.wish (X : Cx) (E : Value → Shared → Prop) : Cx := { X with xe := E }
abbrev Cx.nox (X : Cx) : Cx := X.wish fun _ _ => False
theorem Cx.Ok.wish {X : Cx} (ok : X.Ok) (E : Value → Shared → Prop) : (X.wish E).Ok :=
  ⟨ok.mod, ok.kind, ok.glob, ok.blt, ok.above, ok.inj, ok.has, ok.cab, ok.hd, ok.frames, ok.stk, ok.exf, ok.bs, ok.bsz, ok.noex, ok.exfs, ok.funs, ok.frf⟩
theorem Cx.Ok.unwish {X : Cx} {E : Value → Shared → Prop} (ok : (X.wish E).Ok) : X.Ok :=
  ⟨ok.mod, ok.kind, ok.glob, ok.blt, ok.above, ok.inj, ok.has, ok.cab, ok.hd, ok.frames, ok.stk, ok.exf, ok.bs, ok.bsz, ok.noex, ok.exfs, ok.funs, ok.frf⟩
section
variable {X : Cx} {pins : List (Addr × Obj)} {σ : St} {H : Hp} {s : Shared} {E : Value → Shared → Prop}
theorem Inv.wish (I : Inv X pins σ H s) (E : Value → Shared → Prop) : Inv (X.wish E) pins σ H s := ⟨I.ok.wish E, I.os, I.bare, I.base, I.loc, I.cell, I.free, I.freeC, I.pin, I.hok, I.len⟩
theorem Inv.unwish (I : Inv (X.wish E) pins σ H s) : Inv X pins σ H s := ⟨I.ok.unwish, I.os, I.bare, I.base, I.loc, I.cell, I.free, I.freeC, I.pin, I.hok, I.len⟩
theorem SP.unwish {D : Ends} {f : Flow} {s' : Shared} (h : SP (X.wish E) pins D f s') : SP X pins D f s' := by
  cases f with
  | next => obtain ⟨σ', H', I, q⟩ := h; exact ⟨σ', H', I.unwish, q⟩
  | brk => obtain ⟨σ', H', I, q⟩ := h; exact ⟨σ', H', I.unwish, q⟩
  | cont => obtain ⟨σ', H', I, q⟩ := h; exact ⟨σ', H', I.unwish, q⟩
  | ret u => obtain ⟨v, σ', H', I, r, q⟩ := h; exact ⟨v, σ', H', I.unwish, r, q⟩
theorem PSs.nox {st : List Stmt} {t : TS} (h : PSs X.nox st t) : PSs X st t := fun pins s σ H D I hw =>
  wpAny_mono (h pins s σ H D (I.wish _) hw) (fun _ _ q => q.unwish) fun _ _ z => False.elim z
end
section
variable {X : Cx} {st : Stmt} {rest : List Stmt} {t u : TS} {e : Expr} {te : TE} {pos : Pos}
def tNext : TS := fun D σ H => D.nx σ H
def tSeq (t u : TS) : TS := fun D σ H => t { D with nx := u D } σ H
theorem pss_nil : PSs X [] tNext := fun _ _ σ H _ I h => wpAny_execs_nil ⟨σ, H, I, h⟩
theorem pss_cons (h1 : PS X st t) (h2 : PSs X rest u) : PSs X (st :: rest) (tSeq t u) := by
  intro pins s σ H D I h
  refine wpAny_execs_cons (thn (h1 pins s σ H { D with nx := u D } I h) fun f s1 q => ?_)
  cases f with
  | next =>
    obtain ⟨σ', H', I', q⟩ := q
    exact h2 pins s1 σ' H' D I' q
  | ret v => exact q
  | brk => exact q
  | cont => exact q
theorem pss_one (h1 : PS X st t) : PSs X [st] t := by
  intro pins s σ H D I h
  refine wpAny_execs_cons (thn (h1 pins s σ H D I h) fun f s1 q => ?_)
  cases f with
  | next => exact wpAny_execs_nil q
  | ret v => exact q
  | brk => exact q
  | cont => exact q
theorem Inv.quiet {pins : List (Addr × Obj)} {σ : St} {H : Hp} {s : Shared} (I : Inv X pins σ H s) : interactive X.env = false := by simp [interactive, I.ok.kind]
def tDrop (te : TE) : TS := fun D σ H => te σ H fun _ H1 => D.nx σ H1
theorem ps_expr (he : PE X e te) (hs : swapsWith e none pos.line X.env = pure false := by rfl) : PS X (.Expr e pos) (tDrop te) := by
  intro pins s σ H D I h
  exact wpAny_Expr_any (thn (he pins s σ H _ I h) fun v s1 ⟨x, H1, I1, r1, q1⟩ => ⟨σ, H1, I1, q1⟩) I.quiet hs
def tRet (te : TE) : TS := fun D σ H => te σ H D.rt
theorem ps_ret (he : PE X e te) : PS X (.Return (some e) pos) (tRet te) := by
  intro pins s σ H D I h
  exact wpAny_Return_some (thn (he pins s σ H _ I h) fun v s1 ⟨x, H1, I1, r1, q1⟩ => ⟨x, σ, H1, I1, r1, q1⟩)
def tIfS (c : TT) (t u : TS) : TS := fun D σ H => c σ H fun b H1 => if b = true then t D σ H1 else u D σ H1
theorem ps_if {c : Expr} {a b : List Stmt} {tc : TT} (hc : PT X c tc) (ha : PSs X a t) (hb : PSs X b u) : PS X (.If c a b pos) (tIfS tc t u) := by
  intro pins s σ H D I h
  refine wpAny_If (thn (hc pins s σ H _ I h) fun d s1 ⟨H1, I1, q1⟩ => ?_)
  cases d with
  | true => exact ha pins s1 σ H1 D I1 q1
  | false => exact hb pins s1 σ H1 D I1 q1
end
abbrev TG := V → St → Hp → (St → Hp → Prop) → Prop
abbrev TGs := List V → St → Hp → (St → Hp → Prop) → Prop
def PG (X : Cx) (target : Expr) (t : TG) : Prop :=
  ∀ (pins : List (Addr × Obj)) (s : Shared) (σ : St) (H : Hp) (v : V) (u : Value) (Q : St → Hp → Prop), Inv X pins σ H s → RelV v u → t v σ H Q →
    wpAny (model X.prog X.w) X.A (assign target X.env u) (fun _ s' => ∃ σ' H', Inv X pins σ' H' s' ∧ Q σ' H') X.xe s
def PGs (X : Cx) (ts : List Expr) (t : TGs) : Prop :=
  ∀ (pins : List (Addr × Obj)) (s : Shared) (σ : St) (H : Hp) (vs : List V) (us : List Value) (Q : St → Hp → Prop), Inv X pins σ H s → Vals vs us → t vs σ H Q →
    wpAny (model X.prog X.w) X.A (assignInOrder ((assignEach ts X.env).map (·.2)) us) (fun _ s' => ∃ σ' H', Inv X pins σ' H' s' ∧ Q σ' H') X.xe s
abbrev TSet := V → V → V → Hp → (Hp → Prop) → Prop
def PSet (X : Cx) (t : TSet) : Prop :=
  ∀ (pins : List (Addr × Obj)) (s : Shared) (σ : St) (H : Hp) (o i v : V) (ov iv u : Value) (Q : Hp → Prop), Inv X pins σ H s → RelV o ov → RelV i iv → RelV v u → t o i v H Q →
    wpAny (model X.prog X.w) X.A (setItem ov iv u) (fun _ s' => ∃ H', Inv X pins σ H' s' ∧ Q H') X.xe s
section
variable {X : Cx} {pos : Pos}
def gName (i : Nat) : TG := fun v σ H Q => Q (σ.set i (some v)) H
theorem pg_name {i : Nat} {x : Str} (hN : X.N.Nodup) (hi : X.N[i]? = some x) (hx : Loc X.env.scope x) (hf : X.fn x = true ∨ X.env.scope.names.lookup x = some .local := by first | exact .inl rfl | exact .inr rfl | assumption) : PG X (.Name x pos) (gName i) := by
  intro pins s σ H v u Q I r h
  exact wpAny_assign_Name (store_ok I hN hi hx r (fun s' I' => ⟨_, H, I', h⟩) hf)
def gNil : TGs := fun vs σ H Q => vs = [] ∧ Q σ H
def gCons (t : TG) (u : TGs) : TGs := fun vs σ H Q => ∃ v r, vs = v :: r ∧ t v σ H fun σ' H' => u r σ' H' Q
theorem pgs_nil : PGs X [] gNil := by
  intro pins s σ H vs us Q I r h
  obtain ⟨e, h⟩ := h
  subst e
  cases r
  exact assignInOrder_nil ⟨σ, H, I, h⟩
theorem pgs_cons {e : Expr} {es : List Expr} {t : TG} {u : TGs} (h1 : PG X e t) (h2 : PGs X es u)
    (hs : (assignEach (e :: es) X.env).map (·.2) = assign e X.env :: (assignEach es X.env).map (·.2) := by rfl) : PGs X (e :: es) (gCons t u) := by
  intro pins s σ H vs us Q I r h
  obtain ⟨v, vr, e1, h⟩ := h
  subst e1
  cases r with
  | cons r rr =>
    rw [hs]
    refine assignInOrder_cons (thn (h1 pins s σ H _ _ _ I r h) fun _ s1 ⟨σ1, H1, I1, q1⟩ => ?_)
    exact h2 pins s1 σ1 H1 _ _ Q I1 rr q1
def gTup (K : PySem.W.Frag) (n : Nat) (t : TGs) : TG := fun v σ H Q => ∃ a xs, v = .ref a ∧ SqT K H a xs ∧ xs.length = n ∧ t xs σ H Q
theorem pg_tup {es : List Expr} {k : Nat} {t : TGs} {n : Nat} (hc : X.calm = true) (h : PGs X es t)
    (hn : (assignEach es X.env).length = n := by rfl) (hst : (assignEach es X.env).findIdx? (·.1) = none := by rfl) : PG X (.Tuple es k pos) (gTup X.K n t) := by
  intro pins s σ H v u Q I r hw
  obtain ⟨a, xs, e1, hq, hl, hw⟩ := hw
  subst e1
  cases r
  obtain ⟨its, rv, ht, hz⟩ := I.tuple hq
  refine assign_Tuple_tuple (I.ok.hd hc) ht (by simp [hn, ← hl, rv.length]) hst fun h' hx => ?_
  have I1 : Inv X pins σ H { s with heap := h' } := I.kept (t' := s.toks) fun b o e => hx b o (Nat.ne_of_lt (Heap.lt_size e)) e
  exact h pins _ σ H xs _ Q I1 (by simpa using rv) hw
def gSub (to ti : TE) (t : TSet) : TG := fun v σ H Q => to σ H fun o H1 => ti σ H1 fun i H2 => t o i v H2 fun H3 => Q σ H3
theorem pg_sub {o i : Expr} {to ti : TE} {t : TSet} (ho : PE X o to) (hi : PE X i ti) (hs : PSet X t)
    (ha : ∀ v, assign (.Subscript o i pos) X.env v = (do
      let ov ← holding [v] (eval o X.env)
      let iv ← holding [v, ov] (eval i X.env)
      standAt pos
      holding [v, ov, iv] (setItem ov iv v)
      release [v, ov, iv] []) := by intro _; rfl) : PG X (.Subscript o i pos) (gSub to ti t) := by
  intro pins s σ H v u Q I r h
  rw [ha]
  refine wpAny_bind (wpAny_holding (thn (ho pins s σ H _ I h) fun ov s1 ⟨x, H1, I1, r1, q1⟩ => ?_))
  refine wpAny_bind (wpAny_holding (thn (hi pins s1 σ H1 _ I1 q1) fun iv s2 ⟨y, H2, I2, r2, q2⟩ => ?_))
  refine wpAny_bind (wpAny_standAt (wpAny_bind (wpAny_holding (thn (hs pins s2 σ H2 x y v ov iv u _ I2 r1 r2 r q2) fun _ s3 ⟨H3, I3, q3⟩ => ?_))))
  exact wpAny_release ⟨σ, H3, I3, q3⟩
def tAsg (te : TE) (g : TG) : TS := fun D σ H => te σ H fun x H1 => g x σ H1 D.nx
theorem ps_asg {tg e : Expr} {te : TE} {g : TG} (he : PE X e te) (hg : PG X tg g) (hs : swapsWithSole [tg] e pos.line X.env = pure false := by rfl) (hw : swappedStores [tg] e X.env = pure none := by rfl)
    (h1 : (assignEach [tg] X.env).map (·.2) = [assign tg X.env] := by rfl) : PS X (.Assign [tg] e pos) (tAsg te g) := by
  intro pins s σ H D I h
  refine wpAny_Assign_stores (thn (he pins s σ H _ I h) fun v s1 ⟨x, H1, I1, r1, q1⟩ => ?_) hs hw
  rw [h1]
  exact thn (hg pins s1 σ H1 x v _ I1 r1 q1) fun _ s2 q => q
theorem ps_set {i : Nat} {x : Str} {e : Expr} {te : TE} {pos' : Pos} (hN : X.N.Nodup) (hi : X.N[i]? = some x) (hx : Loc X.env.scope x) (he : PE X e te) (hs : swapsWith e (some (.Name x pos')) pos.line X.env = pure false := by rfl) (hf : X.fn x = true ∨ X.env.scope.names.lookup x = some .local := by first | exact .inl rfl | exact .inr rfl | assumption) :
    PS X (.Assign [.Name x pos'] e pos) (tAsg te (gName i)) := by
  intro pins s σ H D I h
  refine wpAny_Assign_Name (thn (he pins s σ H _ I h) fun v s1 ⟨y, H1, I1, r1, q1⟩ => ?_) hs
  exact store_ok I1 hN hi hx r1 (fun s2 I2 => ⟨_, H1, I2, q1⟩) hf
end
section
variable {X : Cx} {pos : Pos}
def tWhile (c : TT) (tb : TS) : TS := fun D σ H => ∃ W : Nat → St → Hp → Prop, (∃ m, W m σ H) ∧ ∀ m σ H, W m σ H →
  c σ H fun b H1 => if b = true then ∃ N : St → Hp → Prop, (∀ σ' H', N σ' H' → ∃ m', m' < m ∧ W m' σ' H') ∧ tb { D with nx := N, ct := N, bk := D.nx } σ H1 else D.nx σ H1
theorem ps_while {c : Expr} {body : List Stmt} {tc : TT} {tb : TS} (hp : PassesOwn (model X.prog X.w) X.A X.env X.xe) (hc : PT X c tc) (hb : PSs X body tb) : PS X (.While c body [] pos) (tWhile tc tb) := by
  intro pins s σ H D I h
  obtain ⟨W, ⟨m0, w0⟩, turn⟩ := h
  refine wpAny_While (codeAny_whileLoop (fun n s' => ∃ σ' H', Inv X pins σ' H' s' ∧ W n σ' H') ?_ m0 ⟨σ, H, I, w0⟩)
  rintro n s1 ⟨σ1, H1, I1, w1⟩
  refine wpAny_passesOwn hp (thn (hc pins s1 σ1 H1 _ I1 (turn n σ1 H1 w1)) fun b s2 ⟨H2, I2, q2⟩ => ?_)
  cases b with
  | true =>
    obtain ⟨N, hN, q2⟩ := q2
    rw [if_pos rfl]
    refine wpAny_passesOwn hp (thn (hb pins s2 σ1 H2 _ I2 q2) fun f s3 q3 => ?_)
    cases f with
    | next =>
      obtain ⟨σ3, H3, I3, n3⟩ := q3
      obtain ⟨m', hm, w3⟩ := hN σ3 H3 n3
      exact ⟨m', hm, σ3, H3, I3, w3⟩
    | cont =>
      obtain ⟨σ3, H3, I3, n3⟩ := q3
      obtain ⟨m', hm, w3⟩ := hN σ3 H3 n3
      exact ⟨m', hm, σ3, H3, I3, w3⟩
    | brk => exact q3
    | ret v => exact q3
  | false =>
    rw [if_neg Bool.false_ne_true]
    exact wpAny_execs_nil ⟨σ1, H2, I2, q2⟩
end
structure It where
  go : Nat → Hp → Prop
  yld : Nat → Hp → V → Hp → Prop
  stop : Nat → Hp → Prop
def FpOk (X : Cx) (pins : List (Addr × Obj)) (H : Hp) (b : Addr) : Prop :=
  H b = none ∧ b ≠ X.env.locals ∧ b ∉ X.fs ∧ (b ∈ X.ex ∨ X.s_0.heap.objs.size ≤ b) ∧ (∀ x c, X.env.cells.lookup x = some c → c ≠ b) ∧ ∀ p ∈ X.pn ++ pins, p.1 ≠ b
theorem Inv.fpOk {X : Cx} {pins : List (Addr × Obj)} {σ : St} {H H' : Hp} {s : Shared} {b : Addr} (I : Inv X pins σ H s) (hb : s.heap.objs.size ≤ b) (hn : H' b = none) : FpOk X pins H' b := by
  refine ⟨hn, Nat.ne_of_gt (Nat.lt_of_lt_of_le I.lt hb), I.nofs hb, .inr (Nat.le_trans I.sz hb), fun x c e z => ?_, fun p hp z => ?_⟩
  · obtain ⟨v, q⟩ := I.cell x c e
    exact absurd (Nat.lt_of_lt_of_le q.lt (by rw [z]; exact hb)) (Nat.lt_irrefl _)
  · exact absurd (Nat.lt_of_lt_of_le (Heap.lt_size (I.pin p hp).1) (by rw [z]; exact hb)) (Nat.lt_irrefl _)
structure Turn (P : Program) (w : World) (K : PySem.W.Frag) (tg : Expr) (J : It) (fp : List Addr) (it : Addr) (tn : Nat → Heap → Prop) : Prop where
  mem : it ∈ fp
  obj : ∀ i h, tn i h → ∀ b ∈ fp, ∃ o, h.get? b = some o ∧ ∀ v, o.data ≠ .cell v
  keep : ∀ i h h', tn i h → (∀ b ∈ fp, ∀ o, h.get? b = some o → h'.get? b = some o) → tn i h'
  item : ∀ (X : Cx), X.prog = P → X.w = w → X.K = K → X.calm = true → ∀ (i : Nat) (pins : List (Addr × Obj)) (s : Shared) (σ : St) (H : Hp) (E : Value → Shared → Prop), Inv X pins σ H s → (∀ b ∈ fp, FpOk X pins H b) → tn i s.heap → J.go i H →
    wpAny (model P w) X.A (pyNext (.ref it)) (fun r s1 => ∃ u, r = some u ∧
      wpAny (model P w) X.A (letOwnedTupleGo tg (.ref it) u) (fun _ s2 => ∃ x H', Inv X pins σ H' s2 ∧ RelV x u ∧ J.yld i H x H' ∧ tn (i + 1) s2.heap ∧ ∀ b ∈ fp, H' b = none) E s1) E s
  done : ∀ (X : Cx), X.prog = P → X.w = w → X.K = K → X.calm = true → ∀ (i : Nat) (pins : List (Addr × Obj)) (s : Shared) (σ : St) (H : Hp) (E : Value → Shared → Prop), Inv X pins σ H s → (∀ b ∈ fp, FpOk X pins H b) → tn i s.heap → J.stop i H →
    wpAny (model P w) X.A (pyNext (.ref it)) (fun r s1 => r = none ∧ Inv X pins σ H s1) E s
  self : ∀ (A : Around) (i : Nat) (s : Shared) (Q : Value → Shared → Prop) (E : Value → Shared → Prop), tn i s.heap → Q (.ref it) s → wpAny (model P w) A (pyIter (.ref it)) Q E s
abbrev TI := St → Hp → (It → Hp → Prop) → Prop
def PIE (X : Cx) (pins : List (Addr × Obj)) (σ : St) (tg : Expr) (R : It → Hp → Prop) (itv : Value) (s2 : Shared) : Prop :=
  ∃ (it : Addr) (fp : List Addr) (tn : Nat → Heap → Prop) (J : It) (H' : Hp), itv = .ref it ∧ Inv X pins σ H' s2 ∧ Turn X.prog X.w X.K tg J fp it tn ∧ tn 0 s2.heap ∧ (∀ b ∈ fp, FpOk X pins H' b) ∧ R J H'
def PI (X : Cx) (tg iter : Expr) (wi : TI) : Prop :=
  ∀ (pins : List (Addr × Obj)) (s : Shared) (σ : St) (H : Hp) (R : It → Hp → Prop), Inv X pins σ H s → wi σ H R →
    wpAny (model X.prog X.w) X.A (eval iter X.env) (fun v s1 => wpAny (model X.prog X.w) X.A (pyIter v) (PIE X pins σ tg R) X.xe s1) X.xe s
theorem go_of {M : Model} {A : Around} {E : Value → Shared → Prop} {s : Shared} {tg : Expr} {it : Addr} {u : Value} {o : Obj} {n : String} {vs : Array Value} {Q : Unit → Shared → Prop} (ho : s.heap.get? it = some o) (hc : o.cls = .type n) (hd : o.data = .fields vs)
    (hn : ["enumerate", "zip", "dict_itemiterator", "dict_reverseitemiterator", "odict_iterator", "itertools.zip_longest", "itertools.pairwise"].contains n = false) (hQ : Q () s) : wpAny M A (letOwnedTupleGo tg (.ref it) u) Q E s := by
  unfold letOwnedTupleGo
  cases tg <;> first
    | exact wpAny_pure hQ
    | (cases u <;> first
        | exact wpAny_pure hQ
        | (refine wpAny_bind (wpAny_load ho ?_)
           rw [hc, hd]
           show wpAny M A (if (["enumerate", "zip", "dict_itemiterator", "dict_reverseitemiterator", "odict_iterator", "itertools.zip_longest", "itertools.pairwise"].contains n && vs[0]? == some (rawInt _)) = true then _ else _) Q E s
           rw [if_neg (by intro h; rw [hn, Bool.false_and] at h; cases h)]
           exact wpAny_pure hQ))
def Itl (K : PySem.W.Frag) (a : Addr) : It :=
  ⟨fun i H => ∃ xs x, SqL K H a xs ∧ xs[i]? = some x, fun i H x H' => H' = H ∧ ∀ xs, SqL K H a xs → xs[i]? = some x, fun i H => ∃ xs, SqL K H a xs ∧ xs.length ≤ i⟩
def Itt (K : PySem.W.Frag) (a : Addr) : It :=
  ⟨fun i H => ∃ xs x, SqT K H a xs ∧ xs[i]? = some x, fun i H x H' => H' = H ∧ ∀ xs, SqT K H a xs → xs[i]? = some x, fun i H => ∃ xs, SqT K H a xs ∧ xs.length ≤ i⟩
def Itr (lo : Int) (n : Nat) : It := ⟨fun i _ => i < n, fun i H x H' => H' = H ∧ x = .int (lo + i), fun i _ => n ≤ i⟩
theorem turn_list {P : Program} {w : World} {K : PySem.W.Frag} {tg : Expr} (a it : Addr) : Turn P w K tg (Itl K a) [it] it (fun i h => h.IsListIter it a i) where
  mem := by simp
  obj := fun i h st b hb => by
    have e : b = it := by simpa using hb
    subst e
    obtain ⟨o, e, c, d⟩ := st
    exact ⟨o, e, fun v z => by rw [d] at z; cases z⟩
  keep := fun i h h' st k => st.at fun o e => k it (by simp) o e
  item := by
    intro X hP hw hK hc i pins s σ H E I hf st hg
    subst hP hw hK
    obtain ⟨xs, x, hq, hx⟩ := hg
    obtain ⟨its, rv, p, hz⟩ := I.list hq
    obtain ⟨u, hu, ru⟩ := rv.get hx
    obtain ⟨f0, f1, f2, f3, f4, f5⟩ := hf it (by simp)
    refine wpAny_pyNext_list_item st p.isList (x := u) (by simpa using hu) fun h' st' sb => ?_
    have I1 : Inv X pins σ H { s with heap := h' } := I.turned (t' := s.toks) (fun b o hb e => (sb.2 b hb).trans e) f0 f1 f3 f4 f5
    obtain ⟨o, e, c, d⟩ := id st'
    exact ⟨u, rfl, go_of (s := { s with heap := h' }) e c d (by decide) ⟨x, H, I1, ru, ⟨rfl, fun ys hy => by rw [I.list_inj hy hq]; exact hx⟩, st', fun b hb => (hf b hb).1⟩⟩
  done := by
    intro X hP hw hK hc i pins s σ H E I hf st hg
    subst hP hw hK
    obtain ⟨xs, hq, hx⟩ := hg
    obtain ⟨its, rv, p, hz⟩ := I.list hq
    obtain ⟨f0, f1, f2, f3, f4, f5⟩ := hf it (by simp)
    have hl := rv.length
    exact wpAny_pyNext_list_end (I.ok.hd hc) st p.isList (by simp; omega) fun h' eb => ⟨rfl, I.turned (t' := s.toks) (fun b o hb e => eb b o hb e) f0 f1 f3 f4 f5⟩
  self := fun _ _ _ _ _ st h => wpAny_pyIter_listiter st h
theorem turn_tuple {P : Program} {w : World} {K : PySem.W.Frag} {tg : Expr} (a it : Addr) : Turn P w K tg (Itt K a) [it] it (fun i h => h.IsTupleIter it a i) where
  mem := by simp
  obj := fun i h st b hb => by
    have e : b = it := by simpa using hb
    subst e
    obtain ⟨o, e, c, d⟩ := st
    exact ⟨o, e, fun v z => by rw [d] at z; cases z⟩
  keep := fun i h h' st k => st.at fun o e => k it (by simp) o e
  item := by
    intro X hP hw hK hc i pins s σ H E I hf st hg
    subst hP hw hK
    obtain ⟨xs, x, hq, hx⟩ := hg
    obtain ⟨its, rv, p, hz⟩ := I.tuple hq
    obtain ⟨u, hu, ru⟩ := rv.get hx
    obtain ⟨f0, f1, f2, f3, f4, f5⟩ := hf it (by simp)
    refine wpAny_pyNext_tuple_item st (show s.heap.IsTuple a its.toArray from p) (x := u) (by simpa using hu) fun h' st' sb => ?_
    have I1 : Inv X pins σ H { s with heap := h' } := I.turned (t' := s.toks) (fun b o hb e => (sb.2 b hb).trans e) f0 f1 f3 f4 f5
    obtain ⟨o, e, c, d⟩ := id st'
    exact ⟨u, rfl, go_of (s := { s with heap := h' }) e c d (by decide) ⟨x, H, I1, ru, ⟨rfl, fun ys hy => by rw [I.tuple_inj hy hq]; exact hx⟩, st', fun b hb => (hf b hb).1⟩⟩
  done := by
    intro X hP hw hK hc i pins s σ H E I hf st hg
    subst hP hw hK
    obtain ⟨xs, hq, hx⟩ := hg
    obtain ⟨its, rv, p, hz⟩ := I.tuple hq
    obtain ⟨f0, f1, f2, f3, f4, f5⟩ := hf it (by simp)
    have hl := rv.length
    exact wpAny_pyNext_tuple_end (I.ok.hd hc) st (show s.heap.IsTuple a its.toArray from p) (by simp; omega) fun h' eb => ⟨rfl, I.turned (t' := s.toks) (fun b o hb e => eb b o hb e) f0 f1 f3 f4 f5⟩
  self := fun _ _ _ _ _ st h => wpAny_pyIter_tupleiter st h
theorem turn_range {P : Program} {w : World} {K : PySem.W.Frag} {tg : Expr} (it : Addr) (lo : Int) (n : Nat) : Turn P w K tg (Itr lo n) [it] it (fun i h => IsRangeIter h it (lo + (i : Nat) * 1) ((n : Int) - (i : Nat)) 1) where
  mem := by simp
  obj := fun i h st b hb => by
    have e : b = it := by simpa using hb
    subst e
    exact ⟨_, st, fun v z => by
      have z' : Data.fields _ = Data.cell v := z
      cases z'⟩
  keep := fun i h h' st k => k it (by simp) _ st
  item := by
    intro X hP hw hK hc i pins s σ H E I hf st hg
    subst hP hw hK
    obtain ⟨f0, f1, f2, f3, f4, f5⟩ := hf it (by simp)
    have W := Walks.range (prog := X.prog) (w := X.w) (I.ok.hd hc) it lo 1 n
    refine W.item i s _ _ hg st fun v h' tk hv st' kk => ?_
    obtain ⟨t, rfl⟩ := hv
    have I1 : Inv X pins σ H { s with heap := h', toks := tk } := I.turned (fun b o hb e => kk b o (by simpa using hb) e) f0 f1 f3 f4 f5
    refine ⟨_, rfl, go_of (s := { s with heap := h', toks := tk }) (n := "range_iterator") st' rfl rfl (by decide) ⟨.int (lo + i), H, I1, ⟨t, ?_⟩, ⟨rfl, rfl⟩, st', fun b hb => (hf b hb).1⟩⟩
    rw [Int.mul_one]
  done := by
    intro X hP hw hK hc i pins s σ H E I hf st hg
    subst hP hw hK
    obtain ⟨f0, f1, f2, f3, f4, f5⟩ := hf it (by simp)
    exact wpAny_pyNext_range_end (I.ok.hd hc) st (by have : n ≤ i := hg; omega) fun h' eb => ⟨rfl, I.turned (t' := s.toks) (fun b o hb e => eb b o hb e) f0 f1 f3 f4 f5⟩
  self := fun _ _ _ _ _ st h => wpAny_pyIter_rangeiter st h
end L2
namespace L2
open PySem PySem.Spec PyProof.Rows
section
variable {X : Cx} {tg : Expr}
def iList (K : PySem.W.Frag) (tl : TE) : TI := fun σ H R => tl σ H fun x H1 => ∃ a, x = .ref a ∧ (∃ xs, SqL K H1 a xs) ∧ R (Itl K a) H1
def iTup (K : PySem.W.Frag) (tl : TE) : TI := fun σ H R => tl σ H fun x H1 => ∃ a, x = .ref a ∧ (∃ xs, SqT K H1 a xs) ∧ R (Itt K a) H1
theorem pi_list {l : Expr} {tl : TE} (hl : PE X l tl) : PI X tg l (iList X.K tl) := by
  intro pins s σ H R I h
  refine thn (hl pins s σ H _ I h) fun v s1 ⟨x, H1, I1, r1, q1⟩ => ?_
  obtain ⟨a, e, ⟨xs, hq⟩, q⟩ := q1
  subst e
  cases r1
  obtain ⟨its, rv, p, hz⟩ := I1.list hq
  refine wpAny_pyIter_list p.isList ?_
  refine ⟨s1.heap.objs.size, [s1.heap.objs.size], _, _, H1, rfl, I1.kept (t' := s1.toks) fun b o e => Heap.get?_push_of_some _ e, turn_list a _, ⟨_, Heap.get?_push_size _ rfl, rfl, rfl⟩, fun b hb => ?_, q⟩
  have e : b = s1.heap.objs.size := by simpa using hb
  subst e
  exact I1.fpOk (Nat.le_refl _) (I1.hok.fresh (Nat.le_refl _))
theorem pi_tup {l : Expr} {tl : TE} (hl : PE X l tl) : PI X tg l (iTup X.K tl) := by
  intro pins s σ H R I h
  refine thn (hl pins s σ H _ I h) fun v s1 ⟨x, H1, I1, r1, q1⟩ => ?_
  obtain ⟨a, e, ⟨xs, hq⟩, q⟩ := q1
  subst e
  cases r1
  obtain ⟨its, rv, p, hz⟩ := I1.tuple hq
  refine wpAny_pyIter_tuple (show s1.heap.IsTuple a its.toArray from p) ?_
  refine ⟨s1.heap.objs.size, [s1.heap.objs.size], _, _, H1, rfl, I1.kept (t' := s1.toks) fun b o e => Heap.get?_push_of_some _ e, turn_tuple a _, ⟨_, Heap.get?_push_size _ rfl, rfl, rfl⟩, fun b hb => ?_, q⟩
  have e : b = s1.heap.objs.size := by simpa using hb
  subst e
  exact I1.fpOk (Nat.le_refl _) (I1.hok.fresh (Nat.le_refl _))
theorem range_it {pins : List (Addr × Obj)} {σ : St} {H : Hp} {s : Shared} {R : It → Hp → Prop} {E : Value → Shared → Prop} {lo hi : Int} {t u v : Tok} {tk : Nat} (I : Inv X pins σ H s) (h1 : -(2 ^ 62) ≤ lo) (h2 : lo < 2 ^ 62) (h3 : -(2 ^ 62) ≤ hi) (h4 : hi < 2 ^ 62)
    (q : R (Itr lo (hi - lo).toNat) H) : wpAny (model X.prog X.w) X.A (pyIter (.ref s.heap.objs.size)) (PIE X pins σ tg R) E { s with heap := s.heap.push { cls := .type "range", data := .fields #[.int lo t, .int hi u, .int 1 v] }, toks := tk } := by
  refine wpAny_pyIter_range (IsRange.new ..) (small_one h1 h2 h3 h4) ?_
  have I1 : Inv X pins σ H { s with heap := s.heap.push { cls := .type "range", data := .fields #[.int lo t, .int hi u, .int 1 v] }, toks := tk } := I.kept fun b o e => Heap.get?_push_of_some _ e
  refine ⟨(s.heap.push { cls := .type "range", data := .fields #[.int lo t, .int hi u, .int 1 v] }).objs.size, [(s.heap.push { cls := .type "range", data := .fields #[.int lo t, .int hi u, .int 1 v] }).objs.size], _, _, H, rfl,
    I1.kept (t' := tk) fun b o e => Heap.get?_push_of_some _ e, turn_range _ lo (hi - lo).toNat, ?_, fun b hb => ?_, q⟩
  · have e1 : lo + ((0 : Nat) : Int) * 1 = lo := by simp
    have e2 : (((hi - lo).toNat : Nat) : Int) - ((0 : Nat) : Int) = Builtin.Range.rangeSize lo hi 1 := by rw [rangeSize_one]; split <;> omega
    show IsRangeIter _ _ (lo + ((0 : Nat) : Int) * 1) ((((hi - lo).toNat : Nat) : Int) - ((0 : Nat) : Int)) 1
    rw [e1, e2]
    exact Heap.get?_push_size _ rfl
  · have e : b = (s.heap.push { cls := .type "range", data := .fields #[.int lo t, .int hi u, .int 1 v] }).objs.size := by simpa using hb
    subst e
    exact I1.fpOk (Nat.le_refl _) (I1.hok.fresh (Nat.le_refl _))
def iRng1 (ta : TA) : TI := fun σ H R => ta σ H fun vs H1 => ∃ j : Int, vs = [.int j] ∧ -(2 ^ 62) ≤ j ∧ j < 2 ^ 62 ∧ R (Itr 0 j.toNat) H1
theorem pi_range1 {a : Expr} {ta : TA} {p pos : Pos} (hg : Gl X "range") (hm : X.mg "range" = none) (ha : PA X [a] ta) (hs : starEach [a] X.env = [(false, eval a X.env)] := by rfl) : PI X tg (.Call (.Name "range" p) [a] [] pos) (iRng1 ta) := by
  intro pins s σ H R I h
  refine Call_ (ld_blt I hg hm boot_range (PyProof.Rows.callWith_type1 (thn (ha pos pins s σ H _ I h) fun us s1 ⟨vs, H1, I1, r1, q1⟩ => ?_) hs rfl))
  obtain ⟨j, e, q1, q2, q⟩ := q1
  subst e
  cases r1 with
  | cons r rr =>
    cases rr
    obtain ⟨t, rfl⟩ := r
    exact call_range_1 (range_it I1 (by omega) (by omega) q1 q2 (by simpa using q))
def tFor (wi : TI) (g : TG) (tb : TS) : TS := fun D σ H => wi σ H fun J H1 => ∃ W : Nat → Nat → St → Hp → Prop, (∃ m, W 0 m σ H1) ∧ ∀ i m σ H, W i m σ H →
  (J.stop i H ∧ D.nx σ H) ∨ (J.go i H ∧ ∃ N : St → Hp → Prop, (∀ σ' H', N σ' H' → ∃ m', m' < m ∧ W (i + 1) m' σ' H') ∧ ∀ x H', J.yld i H x H' → g x σ H' fun σ2 H2 => tb { D with nx := N, ct := N, bk := D.nx } σ2 H2)
def pinsAt (fp : List Addr) (h : Heap) : List (Addr × Obj) := fp.filterMap fun b => (h.get? b).map fun o => (b, o)
theorem mem_pinsAt {fp : List Addr} {h : Heap} {b : Addr} {o : Obj} (hb : b ∈ fp) (e : h.get? b = some o) : (b, o) ∈ pinsAt fp h := List.mem_filterMap.mpr ⟨b, hb, by rw [e]; rfl⟩
theorem of_pinsAt {fp : List Addr} {h : Heap} {p : Addr × Obj} (hp : p ∈ pinsAt fp h) : p.1 ∈ fp ∧ h.get? p.1 = some p.2 := by
  obtain ⟨b, hb, e⟩ := List.mem_filterMap.mp hp
  cases q : h.get? b with
  | none => rw [q] at e; cases e
  | some o =>
    rw [q] at e
    have e' : (b, o) = p := Option.some.inj e
    subst e'
    exact ⟨hb, q⟩
theorem Inv.pinned {pins : List (Addr × Obj)} {σ : St} {H : Hp} {s : Shared} {fp : List Addr} (I : Inv X pins σ H s) (hf : ∀ b ∈ fp, FpOk X pins H b) (ho : ∀ b ∈ fp, ∃ o, s.heap.get? b = some o ∧ ∀ v, o.data ≠ .cell v) : Inv X (pins ++ pinsAt fp s.heap) σ H s :=
  I.pins_of fun p hp => (List.mem_append.mp hp).elim (fun z => I.pin p (List.mem_append_right _ z)) fun z => by
    obtain ⟨hb, e⟩ := of_pinsAt z
    obtain ⟨f0, f1, f2, _⟩ := hf p.1 hb
    obtain ⟨o, e', d⟩ := ho p.1 hb
    rw [e] at e'; cases e'
    exact ⟨e, f0, f1, f2, d⟩
theorem Inv.unpinned {pins pl : List (Addr × Obj)} {σ : St} {H : Hp} {s : Shared} (I : Inv X (pins ++ pl) σ H s) : Inv X pins σ H s := I.pins_of fun p hp => I.pin p (List.mem_append_right _ (List.mem_append_left _ hp))
theorem ps_for {iter : Expr} {body : List Stmt} {wi : TI} {g : TG} {tb : TS} {pos : Pos} (hp : PassesOwn (model X.prog X.w) X.A X.env X.xe) (hc : X.calm = true) (hi : PI X tg iter wi) (hg : PG X tg g) (hb : PSs X body tb)
    (hs : ∀ x, foldedSetIterable iter X.env x = pure x := by intro _; rfl) : PS X (.For tg iter body [] pos) (tFor wi g tb) := by
  intro pins s σ H D I h
  refine wpAny_For (thn (hi pins s σ H _ I h) fun v s1 h1 => thn h1 fun itv s2 h2 => ?_) hs
  obtain ⟨it, fp, tn, J, H2, e, I2, T, st2, f2, W, ⟨m0, w0⟩, turn⟩ := h2
  subst e
  have stat : ∀ {H' : Hp}, (∀ b ∈ fp, H' b = none) → ∀ b ∈ fp, FpOk X pins H' b := fun hn b hb => ⟨hn b hb, (f2 b hb).2⟩
  refine codeAny_forLoop_any (fun n s' => ∃ i σ' H', Inv X pins σ' H' s' ∧ tn i s'.heap ∧ (∀ b ∈ fp, H' b = none) ∧ W i n σ' H') ?_ m0 ⟨0, σ, H2, I2, st2, fun b hb => (f2 b hb).1, w0⟩
  rintro n s3 ⟨i, σ3, H3, I3, st3, fr3, w3⟩
  rcases turn i n σ3 H3 w3 with ⟨stop, qn⟩ | ⟨go, N, hN, step⟩
  · refine wpAny_passesOwn hp (thn (T.done X rfl rfl rfl hc i pins s3 σ3 H3 X.xe I3 (stat fr3) st3 stop) fun r s4 ⟨hr, I4⟩ => ?_)
    subst hr
    exact wpAny_execs_nil ⟨σ3, H3, I4, qn⟩
  · refine wpAny_passesOwn hp (thn (T.item X rfl rfl rfl hc i pins s3 σ3 H3 X.xe I3 (stat fr3) st3 go) fun r s4 ⟨u, hr, h4⟩ => ?_)
    subst hr
    refine wpAny_passesOwn hp (thn h4 fun _ s5 ⟨x, H5, I5, r5, y5, st5, fr5⟩ => ?_)
    have I5' := I5.pinned (stat fr5) (T.obj _ _ st5)
    refine wpAny_passesOwn hp (thn (hg _ s5 σ3 H5 x u _ I5' r5 (step x H5 y5)) fun _ s6 ⟨σ6, H6, I6, q6⟩ => ?_)
    refine wpAny_passesOwn hp (thn (hb _ s6 σ6 H6 _ I6 q6) fun f s7 q7 => ?_)
    have again : ∀ {σ7 : St} {H7 : Hp}, Inv X (pins ++ pinsAt fp s5.heap) σ7 H7 s7 → N σ7 H7 → ∃ m, m < n ∧ ∃ i σ' H', Inv X pins σ' H' s7 ∧ tn i s7.heap ∧ (∀ b ∈ fp, H' b = none) ∧ W i m σ' H' := fun {σ7 H7} I7 n7 => by
      obtain ⟨m', hm, w7⟩ := hN σ7 H7 n7
      refine ⟨m', hm, i + 1, σ7, H7, I7.unpinned, T.keep _ _ _ st5 fun b hb o e => (I7.pin (b, o) (List.mem_append_right _ (List.mem_append_right _ (mem_pinsAt hb e)))).1, fun b hb => ?_, w7⟩
      obtain ⟨o, e, d⟩ := T.obj _ _ st5 b hb
      exact (I7.pin (b, o) (List.mem_append_right _ (List.mem_append_right _ (mem_pinsAt hb e)))).2.1
    cases f with
    | next => obtain ⟨σ7, H7, I7, n7⟩ := q7; exact again I7 n7
    | cont => obtain ⟨σ7, H7, I7, n7⟩ := q7; exact again I7 n7
    | brk => obtain ⟨σ7, H7, I7, q7⟩ := q7; exact ⟨σ7, H7, I7.unpinned, q7⟩
    | ret v => obtain ⟨x7, σ7, H7, I7, r7, q7⟩ := q7; exact ⟨x7, σ7, H7, I7.unpinned, r7, q7⟩
end
theorem for_list {K : PySem.W.Frag} {a : Addr} {xs : List V} {g : TG} {tb : TS} {D : Ends} {σ : St} {H : Hp} (Pv : Nat → St → Hp → Prop) (h0 : Pv 0 σ H) (hl : ∀ i σ H, i ≤ xs.length → Pv i σ H → SqL K H a xs)
    (hs : ∀ i x σ H, xs[i]? = some x → Pv i σ H → g x σ H fun σ2 H2 => tb { D with nx := Pv (i + 1), ct := Pv (i + 1), bk := D.nx } σ2 H2) (hd : ∀ σ H, Pv xs.length σ H → D.nx σ H) :
    ∃ W : Nat → Nat → St → Hp → Prop, (∃ m, W 0 m σ H) ∧ ∀ i m σ H, W i m σ H →
      ((Itl K a).stop i H ∧ D.nx σ H) ∨ ((Itl K a).go i H ∧ ∃ N : St → Hp → Prop, (∀ σ' H', N σ' H' → ∃ m', m' < m ∧ W (i + 1) m' σ' H') ∧ ∀ x H', (Itl K a).yld i H x H' → g x σ H' fun σ2 H2 => tb { D with nx := N, ct := N, bk := D.nx } σ2 H2) := by
  refine ⟨fun i m σ H => m = xs.length - i ∧ i ≤ xs.length ∧ Pv i σ H, ⟨xs.length, by simp, Nat.zero_le _, h0⟩, ?_⟩
  rintro i m σ H ⟨rfl, hi, p⟩
  have q := hl i σ H hi p
  by_cases hlt : i < xs.length
  · refine .inr ⟨⟨xs, xs[i], q, by simp [hlt]⟩, Pv (i + 1), fun σ' H' p' => ⟨xs.length - (i + 1), by omega, rfl, hlt, p'⟩, fun x H' y => ?_⟩
    obtain ⟨e, y⟩ := y
    subst e
    exact hs i x σ _ (y xs q) p
  · have e : i = xs.length := by omega
    subst e
    exact .inl ⟨⟨xs, q, Nat.le_refl _⟩, hd σ H p⟩
theorem for_tup {K : PySem.W.Frag} {a : Addr} {xs : List V} {g : TG} {tb : TS} {D : Ends} {σ : St} {H : Hp} (Pv : Nat → St → Hp → Prop) (h0 : Pv 0 σ H) (hl : ∀ i σ H, i ≤ xs.length → Pv i σ H → SqT K H a xs)
    (hs : ∀ i x σ H, xs[i]? = some x → Pv i σ H → g x σ H fun σ2 H2 => tb { D with nx := Pv (i + 1), ct := Pv (i + 1), bk := D.nx } σ2 H2) (hd : ∀ σ H, Pv xs.length σ H → D.nx σ H) :
    ∃ W : Nat → Nat → St → Hp → Prop, (∃ m, W 0 m σ H) ∧ ∀ i m σ H, W i m σ H →
      ((Itt K a).stop i H ∧ D.nx σ H) ∨ ((Itt K a).go i H ∧ ∃ N : St → Hp → Prop, (∀ σ' H', N σ' H' → ∃ m', m' < m ∧ W (i + 1) m' σ' H') ∧ ∀ x H', (Itt K a).yld i H x H' → g x σ H' fun σ2 H2 => tb { D with nx := N, ct := N, bk := D.nx } σ2 H2) := by
  refine ⟨fun i m σ H => m = xs.length - i ∧ i ≤ xs.length ∧ Pv i σ H, ⟨xs.length, by simp, Nat.zero_le _, h0⟩, ?_⟩
  rintro i m σ H ⟨rfl, hi, p⟩
  have q := hl i σ H hi p
  by_cases hlt : i < xs.length
  · refine .inr ⟨⟨xs, xs[i], q, by simp [hlt]⟩, Pv (i + 1), fun σ' H' p' => ⟨xs.length - (i + 1), by omega, rfl, hlt, p'⟩, fun x H' y => ?_⟩
    obtain ⟨e, y⟩ := y
    subst e
    exact hs i x σ _ (y xs q) p
  · have e : i = xs.length := by omega
    subst e
    exact .inl ⟨⟨xs, q, Nat.le_refl _⟩, hd σ H p⟩
theorem for_range {lo : Int} {n : Nat} {g : TG} {tb : TS} {D : Ends} {σ : St} {H : Hp} (Pv : Nat → St → Hp → Prop) (h0 : Pv 0 σ H)
    (hs : ∀ i σ H, i < n → Pv i σ H → g (.int (lo + i)) σ H fun σ2 H2 => tb { D with nx := Pv (i + 1), ct := Pv (i + 1), bk := D.nx } σ2 H2) (hd : ∀ σ H, Pv n σ H → D.nx σ H) :
    ∃ W : Nat → Nat → St → Hp → Prop, (∃ m, W 0 m σ H) ∧ ∀ i m σ H, W i m σ H →
      ((Itr lo n).stop i H ∧ D.nx σ H) ∨ ((Itr lo n).go i H ∧ ∃ N : St → Hp → Prop, (∀ σ' H', N σ' H' → ∃ m', m' < m ∧ W (i + 1) m' σ' H') ∧ ∀ x H', (Itr lo n).yld i H x H' → g x σ H' fun σ2 H2 => tb { D with nx := N, ct := N, bk := D.nx } σ2 H2) := by
  refine ⟨fun i m σ H => m = n - i ∧ i ≤ n ∧ Pv i σ H, ⟨n, by simp, Nat.zero_le _, h0⟩, ?_⟩
  rintro i m σ H ⟨rfl, hi, p⟩
  by_cases hlt : i < n
  · refine .inr ⟨hlt, Pv (i + 1), fun σ' H' p' => ⟨n - (i + 1), by omega, rfl, hlt, p'⟩, fun x H' y => ?_⟩
    obtain ⟨e, y⟩ := y
    subst e y
    exact hs i σ _ hlt p
  · have e : i = n := by omega
    subst e
    exact .inl ⟨Nat.le_refl _, hd σ H p⟩
theorem while_by {c : TT} {tb : TS} {D : Ends} {σ : St} {H : Hp} (Pv : St → Hp → Prop) (μ : St → Hp → Nat) (h0 : Pv σ H)
    (hs : ∀ σ H, Pv σ H → c σ H fun b H1 => if b = true then tb { D with nx := fun σ' H' => Pv σ' H' ∧ μ σ' H' < μ σ H, ct := fun σ' H' => Pv σ' H' ∧ μ σ' H' < μ σ H, bk := D.nx } σ H1 else D.nx σ H1)
    (mono : ∀ σ H Q Q', (∀ b H1, Q b H1 → Q' b H1) → c σ H Q → c σ H Q') : tWhile c tb D σ H := by
  refine ⟨fun m σ H => m = μ σ H ∧ Pv σ H, ⟨_, rfl, h0⟩, ?_⟩
  rintro m σ H ⟨rfl, p⟩
  refine mono σ H _ _ (fun b H1 q => ?_) (hs σ H p)
  cases b with
  | true => exact ⟨_, fun σ' H' ⟨p', l⟩ => ⟨_, l, rfl, p'⟩, q⟩
  | false => exact q
end L2
namespace L2
open PySem PySem.Spec PyProof.Rows
abbrev R2 := V → V → Hp → VK → Prop
def OpR (X : Cx) (f : Value → Value → Sem Value) (r : R2) : Prop :=
  ∀ (pins : List (Addr × Obj)) (s : Shared) (σ : St) (H : Hp) (x y : V) (v u : Value) (Q : VK), Inv X pins σ H s → RelV x v → RelV y u → r x y H Q →
    wpAny (model X.prog X.w) X.A (f v u) (EP X pins σ Q) X.xe s
def UnR (X : Cx) (f : Value → Sem Value) (r : V → Hp → VK → Prop) : Prop :=
  ∀ (pins : List (Addr × Obj)) (s : Shared) (σ : St) (H : Hp) (x : V) (v : Value) (Q : VK), Inv X pins σ H s → RelV x v → r x H Q →
    wpAny (model X.prog X.w) X.A (f v) (EP X pins σ Q) X.xe s
def CallR (X : Cx) (f : Value) (r : List V → Hp → VK → Prop) : Prop :=
  ∀ (pins : List (Addr × Obj)) (s : Shared) (σ : St) (H : Hp) (xs : List V) (us : List Value) (Q : VK), Inv X pins σ H s → Vals xs us → r xs H Q →
    wpAny (model X.prog X.w) X.A (call f us) (EP X pins σ Q) X.xe s
def tOp (r : R2) (ta tb : TE) : TE := fun σ H Q => ta σ H fun x H1 => tb σ H1 fun y H2 => r x y H2 Q
def tUn (r : V → Hp → VK → Prop) (ta : TE) : TE := fun σ H Q => ta σ H fun x H1 => r x H1 Q
def rI (C : Int → Int → Prop) (g : Int → Int → V) : R2 := fun x y H Q => ∃ i j, x = .int i ∧ y = .int j ∧ C i j ∧ Q (g i j) H
def rI0 (g : Int → Int → V) : R2 := fun x y H Q => ∃ i j, x = .int i ∧ y = .int j ∧ Q (g i j) H
def rU (g : Int → V) : V → Hp → VK → Prop := fun x H Q => ∃ i, x = .int i ∧ Q (g i) H
section
variable {X : Cx} {a b c : Expr} {ta tb tc : TE} {pos : Pos}
theorem binT (ha : PE X a ta) (hb : PE X b tb) {pins : List (Addr × Obj)} {s : Shared} {σ : St} {H : Hp} {R : V → V → Hp → Prop} (I : Inv X pins σ H s)
    (h : ta σ H fun x H1 => tb σ H1 fun y H2 => R x y H2) {Q : Value → Shared → Prop} {f : Value → Value → Sem Value}
    (hf : ∀ v u s2 x y H2, Inv X pins σ H2 s2 → RelV x v → RelV y u → R x y H2 → wpAny (model X.prog X.w) X.A (f v u) Q X.xe s2) :
    wpAny (model X.prog X.w) X.A (eval a X.env) (fun v s₁ => wpAny (model X.prog X.w) X.A (eval b X.env) (fun u s₂ => wpAny (model X.prog X.w) X.A (f v u) Q X.xe s₂) X.xe s₁) X.xe s := by
  refine thn (ha pins s σ H _ I h) fun v s1 ⟨x, H1, I1, r1, q1⟩ => ?_
  refine thn (hb pins s1 σ H1 _ I1 q1) fun u s2 ⟨y, H2, I2, r2, q2⟩ => ?_
  exact hf v u s2 x y H2 I2 r1 r2 q2
theorem pe_op {op : Operator} {r : R2} (ho : OpR X (binaryOp op) r) (ha : PE X a ta) (hb : PE X b tb) : PE X (.BinOp a op b pos) (tOp r ta tb) := by
  intro pins s σ H Q I h
  exact wpAny_BinOp (binT ha hb I h fun v u s2 x y H2 I2 rx ry q => ho pins s2 σ H2 x y v u Q I2 rx ry q)
theorem pe_un {op : UnaryOp} {r : V → Hp → VK → Prop} (ho : UnR X (unaryOp op) r) (ha : PE X a ta) : PE X (.UnaryOp op a pos) (tUn r ta) := by
  intro pins s σ H Q I h
  exact UnaryOp_ (thn (ha pins s σ H _ I h) fun v s1 ⟨x, H1, I1, r1, q1⟩ => ho pins s1 σ H1 x v Q I1 r1 q1)
theorem opI {f : Value → Value → Sem Value} {C : Int → Int → Prop} {g : Int → Int → Int}
    (rule : ∀ (i j : Int) (t u : Tok) (s : Shared) (Q : Value → Shared → Prop) (E : Value → Shared → Prop), C i j → Q (.int (g i j) s.toks) { s with toks := s.toks + 1 } → wpAny (model X.prog X.w) X.A (f (.int i t) (.int j u)) Q E s) :
    OpR X f (rI C fun i j => .int (g i j)) := by
  intro pins s σ H x y v u Q I rx ry h
  obtain ⟨i, j, rfl, rfl, hc, q⟩ := h
  obtain ⟨t, rfl⟩ := rx
  obtain ⟨t', rfl⟩ := ry
  exact rule i j t t' s _ _ hc ⟨.int (g i j), H, I.tok _, ⟨_, rfl⟩, q⟩
theorem opI0 {f : Value → Value → Sem Value} {g : Int → Int → Int}
    (rule : ∀ (i j : Int) (t u : Tok) (s : Shared) (Q : Value → Shared → Prop) (E : Value → Shared → Prop), Q (.int (g i j) s.toks) { s with toks := s.toks + 1 } → wpAny (model X.prog X.w) X.A (f (.int i t) (.int j u)) Q E s) :
    OpR X f (rI0 fun i j => .int (g i j)) := by
  intro pins s σ H x y v u Q I rx ry h
  obtain ⟨i, j, rfl, rfl, q⟩ := h
  obtain ⟨t, rfl⟩ := rx
  obtain ⟨t', rfl⟩ := ry
  exact rule i j t t' s _ _ ⟨.int (g i j), H, I.tok _, ⟨_, rfl⟩, q⟩
theorem opB0 {f : Value → Value → Sem Value} {g : Int → Int → Bool}
    (rule : ∀ (i j : Int) (t u : Tok) (s : Shared) (Q : Value → Shared → Prop) (E : Value → Shared → Prop), Q (.bool (g i j)) s → wpAny (model X.prog X.w) X.A (f (.int i t) (.int j u)) Q E s) :
    OpR X f (rI0 fun i j => .bl (g i j)) := by
  intro pins s σ H x y v u Q I rx ry h
  obtain ⟨i, j, rfl, rfl, q⟩ := h
  obtain ⟨t, rfl⟩ := rx
  obtain ⟨t', rfl⟩ := ry
  exact rule i j t t' s _ _ ⟨.bl (g i j), H, I, rfl, q⟩
def CDiv (i j : Int) : Prop := 0 < j ∧ j < 1073741824
theorem op_add : OpR X (binaryOp .Add) (rI0 fun i j => .int (i + j)) := opI0 fun _ _ _ _ _ _ _ q => add_int q
theorem op_sub : OpR X (binaryOp .Sub) (rI0 fun i j => .int (i - j)) := opI0 fun _ _ _ _ _ _ _ q => sub_int q
theorem op_fdiv : OpR X (binaryOp .FloorDiv) (rI CDiv fun i j => .int (i / j)) := opI fun i j _ _ _ _ _ hc q => by
  have h1 : (0 : Int) < j := hc.1
  have h2 : j < 1073741824 := hc.2
  exact floordiv_int (by omega) (by rw [Int.fdiv_eq_ediv_of_nonneg i (by omega)]; exact q) (.inl (PyProof.noPylong_small (by omega)))
theorem op_mod : OpR X (binaryOp .Mod) (rI (fun _ j => 0 < j) fun i j => .int (i % j)) := opI fun i j _ _ _ _ _ hc q => by
  have h1 : (0 : Int) < j := hc
  exact mod_int' (by omega) (by rw [Int.fmod_eq_emod_of_nonneg i (by omega)]; exact q)
theorem op_and : OpR X (binaryOp .BitAnd) (rI0 fun i j => .int (Builtin.bitAnd i j)) := opI0 fun _ _ _ _ _ _ _ q => and_int q
theorem op_or : OpR X (binaryOp .BitOr) (rI0 fun i j => .int (Builtin.bitOr i j)) := opI0 fun _ _ _ _ _ _ _ q => or_int q
theorem unI {f : Value → Sem Value} {g : Int → Int}
    (rule : ∀ (i : Int) (t : Tok) (s : Shared) (Q : Value → Shared → Prop) (E : Value → Shared → Prop), Q (.int (g i) s.toks) { s with toks := s.toks + 1 } → wpAny (model X.prog X.w) X.A (f (.int i t)) Q E s) :
    UnR X f (rU fun i => .int (g i)) := by
  intro pins s σ H x v Q I rx h
  obtain ⟨i, rfl, q⟩ := h
  obtain ⟨t, rfl⟩ := rx
  exact rule i t s _ _ ⟨.int (g i), H, I.tok _, ⟨_, rfl⟩, q⟩
theorem un_neg : UnR X (unaryOp .USub) (rU fun i => .int (-i)) := unI fun _ _ _ _ _ q => neg_int q
end
def scal : V → V → Bool
  | .non, .non => true | .non, .int _ => true | .int _, .non => true | .non, .bl _ => true | .bl _, .non => true | .non, .str _ => true | .str _, .non => true
  | .int _, .int _ => true | .bl _, .bl _ => true | .str _, .str _ => true | .byt _, .byt _ => true
  | .int _, .str _ => true | .str _, .int _ => true | .bl _, .str _ => true | .str _, .bl _ => true
  | _, _ => false
def rEq : R2 := fun x y H Q => scal x y = true ∧ Q (.bl (decide (x = y))) H
def rNe : R2 := fun x y H Q => scal x y = true ∧ Q (.bl (!decide (x = y))) H
theorem dec_int {i j : Int} : decide (V.int i = V.int j) = (i == j) := by
  rw [Bool.eq_iff_iff]
  simp
theorem dec_bl {i j : Bool} : decide (V.bl i = V.bl j) = (i == j) := by
  rw [Bool.eq_iff_iff]
  simp
theorem dec_str {i j : Str} : decide (V.str i = V.str j) = (i == j) := by
  rw [Bool.eq_iff_iff]
  simp
theorem dec_byt {i j : Array UInt8} : decide (V.byt i = V.byt j) = (i.toList == j.toList) := by
  rw [Bool.eq_iff_iff]
  cases i
  cases j
  simp
section
variable {X : Cx} {a b c : Expr} {ta tb tc : TE} {pos : Pos}
theorem fin_bl {pins : List (Addr × Obj)} {σ : St} {H : Hp} {s : Shared} {Q : VK} {k k' : Bool} (I : Inv X pins σ H s) (q : Q (.bl k) H) (e : k = k') : EP X pins σ Q (.bool k') s := by
  subst e
  exact ⟨.bl k, H, I, rfl, q⟩
theorem op_eq : OpR X (compareOp .Eq) rEq := by
  intro pins s σ H x y v u Q I rx ry h
  obtain ⟨hs, q⟩ := h
  cases x with
  | non =>
    cases rx
    cases y with
    | non => cases ry; exact PySem.EqNone.eq_none_none (fin_bl I q (by simp))
    | bl j => cases ry; exact PySem.EqNone.eq_none_bool (fin_bl I q (by simp))
    | int j => obtain ⟨t', rfl⟩ := ry; exact PySem.EqNone.eq_none_int (fin_bl I q (by simp))
    | str j => obtain ⟨t', rfl⟩ := ry; exact PySem.EqNone.eq_none_str (fin_bl I q (by simp))
    | _ => exact absurd (show false = true from hs) Bool.false_ne_true
  | bl i =>
    cases rx
    cases y with
    | non => cases ry; exact PySem.EqNone.eq_bool_none (fin_bl I q (by simp))
    | bl j => cases ry; exact eq_bool (fin_bl I q dec_bl)
    | str j => obtain ⟨t', rfl⟩ := ry; exact PySem.EqMixed.eq_bool_str (fin_bl I q (by simp))
    | _ => exact absurd (show false = true from hs) Bool.false_ne_true
  | int i =>
    obtain ⟨t, rfl⟩ := rx
    cases y with
    | non => cases ry; exact PySem.EqNone.eq_int_none (fin_bl I q (by simp))
    | int j => obtain ⟨t', rfl⟩ := ry; exact eq_int (fin_bl I q dec_int)
    | str j => obtain ⟨t', rfl⟩ := ry; exact PySem.EqMixed.eq_int_str (fin_bl I q (by simp))
    | _ => exact absurd (show false = true from hs) Bool.false_ne_true
  | str i =>
    obtain ⟨t, rfl⟩ := rx
    cases y with
    | non => cases ry; exact PySem.EqNone.eq_str_none (fin_bl I q (by simp))
    | bl j => cases ry; exact PySem.EqMixed.eq_str_bool (fin_bl I q (by simp))
    | int j => obtain ⟨t', rfl⟩ := ry; exact PySem.EqMixed.eq_str_int (fin_bl I q (by simp))
    | str j => obtain ⟨t', rfl⟩ := ry; exact eq_str (fin_bl I q dec_str)
    | _ => exact absurd (show false = true from hs) Bool.false_ne_true
  | byt i =>
    obtain ⟨t, rfl⟩ := rx
    cases y with
    | byt j => obtain ⟨t', rfl⟩ := ry; exact PySem.W.eq_bytes (fin_bl I q dec_byt)
    | _ => exact absurd (show false = true from hs) Bool.false_ne_true
  | _ => cases y <;> exact absurd (show false = true from hs) Bool.false_ne_true
theorem op_ne : OpR X (compareOp .NotEq) rNe := by
  intro pins s σ H x y v u Q I rx ry h
  obtain ⟨hs, q⟩ := h
  cases x with
  | non =>
    cases rx
    cases y with
    | non => cases ry; exact PySem.EqNone.ne_none_none (fin_bl I q (by simp))
    | bl j => cases ry; exact PySem.EqNone.ne_none_bool (fin_bl I q (by simp))
    | int j => obtain ⟨t', rfl⟩ := ry; exact PySem.EqNone.ne_none_int (fin_bl I q (by simp))
    | str j => obtain ⟨t', rfl⟩ := ry; exact PySem.EqNone.ne_none_str (fin_bl I q (by simp))
    | _ => exact absurd (show false = true from hs) Bool.false_ne_true
  | bl i =>
    cases rx
    cases y with
    | non => cases ry; exact PySem.EqNone.ne_bool_none (fin_bl I q (by simp))
    | bl j => cases ry; exact ne_bool (fin_bl I q (congrArg not dec_bl))
    | str j => obtain ⟨t', rfl⟩ := ry; exact PySem.EqMixed.ne_bool_str (fin_bl I q (by simp))
    | _ => exact absurd (show false = true from hs) Bool.false_ne_true
  | int i =>
    obtain ⟨t, rfl⟩ := rx
    cases y with
    | non => cases ry; exact PySem.EqNone.ne_int_none (fin_bl I q (by simp))
    | int j => obtain ⟨t', rfl⟩ := ry; exact ne_int (fin_bl I q (congrArg not dec_int))
    | str j => obtain ⟨t', rfl⟩ := ry; exact PySem.EqMixed.ne_int_str (fin_bl I q (by simp))
    | _ => exact absurd (show false = true from hs) Bool.false_ne_true
  | str i =>
    obtain ⟨t, rfl⟩ := rx
    cases y with
    | non => cases ry; exact PySem.EqNone.ne_str_none (fin_bl I q (by simp))
    | bl j => cases ry; exact PySem.EqMixed.ne_str_bool (fin_bl I q (by simp))
    | int j => obtain ⟨t', rfl⟩ := ry; exact PySem.EqMixed.ne_str_int (fin_bl I q (by simp))
    | str j => obtain ⟨t', rfl⟩ := ry; exact ne_str (fin_bl I q (congrArg not dec_str))
    | _ => exact absurd (show false = true from hs) Bool.false_ne_true
  | byt i =>
    obtain ⟨t, rfl⟩ := rx
    cases y with
    | byt j => obtain ⟨t', rfl⟩ := ry; exact PySem.W.ne_bytes (fin_bl I q (congrArg not dec_byt))
    | _ => exact absurd (show false = true from hs) Bool.false_ne_true
  | _ => cases y <;> exact absurd (show false = true from hs) Bool.false_ne_true
theorem op_lt : OpR X (compareOp .Lt) (rI0 fun i j => .bl (decide (i < j))) := opB0 fun _ _ _ _ _ _ _ q => lt_int q
theorem op_le : OpR X (compareOp .LtE) (rI0 fun i j => .bl (decide (i ≤ j))) := opB0 fun _ _ _ _ _ _ _ q => le_int q
theorem op_gt : OpR X (compareOp .Gt) (rI0 fun i j => .bl (decide (j < i))) := opB0 fun _ _ _ _ _ _ _ q => gt_int q
theorem op_ge : OpR X (compareOp .GtE) (rI0 fun i j => .bl (decide (j ≤ i))) := opB0 fun _ _ _ _ _ _ _ q => ge_int q
theorem nomark (b : Expr) {op : CmpOp} (h : op ≠ .In := by decide) (h2 : op ≠ .NotIn := by decide) : behindInMarks op b = false := by
  have e1 : (op == CmpOp.In) = false := by cases op <;> first | rfl | exact absurd rfl h
  have e2 : (op == CmpOp.NotIn) = false := by cases op <;> first | rfl | exact absurd rfl h2
  cases b <;> simp [behindInMarks, e1, e2]
theorem pe_cmpR {op : CmpOp} {r : R2} (ho : OpR X (compareOp op) r) (ha : PE X a ta) (hb : PE X b tb) (hm : behindInMarks op b = false) : PE X (.Compare a [op] [b] pos) (tOp r ta tb) := by
  intro pins s σ H Q I h
  exact wpAny_Compare1 (binT ha hb I h fun v u s2 x y H2 I2 rx ry q => ho pins s2 σ H2 x y v u Q I2 rx ry q) hm
def tTest (t : TE) : TT := fun σ H Q => t σ H fun x H' => ∃ k, x = .bl k ∧ Q k H'
theorem pt_cmpR {op : CmpOp} {r : R2} (ho : OpR X (compareOp op) r) (ha : PE X a ta) (hb : PE X b tb) (hm : behindInMarks op b = false) : PT X (.Compare a [op] [b] pos) (tTest (tOp r ta tb)) := by
  intro pins s σ H Q I h
  refine wpAny_isTrue_Compare1 (thn (ha pins s σ H _ I h) fun v s1 ⟨x, H1, I1, r1, q1⟩ => thn (hb pins s1 σ H1 _ I1 q1) fun u s2 ⟨y, H2, I2, r2, q2⟩ =>
    thn (ho pins s2 σ H2 x y v u _ I2 r1 r2 q2) fun c s3 ⟨z, H3, I3, r3, k, e, q3⟩ => ?_) hm
  subst e
  cases r3
  exact wpAny_truthy_bool ⟨H3, I3, q3⟩
theorem line63 : (sizeLine : Nat) < 2 ^ 63 := by rw [sizeLine_eq]; decide
theorem vals1 {x : V} {us : List Value} (r : Vals [x] us) : ∃ u, us = [u] ∧ RelV x u := by
  cases r with
  | cons r1 r2 => cases r2; exact ⟨_, rfl, r1⟩
end
end L2
namespace L2
open PySem PySem.Spec PyProof.Rows
structure ObjM (h : Heap) (x dx C : Addr) (mA : Str → Option Value) : Prop where
  obj : h.get? x = some (PySem.W.instObj C dx)
  ns : h.Ns1 dx mA
  ne : dx ≠ x
theorem lookIn_ns {h : Heap} {dx : Addr} {mA : Str → Option Value} (n : h.Ns1 dx mA) : ∃ od, h.get? dx = some od ∧ ∀ name, PySem.W.lookIn name od = some (mA name) := by
  obtain ⟨o, es, ep, ho, hd, hk, _, hm⟩ := n
  refine ⟨o, ho, fun name => ?_⟩
  have e := hm name
  unfold nsFind findBy at e
  rw [← Array.find?_toList] at e
  unfold PySem.W.lookIn
  rw [hd]
  dsimp only
  split
  · rename_i y q
    rw [q] at e
    exact congrArg some e
  · rename_i q
    rw [q] at e
    have a : es.toList.any (·.refKey) = false := by
      rw [List.any_eq_false]
      intro y hy
      obtain ⟨z, t, hkey⟩ := hk y (Array.mem_toList_iff.mp hy)
      simp [DictEntry.refKey, hkey]
    have a' : ¬ es.toList.any (·.refKey) = true := by rw [a]; exact Bool.false_ne_true
    rw [if_neg a']
    exact congrArg some e
theorem ObjM.look {h : Heap} {x dx C : Addr} {mA : Str → Option Value} (I : ObjM h x dx C mA) : ∃ od, PySem.W.InstAt h x (PySem.W.instObj C dx) C (some od) ∧ ∀ name, PySem.W.lookIn name od = some (mA name) :=
  let ⟨od, ho, hl⟩ := lookIn_ns I.ns
  ⟨od, ⟨I.obj, rfl, rfl, ho⟩, hl⟩
section
variable {prog : Program} {w : World} {A : Around} {E : Value → Shared → Prop} {s : Shared} {K : PySem.W.Frag} {x dx C f : Addr} {mA : Str → Option Value} {name : Str} {v : Value}
theorem get_map {expr : Bool} {Q : Value → Shared → Prop} (X : K.In s.heap) (I : ObjM s.heap x dx C mA) (hg : PySem.W.plainGet K C name = true) (hh : PySem.W.hasDictIn K C = true)
    (ha : PySem.W.findIn K (.ref C) name = some none) (hv : mA name = some v) (hv' : PySem.W.handedIn v = true) (h : Q v { s with toks := s.toks + 1 }) :
    wpAny (model prog w) A (getAttr (.ref x) name expr) Q E s := by
  obtain ⟨od, J, hl⟩ := I.look
  exact PySem.W.get_value X J (PySem.W.plainGet_of hg).1 (PySem.W.findObj_own hh ha rfl (by rw [hl, hv])) hv' h
theorem get_meth {pl : Sem Bool} {Q : Value × List Value → Shared → Prop} (X : K.In s.heap) (I : ObjM s.heap x dx C mA) (hg : PySem.W.plainGet K C name = true)
    (hf : PySem.W.findIn K (.ref C) name = some (some (.ref f))) (ht : PySem.W.isFn K (.ref f) = true) (hv : mA name = none) (h : Q (.ref f, [.ref x]) s) :
    wpAny (model prog w) A (getMethod (.ref x) name pl) Q E s := by
  obtain ⟨od, J, hl⟩ := I.look
  exact PySem.W.method_fn X J (PySem.W.plainGet_of hg).1 (PySem.W.plainGet_of hg).2 hf (beq_iff_eq.mp ht) (by show (PySem.W.lookIn name od).map (·.isSome) = some false; rw [hl, hv]; rfl) h
theorem set_map {ns : List Str} {Q : Unit → Shared → Prop} (X : K.In s.heap) (I : ObjM s.heap x dx C mA)
    (hs : PySem.W.findIn K (.ref C) "__setattr__" = some (some (.builtin "object.__setattr__"))) (hp : PySem.W.plainOver K C = true) (ht : PySem.W.takerIn K C name = some none) (hh : PySem.W.hasDictIn K C = true)
    (hw : PySem.Within mA ns) (hsz : ns.length ≤ sizeLine)
    (h : ∀ h', ObjM h' x dx C (fun y => if y = name then some v else mA y) → Heap.SameBut dx s.heap h' → Q () { s with heap := h', toks := s.toks + 2 }) :
    wpAny (model prog w) A (setAttr (.ref x) name v) Q E s := by
  obtain ⟨od, J, hl⟩ := I.look
  refine PySem.W.set_plain X J hs (PySem.W.osa_open (s := { s with toks := s.toks + 1 }) (r := none) X J hp ht fun b => ?_)
  obtain ⟨cd, hc, hd'⟩ := PySem.W.any_some hh
  have hx : s.heap.get? x = some ⟨.ref C, some dx, .plain, #[]⟩ := I.obj
  refine wpAny_bind (wpAny_pure (wpAny_bind (wpAny_bind (wpAny_loadPart hx (wpAny_bind (PySem.W.Looks.here (s := { s with toks := s.toks + 1 }) (PySem.W.looks_clsIn X hc) ?_))))))
  rw [hd']
  refine wpAny_pure (a := some dx) (wpAny_bind (wpAny_pure (wpAny_bind ?_)))
  refine wpAny_nsSet1 (s := { s with toks := s.toks + 1 }) I.ns fun h' hn2 hs2 => ?_
  obtain ⟨oD, esD, epD, hoD, hdD, hcD⟩ := hn2.count (PySem.Within.cons name v hw)
  refine wpAny_bind (wpAny_lookBehind hoD (by rw [hdD]; exact pastItsLine_dict (Nat.le_trans hcD (by rw [List.length_cons]; omega))) ?_)
  exact wpAny_pure (h _ ⟨(hs2.2 _ (Ne.symm I.ne)).trans I.obj, hn2, I.ne⟩ hs2)
theorem make_map {R : Result → Shared → Prop} {vs : List Value} {kw : List (Str × Value)} (X : K.In s.heap) (hm : PySem.W.makesIn K C = true)
    (hi : PySem.W.findIn K (.ref C) "__init__" = some (some (.ref f))) (hf : PySem.W.typeIn K (.ref f) = some (.type "function"))
    (h : codeAny (model prog w) (A.under (.builtin "type.__call__" ⟨.ref C :: vs, kw⟩)) (.call (.ref f) ⟨.ref (s.heap.objs.size + 1) :: vs, kw⟩) (PySem.W.InitBack (s.heap.objs.size + 1) R)
      { s with heap := (s.heap.push PySem.W.emptyDict).push (PySem.W.instObj C s.heap.objs.size) }) :
    codeAny (model prog w) A (.call (.ref C) ⟨vs, kw⟩) R s := by
  obtain ⟨hh, g, d, t, os⟩ := s
  exact PySem.W.make_core (PySem.W.makes_of X hm) (PySem.W.looks_findIn X hi) (fun self => PySem.W.bind_fn X self hf) (.inl rfl) h
end
def putF (f : Str) (v : V) : List (Str × V) → List (Str × V)
  | [] => [(f, v)]
  | (g, x) :: r => if g = f then (g, v) :: r else (g, x) :: putF f v r
theorem lookup_putF (f g : Str) (v : V) : ∀ fs : List (Str × V), (putF f v fs).lookup g = if g = f then some v else fs.lookup g
  | [] => by
    show List.lookup g [(f, v)] = _
    by_cases h : g = f
    · have hb : (g == f) = true := beq_iff_eq.mpr h
      simp only [List.lookup, hb, if_pos h]
    · have hb : (g == f) = false := beq_eq_false_iff_ne.mpr h
      simp only [List.lookup, hb, if_neg h]
  | (k, x) :: r => by
    have ih := lookup_putF f g v r
    rw [show putF f v ((k, x) :: r) = (if k = f then (k, v) :: r else (k, x) :: putF f v r) from rfl]
    by_cases hk : k = f
    · rw [if_pos hk]
      by_cases h : g = k
      · have hb : (g == k) = true := beq_iff_eq.mpr h
        simp only [List.lookup, hb, if_pos (h.trans hk)]
      · have hb : (g == k) = false := beq_eq_false_iff_ne.mpr h
        simp only [List.lookup, hb, if_neg (fun e : g = f => h (e.trans hk.symm))]
    · rw [if_neg hk]
      by_cases h : g = k
      · have hb : (g == k) = true := beq_iff_eq.mpr h
        simp only [List.lookup, hb, if_neg (fun e : g = f => hk (h.symm.trans e))]
      · have hb : (g == k) = false := beq_eq_false_iff_ne.mpr h
        simp only [List.lookup, hb]
        exact ih
theorem keys_putF (f : Str) (v : V) : ∀ fs : List (Str × V), f ∈ (putF f v fs).map (·.1) ∧ ∀ g, g ∈ fs.map (·.1) → g ∈ (putF f v fs).map (·.1)
  | [] => ⟨by simp [putF], fun g h => by simp at h⟩
  | (k, x) :: r => by
    obtain ⟨i1, i2⟩ := keys_putF f v r
    rw [show putF f v ((k, x) :: r) = (if k = f then (k, v) :: r else (k, x) :: putF f v r) from rfl]
    by_cases hk : k = f
    · rw [if_pos hk]
      subst hk
      exact ⟨by simp, fun g h => by simpa using h⟩
    · rw [if_neg hk]
      refine ⟨?_, fun g h => ?_⟩
      · rw [List.map_cons]
        exact List.mem_cons_of_mem _ i1
      · rw [List.map_cons] at h ⊢
        rcases List.mem_cons.mp h with e | e
        · exact List.mem_cons.mpr (.inl e)
        · exact List.mem_cons_of_mem _ (i2 g e)
theorem length_putF (f : Str) (v : V) : ∀ fs : List (Str × V), (putF f v fs).length ≤ fs.length + 1
  | [] => by simp [putF]
  | (k, x) :: r => by
    have ih := length_putF f v r
    rw [show putF f v ((k, x) :: r) = (if k = f then (k, v) :: r else (k, x) :: putF f v r) from rfl]
    by_cases hk : k = f
    · rw [if_pos hk, List.length_cons, List.length_cons]; omega
    · rw [if_neg hk, List.length_cons, List.length_cons]; omega
theorem RelO.some_of {v : V} {o : Option Value} (r : RelO (some v) o) : ∃ u, o = some u ∧ RelV v u := by
  cases o with
  | none => exact (show False from r).elim
  | some u => exact ⟨u, rfl, r⟩
theorem RelO.none_of {o : Option Value} (r : RelO none o) : o = none := by
  cases o with
  | none => rfl
  | some u => exact (show False from r).elim
theorem handed_of {v : V} {u : Value} (r : RelV v u) : PySem.W.handedIn u = true := by
  cases v with
  | non => cases (show u = Value.none from r); rfl
  | bl b => cases (show u = Value.bool b from r); rfl
  | int i => obtain ⟨t, e⟩ := (show ∃ t, u = Value.int i t from r); cases e; rfl
  | str x => obtain ⟨t, e⟩ := (show ∃ t, u = Value.str x t from r); cases e; rfl
  | byt b => obtain ⟨t, e⟩ := (show ∃ t, u = Value.bytes b t from r); cases e; rfl
  | flt b => obtain ⟨t, e⟩ := (show ∃ t, u = Value.float b t from r); cases e; rfl
  | ref a => cases (show u = Value.ref a from r); rfl
  | ty n => cases (show u = Value.type n from r); rfl
section
variable {P : Program} {w : World} {H H' : Hp} {h h' : Heap} {a C dx : Addr} {fs fs' : List (Str × V)}
theorem ins_get (hok : HOk P w H h) (e : H a = some (.ins C dx fs)) : ∃ mA, ObjM h a dx C mA ∧ (∀ f, RelO (fs.lookup f) (mA f)) ∧ PySem.Within mA (fs.map (·.1)) ∧ fs.length ≤ 1000 ∧ H dx = some (.own a) := by
  obtain ⟨d, z, ne, ob, mA, n, r, q⟩ := (show ObjOk P w H h a (.ins C dx fs) from hok a _ e)
  exact ⟨mA, ⟨ob, n, ne⟩, r, q, z, d⟩
end
structure Cls (K : PySem.W.Frag) (C : Addr) : Prop where
  pg : PySem.W.plainGet K C Str.empty = true
  hd : PySem.W.hasDictIn K C = true
  po : PySem.W.plainOver K C = true
  sa : PySem.W.findIn K (.ref C) "__setattr__" = some (some (.builtin "object.__setattr__"))
theorem Cls.get {K : PySem.W.Frag} {C : Addr} (c : Cls K C) (f : Str) : PySem.W.plainGet K C f = true := c.pg
def NoAttr (K : PySem.W.Frag) (C : Addr) (f : Str) : Prop := PySem.W.findIn K (.ref C) f = some none
theorem NoAttr.taker {K : PySem.W.Frag} {C : Addr} {f : Str} (n : NoAttr K C f) : PySem.W.takerIn K C f = some none := by
  unfold PySem.W.takerIn
  rw [show PySem.W.findIn K (.ref C) f = some none from n]
  rfl
structure Meth (K : PySem.W.Frag) (C : Addr) (m : Str) (f : Addr) : Prop where
  at_ : PySem.W.findIn K (.ref C) m = some (some (.ref f))
  fn : PySem.W.isFn K (.ref f) = true
  kp : PySem.W.keepIn K (.ref f) = true
section
variable {X : Cx} {pins : List (Addr × Obj)} {σ : St} {H : Hp} {s : Shared} {a C dx : Addr} {fs : List (Str × V)} {f : Str} {v : V} {A : Around} {E : Value → Shared → Prop}
theorem getattr_ok {b : Bool} {Q : Value → Shared → Prop} (I : Inv X pins σ H s) (e : H a = some (.ins C dx fs)) (c : Cls X.K C) (n : NoAttr X.K C f) (l : fs.lookup f = some v)
    (h : ∀ u s', Inv X pins σ H s' → RelV v u → Q u s') : wpAny (model X.prog X.w) A (getAttr (.ref a) f b) Q E s := by
  obtain ⟨mA, O, r, _, _, _⟩ := ins_get I.hok e
  obtain ⟨u, hu, ru⟩ := RelO.some_of (v := v) (o := mA f) (by rw [← l]; exact r f)
  exact get_map I.kIn O (c.get f) c.hd n hu (handed_of ru) (h u _ (I.tok _) ru)
theorem getmeth_ok {m : Str} {g : Addr} {pl : Sem Bool} {Q : Value × List Value → Shared → Prop} (I : Inv X pins σ H s) (e : H a = some (.ins C dx fs)) (c : Cls X.K C) (k : Meth X.K C m g) (l : fs.lookup m = none)
    (h : Q (.ref g, [.ref a]) s) : wpAny (model X.prog X.w) A (getMethod (.ref a) m pl) Q E s := by
  obtain ⟨mA, O, r, _, _, _⟩ := ins_get I.hok e
  have hn : mA m = none := RelO.none_of (by rw [← l]; exact r m)
  exact get_meth I.kIn O (c.get m) k.at_ k.fn hn h
theorem setattr_ok {y : V} {u : Value} {Q : Unit → Shared → Prop} (I : Inv X pins σ H s) (e : H a = some (.ins C dx fs)) (c : Cls X.K C) (n : NoAttr X.K C f) (hl : fs.length < 1000) (ry : RelV y u)
    (h : ∀ s', Inv X pins σ (upd H a (.ins C dx (putF f y fs))) s' → Q () s') : wpAny (model X.prog X.w) A (setAttr (.ref a) f u) Q E s := by
  obtain ⟨mA, O, r, wi, _, ho⟩ := ins_get I.hok e
  have hz : (fs.map (·.1)).length ≤ sizeLine := by rw [List.length_map, sizeLine_eq]; omega
  refine set_map I.kIn O c.sa c.po n.taker c.hd wi hz fun h' O' sb => h _ ?_
  have hd : ∃ o, h'.get? dx = some o := let ⟨o, _, _, e', _⟩ := O'.ns; ⟨o, e'⟩
  refine I.write (x := a) (e := dx) (by rw [e]; exact True.intro) (.inr ho) (fun b q hb z => (sb.2 b hb).trans z) hd ?_
  refine ⟨by rw [upd_ne O.ne]; exact ho, ?_, O.ne, O'.obj, _, O'.ns, fun g => ?_, fun g hg => ?_⟩
  · have := length_putF f y fs; omega
  · show RelO ((putF f y fs).lookup g) (if g = f then some u else mA g)
    rw [lookup_putF]
    by_cases q : g = f
    · rw [if_pos q, if_pos q]; exact ry
    · rw [if_neg q, if_neg q]; exact r g
  · by_cases q : g = f
    · rw [q]; exact (keys_putF f y fs).1
    · refine (keys_putF f y fs).2 g (wi g fun z => hg ?_)
      show (if g = f then some u else mA g) = none
      rw [if_neg q]; exact z
theorem Inv.made (I : Inv X pins σ H s) : Inv X pins σ (upd (upd H s.heap.objs.size (.own (s.heap.objs.size + 1))) (s.heap.objs.size + 1) (.ins C s.heap.objs.size []))
    { s with heap := (s.heap.push PySem.W.emptyDict).push (PySem.W.instObj C s.heap.objs.size) } := by
  have e1 : (s.heap.push PySem.W.emptyDict).get? s.heap.objs.size = some PySem.W.emptyDict := Heap.get?_push_size s.heap rfl
  have e2 : ((s.heap.push PySem.W.emptyDict).push (PySem.W.instObj C s.heap.objs.size)).get? (s.heap.objs.size + 1) = some (PySem.W.instObj C s.heap.objs.size) := by
    have := Heap.get?_push_size (s.heap.push PySem.W.emptyDict) (o := PySem.W.instObj C s.heap.objs.size) rfl
    rwa [Heap.size_push] at this
  have e3 : (s.heap.push PySem.W.emptyDict).Ns s.heap.objs.size (fun _ => none) := ⟨PySem.W.emptyDict, #[], _, e1, rfl, (fun e he => absurd he (by simp)), fun _ => rfl⟩
  have I1 := I.laid (a := s.heap.objs.size) (o := .own (s.heap.objs.size + 1)) (h' := s.heap.push PySem.W.emptyDict) (t' := s.toks) (fun b u q => Heap.get?_push_of_some _ q) (Nat.le_refl _) ⟨_, e1⟩
  refine I1.laid (a := s.heap.objs.size + 1) (o := .ins C s.heap.objs.size []) (t' := s.toks) (fun b u q => Heap.get?_push_of_some _ q) (Nat.le_of_eq (Heap.size_push _ _)) ?_
  have ne : s.heap.objs.size ≠ s.heap.objs.size + 1 := Nat.ne_of_lt (Nat.lt_succ_self _)
  refine ⟨by rw [upd_ne ne, upd_same], Nat.zero_le _, ne, e2, fun _ => none, (Heap.Ns1.of_empty e3).at fun o q => Heap.get?_push_of_some _ q, fun _ => True.intro, fun y hy => absurd rfl hy⟩
theorem attr_of {prog : Program} {w : World} {env : Env} {e : Expr} {f : Str} {pos : Pos} {s : Shared} {Q : Value → Shared → Prop} (hb : attributeBase e f env (eval e env) = eval e env)
    (h : wpAny (model prog w) A (eval e env) (fun o s₁ => wpAny (model prog w) A (getAttr o f true) Q E s₁) E s) : wpAny (model prog w) A (eval (.Attribute e f pos) env) Q E s :=
  Attribute_any_ h (by rw [arm_eval_Attribute, hb])
end
def tFld (K : PySem.W.Frag) (ta : TE) (f : Str) : TE := fun σ H Q => ta σ H fun x H1 => ∃ a C dx fs v, x = .ref a ∧ H1 a = some (.ins C dx fs) ∧ Cls K C ∧ NoAttr K C f ∧ fs.lookup f = some v ∧ Q v H1
def sFld (K : PySem.W.Frag) (ta tv : TE) (f : Str) : TS := fun D σ H => tv σ H fun y H1 => ta σ H1 fun x H2 => ∃ a C dx fs, x = .ref a ∧ H2 a = some (.ins C dx fs) ∧ Cls K C ∧ NoAttr K C f ∧ fs.length < 1000 ∧
  D.nx σ (upd H2 a (.ins C dx (putF f y fs)))
section
variable {X : Cx} {o e value : Expr} {f : Str} {pos pos' tpos : Pos} {ta tv : TE}
theorem pe_fld (he : PE X e ta) (hb : attributeBase e f X.env (eval e X.env) = eval e X.env) : PE X (.Attribute e f pos) (tFld X.K ta f) := by
  intro pins s σ H Q I h
  refine attr_of hb (thn (he pins s σ H _ I h) fun u s1 ⟨x, H1, I1, rx, a, C, dx, fs, v, ex, ea, c, n, l, q⟩ => ?_)
  subst ex
  obtain rfl : u = Value.ref a := rx
  exact getattr_ok I1 ea c n l fun u' s2 I2 ru => ⟨v, H1, I2, ru, q⟩
theorem ps_fld (ha : PE X o ta) (hv : PE X value tv) (hs : swapsWith value (some (.Attribute o f pos')) pos.line X.env = pure false) : PS X (.Assign [.Attribute o f pos'] value pos) (sFld X.K ta tv f) := by
  intro pins s σ H D I h
  refine plainObj_wpAny_Assign_Attribute (thn (hv pins s σ H _ I h) fun u s1 ⟨y, H1, I1, ry, q⟩ => thn (ha pins s1 σ H1 _ I1 q) fun ov s2 ⟨x, H2, I2, rx, a, C, dx, fs, ex, ea, c, n, l, q2⟩ => ?_) hs
  subst ex
  obtain rfl : ov = Value.ref a := rx
  exact setattr_ok I2 ea c n l ry fun s3 I3 => ⟨σ, _, I3, q2⟩
end
end L2
namespace L2
open PySem PySem.Spec PyProof.Rows
structure Room (k : Nat) (A : Around) : Prop where
  hd : A.handled = none
  dp : A.depth + 3 * k + 5 < recursionLimit
  un : A.units + 16 * k + 200 < cLine
theorem Room.mono {j k : Nat} {A : Around} (r : Room k A) (h : j ≤ k) : Room j A := ⟨r.hd, by have := r.dp; omega, by have := r.un; omega⟩
theorem Room.deeper {k : Nat} {A : Around} (r : Room (k + 1) A) (env : Env) : Room k (A.deeper env) :=
  ⟨r.hd, by have := r.dp; show A.depth + 1 + 3 * k + 5 < _; omega, by have := r.un; show A.units + 3 + 16 * k + 200 < _; omega⟩
theorem make_depth {A : Around} {C : Addr} {us : List Value} {kw : List (Str × Value)} : (A.under (.builtin "type.__call__" ⟨.ref C :: us, kw⟩)).depth = A.depth + 1 := by
  first | rfl | simp [Around.under, Code.weight, Code.isCreation, Code.isGuard, Code.isCaller, Code.frames, Code.isFrame, guardIds]
theorem make_units {A : Around} {C : Addr} {us : List Value} {kw : List (Str × Value)} : (A.under (.builtin "type.__call__" ⟨.ref C :: us, kw⟩)).units = A.units + 1 := by
  first | rfl | simp [Around.under, Code.cUnits, Code.frames, Code.isFrame]
theorem Room.make {k : Nat} {A : Around} (r : Room (k + 1) A) (C : Addr) (us : List Value) (kw : List (Str × Value)) : Room k (A.under (.builtin "type.__call__" ⟨.ref C :: us, kw⟩)) :=
  ⟨r.hd, by have := r.dp; rw [make_depth]; omega, by have := r.un; rw [make_units]; omega⟩
theorem Room.depth {k : Nat} {A : Around} (r : Room k A) : A.depth < recursionLimit := by have := r.dp; omega
theorem Room.units {k : Nat} {A : Around} (r : Room k A) : A.units + 64 < cLine := by have := r.un; omega
def tNil : TA := fun _ H Q => Q [] H
def tCons (ta : TE) (tr : TA) : TA := fun σ H Q => ta σ H fun x H1 => tr σ H1 fun xs H2 => Q (x :: xs) H2
section
variable {X : Cx} {e : Expr} {es : List Expr} {te : TE} {t : TA} {pos : Pos}
theorem pa_nil : PA X [] tNil := fun _ _ _ _ H Q I h => Calls.spliced_nil ⟨[], H, I, .nil, h⟩
theorem pa_cons (ha : PE X e te) (hr : PA X es t) (hs : starEach (e :: es) X.env = (false, eval e X.env) :: starEach es X.env := by rfl) : PA X (e :: es) (tCons te t) := by
  intro pos pins s σ H Q I h
  rw [hs]
  show wpAny _ _ (spliced ((false, eval e X.env) :: backTo pos (starEach es X.env))) _ _ s
  refine Calls.spliced_cons (thn (ha pins s σ H _ I h) fun u s1 ⟨x, H1, I1, r1, q1⟩ => ?_)
  exact thn (hr pos pins s1 σ H1 _ I1 q1) fun us s2 ⟨xs, H2, I2, r2, q2⟩ => ⟨x :: xs, H2, I2, .cons r1 r2, q2⟩
def tTup (t : TA) : TE := fun σ H Q => t σ H fun xs H1 => xs.length ≤ sizeLine ∧ ∀ p, H1 p = none → Q (.ref p) (upd H1 p (.tup xs))
def tLst (t : TA) : TE := fun σ H Q => t σ H fun xs H1 => xs.length ≤ sizeLine ∧ ∀ p, H1 p = none → Q (.ref p) (upd H1 p (.lst xs))
theorem pe_tup {x1} (h : PA X es t) : PE X (.Tuple es x1 pos) (tTup t) := by
  intro pins s σ H Q I hq
  refine wpAny_Tuple_spliced (thn (h pos pins s σ H _ I hq) fun us s1 ⟨xs, H1, I1, r, z, q⟩ => ⟨by rw [← r.length]; exact z, ?_⟩)
  have hf : H1 s1.heap.objs.size = none := I1.hok.fresh (Nat.le_refl _)
  refine ⟨.ref s1.heap.objs.size, upd H1 s1.heap.objs.size (.tup xs), I1.laid (t' := s1.toks) (fun b u e => Heap.get?_push_of_some _ e) (Nat.le_refl _) ?_, rfl, q _ hf⟩
  exact ⟨z, us, r, ⟨_, Heap.get?_push_size _ rfl, rfl, _, rfl⟩⟩
theorem pe_lst (h : PA X es t) : PE X (.List es pos) (tLst t) := by
  intro pins s σ H Q I hq
  refine wpAny_List_spliced (thn (h pos pins s σ H _ I hq) fun us s1 ⟨xs, H1, I1, r, z, q⟩ => ⟨by rw [← r.length]; exact z, ?_⟩)
  have hf : H1 s1.heap.objs.size = none := I1.hok.fresh (Nat.le_refl _)
  refine ⟨.ref s1.heap.objs.size, upd H1 s1.heap.objs.size (.lst xs), I1.laid (t' := s1.toks) (fun b u e => Heap.get?_push_of_some _ e) (Nat.le_refl _) ?_, rfl, q _ hf⟩
  exact ⟨z, us, 0, r, Heap.get?_push_size _ rfl⟩
end
abbrev Sp := List V → Hp → VK → XK → Prop
abbrev CXT := List Env → Hp → Shared → XK → Value → Shared → Prop
structure Env0 (P : Program) (w : World) (K : PySem.W.Frag) (mg : Str → Option Value) (base : Heap) (A : Around) (outer : List Env) (s : Shared) (H : Hp) : Prop where
  frames : A.frames = some outer
  mod : Mod K mg base
  bs : ∀ b o, base.get? b = some o → s.heap.get? b = some o ∧ H b = none
  bsz : base.objs.size ≤ s.heap.objs.size
  funs : s.heap.FunFrames base outer
  frf : ∀ b ∈ frs outer, H b = none
  hok : HOk P w H s.heap
  bare : AllBare s.gens
def CE (outer : List Env) (P : Program) (w : World) (H : Hp) (s : Shared) (Q : VK) (u : Value) (s' : Shared) : Prop :=
  ∃ v H', s'.os = s.os ∧ AllBare s'.gens ∧ Un (frs outer) [] H H' s.heap s'.heap ∧ HOk P w H' s'.heap ∧ RelV v u ∧ Q v H'
def CR (CX : CXT) (outer : List Env) (P : Program) (w : World) (H : Hp) (s : Shared) (Q : VK) (E : XK) (r : Result) (s' : Shared) : Prop :=
  match r with
  | .ok (.ret u) => CE outer P w H s Q u s'
  | .ok _ => False
  | .error e => CX outer H s E e s'
structure FnOk (P : Program) (w : World) (K : PySem.W.Frag) (mg : Str → Option Value) (base : Heap) (CX : CXT) (k : Nat) (f : Addr) (fd : FuncData) (ps : List Str) (sp : Sp) : Prop where
  len : ∀ vs H Q E, sp vs H Q E → vs.length = ps.length
  run : ∀ (A : Around) (outer : List Env) (s : Shared) (H : Hp) (args : Args) (us : List Value) (vs : List V) (Q : VK) (E : XK), Room k A → Env0 P w K mg base A outer s H → BindsTo s fd args (ps.zip us) → Vals vs us → sp vs H Q E →
    codeAny (model P w) A (.call (.ref f) args) (CR CX outer P w H s Q E) s
theorem Env0.make {P : Program} {w : World} {K : PySem.W.Frag} {mg : Str → Option Value} {base : Heap} {A : Around} {outer : List Env} {s : Shared} {H : Hp} (e : Env0 P w K mg base A outer s H) (C : Addr) (us : List Value) (kw : List (Str × Value)) :
    Env0 P w K mg base (A.under (.builtin "type.__call__" ⟨.ref C :: us, kw⟩)) outer s H := ⟨by first | exact e.frames | (simpa [Around.under, Code.envs, Code.isFrame, pushEnvs] using e.frames), e.mod, e.bs, e.bsz, e.funs, e.frf, e.hok, e.bare⟩
section
variable {X : Cx} {pins : List (Addr × Obj)} {σ : St} {H : Hp} {s s' : Shared}
theorem Inv.env0 (I : Inv X pins σ H s) : Env0 X.prog X.w X.K X.mg X.base X.A X.stack s H :=
  ⟨I.ok.frames, I.ok.mod, I.bs, Nat.le_trans I.ok.bsz I.sz, I.stack, I.stkFree, I.hok, I.bare⟩
theorem Inv.after {Q : VK} {u : Value} (I : Inv X pins σ H s) (h : CE X.stack X.prog X.w H s Q u s') : EP X pins σ Q u s' := by
  obtain ⟨v, H', os, bare, un, hok, r, q⟩ := h
  obtain ⟨hh, g, d, t, os'⟩ := s'
  obtain rfl : os' = s.os := os
  exact ⟨v, H', I.call (h' := hh) (g' := g) (d' := d) (t' := t) (ch := []) un hok bare (fun b z => absurd z (by simp)), r, q⟩
end
def tCall (sp : Sp) (dvs : List V) (E : XK) (t : TA) : TE := fun σ H Q => t σ H fun vs H1 => sp (vs ++ dvs) H1 Q E
def tMeth (C : Addr) (m : Str) (sp : Sp) (dvs : List V) (E : XK) (ta : TE) (t : TA) : TE := fun σ H Q => ta σ H fun x H1 => ∃ a dx fs, x = .ref a ∧ H1 a = some (.ins C dx fs) ∧ fs.lookup m = none ∧
  t σ H1 fun vs H2 => sp (x :: (vs ++ dvs)) H2 Q E
def tMake (C : Addr) (sp : Sp) (dvs : List V) (E : XK) (t : TA) : TE := fun σ H Q => t σ H fun vs H1 => ∀ x dx, H1 x = none → H1 dx = none → dx ≠ x →
  sp (.ref x :: (vs ++ dvs)) (upd (upd H1 dx (.own x)) x (.ins C dx [])) (fun v H2 => v = .non ∧ Q (.ref x) H2) E
def Binds (K : PySem.W.Frag) (fd : FuncData) (ps : List Str) (ds : List Value) : Prop :=
  ∀ (s : Shared) (us : List Value), K.In s.heap → (us ++ ds).length = ps.length → BindsTo s fd ⟨us, []⟩ (ps.zip (us ++ ds))
theorem Binds.all {K : PySem.W.Frag} {fd : FuncData} {ps : List Str} (h : ∀ us : List Value, us.length = ps.length → bindArgs fd ⟨us, []⟩ = pure (ps.zip us)) : Binds K fd ps [] := fun s us _ hl => by
  rw [List.append_nil] at hl ⊢
  exact .of_eq (h us hl)
def Passes (CX : CXT) (X : Cx) (E : XK) : Prop := ∀ (pins : List (Addr × Obj)) (σ : St) (H : Hp) (s : Shared) (e : Value) (s' : Shared), Inv X pins σ H s → CX X.stack H s E e s' → X.xe e s'
section
variable {X : Cx} {CX : CXT} {k : Nat} {f C : Addr} {fd : FuncData} {ps : List Str} {sp : Sp} {dvs : List V} {ds : List Value} {E : XK} {x m : Str} {p pos apos : Pos} {e o : Expr} {es : List Expr} {ta : TE} {t : TA}
theorem run_fn {pins : List (Addr × Obj)} {σ : St} {H : Hp} {s : Shared} {Q : VK} {us : List Value} {vs : List V} (F : FnOk X.prog X.w X.K X.mg X.base CX k f fd ps sp) (hr : Room k X.A) (hb : Binds X.K fd ps ds) (hd : Vals dvs ds) (hx : Passes CX X E)
    (I : Inv X pins σ H s) (r : Vals vs us) (h : sp (vs ++ dvs) H Q E) : wpAny (model X.prog X.w) X.A (call (.ref f) us) (EP X pins σ Q) X.xe s := by
  have r2 : Vals (vs ++ dvs) (us ++ ds) := r.append hd
  have hl : (us ++ ds).length = ps.length := by rw [← r2.length]; exact F.len _ _ _ _ h
  refine wpAny_call (codeAny_mono (F.run X.A X.stack s H ⟨us, []⟩ (us ++ ds) (vs ++ dvs) Q E hr I.env0 (hb s us I.kIn hl) r2 h) fun r s' hq => ?_)
  cases r with
  | error e => exact hx pins σ H s e s' I hq
  | ok fl =>
    cases fl with
    | ret u => exact I.after hq
    | next => exact False.elim hq
    | brk => exact False.elim hq
    | cont => exact False.elim hq
theorem pe_call (F : FnOk X.prog X.w X.K X.mg X.base CX k f fd ps sp) (hr : Room k X.A) (hg : Gl X x) (hm : X.mg x = some (.ref f)) (hk : PySem.W.keepIn X.K (.ref f) = true) (hb : Binds X.K fd ps ds) (hd : Vals dvs ds) (hx : Passes CX X E)
    (ha : PA X (e :: es) t) (hdb : (x == ("__debug__" : Str)) = false := by decide) (he : starEach (e :: es) X.env = (false, eval e X.env) :: starEach es X.env := by rfl) (hpl : (backTo pos (starEach es X.env)).any (·.1) = false := by rfl) :
    PE X (.Call (.Name x p) (e :: es) [] pos) (tCall sp dvs E t) := by
  intro pins s σ H Q I h
  refine wpAny_Call_Name_kw (ld_glob I hg hm ?_ hdb)
  refine PySem.W.callWith_K (h₀ := X.base) I.ok.mod.kin hk (thn (ha pos pins s σ H _ I h) fun us s1 ⟨vs, H1, I1, r, q⟩ => ⟨I1.kIn, ?_⟩) he hpl
  exact run_fn F hr hb hd hx I1 r q
theorem pe_call0 (F : FnOk X.prog X.w X.K X.mg X.base CX k f fd ps sp) (hr : Room k X.A) (hg : Gl X x) (hm : X.mg x = some (.ref f)) (hk : PySem.W.keepIn X.K (.ref f) = true) (hb : Binds X.K fd ps ds) (hd : Vals dvs ds) (hx : Passes CX X E)
    (hdb : (x == ("__debug__" : Str)) = false := by decide) : PE X (.Call (.Name x p) [] [] pos) (tCall sp dvs E tNil) := by
  intro pins s σ H Q I h
  refine wpAny_Call_Name_kw (ld_glob I hg hm ?_ hdb)
  exact PySem.W.callWith_K0 I.kIn hk (run_fn (us := []) F hr hb hd hx I .nil h)
theorem pe_meth {pl : Sem Bool} (he : PE X o ta) (c : Cls X.K C) (hm : Meth X.K C m f) (F : FnOk X.prog X.w X.K X.mg X.base CX k f fd ps sp) (hr : Room k X.A) (hb : Binds X.K fd ps ds) (hd : Vals dvs ds) (hx : Passes CX X E) (ha : PA X (e :: es) t)
    (hst : starEach (e :: es) X.env = (false, eval e X.env) :: starEach es X.env := by rfl) (hpl : (backTo pos (starEach es X.env)).any (·.1) = false := by rfl)
    (ht : eval (.Call (.Attribute o m apos) (e :: es) [] pos) X.env = (do
      let ov ← eval o X.env
      standAt apos.atName
      let (f, first) ← holding [ov] (getMethod ov m pl)
      callWith pos f first (backTo pos (starEach (e :: es) X.env)) (backToKw pos (keywordEach [] X.env))) := by rfl) :
    PE X (.Call (.Attribute o m apos) (e :: es) [] pos) (tMeth C m sp dvs E ta t) := by
  intro pins s σ H Q I h
  refine PySem.W.methodCall_KW (pl := pl) (thn (he pins s σ H _ I h) fun u s1 ⟨x, H1, I1, rx, a, dx, fs, ex, ea, l, q⟩ => ?_) ht
  subst ex
  obtain rfl : u = Value.ref a := rx
  refine getmeth_ok I1 ea c hm l ?_
  refine PySem.W.callWith_K (first := [.ref a]) (h₀ := X.base) I.ok.mod.kin hm.kp (thn (ha pos pins s1 σ H1 _ I1 q) fun us s2 ⟨vs, H2, I2, r, q2⟩ => ⟨I2.kIn, ?_⟩) hst hpl
  exact run_fn (us := .ref a :: us) (vs := .ref a :: vs) F hr hb hd hx I2 (.cons rfl r) q2
theorem pe_meth0 {pl : Sem Bool} (he : PE X o ta) (c : Cls X.K C) (hm : Meth X.K C m f) (F : FnOk X.prog X.w X.K X.mg X.base CX k f fd ps sp) (hr : Room k X.A) (hb : Binds X.K fd ps ds) (hd : Vals dvs ds) (hx : Passes CX X E)
    (ht : eval (.Call (.Attribute o m apos) [] [] pos) X.env = (do
      let ov ← eval o X.env
      standAt apos.atName
      let (f, first) ← holding [ov] (getMethod ov m pl)
      callWith pos f first (backTo pos (starEach [] X.env)) (backToKw pos (keywordEach [] X.env))) := by rfl) :
    PE X (.Call (.Attribute o m apos) [] [] pos) (tMeth C m sp dvs E ta tNil) := by
  intro pins s σ H Q I h
  refine PySem.W.methodCall_KW (pl := pl) (thn (he pins s σ H _ I h) fun u s1 ⟨x, H1, I1, rx, a, dx, fs, ex, ea, l, q⟩ => ?_) ht
  subst ex
  obtain rfl : u = Value.ref a := rx
  refine getmeth_ok I1 ea c hm l ?_
  exact PySem.W.callWith_K0 (first := [.ref a]) I1.kIn hm.kp (run_fn (us := [.ref a]) (vs := [.ref a]) F hr hb hd hx I1 (.cons rfl .nil) q)
structure Mk (K : PySem.W.Frag) (C f : Addr) : Prop where
  makes : PySem.W.makesIn K C = true
  init : PySem.W.findIn K (.ref C) "__init__" = some (some (.ref f))
  fn : PySem.W.isFn K (.ref f) = true
  kp : PySem.W.keepIn K (.ref C) = true
theorem run_make {pins : List (Addr × Obj)} {σ : St} {H : Hp} {s : Shared} {Q : VK} {us : List Value} {vs : List V} (M : Mk X.K C f) (F : FnOk X.prog X.w X.K X.mg X.base CX k f fd ps sp) (hr : Room (k + 1) X.A) (hb : Binds X.K fd ps ds) (hd : Vals dvs ds)
    (hx : Passes CX X E) (I : Inv X pins σ H s) (r : Vals vs us)
    (h : ∀ x dx, H x = none → H dx = none → dx ≠ x → sp (.ref x :: (vs ++ dvs)) (upd (upd H dx (.own x)) x (.ins C dx [])) (fun v H2 => v = .non ∧ Q (.ref x) H2) E) :
    wpAny (model X.prog X.w) X.A (call (.ref C) us) (EP X pins σ Q) X.xe s := by
  have hq := h (s.heap.objs.size + 1) s.heap.objs.size (I.hok.fresh (Nat.le_succ _)) (I.hok.fresh (Nat.le_refl _)) (Nat.ne_of_lt (Nat.lt_succ_self _))
  have I2 := Inv.made (C := C) I
  have r2 : Vals (V.ref (s.heap.objs.size + 1) :: (vs ++ dvs)) (Value.ref (s.heap.objs.size + 1) :: (us ++ ds)) := .cons rfl (r.append hd)
  have hl : (Value.ref (s.heap.objs.size + 1) :: us ++ ds).length = ps.length := by
    have e := r2.length
    rw [F.len _ _ _ _ hq] at e
    exact e.symm
  refine wpAny_call (make_map (f := f) I.kIn M.makes M.init (beq_iff_eq.mp M.fn) (codeAny_mono (F.run _ X.stack _ _ ⟨Value.ref (s.heap.objs.size + 1) :: us, []⟩ (Value.ref (s.heap.objs.size + 1) :: (us ++ ds)) _ _ E (hr.make C us [])
    (I2.env0.make C us []) (hb _ (Value.ref (s.heap.objs.size + 1) :: us) I2.kIn hl) r2 hq) fun r s' hq' => ?_))
  cases r with
  | error e => exact hx pins σ _ _ e s' I2 hq'
  | ok fl =>
    cases fl with
    | ret u =>
      obtain ⟨v, H', I3, rv, ev, q3⟩ := I2.after hq'
      subst ev
      exact ⟨rv, ⟨V.ref (s.heap.objs.size + 1), H', I3, rfl, q3⟩⟩
    | next => exact False.elim hq'
    | brk => exact False.elim hq'
    | cont => exact False.elim hq'
theorem pe_make (M : Mk X.K C f) (F : FnOk X.prog X.w X.K X.mg X.base CX k f fd ps sp) (hr : Room (k + 1) X.A) (hg : Gl X x) (hm : X.mg x = some (.ref C)) (hb : Binds X.K fd ps ds) (hd : Vals dvs ds) (hx : Passes CX X E)
    (ha : PA X (e :: es) t) (hdb : (x == ("__debug__" : Str)) = false := by decide) (he : starEach (e :: es) X.env = (false, eval e X.env) :: starEach es X.env := by rfl) (hpl : (backTo pos (starEach es X.env)).any (·.1) = false := by rfl) :
    PE X (.Call (.Name x p) (e :: es) [] pos) (tMake C sp dvs E t) := by
  intro pins s σ H Q I h
  refine wpAny_Call_Name_kw (ld_glob I hg hm ?_ hdb)
  refine PySem.W.callWith_K (h₀ := X.base) I.ok.mod.kin M.kp (thn (ha pos pins s σ H _ I h) fun us s1 ⟨vs, H1, I1, r, q⟩ => ⟨I1.kIn, ?_⟩) he hpl
  exact run_make M F hr hb hd hx I1 r q
theorem pe_make0 (M : Mk X.K C f) (F : FnOk X.prog X.w X.K X.mg X.base CX k f fd ps sp) (hr : Room (k + 1) X.A) (hg : Gl X x) (hm : X.mg x = some (.ref C)) (hb : Binds X.K fd ps ds) (hd : Vals dvs ds) (hx : Passes CX X E)
    (hdb : (x == ("__debug__" : Str)) = false := by decide) : PE X (.Call (.Name x p) [] [] pos) (tMake C sp dvs E tNil) := by
  intro pins s σ H Q I h
  refine wpAny_Call_Name_kw (ld_glob I hg hm ?_ hdb)
  exact PySem.W.callWith_K0 I.kIn M.kp (run_make (us := []) M F hr hb hd hx I .nil h)
end
structure FnScope (N P : List Str) (sc : Scope) : Prop where
  kind : sc.kind = .function
  co : sc.isCoroutine = false
  gen : sc.isGenerator = false
  nd : N.Nodup
  pre : N.take P.length = P
  par : ∀ x ∈ P, sc.names.lookup x = some .local ∨ sc.names.lookup x = some .cell
  nofree : ∀ y ∈ sc.names, y.2 ≠ .free
theorem bindL_out {kindOf : Str → Option NameKind} {x : Str} : ∀ {binds : List (Str × Value)} {m : Str → Option Value}, (∀ v, (x, v) ∉ binds) → bindL kindOf binds m x = m x
  | [], _, _ => rfl
  | (n, v) :: r, m, h => by
    unfold bindL
    rw [bindL_out fun w hw => h w (List.mem_cons_of_mem _ hw)]
    split
    · have : x ≠ n := by rintro rfl; exact h v List.mem_cons_self
      simp [this]
    · rfl
theorem bindC_out {kindOf : Str → Option NameKind} {x : Str} : ∀ {binds : List (Str × Value)} {m : Str → Option Value}, (∀ v, (x, v) ∉ binds) → bindC kindOf binds m x = m x
  | [], _, _ => rfl
  | (n, v) :: r, m, h => by
    unfold bindC
    rw [bindC_out fun w hw => h w (List.mem_cons_of_mem _ hw)]
    split
    · rfl
    · have : x ≠ n := by rintro rfl; exact h v List.mem_cons_self
      simp [this]
theorem bindL_get {kindOf : Str → Option NameKind} {x : Str} {v : Value} : ∀ {P : List Str} {vs : List Value} {i : Nat} {m : Str → Option Value}, P.Nodup → P[i]? = some x → vs[i]? = some v → kindOf x = some .local →
    bindL kindOf (P.zip vs) m x = some v
  | [], _, _, _, _, h, _, _ => by simp at h
  | _ :: _, [], _, _, _, _, h, _ => by simp at h
  | p :: P, w :: vs, 0, m, nd, h1, h2, hk => by
    simp at h1 h2; subst h1; subst h2
    show bindL kindOf ((p, w) :: P.zip vs) m p = _
    unfold bindL
    rw [bindL_out fun v hv => (List.nodup_cons.mp nd).1 (List.of_mem_zip hv).1, if_pos hk]
    simp
  | p :: P, w :: vs, i + 1, m, nd, h1, h2, hk => by
    show bindL kindOf ((p, w) :: P.zip vs) m x = _
    unfold bindL
    exact bindL_get (i := i) (List.nodup_cons.mp nd).2 (by simpa using h1) (by simpa using h2) hk
theorem bindC_get {kindOf : Str → Option NameKind} {x : Str} {v : Value} : ∀ {P : List Str} {vs : List Value} {i : Nat} {m : Str → Option Value}, P.Nodup → P[i]? = some x → vs[i]? = some v → kindOf x ≠ some .local →
    bindC kindOf (P.zip vs) m x = some v
  | [], _, _, _, _, h, _, _ => by simp at h
  | _ :: _, [], _, _, _, _, h, _ => by simp at h
  | p :: P, w :: vs, 0, m, nd, h1, h2, hk => by
    simp at h1 h2; subst h1; subst h2
    show bindC kindOf ((p, w) :: P.zip vs) m p = _
    unfold bindC
    rw [bindC_out fun v hv => (List.nodup_cons.mp nd).1 (List.of_mem_zip hv).1, if_neg hk]
    simp
  | p :: P, w :: vs, i + 1, m, nd, h1, h2, hk => by
    show bindC kindOf ((p, w) :: P.zip vs) m x = _
    unfold bindC
    exact bindC_get (i := i) (List.nodup_cons.mp nd).2 (by simpa using h1) (by simpa using h2) hk
def start (N : List Str) (vs : List V) : St := vs.map some ++ List.replicate (N.length - vs.length) none
def cxOf (CX : CXT) (P : Program) (w : World) (K : PySem.W.Frag) (mg : Str → Option Value) (base : Heap) (N : List Str) (qual : Str) (scope : Scope) (f : Addr) (cd : Value) (A : Around) (outer : List Env) (s : Shared) (H : Hp) (E : XK) : Cx where
  prog := P
  w := w
  K := K
  mg := mg
  base := base
  A := A.deeper (envOfC qual scope s.heap.objs.size f cd)
  N := N
  s_0 := s
  H_0 := H
  env := envOfC qual scope s.heap.objs.size f cd
  outer := outer
  stack := envOfC qual scope s.heap.objs.size f cd :: outer
  ex := []
  calm := true
  fn := fun _ => true
  pn := []
  xe := fun e s' => wpAny (model P w) (A.deeper (envOfC qual scope s.heap.objs.size f cd)) (leaving (envOfC qual scope s.heap.objs.size f cd) e) (fun _ s'' => CX outer H s E e s'') (fun e' s'' => CX outer H s E e' s'') s'
theorem cell_has {sc : Scope} {n : Nat} {x : Str} (h : sc.names.lookup x = some .cell) : ∃ c, (cellsFrom n sc.names []).lookup x = some c := by
  have q := PySem.W.cellsFrom_some sc.names n [] (.inl h)
  exact Option.isSome_iff_exists.mp q
theorem inv_start {CX : CXT} {P : Program} {w : World} {K : PySem.W.Frag} {mg : Str → Option Value} {base : Heap} {N ps : List Str} {qual : Str} {scope : Scope} {f : Addr} {cd : Value} {A : Around} {outer : List Env} {s s1 : Shared} {H : Hp} {E : XK} {us : List Value} {vs : List V}
    (S : FnScope N ps scope) (hd : A.handled = none) (e0 : Env0 P w K mg base A outer s H) (hl : vs.length = ps.length) (r : Vals vs us)
    (x : InCallC s s.heap.objs.size (bindL (envOfC qual scope s.heap.objs.size f cd).kindOf (ps.zip us) fun _ => none) (cellsFrom (s.heap.objs.size + 1) scope.names []) (bindC (envOfC qual scope s.heap.objs.size f cd).kindOf (ps.zip us) fun _ => none) s1) :
    Inv (cxOf CX P w K mg base N qual scope f cd A outer s H E) [] (start N vs) H s1 := by
  have hpl : ps.length ≤ N.length := by have := congrArg List.length S.pre; rw [List.length_take] at this; omega
  obtain ⟨h1, tk, rfl, hk⟩ := x.done
  have noA : ∀ b : Addr, b ∉ (cxOf CX P w K mg base N qual scope f cd A outer s H E).ex := fun b z => absurd (show b ∈ ([] : List Addr) from z) (by simp)
  refine ⟨⟨e0.mod, S.kind, rfl, rfl, Nat.le_refl _, fun y z c h1 h2 => ?_, fun y hy => ?_, fun y c _ h => ?_, fun _ => hd, Around.frames_deeper e0.frames, .inr ⟨rfl, rfl⟩, fun b z => absurd z (noA b), e0.bs, e0.bsz, fun b _ _ => noA b, fun b z => absurd z (noA b), e0.funs, e0.frf⟩,
    rfl, e0.bare, Un.kept hk, ⟨_, x.toInCall.ns, fun i y v h1 h2 h3 => ?_⟩, fun y c h => ⟨_, x.cell y c h⟩, e0.hok.fresh (Nat.le_refl _), fun y c h => ?_, fun p hp => absurd (show p ∈ ([] : List (Addr × Obj)) from hp) (by simp), e0.hok.kept hk, ?_⟩
  · exact name_of_addr x.apart (PySem.mem_of_lookup h1) (PySem.mem_of_lookup h2)
  · have hy : scope.names.lookup y = some .cell ∨ scope.names.lookup y = some .free := hy
    rcases hy with hy | hy
    · exact cell_has hy
    · exact absurd rfl (S.nofree _ (PySem.mem_of_lookup hy))
  · exact Nat.le_of_lt (x.above y c (PySem.mem_of_lookup h))
  · have hi : i < vs.length := by
      unfold start at h2
      by_cases hi : i < vs.length
      · exact hi
      · rw [List.getElem?_append_right (by simpa using hi)] at h2
        rw [List.getElem?_replicate] at h2
        split at h2 <;> cases h2
    have ha : vs[i]? = some v := by
      unfold start at h2
      rw [List.getElem?_append_left (by simpa using hi), List.getElem?_map] at h2
      cases e : vs[i]? with
      | none => rw [e] at h2; cases h2
      | some a => rw [e] at h2; cases h2; rfl
    obtain ⟨u, hu, rv⟩ := r.get ha
    have hp : ps[i]? = some y := by
      rw [← S.pre, List.getElem?_take_of_lt (by omega)]; exact h1
    have ndP : ps.Nodup := by rw [← S.pre]; exact S.nd.sublist (List.take_sublist _ _)
    refine ⟨u, rv, ?_⟩
    rcases S.par y (List.mem_of_getElem? hp) with k | k
    · exact .inl ⟨k, bindL_get ndP hp hu k⟩
    · obtain ⟨c, e⟩ := cell_has (n := s.heap.objs.size + 1) k
      refine .inr ⟨.inl k, c, e, ?_⟩
      have q := x.cell y c e
      rw [bindC_get ndP hp hu (by show scope.names.lookup y ≠ _; rw [k]; decide)] at q
      exact q
  · exact e0.hok.fresh (Nat.le_of_lt (x.above y c (PySem.mem_of_lookup h)))
  · unfold start
    show _ = N.length
    rw [List.length_append, List.length_map, List.length_replicate]
    omega
theorem fn_of {CX : CXT} {P : Program} {w : World} {K : PySem.W.Frag} {mg : Str → Option Value} {base : Heap} {k : Nat} {f : Addr} {name qual : Str} {params : Arguments} {body : List Stmt} {scope : Scope} {dV kV doc pm cdv ct oc : Value} {an od : Option Addr}
    {osl : Array (Option Value)} {N ps : List Str} {sp : Sp} (lk : K.lookup f = some ⟨oc, od, .func (PySem.W.fnOf name qual params body scope dV kV doc pm an cdv ct), osl⟩) (hcd : PySem.W.codeIn K cdv qual = true) (S : FnScope N ps scope)
    (len : ∀ vs H Q E, sp vs H Q E → vs.length = ps.length)
    (hbody : ∀ (A : Around) (outer : List Env) (s : Shared) (H : Hp) (vs : List V) (Q : VK) (E : XK), Room k (A.deeper (envOfC qual scope s.heap.objs.size f cdv)) → sp vs H Q E →
      ∃ t, PSs (cxOf CX P w K mg base N qual scope f cdv A outer s H E) body t ∧ t { nx := fun _ H' => Q .non H', rt := Q } (start N vs) H) :
    FnOk P w K mg base CX (k + 1) f (PySem.W.fnOf name qual params body scope dV kV doc pm an cdv ct) ps sp := by
  refine ⟨len, fun A outer s H args us vs Q E hr e0 hb r hsp => ?_⟩
  have hl := len _ _ _ _ hsp
  have KX : K.In s.heap := e0.mod.kin.keeps fun b o e => (e0.bs b o e).1
  have lim : s.heap.NoLimit := e0.mod.nolimit.keeps fun b o e => (e0.bs b o e).1
  have hkind : ∀ y ∈ ps.zip us, scope.names.lookup y.1 = some .local ∨ (scope.names.lookup y.1 = some .cell ∧ ((cellsFrom (s.heap.objs.size + 1) scope.names []).lookup y.1).isSome = true) := fun ⟨n, v⟩ hy => by
    rcases S.par n (List.of_mem_zip hy).1 with q | q
    · exact .inl q
    · exact .inr ⟨q, PySem.W.cellsFrom_some _ _ _ (.inl q)⟩
  refine codeAny_call_function hr.depth (KX _ _ lk) rfl S.co S.gen rfl (PySem.W.codeRec_of KX hcd) (hb _ _ _ _ ?_)
  refine wpAny_newFunctionEnv_cells S.kind hkind fun env he s1 x => ?_
  subst he
  refine ⟨lim.keeps x.toInCall.keep, codeAny_func ?_⟩
  obtain ⟨t, ht, hq⟩ := hbody A outer s H vs Q E (hr.deeper _) hsp
  have I : Inv (cxOf CX P w K mg base N qual scope f cdv A outer s H E) [] (start N vs) H s1 := inv_start S hr.hd e0 hl r x
  refine wpAny_mono (ht [] s1 (start N vs) H _ I hq) (fun fl s' hs => ?_) fun e s' hs => hs
  have fin : ∀ {σ' : St} {H' : Hp} {v : V} {u : Value}, Inv (cxOf CX P w K mg base N qual scope f cdv A outer s H E) [] σ' H' s' → RelV v u → Q v H' → CE outer P w H s Q u s' :=
    fun {σ' H' v u} J rv q => ⟨v, H', J.os, J.bare, J.base, J.hok, rv, q⟩
  cases fl with
  | ret u =>
    obtain ⟨v, σ', H', J, rv, q⟩ := hs
    exact fin J rv q
  | next =>
    obtain ⟨σ', H', J, q⟩ := hs
    exact fin (v := V.non) (u := Value.none) J rfl q
  | brk =>
    obtain ⟨_, _, _, q⟩ := hs
    exact False.elim q
  | cont =>
    obtain ⟨_, _, _, q⟩ := hs
    exact False.elim q
end L2
namespace L2
open PySem PySem.Spec PyProof.Rows
section
variable {X : Cx} {x : Str} {p pos : Pos} {e : Expr} {es : List Expr} {t : TA} {id T : String} {r : List V → Hp → VK → Prop}
def tCB (r : List V → Hp → VK → Prop) (t : TA) : TE := fun σ H Q => t σ H fun vs H1 => r vs H1 Q
theorem pe_callB (hc : CallR X (.builtin id) r) (hg : Gl X x) (hm : X.mg x = none) (hv : bootBuiltins x = some (.builtin id)) (ha : PA X (e :: es) t) (hn : x ≠ "__name__" := by decide) (hdb : (x == ("__debug__" : Str)) = false := by decide)
    (he : starEach (e :: es) X.env = (false, eval e X.env) :: starEach es X.env := by rfl) (hpl : (backTo pos (starEach es X.env)).any (·.1) = false := by rfl) : PE X (.Call (.Name x p) (e :: es) [] pos) (tCB r t) := by
  intro pins s σ H Q I h
  refine wpAny_Call_Name_kw (ld_blt I hg hm hv ?_ hn hdb)
  exact PyProof.Rows.callWith_builtin1 (thn (ha pos pins s σ H _ I h) fun us s1 ⟨vs, H1, I1, r1, q1⟩ => hc pins s1 σ H1 vs us Q I1 r1 q1) he hpl
theorem pe_callTy (hc : CallR X (.type T) r) (hg : Gl X x) (hm : X.mg x = none) (hv : bootBuiltins x = some (.type T)) (ha : PA X (e :: es) t) (hn : x ≠ "__name__" := by decide) (hdb : (x == ("__debug__" : Str)) = false := by decide)
    (he : starEach (e :: es) X.env = (false, eval e X.env) :: starEach es X.env := by rfl) (hpl : (backTo pos (starEach es X.env)).any (·.1) = false := by rfl) : PE X (.Call (.Name x p) (e :: es) [] pos) (tCB r t) := by
  intro pins s σ H Q I h
  refine wpAny_Call_Name_kw (ld_blt I hg hm hv ?_ hn hdb)
  exact PyProof.Rows.callWith_type1 (thn (ha pos pins s σ H _ I h) fun us s1 ⟨vs, H1, I1, r1, q1⟩ => hc pins s1 σ H1 vs us Q I1 r1 q1) he hpl
end
end L2
namespace HT
open PySem PyProof.Rows
section
variable {prog : Program} {w : World} {A : Around} {E : Value → Shared → Prop} {s : Shared}
def sIx (n d : Nat) : Option Int → Nat
  | none => d
  | some v => if v < 0 then (v + (n : Int)).toNat else min v.toNat n
end
end HT
namespace L2
open PySem PySem.Spec PyProof.Rows
abbrev TO := St → Hp → (Option Int → Hp → Prop) → Prop
def PO (X : Cx) (e : Option Expr) (t : TO) : Prop :=
  ∀ (pins : List (Addr × Obj)) (s : Shared) (σ : St) (H : Hp) (Q : Option Int → Hp → Prop), Inv X pins σ H s → t σ H Q →
    wpAny (model X.prog X.w) X.A (evalPart e X.env) (fun u s' => ∃ o H', Inv X pins σ H' s' ∧ IsPart u o ∧ Q o H') X.xe s
def tNoPart : TO := fun _ H Q => Q none H
def tPart (t : TE) : TO := fun σ H Q => t σ H fun x H1 => ∃ i, x = .int i ∧ Q (some i) H1
section
variable {X : Cx} {e : Expr} {te : TE} {lo hi : Option Expr} {tl th : TO} {pos p2 : Pos}
theorem po_none : PO X none tNoPart := by
  intro pins s σ H Q I h
  rw [evalPart_none]
  exact wpAny_pure ⟨none, H, I, .none, h⟩
theorem po_some (h : PE X e te) : PO X (some e) (tPart te) := by
  intro pins s σ H Q I hw
  rw [evalPart_some]
  refine thn (h pins s σ H _ I hw) fun u s1 ⟨x, H1, I1, r1, q1⟩ => ?_
  obtain ⟨i, rfl, q⟩ := q1
  obtain ⟨t, rfl⟩ := r1
  exact ⟨some i, H1, I1, .int i t, q⟩
def SlR (X : Cx) (r : V → Option Int → Option Int → Hp → VK → Prop) : Prop :=
  ∀ (pins : List (Addr × Obj)) (s : Shared) (σ : St) (H : Hp) (x : V) (v vl vu : Value) (lo hi : Option Int) (sl : Addr) (Q : VK), Inv X pins σ H s → RelV x v → s.heap.IsSliceOf sl vl vu .none → IsPart vl lo → IsPart vu hi → r x lo hi H Q →
    ∃ T id, typeLookup (.type T) "__getitem__" = pure (some (.builtin id)) ∧ s.TypeIs v T ∧ wpAny (model X.prog X.w) X.A (getItem v (.ref sl)) (EP X pins σ Q) X.xe s
def tSl (r : V → Option Int → Option Int → Hp → VK → Prop) (te : TE) (tl th : TO) : TE := fun σ H Q => te σ H fun x H1 => tl σ H1 fun l H2 => th σ H2 fun u H3 => r x l u H3 Q
theorem pe_slice {r : V → Option Int → Option Int → Hp → VK → Prop} (hr : SlR X r) (he : PE X e te) (hl : PO X lo tl) (hu : PO X hi th) : PE X (.Subscript e (.Slice lo hi none p2) pos) (tSl r te tl th) := by
  intro pins s σ H Q I h
  refine Subscript_ (thn (he pins s σ H _ I h) fun v s1 ⟨x, H1, I1, r1, q1⟩ => ?_)
  refine wpAny_Slice (thn (hl pins s1 σ H1 _ I1 q1) fun vl s2 ⟨l, H2, I2, pl, q2⟩ => thn (hu pins s2 σ H2 _ I2 q2) fun vu s3 ⟨u, H3, I3, pu, q3⟩ => ?_)
  rw [evalPart_none]
  refine wpAny_pure ?_
  have I4 : Inv X pins σ H3 { s3 with heap := s3.heap.push { cls := .type "slice", data := .fields #[vl, vu, .none] } } := I3.kept (t' := s3.toks) fun b ob q => Heap.get?_push_of_some _ q
  obtain ⟨T, id, hT, ht, hg⟩ := hr pins { s3 with heap := s3.heap.push { cls := .type "slice", data := .fields #[vl, vu, .none] } } σ H3 x v vl vu l u s3.heap.objs.size Q I4 r1 (Heap.IsSliceOf.new ..) pl pu q3
  show wpAny (model X.prog X.w) X.A (subscriptTail e (.Slice lo hi none p2) v (.ref s3.heap.objs.size)) (EP X pins σ Q) X.xe { s3 with heap := s3.heap.push { cls := .type "slice", data := .fields #[vl, vu, .none] } }
  exact tail_any (ops := [.ref s3.heap.objs.size, v]) ht hT hg (by with_unfolding_all rfl)
def cutV (xs : List V) (lo hi : Option Int) : List V := (xs.drop (HT.sIx xs.length 0 lo)).take (HT.sIx xs.length xs.length hi - HT.sIx xs.length 0 lo)
theorem cutV_length (xs : List V) (lo hi : Option Int) : (cutV xs lo hi).length ≤ xs.length := by
  unfold cutV
  rw [List.length_take, List.length_drop]
  omega
end
end L2
namespace L2
open PySem PySem.Spec PyProof.Rows
def ixN (n : Nat) (i : Int) : Option Nat := if 0 ≤ i then (if i < n then some i.toNat else none) else if -(n : Int) ≤ i then some (i + n).toNat else none
def atI {α : Type} (xs : List α) (i : Int) : Option α := (ixN xs.length i).bind fun j => xs[j]?
theorem ixN_seq {n : Nat} {i : Int} {j : Nat} (h : ixN n i = some j) : seqIndex? i n = some j ∧ j < n ∧ -(n : Int) ≤ i ∧ i < n := by
  unfold ixN at h
  by_cases h0 : 0 ≤ i
  · rw [if_pos h0] at h
    by_cases h1 : i < n
    · rw [if_pos h1] at h
      have e : i.toNat = j := Option.some.inj h
      exact ⟨by rw [seqIndex_of h0 h1, e], by omega, by omega, h1⟩
    · rw [if_neg h1] at h; cases h
  · rw [if_neg h0] at h
    by_cases h1 : -(n : Int) ≤ i
    · rw [if_pos h1] at h
      have e : (i + n).toNat = j := Option.some.inj h
      exact ⟨by rw [seqIndex_neg (by omega) h1, e], by omega, h1, by omega⟩
    · rw [if_neg h1] at h; cases h
theorem atI_get {α : Type} {xs : List α} {i : Int} {v : α} (h : atI xs i = some v) : ∃ j, seqIndex? i xs.length = some j ∧ xs[j]? = some v ∧ j < xs.length ∧ -(xs.length : Int) ≤ i ∧ i < xs.length := by
  unfold atI at h
  cases e : ixN xs.length i with
  | none => rw [e] at h; cases h
  | some j =>
    rw [e] at h
    obtain ⟨h1, h2, h3, h4⟩ := ixN_seq e
    exact ⟨j, h1, h, h2, h3, h4⟩
theorem atI_nat {α : Type} {xs : List α} {j : Nat} {v : α} (h : xs[j]? = some v) : atI xs (j : Int) = some v := by
  have hj : j < xs.length := (List.getElem?_eq_some_iff.mp h).1
  have e : ixN xs.length (j : Int) = some j := by
    unfold ixN
    rw [if_pos (by omega), if_pos (by omega)]; simp
  unfold atI; rw [e]; exact h
def PlainIx (b : Expr) : Prop := ∀ o i, subscripted b false o i = operate [o, i] (getItem o i)
def IxR (X : Cx) (r : R2) : Prop :=
  ∀ (value slice : Expr) (pins : List (Addr × Obj)) (s : Shared) (σ : St) (H : Hp) (x y : V) (v u : Value) (Q : VK), Inv X pins σ H s → RelV x v → RelV y u → r x y H Q →
    subscripted slice false v u = operate [v, u] (getItem v u) → wpAny (model X.prog X.w) X.A (subscriptTail value slice v u) (EP X pins σ Q) X.xe s
def MtR (X : Cx) (id : String) (r : V → List V → Hp → VK → Prop) : Prop :=
  ∀ (pins : List (Addr × Obj)) (s : Shared) (σ : St) (H : Hp) (x : V) (xs : List V) (v : Value) (us : List Value) (Q : VK), Inv X pins σ H s → RelV x v → Vals xs us → r x xs H Q →
    wpAny (model X.prog X.w) X.A (call (.builtin id) (v :: us)) (EP X pins σ Q) X.xe s
section
variable {X : Cx} {a b : Expr} {ta tb : TE} {pos : Pos}
theorem pe_ix {r : R2} (hr : IxR X r) (ha : PE X a ta) (hb : PE X b tb) (hs : PlainIx b) : PE X (.Subscript a b pos) (tOp r ta tb) := by
  intro pins s σ H Q I h
  exact Subscript_ (binT ha hb I h fun v u s2 x y H2 I2 rx ry q => hr a b pins s2 σ H2 x y v u Q I2 rx ry q (hs _ _))
def rIxL (K : PySem.W.Frag) : R2 := fun x y H Q => ∃ p xs i v, x = .ref p ∧ y = .int i ∧ SqL K H p xs ∧ atI xs i = some v ∧ Q v H
def rIxT (K : PySem.W.Frag) : R2 := fun x y H Q => ∃ p xs i v, x = .ref p ∧ y = .int i ∧ SqT K H p xs ∧ atI xs i = some v ∧ Q v H
theorem ix_list : IxR X (rIxL X.K) := by
  intro value slice pins s σ H x y v u Q I rx ry h hs
  obtain ⟨p, xs, i, z, rfl, rfl, hq, he, q⟩ := h
  cases rx
  obtain ⟨t, rfl⟩ := ry
  obtain ⟨its, r, pl, hz⟩ := I.list hq
  obtain ⟨j, h1, h2, h3, h4, h5⟩ := atI_get he
  obtain ⟨w, ew, rw'⟩ := r.get h2
  have hl := r.length
  have hn := line63
  have fin : EP X pins σ Q w s := ⟨z, H, I, rw', q⟩
  by_cases h0 : 0 ≤ i
  · have hj : i.toNat = j := by
      rw [seqIndex_of h0 h5] at h1
      exact Option.some.inj h1
    exact item_listR pl.isList h0 (by omega) (by rw [hj]; simpa using ew) fin hs
  · have hj : (i + (its.toArray.size : Int)).toNat = j := by
      rw [seqIndex_neg (by omega) h4] at h1
      rw [List.size_toArray, ← hl]
      exact Option.some.inj h1
    exact subscriptTail_builtinR (x := w) pl.isList.typeIs slot_list_getitem.lookup
      (wpAny_getItem_list_neg (Q := fun r s' => r = w ∧ EP X pins σ Q r s') pl.isList (by omega) (by rw [List.size_toArray] <;> omega) (by omega) (by rw [hj]; simpa using ew) ⟨rfl, fin⟩) hs
theorem ix_tup : IxR X (rIxT X.K) := by
  intro value slice pins s σ H x y v u Q I rx ry h hs
  obtain ⟨p, xs, i, z, rfl, rfl, hq, he, q⟩ := h
  cases rx
  obtain ⟨t, rfl⟩ := ry
  obtain ⟨its, r, pl, hz⟩ := I.tuple hq
  obtain ⟨j, h1, h2, h3, h4, h5⟩ := atI_get he
  obtain ⟨w, ew, rw'⟩ := r.get h2
  have hl := r.length
  have hn := line63
  have fin : EP X pins σ Q w s := ⟨z, H, I, rw', q⟩
  exact subscriptTail_builtinR (x := w) pl.typeIs slot_tuple_getitem.lookup
    (getItem_tuple (j := j) (Q := fun r s' => r = w ∧ EP X pins σ Q r s') pl (by omega) (by omega) (by rw [List.size_toArray, ← hl]; exact h1) (by simpa using ew) ⟨rfl, fin⟩) hs
theorem mapSeq_set (its : List Value) (n j : Nat) (u : Value) : Obj.mapSeq (·.setIfInBounds j u) { cls := .type "list", data := .seq its.toArray n } = { cls := .type "list", data := .seq (its.set j u).toArray n } := by
  simp [Obj.mapSeq]
theorem Inv.lst {pins : List (Addr × Obj)} {σ : St} {H : Hp} {s : Shared} {p : Addr} {xs : List V} (I : Inv X pins σ H s) (h : H p = some (.lst xs)) :
    ∃ (its : List Value) (n : Nat), Vals xs its ∧ s.heap.get? p = some { cls := .type "list", data := .seq its.toArray n } ∧ xs.length ≤ sizeLine := by
  obtain ⟨z, its, n, r, e⟩ := I.hok p _ h
  exact ⟨its, n, r, e, z⟩
theorem Inv.lstUpd {pins : List (Addr × Obj)} {σ : St} {H : Hp} {s : Shared} {p : Addr} {xs ys : List V} {its its' : List Value} {n n' : Nat} {f : Obj → Obj} (I : Inv X pins σ H s) (h : H p = some (.lst xs))
    (ho : s.heap.get? p = some { cls := .type "list", data := .seq its.toArray n }) (hf : f { cls := .type "list", data := .seq its.toArray n } = { cls := .type "list", data := .seq its'.toArray n' }) (r : Vals ys its') (hz : ys.length ≤ sizeLine) (t : Nat) :
    Inv X pins σ (upd H p (.lst ys)) { s with heap := s.heap.update p f, toks := t } := by
  have e : (s.heap.update p f).get? p = some { cls := .type "list", data := .seq its'.toArray n' } := by
    rw [Heap.get?_update_self f ho (by rw [hf] <;> rfl), hf]
  refine I.write (x := p) (e := p) (by rw [h]; trivial) (.inl rfl) (fun b u hb q => (Heap.get?_update_other _ _ (Ne.symm hb)).trans q) ⟨_, e⟩ ?_
  exact ⟨hz, its', n', r, e⟩
def rSetL : V → V → V → Hp → (Hp → Prop) → Prop := fun o i v H Q => ∃ p xs k j, o = .ref p ∧ i = .int k ∧ H p = some (.lst xs) ∧ ixN xs.length k = some j ∧ Q (upd H p (.lst (xs.set j v)))
theorem set_list : PSet X rSetL := by
  intro pins s σ H o i v ov iv u Q I ro ri rv h
  obtain ⟨p, xs, k, j, rfl, rfl, hp, hj, q⟩ := h
  cases ro
  obtain ⟨t, rfl⟩ := ri
  obtain ⟨its, n, r, ho, hz⟩ := I.lst hp
  obtain ⟨h1, h2, h3, h4⟩ := ixN_seq hj
  have hl := r.length
  have hn := line63
  have I' : Inv X pins σ (upd H p (.lst (xs.set j v))) { s with heap := s.heap.update p (Obj.mapSeq (·.setIfInBounds j u)) } :=
    I.lstUpd hp ho (mapSeq_set its n j u) (r.set rv j) (by rw [List.length_set]; exact hz) s.toks
  by_cases h0 : 0 ≤ k
  · have hk : k.toNat = j := by
      rw [seqIndex_of h0 h4] at h1
      exact Option.some.inj h1
    exact PySem.W.ki_setAt ho h0 (by omega) (by rw [List.size_toArray, ← hl]; exact h4) (by rw [hk]; exact ⟨_, I', q⟩)
  · have hk : (k + (its.toArray.size : Int)).toNat = j := by
      rw [seqIndex_neg (by omega) h3] at h1
      rw [List.size_toArray, ← hl]
      exact Option.some.inj h1
    exact PySem.W.ki_setBack ho (by omega) (by rw [List.size_toArray, ← hl]; exact h3) (by omega) (by rw [hk]; exact ⟨_, I', q⟩)
theorem slice_bounds (lo hi : Option Int) (n : Nat) : (sliceBounds lo hi none n).1 = ((HT.sIx n 0 lo : Nat) : Int) ∧ (sliceBounds lo hi none n).2.1 = ((HT.sIx n n hi : Nat) : Int) ∧ (sliceBounds lo hi none n).2.2 = 1 := by
  refine ⟨?_, ?_, rfl⟩
  · cases lo with
    | none => simp [sliceBounds, HT.sIx]
    | some i =>
      simp only [sliceBounds, HT.sIx, Option.getD_none, show (1 : Int) > 0 by decide, if_true]
      by_cases h : i < 0
      · simp only [h, if_true] <;> omega
      · simp only [h, if_false] <;> omega
  · cases hi with
    | none => simp [sliceBounds, HT.sIx]
    | some i =>
      simp only [sliceBounds, HT.sIx, Option.getD_none, show (1 : Int) > 0 by decide, if_true]
      by_cases h : i < 0
      · simp only [h, if_true] <;> omega
      · simp only [h, if_false] <;> omega
theorem slicePick_cut (its : List Value) (lo hi : Option Int) : slicePick its.toArray lo hi none = ((its.drop (HT.sIx its.length 0 lo)).take (HT.sIx its.length its.length hi - HT.sIx its.length 0 lo)).toArray := by
  obtain ⟨h1, h2, h3⟩ := slice_bounds lo hi its.toArray.size
  unfold slicePick
  rw [h1, h2, h3]
  simp only [sliceRange_one, pick_run, List.size_toArray] <;> rfl
def rSlL (K : PySem.W.Frag) : V → Option Int → Option Int → Hp → VK → Prop := fun x lo hi H Q => ∃ a xs, x = .ref a ∧ SqL K H a xs ∧ ∀ p, H p = none → Q (.ref p) (upd H p (.lst (cutV xs lo hi)))
theorem sl_list : SlR X (rSlL X.K) := by
  intro pins s σ H x v vl vu lo hi sl Q I rx hs pl pu h
  obtain ⟨a, xs, rfl, hx, q⟩ := h
  cases rx
  obtain ⟨its, r, ht, hz⟩ := I.list hx
  have hlen := r.length
  refine ⟨"list", _, slot_list_getitem.lookup, ht.isList.typeIs, ?_⟩
  refine wpAny_getItem_list_slice ht.isList hs pl pu .none (by simp) ?_ (by rw [List.size_toArray] <;> omega)
  rw [slicePick_cut, ← hlen]
  refine ⟨.ref s.heap.objs.size, _, I.laid (t' := s.toks) (o := .lst (cutV xs lo hi)) (fun b ob q => Heap.get?_push_of_some _ q) (Nat.le_refl _) ?_, rfl, q _ (I.hok.fresh (Nat.le_refl _))⟩
  exact ⟨Nat.le_trans (cutV_length xs lo hi) hz, _, 0, (r.drop (HT.sIx xs.length 0 lo)).take (HT.sIx xs.length xs.length hi - HT.sIx xs.length 0 lo), Heap.get?_push_size _ rfl⟩
def flatV : V → Bool
  | .non => true
  | .bl _ => true
  | .int _ => true
  | .str _ => true
  | _ => false
def eqV : V → V → Bool
  | .non, .non => true
  | .bl a, .bl b => a == b
  | .bl a, .int b => (if a then 1 else 0) == b
  | .int a, .bl b => a == (if b then 1 else 0)
  | .int a, .int b => a == b
  | .str a, .str b => a == b
  | _, _ => false
theorem eqAt_V {A : Around} {s : Shared} {y x : V} {u v : Value} (ry : RelV y u) (rx : RelV x v) (fy : flatV y = true) (fx : flatV x = true) : SeqAt.EqAt A s u v (eqV y x) := by
  cases y with
  | non =>
    cases ry
    cases x with
    | non => cases rx; exact SeqAt.EqAt.same _
    | bl b => cases rx; exact SeqAt.EqAt.none_bool b
    | int b => obtain ⟨t, rfl⟩ := rx; exact SeqAt.EqAt.none_int b t
    | str b => obtain ⟨t, rfl⟩ := rx; exact SeqAt.EqAt.none_str b t
    | _ => exact absurd (show false = true from fx) Bool.false_ne_true
  | bl a =>
    cases ry
    cases x with
    | non => cases rx; exact SeqAt.EqAt.bool_none a
    | bl b => cases rx; exact SeqAt.EqAt.bool_bool a b
    | int b => obtain ⟨t, rfl⟩ := rx; exact SeqAt.EqAt.bool_int a b t
    | str b => obtain ⟨t, rfl⟩ := rx; exact SeqAt.EqAt.bool_str a b t
    | _ => exact absurd (show false = true from fx) Bool.false_ne_true
  | int a =>
    obtain ⟨t', rfl⟩ := ry
    cases x with
    | non => cases rx; exact SeqAt.EqAt.int_none a t'
    | bl b => cases rx; exact SeqAt.EqAt.int_bool a t' b
    | int b => obtain ⟨t, rfl⟩ := rx; exact SeqAt.EqAt.int_int a t' b t
    | str b => obtain ⟨t, rfl⟩ := rx; exact SeqAt.EqAt.int_str a t' b t
    | _ => exact absurd (show false = true from fx) Bool.false_ne_true
  | str a =>
    obtain ⟨t', rfl⟩ := ry
    cases x with
    | non => cases rx; exact SeqAt.EqAt.str_none a t'
    | bl b => cases rx; exact SeqAt.EqAt.str_bool a t' b
    | int b => obtain ⟨t, rfl⟩ := rx; exact SeqAt.EqAt.str_int a t' b t
    | str b => obtain ⟨t, rfl⟩ := rx; exact SeqAt.EqAt.str_str a t' b t
    | _ => exact absurd (show false = true from fx) Bool.false_ne_true
  | _ => exact absurd (show false = true from fy) Bool.false_ne_true
def eqU (x : V) (u : Value) : Bool := match u with
  | .none => eqV .non x
  | .bool b => eqV (.bl b) x
  | .int i _ => eqV (.int i) x
  | .str z _ => eqV (.str z) x
  | _ => false
theorem eqU_of {x y : V} {u : Value} (r : RelV y u) (f : flatV y = true) : eqU x u = eqV y x := by
  cases y with
  | non => cases r; rfl
  | bl b => cases r; rfl
  | int i => obtain ⟨t, rfl⟩ := r; rfl
  | str z => obtain ⟨t, rfl⟩ := r; rfl
  | _ => exact absurd (show false = true from f) Bool.false_ne_true
theorem any_eqU {x : V} : ∀ {xs : List V} {us : List Value}, Vals xs us → xs.all flatV = true → us.any (eqU x) = xs.any fun y => eqV y x
  | _, _, .nil, _ => rfl
  | y :: xs, u :: us, .cons r t, f => by
    rw [List.all_cons, Bool.and_eq_true] at f
    rw [List.any_cons, List.any_cons, eqU_of r f.1, any_eqU t f.2]
theorem mem_eqAt {A : Around} {s : Shared} {x : V} {v : Value} (rx : RelV x v) (fx : flatV x = true) : ∀ {xs : List V} {us : List Value}, Vals xs us → xs.all flatV = true → ∀ u ∈ us, SeqAt.EqAt A s u v (eqU x u)
  | _, _, .nil, _ => fun u hu => by cases hu
  | y :: xs, u :: us, .cons r t, f => fun u' hu => by
    rw [List.all_cons, Bool.and_eq_true] at f
    rcases List.mem_cons.mp hu with rfl | hu
    · rw [eqU_of r f.1]; exact eqAt_V r rx f.1 fx
    · exact mem_eqAt rx fx t f.2 u' hu
def inV (x : V) (xs : List V) : Bool := xs.any fun y => eqV y x
def rIn (K : PySem.W.Frag) (neg : Bool) : R2 := fun x y H Q => ∃ p xs, y = .ref p ∧ (SqL K H p xs ∨ SqT K H p xs) ∧ flatV x = true ∧ xs.all flatV = true ∧ Q (.bl (if neg then !inV x xs else inV x xs)) H
theorem op_notIn_seq : OpR X (compareOp .NotIn) (rIn X.K true) := by
  intro pins s σ H x y v u Q I rx ry h
  obtain ⟨p, xs, rfl, hq, fx, fs, q⟩ := h
  cases ry
  rcases hq with hq | hq
  · obtain ⟨its, r, pl, hz⟩ := I.list hq
    refine SeqAt.notIn_listAt (eqU x) pl.isList (fun w hw => mem_eqAt rx fx r fs w (by simpa using hw)) ⟨.bl _, H, I, rfl, ?_⟩
    rw [show its.toArray.any (eqU x) = its.any (eqU x) by simp, any_eqU r fs]
    exact q
  · obtain ⟨its, r, pl, hz⟩ := I.tuple hq
    refine SeqAt.notIn_tupleAt (eqU x) pl (fun w hw => mem_eqAt rx fx r fs w (by simpa using hw)) ⟨.bl _, H, I, rfl, ?_⟩
    rw [show its.toArray.any (eqU x) = its.any (eqU x) by simp, any_eqU r fs]
    exact q
theorem call_len_seq : CallR X (.builtin "len") (fun xs H Q => ∃ p ys, xs = [.ref p] ∧ (SqL X.K H p ys ∨ SqT X.K H p ys) ∧ Q (.int ys.length) H) := by
  intro pins s σ H xs us Q I r h
  obtain ⟨p, ys, rfl, hq, q⟩ := h
  obtain ⟨u, rfl, rx⟩ := vals1 r
  cases rx
  have hn := line63
  rcases hq with hq | hq
  · obtain ⟨its, r', pl, hz⟩ := I.list hq
    have hlen := r'.length
    exact Calls.call_len_list pl.isList (by simp only [List.size_toArray] <;> omega) ⟨.int ys.length, H, I.tok _, ⟨s.toks + 1, by rw [List.size_toArray, hlen]⟩, q⟩
  · obtain ⟨its, r', pl, hz⟩ := I.tuple hq
    have hlen := r'.length
    exact len_tuple pl (by simp only [List.size_toArray] <;> omega) ⟨.int ys.length, H, I.tok _, ⟨s.toks + 1, by rw [List.size_toArray, hlen]⟩, q⟩
theorem call_list_of : CallR X (.type "list") (fun xs H Q => ∃ p ys, xs = [.ref p] ∧ (SqL X.K H p ys ∨ SqT X.K H p ys) ∧ ∀ l, H l = none → Q (.ref l) (upd H l (.lst ys))) := by
  intro pins s σ H xs us Q I r h
  obtain ⟨p, ys, rfl, hq, q⟩ := h
  obtain ⟨u, rfl, rx⟩ := vals1 r
  cases rx
  have fin : ∀ (its : List Value), Vals ys its → ys.length ≤ sizeLine → ∀ (h' : Heap) (c' : Nat), (∀ b o', s.heap.get? b = some o' → h'.get? b = some o') →
      h'.get? s.heap.objs.size = some { cls := .type "list", dict := none, data := .seq its.toArray c', slots := #[] } → EP X pins σ Q (.ref s.heap.objs.size) { s with heap := h' } := fun its r' hz h' c' kp e =>
    ⟨.ref s.heap.objs.size, _, I.laid (t' := s.toks) kp (Nat.le_refl _) (show ObjOk X.prog X.w _ h' _ (.lst ys) from ⟨hz, its, c', r', e⟩), rfl, q _ (I.hok.fresh (Nat.le_refl _))⟩
  rcases hq with hq | hq
  · obtain ⟨its, r', pl, hz⟩ := I.list hq
    have hlen := r'.length
    obtain ⟨o, ho, hc, n, hd⟩ := pl.isList
    exact call_list_seq p (.inl rfl) ho hc hd (fun h' c' kp e => fin its r' hz h' c' kp e) (by simp only [List.size_toArray] <;> omega)
  · obtain ⟨its, r', pl, hz⟩ := I.tuple hq
    have hlen := r'.length
    obtain ⟨o, ho, hc, n, hd⟩ := pl
    exact call_list_seq p (.inr rfl) ho hc hd (fun h' c' kp e => fin its r' hz h' c' kp e) (by simp only [List.size_toArray] <;> omega)
def tyV (K : PySem.W.Frag) (T : String) (x : V) (H : Hp) : Prop := match x with
  | .str _ => T = "str"
  | .int _ => T = "int"
  | .ref p => (T = "list" ∧ ∃ xs, SqL K H p xs) ∨ (T = "tuple" ∧ ∃ o, K.lookup p = some o ∧ o.cls = .type "tuple" ∧ o.dict = none) ∨
      (T = "dict" ∧ ((∃ kvs, H p = some (.dK kvs)) ∨ ∃ kvs, H p = some (.dT kvs))) ∨ (T = "set" ∧ ∃ S n, H p = some (.set S n))
  | _ => False
theorem tyV_is {pins : List (Addr × Obj)} {σ : St} {H : Hp} {s : Shared} {T : String} {x : V} {v : Value} (I : Inv X pins σ H s) (r : RelV x v) (ty : tyV X.K T x H) :
    s.TypeIs v T ∧ ∀ a, v = .ref a → ∃ ob, s.heap.get? a = some ob ∧ ob.dict = none := by
  cases x with
  | str z =>
    obtain ⟨t, rfl⟩ := r
    cases (show T = "str" from ty)
    exact ⟨typeIs_str s z t, fun _ e => nomatch e⟩
  | int i =>
    obtain ⟨t, rfl⟩ := r
    cases (show T = "int" from ty)
    exact ⟨typeIs_int s i t, fun _ e => nomatch e⟩
  | ref p =>
    cases r
    rcases ty with ⟨rfl, xs, hq⟩ | ⟨rfl, o, hk, hc, hd⟩ | ⟨rfl, hk⟩ | ⟨rfl, S, n, hk⟩
    · obtain ⟨its, _, pl, _⟩ := I.list hq
      refine ⟨pl.isList.typeIs, fun a e => ?_⟩
      cases e
      obtain ⟨o, n, e, c, hd, _⟩ := pl
      exact ⟨o, e, hd⟩
    · refine ⟨⟨o, I.kIn p o hk, hc⟩, fun a e => ?_⟩
      cases e
      exact ⟨o, I.kIn _ o hk, hd⟩
    · have z : ∃ o, s.heap.get? p = some o ∧ o.ExactDict := by
        rcases hk with ⟨kvs, hk⟩ | ⟨kvs, hk⟩
        · obtain ⟨_, _, _, _, o, _, _, e, ex, _⟩ := I.hok p _ hk
          exact ⟨o, e, ex⟩
        · obtain ⟨_, _, _, _, o, _, _, e, ex, _⟩ := I.hok p _ hk
          exact ⟨o, e, ex⟩
      obtain ⟨o, e, ex⟩ := z
      refine ⟨⟨o, e, ex.1⟩, fun a e2 => ?_⟩
      cases e2
      exact ⟨o, e, ex.2.1⟩
    · obtain ⟨o, _, _, _, e, ex, _⟩ := I.hok p _ hk
      refine ⟨⟨o, e, ex.1⟩, fun a e2 => ?_⟩
      cases e2
      exact ⟨o, e, ex.2.1⟩
  | _ => exact False.elim ty
def tBM0 (K : PySem.W.Frag) (T : String) (r : V → List V → Hp → VK → Prop) (to : TE) : TE := fun σ H Q => to σ H fun x H1 => tyV K T x H1 ∧ r x [] H1 Q
def tBM (K : PySem.W.Frag) (T : String) (r : V → List V → Hp → VK → Prop) (to : TE) (t : TA) : TE := fun σ H Q => to σ H fun x H1 => tyV K T x H1 ∧ t σ H1 fun xs H2 => r x xs H2 Q
variable {o e : Expr} {es : List Expr} {to : TE} {t : TA} {name : Str} {apos cpos : Pos} {T id : String} {r : V → List V → Hp → VK → Prop}
theorem pe_bm0 (pa : PlainAttrs T) (slot : Slot T name id) (hty : typeOf (.builtin id) = pure (.type "method_descriptor")) (hm : MtR X id r) (ho : PE X o to)
    (hbase : attributeBase o name X.env (eval o X.env) = eval o X.env := by rfl) (hline : (apos.endLine == cpos.line) = true := by rfl) : PE X (.Call (.Attribute o name apos) [] [] cpos) (tBM0 X.K T r to) := by
  intro pins s σ H Q I h
  refine wpAny_Call_method0_late hbase hline (thn (ho pins s σ H _ I h) fun v s1 ⟨x, H1, I1, r1, ty, q1⟩ => ?_)
  obtain ⟨h1, h2⟩ := tyV_is I1 r1 ty
  exact ⟨T, id, pa, slot, hty, h1, h2, Calls.callWith_builtin rfl (PySem.evalArgs_none (hm pins s1 σ H1 x [] v [] Q I1 r1 .nil q1))⟩
theorem pe_bm (pa : PlainAttrs T) (slot : Slot T name id) (hty : typeOf (.builtin id) = pure (.type "method_descriptor")) (hm : MtR X id r) (ho : PE X o to) (ha : PA X (e :: es) t)
    (hbase : attributeBase o name X.env (eval o X.env) = eval o X.env := by rfl)
    (hfew : ((backTo cpos (starEach (e :: es) X.env)).all (fun x => !x.1) && (backToKw cpos (keywordEach [] X.env)).all (fun x => x.1.isSome)
      && decide ((e :: es).length + ([] : List Keyword).length + (if ([] : List Keyword).isEmpty then 0 else 1) < 30)) = true := by rfl)
    (hline : (apos.endLine == cpos.line) = true := by rfl) (hs : starEach (e :: es) X.env = (false, eval e X.env) :: starEach es X.env := by rfl) (hplain : (backTo cpos (starEach es X.env)).any (·.1) = false := by rfl) :
    PE X (.Call (.Attribute o name apos) (e :: es) [] cpos) (tBM X.K T r to t) := by
  intro pins s σ H Q I h
  refine wpAny_Call_method_late hbase hfew hline rfl (thn (ho pins s σ H _ I h) fun v s1 ⟨x, H1, I1, r1, ty, q1⟩ => ?_)
  obtain ⟨h1, h2⟩ := tyV_is I1 r1 ty
  refine ⟨T, id, pa, slot, hty, h1, h2, ?_⟩
  have hA := ha cpos pins s1 σ H1 _ I1 q1
  rw [hs] at hA ⊢
  refine Calls.callWith_builtin (by show (false || (backTo cpos (starEach es X.env)).any (·.1)) = false; rw [hplain] <;> rfl) (Calls.evalArgs_plain ?_)
  exact thn hA fun us s2 ⟨vs, H2, I2, r2, q2⟩ => hm pins s2 σ H2 x vs v us Q I2 r1 r2 q2
end
end L2
namespace L2
open PySem PySem.Spec PyProof.Rows
def MtM (X : Cx) (id : String) (r : V → List V → Hp → VK → Prop) : Prop :=
  ∀ (pins : List (Addr × Obj)) (s : Shared) (σ : St) (H : Hp) (x : V) (xs : List V) (v : Value) (us : List Value) (Q : VK), Inv X pins σ H s → RelV x v → Vals xs us → r x xs H Q →
    wpAny (model X.prog X.w) X.A (call (.builtin id) (v :: us)) (EP X pins σ Q) X.xe s
theorem Vals.one : ∀ {x : V} {us : List Value}, Vals [x] us → ∃ u, us = [u] ∧ RelV x u
  | _, _, .cons r .nil => ⟨_, rfl, r⟩
theorem Vals.zero : ∀ {us : List Value}, Vals [] us → us = []
  | _, .nil => rfl
theorem Vals.dropLast {xs : List V} {us : List Value} (h : Vals xs us) : Vals xs.dropLast us.dropLast := by
  induction h with
  | nil => exact .nil
  | cons r t ih =>
    cases t with
    | nil => exact .nil
    | cons q t' => exact .cons r ih
theorem erase_last {α : Type} (l : List α) : l.eraseIdx (l.length - 1) = l.dropLast := by
  induction l with
  | nil => rfl
  | cons a r ih =>
    cases r with
    | nil => rfl
    | cons b r =>
      have e : (a :: b :: r).length - 1 = ((b :: r).length - 1) + 1 := by
        have h1 : (a :: b :: r).length = r.length + 2 := rfl
        have h2 : (b :: r).length = r.length + 1 := rfl
        omega
      rw [e, List.eraseIdx_cons_succ, ih]
      all_goals rfl
section
variable {X : Cx} {pins : List (Addr × Obj)} {σ : St} {H : Hp} {s : Shared} {l b : Addr} {xs ys zs : List V}
theorem Inv.lset {its its' : List Value} {n : Nat} {f : Array Value → Array Value} {t' : Nat} (I : Inv X pins σ H s) (hH : H l = some (.lst xs))
    (e : s.heap.get? l = some { cls := .type "list", data := .seq its.toArray n }) (hf : f its.toArray = its'.toArray) (hv : Vals ys its') (hz : ys.length ≤ sizeLine) :
    Inv X pins σ (upd H l (.lst ys)) { s with heap := s.heap.update l (Obj.mapSeq f), toks := t' } := by
  have q := PySem.IsL.update e f
  rw [hf] at q
  refine I.write (x := l) (e := l) (by rw [hH]; exact trivial) (.inl rfl) (fun b' u hb hu => (Heap.get?_update_other s.heap (Obj.mapSeq f) (Ne.symm hb)).trans hu) ⟨_, q⟩ ?_
  exact ⟨hz, its', _, hv, q⟩
theorem Inv.lnew {its : List Value} {t' : Nat} (I : Inv X pins σ H s) (hv : Vals ys its) (hz : ys.length ≤ sizeLine) :
    Inv X pins σ (upd H s.heap.objs.size (.lst ys)) { s with heap := s.heap.push { cls := .type "list", data := .seq its.toArray }, toks := t' } :=
  I.laid (fun _ _ q => Heap.get?_push_of_some _ q) (Nat.le_refl _) ⟨hz, its, 0, hv, Heap.get?_push_size _ rfl⟩
theorem Inv.fresh (I : Inv X pins σ H s) : H s.heap.objs.size = none := I.hok.fresh (Nat.le_refl _)
theorem Inv.lstM (I : Inv X pins σ H s) (hH : H l = some (.lst xs)) : xs.length ≤ sizeLine ∧ ∃ (its : List Value) (n : Nat), Vals xs its ∧ xs.length = its.length ∧ s.heap.get? l = some { cls := .type "list", data := .seq its.toArray n } := by
  obtain ⟨z, its, n, r, e⟩ := I.hok l _ hH
  exact ⟨z, its, n, r, r.length, e⟩
theorem notLongL {n : Nat} (h : n ≤ sizeLine) : Builtin.List.listTooLong n = false := by
  unfold Builtin.List.listTooLong
  exact decide_eq_false (by omega)
end
section
variable {X : Cx}
def rAppend : V → List V → Hp → VK → Prop := fun x vs H Q => ∃ l xs y, x = .ref l ∧ vs = [y] ∧ H l = some (.lst xs) ∧ xs.length < sizeLine ∧ Q .non (upd H l (.lst (xs ++ [y])))
theorem mt_append : MtM X "list.append" rAppend := by
  intro pins s σ H x vs v us Q I rx rv h
  obtain ⟨l, xs, y, rfl, rfl, hH, hz, q⟩ := h
  cases rx
  obtain ⟨u, rfl, ru⟩ := rv.one
  obtain ⟨z, its, n, r, hl, e⟩ := I.lstM hH
  refine call_meets F.slot_list_append ⟨_, e, rfl⟩ F.entry_list_append (F.args_list_append_2 _ _) (PySem.list_append l its.toArray n u (by rw [List.size_toArray]; omega)) ⟨e, ?_⟩
  refine ⟨.non, _, I.lset (its' := its ++ [u]) hH e (by simp) (r.append (.cons ru .nil)) ?_, rfl, q⟩
  rw [List.length_append, List.length_singleton]
  omega
def rExtend : V → List V → Hp → VK → Prop := fun x vs H Q => ∃ l b xs zs, x = .ref l ∧ vs = [.ref b] ∧ H l = some (.lst xs) ∧ H b = some (.lst zs) ∧ xs.length + zs.length ≤ sizeLine ∧ Q .non (upd H l (.lst (xs ++ zs)))
theorem mt_extend : MtM X "list.extend" rExtend := by
  intro pins s σ H x vs v us Q I rx rv h
  obtain ⟨l, b, xs, zs, rfl, rfl, hH, hB, hz, q⟩ := h
  cases rx
  obtain ⟨u, rfl, ru⟩ := rv.one
  cases ru
  obtain ⟨z, its, n, r, hl, e⟩ := I.lstM hH
  obtain ⟨z2, its2, n2, r2, hl2, e2⟩ := I.lstM hB
  have hsz : its.toArray.size + its2.toArray.size ≤ sizeLine := by rw [List.size_toArray, List.size_toArray]; omega
  have hlong : ¬ (!its.toArray.isEmpty && Builtin.List.listTooLong (its.toArray.size + its2.toArray.size)) = true := by
    rw [notLongL hsz, Bool.and_false]
    exact Bool.false_ne_true
  refine call_meets F.slot_list_extend ⟨_, e, rfl⟩ F.entry_list_extend (F.args_list_extend_2 _ _)
    (AutoSeq1.list_extend_list_list_0 l its.toArray n b its2.toArray n2 hlong (by rw [List.size_toArray]; omega) (by omega)) ⟨e, e2, ?_⟩
  refine ⟨.non, _, I.lset (its' := its ++ its2) hH e (by simp) (r.append r2) ?_, rfl, q⟩
  rw [List.length_append]
  omega
def rPop : V → List V → Hp → VK → Prop := fun x vs H Q => ∃ l xs y, x = .ref l ∧ vs = [] ∧ H l = some (.lst xs) ∧ xs[xs.length - 1]? = some y ∧ Q y (upd H l (.lst xs.dropLast))
theorem mt_pop : MtM X "list.pop" rPop := by
  intro pins s σ H x vs v us Q I rx rv h
  obtain ⟨l, xs, y, rfl, rfl, hH, hy, q⟩ := h
  cases rx
  have hus := rv.zero
  subst hus
  obtain ⟨z, its, n, r, hl, e⟩ := I.lstM hH
  obtain ⟨u, hu, ru⟩ := r.get hy
  have hy' : its.toArray[its.toArray.size - 1]? = some u := by
    show its.toArray[its.length - 1]? = some u
    rw [← Array.getElem?_toList, ← hl]
    exact hu
  refine call_meets F.slot_list_pop ⟨_, e, rfl⟩ F.entry_list_pop (F.args_list_pop_1 _) (MeetsSeq.list_pop_last l its.toArray n u hy' (by rw [List.size_toArray]; omega)) ⟨e, ?_⟩
  refine ⟨y, _, I.lset (its' := its.dropLast) hH e ?_ r.dropLast ?_, ru, q⟩
  · show its.toArray.eraseIdxIfInBounds (its.toArray.size - 1) = its.dropLast.toArray
    rw [List.size_toArray, List.eraseIdxIfInBounds_toArray, erase_last]
  · rw [List.length_dropLast]
    omega
def rCat : R2 := fun x y H Q => ∃ l b xs zs, x = .ref l ∧ y = .ref b ∧ H l = some (.lst xs) ∧ H b = some (.lst zs) ∧ xs.length + zs.length ≤ sizeLine ∧ ∀ p, H p = none → Q (.ref p) (upd H p (.lst (xs ++ zs)))
theorem op_cat : OpR X (binaryOp .Add) rCat := by
  intro pins s σ H x y v u Q I rx ry h
  obtain ⟨l, b, xs, zs, rfl, rfl, hH, hB, hz, q⟩ := h
  cases rx
  cases ry
  obtain ⟨z, its, n, r, hl, e⟩ := I.lstM hH
  obtain ⟨z2, its2, n2, r2, hl2, e2⟩ := I.lstM hB
  refine PySem.P.add_list e e2 ?_ (by rw [List.size_toArray, List.size_toArray]; omega)
  have ea : its.toArray ++ its2.toArray = (its ++ its2).toArray := by simp
  rw [ea]
  exact ⟨.ref _, _, I.lnew (t' := s.toks) (r.append r2) (by rw [List.length_append]; omega), rfl, q _ I.fresh⟩
end
end L2
namespace L2
open PySem PySem.Spec PyProof.Rows
theorem Vals.ints : ∀ {ns : List Int} {us : List Value}, Vals (ns.map V.int) us → IntsAre us ns
  | [], us, h => by
    rw [List.map_nil] at h
    cases h
    exact IntsAre.nil
  | n :: ns, us, h => by
    rw [List.map_cons] at h
    cases h with
    | cons r t =>
      obtain ⟨k, rfl⟩ := r
      exact IntsAre.cons n k (Vals.ints t)
theorem Vals.bls : ∀ {bs : List Bool} {us : List Value}, Vals (bs.map V.bl) us → us = bs.map Value.bool
  | [], us, h => by
    rw [List.map_nil] at h
    cases h
    rfl
  | b :: bs, us, h => by
    rw [List.map_cons] at h
    cases h with
    | cons r t =>
      cases r
      rw [Vals.bls t, List.map_cons]
theorem Vals.ref1 {a : Addr} {us : List Value} (r : Vals [V.ref a] us) : us = [Value.ref a] := by
  cases r with
  | cons r t =>
    cases t
    cases r
    rfl
section
variable {prog : Program} {w : World} {A : Around} {E : Value → Shared → Prop} {s : Shared} {l : Addr} {its : List Value} {ns : List Int} {Q : Value → Shared → Prop}
theorem sum_raw (hh : A.handled = none) (hl : s.heap.IsList l its.toArray) (hi : IntsAre its ns)
    (h : ∀ h' tk t', (∀ b o, s.heap.get? b = some o → h'.get? b = some o) → Q (.int ns.sum t') { s with heap := h', toks := tk }) : wpAny (model prog w) A (call (.builtin "sum") [.ref l]) Q E s := by
  obtain ⟨xs, e⟩ := hi.allInts.items
  have hn : numsOf (intItems xs).toList = ns := by rw [← e]; exact hi.numsOf
  rw [nums_intItems] at hn
  rw [e] at hl
  refine PySem.sum_intListG hh hl fun h' tk t' hk => ?_
  have := h h' tk t' hk
  rw [preSum_eq, List.take_of_length_le (by simp), hn]; exact this
end
section
variable {X : Cx}
def rSum (K : PySem.W.Frag) : List V → Hp → VK → Prop := fun vs H Q => ∃ (a : Addr) (ns : List Int), vs = [V.ref a] ∧ SqL K H a (ns.map V.int) ∧ Q (.int ns.sum) H
theorem cr_sum (hc : X.calm = true) : CallR X (.builtin "sum") (rSum X.K) := by
  intro pins s σ H vs us Q I r h
  obtain ⟨a, ns, rfl, hs, q⟩ := h
  obtain ⟨its, rv, hl, _⟩ := I.list hs
  rw [Vals.ref1 r]
  exact sum_raw (I.ok.hd hc) hl.isList rv.ints fun h' tk t' hk => ⟨.int _, H, I.kept hk, ⟨_, rfl⟩, q⟩
end
theorem iter_any {prog : Program} {w : World} {A : Around} {E : Value → Shared → Prop} {s : Shared} {l : Addr} {items : Array Value} {Q : Value → Shared → Prop} (hl : s.heap.IsList l items)
    (h : ∀ s₂ : Shared, s₂ = { s with heap := s.heap.push { cls := .type "list_iterator", data := .fields #[.ref l, .int 0 0] } } →
      (s₂.heap.IsListIter s.heap.objs.size l 0 ∧ s₂.heap.IsList l items) → l ≠ s.heap.objs.size → Q (.ref s.heap.objs.size) s₂) : wpAny (model prog w) A (pyIter (.ref l)) Q E s := by
  have hlt : l < s.heap.objs.size := by obtain ⟨_, e, _⟩ := hl; exact Heap.lt_size e
  exact wpAny_pyIter_list hl (h _ rfl ⟨⟨_, Heap.get?_push_size _ rfl, rfl, rfl⟩, hl.push _⟩ (Nat.ne_of_lt hlt))
theorem truth_bools {prog : Program} {w : World} {A : Around} {bs : List Bool} {its : List Value} (e : its = bs.map Value.bool) :
    TruthOf prog w A (fun i v => its.toArray[i]? = some v) (fun i => bs.getD i false) := fun i v s Q E hv hq => by
  have hv' : its[i]? = some v := by simpa using hv
  rw [e, List.getElem?_map] at hv'
  obtain ⟨b, hb, rfl⟩ := Option.map_eq_some_iff.mp hv'
  have hg : bs.getD i false = b := by rw [List.getD_eq_getElem?_getD, hb] <;> rfl
  have hq' : Q (bs.getD i false) s := hq
  rw [hg] at hq'
  exact wpAny_truthy_bool hq'
theorem all_range : ∀ bs : List Bool, (List.range bs.length).all (fun i => bs.getD i false) = bs.all id
  | [] => rfl
  | b :: bs => by
    rw [List.length_cons, List.range_succ_eq_map, List.all_cons, List.all_map, List.all_cons, ← all_range bs]
    all_goals rfl
section
variable {X : Cx}
def rAll (K : PySem.W.Frag) : List V → Hp → VK → Prop := fun vs H Q => ∃ (a : Addr) (bs : List Bool), vs = [V.ref a] ∧ SqL K H a (bs.map V.bl) ∧ Q (.bl (bs.all id)) H
theorem cr_all (hc : X.calm = true) : CallR X (.builtin "all") (rAll X.K) := by
  intro pins s σ H vs us Q I r h
  obtain ⟨a, bs, rfl, hs, q⟩ := h
  obtain ⟨its, rv, hl, _⟩ := I.list hs
  rw [Vals.ref1 r]
  have hb := rv.bls
  refine call_all_walk (iter_any hl.isList fun s₂ e2 st hne => ?_)
  subst e2
  refine ⟨_, _, _, _, _, _, _, rfl, Walks.list (A := X.A.in1) (I.ok.hd hc) _ a hne its.toArray, st, truth_bools hb, fun h' tk hk => ?_⟩
  refine ⟨.bl _, H, I.kept fun b o eo => hk b o (fun hmem => ?_) (Heap.get?_push_of_some _ eo), ?_, q⟩
  · rcases List.mem_cons.mp hmem with e1 | hmem
    · exact absurd (e1 ▸ Heap.lt_size eo) (Nat.lt_irrefl _)
    · cases hmem
  · show Value.bool _ = Value.bool _
    rw [← all_range, hb, List.size_toArray, List.length_map]
end
end L2
namespace L2
open PySem PySem.Spec PyProof.Rows
abbrev CellAt (h : Heap) (c : Addr) (v : Option Value) : Prop := h.IsCell c v
def relS (scope sc : Scope) : Scope :=
  { scope with names := scope.names.map fun (n, k) => if (k == .free && sc.kind == .function && sc.names.lookup n == some .cell) then (n, .cell) else (n, k) }
def cloFrom (cells : List (Str × Addr)) : List (Str × NameKind) → List (Str × Addr) → List (Str × Addr)
  | [], acc => acc
  | (n, k) :: r, acc => if k == .free then cloFrom cells r ((n, (cells.lookup n).getD 0) :: acc) else cloFrom cells r acc
theorem closure_loop (env : Env) (f : Str × NameKind → List (Str × Addr) → Sem (ForInStep (List (Str × Addr))))
    (hf : ∀ n k c, f (n, k) c = if k == .free then (do let a ← cellOf env n; pure (.yield ((n, a) :: c))) else pure (.yield c)) :
    ∀ (names : List (Str × NameKind)) (acc : List (Str × Addr)), (∀ y ∈ names, y.2 = .free → ∃ c, env.cells.lookup y.1 = some c) → forIn names acc f = pure (cloFrom env.cells names acc)
  | [], acc, _ => by rw [List.forIn_nil]; rfl
  | (n, k) :: r, acc, h => by
    rw [List.forIn_cons, hf]
    have ih := fun acc => closure_loop env f hf r acc fun y hy => h y (List.mem_cons_of_mem _ hy)
    unfold cloFrom
    by_cases hk : (k == NameKind.free) = true
    · rw [if_pos hk, if_pos hk]
      obtain ⟨c, hc⟩ := h (n, k) List.mem_cons_self (by simpa using hk)
      have e : cellOf env n = pure c := by unfold cellOf; rw [hc]
      rw [e]
      have e2 : (env.cells.lookup n).getD 0 = c := by rw [hc]; rfl
      rw [e2]
      exact ih _
    · rw [if_neg hk, if_neg hk]
      exact ih _
theorem closure_ok {scope : Scope} {env : Env} (h : ∀ y ∈ scope.names, y.2 = .free → ∃ c, env.cells.lookup y.1 = some c) : closureFor scope env = pure (cloFrom env.cells scope.names []) := by
  simp only [closureFor]
  rw [closure_loop env _ (fun n k c => rfl) scope.names [] h]
  rfl
theorem mem_lookup {α : Type} : ∀ {l : List (Str × α)} {n : Str} {c : α}, (n, c) ∈ l → ∃ c', l.lookup n = some c'
  | (k, v) :: r, n, c, h => by
    rw [List.lookup_cons]
    cases hb : n == k with
    | true => exact ⟨_, rfl⟩
    | false =>
      rcases List.mem_cons.mp h with e | h
      · cases e; simp at hb
      · exact mem_lookup h
theorem cloFrom_mem {cells : List (Str × Addr)} : ∀ {names : List (Str × NameKind)} {acc : List (Str × Addr)} {n : Str} {c : Addr}, (n, c) ∈ cloFrom cells names acc → (n, c) ∈ acc ∨ ((n, .free) ∈ names ∧ c = (cells.lookup n).getD 0)
  | [], _, _, _, h => .inl h
  | (m, k) :: r, acc, n, c, h => by
    unfold cloFrom at h
    split at h
    · rename_i hk
      have hk : k = .free := by simpa using hk
      rcases cloFrom_mem h with h | ⟨h1, h2⟩
      · rcases List.mem_cons.mp h with e | h
        · cases e; exact .inr ⟨hk ▸ List.mem_cons_self, rfl⟩
        · exact .inl h
      · exact .inr ⟨List.mem_cons_of_mem _ h1, h2⟩
    · rcases cloFrom_mem h with h | ⟨h1, h2⟩
      · exact .inl h
      · exact .inr ⟨List.mem_cons_of_mem _ h1, h2⟩
theorem cloFrom_acc {cells : List (Str × Addr)} : ∀ {names : List (Str × NameKind)} {acc : List (Str × Addr)} {p : Str × Addr}, p ∈ acc → p ∈ cloFrom cells names acc
  | [], _, _, h => h
  | (m, k) :: r, acc, p, h => by
    unfold cloFrom
    split
    · exact cloFrom_acc (List.mem_cons_of_mem _ h)
    · exact cloFrom_acc h
theorem cloFrom_has {cells : List (Str × Addr)} : ∀ {names : List (Str × NameKind)} {acc : List (Str × Addr)} {n : Str}, (n, .free) ∈ names → (n, (cells.lookup n).getD 0) ∈ cloFrom cells names acc
  | (m, k) :: r, acc, n, h => by
    unfold cloFrom
    rcases List.mem_cons.mp h with e | h
    · cases e
      exact cloFrom_acc List.mem_cons_self
    · split
      · exact cloFrom_has h
      · exact cloFrom_has h
theorem cells_mem : ∀ {names : List (Str × NameKind)} {h : Heap} {acc : List (Str × Addr)} {x : Str} {c : Addr}, (x, c) ∈ cellsFrom h.objs.size names acc →
    (x, c) ∈ acc ∨ ((x, .cell) ∈ names ∧ h.objs.size ≤ c ∧ CellAt (pushCells h names) c none)
  | [], _, _, _, _, h => .inl h
  | (n, k) :: r, h, acc, x, c, hm => by
    unfold cellsFrom at hm
    unfold pushCells
    split at hm
    · rename_i hk
      rw [if_pos hk]
      have hk : k = .cell := by simpa using hk
      rw [← Heap.size_push h { cls := .type "cell", data := .cell none }] at hm
      rcases cells_mem hm with hm | ⟨h1, h2, h3⟩
      · rcases List.mem_cons.mp hm with e | hm
        · cases e
          exact .inr ⟨hk ▸ List.mem_cons_self, Nat.le_refl _, _, pushCells_keeps r _ _ _ (Heap.get?_push_size _ rfl), rfl⟩
        · exact .inl hm
      · rw [Heap.size_push] at h2
        exact .inr ⟨List.mem_cons_of_mem _ h1, Nat.le_of_succ_le h2, h3⟩
    · rename_i hk
      rw [if_neg hk]
      rcases cells_mem hm with hm | ⟨h1, h2, h3⟩
      · exact .inl hm
      · exact .inr ⟨List.mem_cons_of_mem _ h1, h2, h3⟩
theorem cells_acc : ∀ {names : List (Str × NameKind)} {n : Nat} {acc : List (Str × Addr)} {p : Str × Addr}, p ∈ acc → p ∈ cellsFrom n names acc
  | [], _, _, _, h => h
  | (m, k) :: r, n, acc, p, h => by
    unfold cellsFrom
    split
    · exact cells_acc (List.mem_cons_of_mem _ h)
    · exact cells_acc h
theorem cells_has : ∀ {names : List (Str × NameKind)} {n : Nat} {acc : List (Str × Addr)} {x : Str}, (x, .cell) ∈ names → ∃ c, (x, c) ∈ cellsFrom n names acc
  | (m, k) :: r, n, acc, x, h => by
    unfold cellsFrom
    rcases List.mem_cons.mp h with e | h
    · cases e
      exact ⟨n, cells_acc List.mem_cons_self⟩
    · split
      · exact cells_has h
      · exact cells_has h
theorem cells_inj : ∀ {names : List (Str × NameKind)} {h : Heap} {acc : List (Str × Addr)} {x y : Str} {c : Addr}, (∀ p ∈ acc, p.2 < h.objs.size) → (∀ x y c, (x, c) ∈ acc → (y, c) ∈ acc → x = y) →
    (x, c) ∈ cellsFrom h.objs.size names acc → (y, c) ∈ cellsFrom h.objs.size names acc → x = y
  | [], _, _, _, _, _, _, hi, h1, h2 => hi _ _ _ h1 h2
  | (n, k) :: r, h, acc, x, y, c, hl, hi, h1, h2 => by
    unfold cellsFrom at h1 h2
    split at h1
    · rename_i hk
      rw [if_pos hk] at h2
      rw [← Heap.size_push h { cls := .type "cell", data := .cell none }] at h1 h2
      refine cells_inj (h := h.push _) (fun p hp => ?_) (fun x y c a b => ?_) h1 h2
      · rw [Heap.size_push]
        rcases List.mem_cons.mp hp with rfl | hp
        · exact Nat.lt_succ_self _
        · exact Nat.lt_succ_of_lt (hl p hp)
      · rcases List.mem_cons.mp a with e | a <;> rcases List.mem_cons.mp b with e' | b
        · cases e; cases e'; rfl
        · cases e; exact absurd (hl _ b) (Nat.lt_irrefl _)
        · cases e'; exact absurd (hl _ a) (Nat.lt_irrefl _)
        · exact hi _ _ _ a b
    · rename_i hk
      rw [if_neg hk] at h2
      exact cells_inj hl hi h1 h2
theorem newEnv_comp {M : Model} {A : Around} {E : Value → Shared → Prop} {s : Shared} {scope : Scope} {globals : Addr} {closure : List (Str × Addr)} {qual : Str} {func : Option Addr} {code : Value} {around : Env} {builtins : Addr} {Q : Env → Shared → Prop}
    (h : Q (newEnv scope s.heap.objs.size globals (cellsFrom (s.heap.objs.size + 1) scope.names closure) qual func code (some around) builtins)
      { s with heap := pushCells (s.heap.push { cls := .type "dict", data := .dict #[] }) scope.names }) :
    wpAny M A (newFunctionEnv scope globals closure [] qual func code (some around) builtins) Q E s := by
  simp only [newFunctionEnv, Option.isSome_some, if_true]
  refine wpAny_bind (wpAny_alloc ?_)
  refine wpAny_bind (wpAny_layCells _ (fun n k c => rfl) scope.names closure _ _ ?_)
  rw [show ({ s with heap := s.heap.push { cls := .type "dict", data := .dict #[] } } : Shared).heap.objs.size = s.heap.objs.size + 1 from Heap.size_push ..]
  rw [List.forIn_nil]
  exact wpAny_bind (wpAny_pure (wpAny_pure h))
theorem lookup_relS {sc : Scope} : ∀ {names : List (Str × NameKind)} {x : Str} {k : NameKind},
    (names.map fun (n, k) => if (k == NameKind.free && sc.kind == .function && sc.names.lookup n == some .cell) then (n, NameKind.cell) else (n, k)).lookup x = some k →
    ∃ k', names.lookup x = some k' ∧ (k = k' ∨ (k' = .free ∧ k = .cell))
  | [], _, _, h => by simp at h
  | (n, k₀) :: r, x, k, h => by
    have ih := @lookup_relS sc r x k
    have h' : List.lookup x ((if (k₀ == NameKind.free && sc.kind == .function && sc.names.lookup n == some .cell) = true then (n, NameKind.cell) else (n, k₀)) :: (r.map _)) = some k := h
    cases hx : x == n with
    | true =>
      simp only [List.lookup_cons, hx]
      by_cases hc : (k₀ == NameKind.free && sc.kind == .function && sc.names.lookup n == some .cell) = true
      · rw [if_pos hc] at h'
        simp only [List.lookup_cons, hx] at h'
        cases h'
        simp only [Bool.and_eq_true, beq_iff_eq] at hc
        exact ⟨k₀, rfl, .inr ⟨hc.1.1, rfl⟩⟩
      · rw [if_neg hc] at h'
        simp only [List.lookup_cons, hx] at h'
        cases h'
        exact ⟨_, rfl, .inl rfl⟩
    | false =>
      simp only [List.lookup_cons, hx]
      by_cases hc : (k₀ == NameKind.free && sc.kind == .function && sc.names.lookup n == some .cell) = true
      · rw [if_pos hc] at h'
        simp only [List.lookup_cons, hx] at h'
        exact ih h'
      · rw [if_neg hc] at h'
        simp only [List.lookup_cons, hx] at h'
        exact ih h'
structure BlkOk (N : List Str) (sc scope : Scope) (own : List (Str × Nat)) : Prop where
  kind : scope.kind = .function
  uniq : ∀ y ∈ scope.names, scope.names.lookup y.1 = some y.2
  ix : ∀ p ∈ own, N[p.2]? = some p.1
  free : ∀ y ∈ scope.names, y.2 = .free → sc.names.lookup y.1 = some .cell ∨ sc.names.lookup y.1 = some .free
  own : ∀ y ∈ scope.names, y.2 = .local ∨ y.2 = .cell → y.1 ∈ own.map (·.1) ∨ y.1 ∉ N
def wipe (σ : St) : List Nat → St
  | [] => σ
  | v :: vs => (wipe σ vs).set v none
theorem wipe_length (σ : St) : ∀ vs : List Nat, (wipe σ vs).length = σ.length
  | [] => rfl
  | v :: vs => by unfold wipe; rw [List.length_set, wipe_length σ vs]
theorem wipe_some {σ : St} {i : Nat} {x : V} : ∀ {vs : List Nat}, (wipe σ vs)[i]? = some (some x) → σ[i]? = some (some x) ∧ i ∉ vs
  | [], h => ⟨h, by simp⟩
  | v :: vs, h => by
    unfold wipe at h
    by_cases hi : v = i
    · subst hi
      by_cases hv : v < (wipe σ vs).length
      · rw [List.getElem?_set_self hv] at h; cases h
      · rw [List.getElem?_eq_none (by simpa using hv)] at h; cases h
    · rw [List.getElem?_set_ne hi] at h
      obtain ⟨h1, h2⟩ := wipe_some h
      exact ⟨h1, by simp only [List.mem_cons, not_or]; exact ⟨fun e => hi e.symm, h2⟩⟩
abbrev Cx.blk (X : Cx) (s : Shared) (H : Hp) (scope : Scope) (cenv : Env) (fp : List Addr) : Cx := { X with s_0 := s, H_0 := H, env := cenv, outer := X.stack, ex := fp, fn := fun x => scope.names.lookup x == some .cell, pn := [], xe := fun _ _ => False }
section
variable {X : Cx} {pins : List (Addr × Obj)} {σ : St} {H : Hp} {s : Shared}
theorem block_start {scope : Scope} {own : List (Str × Nat)} {fp : List Addr} (I : Inv X pins σ H s) (ok : BlkOk X.N X.env.scope scope own) (hN : X.N.Nodup) (hfp : ∀ b ∈ fp, FpOk X pins H b ∧ b < s.heap.objs.size) :
    Inv (X.blk s H scope (compEnvC scope (cellsFrom (s.heap.objs.size + 1) scope.names (cloFrom X.env.cells scope.names [])) s.heap.objs.size X.env) fp) [] (wipe σ (own.map (·.2))) H { s with heap := pushCells (s.heap.push { cls := .type "dict", data := .dict #[] }) scope.names } := by
  have hfree : ∀ y ∈ scope.names, y.2 = .free → ∃ c, X.env.cells.lookup y.1 = some c := fun y hy e => by
    rcases ok.free y hy e with k | k
    · exact I.ok.has _ (.inl k)
    · exact I.ok.has _ (.inr k)
  generalize hcenv : compEnvC scope (cellsFrom (s.heap.objs.size + 1) scope.names (cloFrom X.env.cells scope.names [])) s.heap.objs.size X.env = cenv
  have kp : ∀ b o, s.heap.get? b = some o → (pushCells (s.heap.push { cls := .type "dict", data := .dict #[] }) scope.names).get? b = some o := fun b o e => pushCells_keeps _ _ _ _ (Heap.get?_push_of_some _ e)
  have hL : cenv.locals = s.heap.objs.size := by rw [← hcenv]; rfl
  have hcl : cenv.cells = cellsFrom (s.heap.objs.size + 1) scope.names (cloFrom X.env.cells scope.names []) := by rw [← hcenv]; rfl
  have hsc : cenv.scope = relS scope X.env.scope := by rw [← hcenv]; rfl
  rw [← Heap.size_push s.heap { cls := .type "dict", data := .dict #[] }] at hcl
  have cm : ∀ {y c}, (y, c) ∈ cloFrom X.env.cells scope.names [] → X.env.cells.lookup y = some c ∧ c < s.heap.objs.size := fun {y c} hm => by
    rcases cloFrom_mem hm with hm | ⟨h1, rfl⟩
    · cases hm
    · obtain ⟨c, hc⟩ := hfree _ h1 rfl
      rw [hc]
      obtain ⟨w, z⟩ := I.cell _ _ hc
      exact ⟨rfl, z.lt⟩
  have mem : ∀ {y c}, cenv.cells.lookup y = some c → (X.env.cells.lookup y = some c ∧ c < s.heap.objs.size) ∨ (s.heap.objs.size + 1 ≤ c ∧ CellAt (pushCells (s.heap.push { cls := .type "dict", data := .dict #[] }) scope.names) c none) := fun {y c} e => by
    rw [hcl] at e
    rcases cells_mem (PySem.mem_of_lookup e) with hm | ⟨_, h2, h3⟩
    · exact .inl (cm hm)
    · rw [Heap.size_push] at h2; exact .inr ⟨h2, h3⟩
  have look : ∀ {y}, scope.names.lookup y = some .free → ∃ c, cenv.cells.lookup y = some c ∧ X.env.cells.lookup y = some c := fun {y} hl => by
    have hy : (y, NameKind.free) ∈ scope.names := PySem.mem_of_lookup hl
    obtain ⟨c', e'⟩ := mem_lookup (cells_acc (names := scope.names) (n := (s.heap.push { cls := .type "dict", data := .dict #[] }).objs.size) (cloFrom_has (cells := X.env.cells) (acc := []) hy))
    rw [← hcl] at e'
    refine ⟨c', e', ?_⟩
    rw [hcl] at e'
    rcases cells_mem (PySem.mem_of_lookup e') with hm | ⟨h1, _, _⟩
    · exact (cm hm).1
    · have := ok.uniq _ h1
      rw [hl] at this; cases this
  have okB : (X.blk s H scope cenv fp).Ok := by
    refine ⟨I.ok.mod, by show cenv.scope.kind = _; rw [hsc]; exact ok.kind, by show cenv.globals = _; rw [← hcenv]; exact I.ok.glob, by show cenv.builtins = _; rw [← hcenv]; exact I.ok.blt, by show s.heap.objs.size ≤ cenv.locals; rw [hL]; exact Nat.le_refl _,
      fun y z c e1 e2 => ?_, fun y hy => ?_, fun y c z e => ?_, I.ok.hd, I.ok.frames, .inl rfl, fun b hb => ⟨?_, fun y c e z => ?_⟩, I.bs, Nat.le_trans I.ok.bsz I.sz, fun b o e hb => ?_, fun b hb z => ?_, I.stack, I.stkFree⟩
    · have e1 : cenv.cells.lookup y = some c := e1
      have e2 : cenv.cells.lookup z = some c := e2
      rw [hcl] at e1 e2
      refine cells_inj (fun p hp => ?_) (fun y z c a b => I.ok.inj y z c (cm a).1 (cm b).1) (PySem.mem_of_lookup e1) (PySem.mem_of_lookup e2)
      rw [Heap.size_push]
      exact Nat.lt_succ_of_lt (cm (y := p.1) (c := p.2) hp).2
    · show ∃ c, cenv.cells.lookup y = some c
      have key : ∀ k, cenv.kindOf y = some k → (k = .cell ∨ k = .free) → ∃ c, cenv.cells.lookup y = some c := fun k hk hk' => by
        unfold Env.kindOf at hk
        rw [hsc] at hk
        obtain ⟨k', e, r⟩ := lookup_relS hk
        have : k' = .cell ∨ k' = .free := by
          rcases r with rfl | ⟨rfl, _⟩
          · exact hk'
          · exact .inr rfl
        rcases this with rfl | rfl
        · obtain ⟨c, hm⟩ := cells_has (n := (s.heap.push { cls := .type "dict", data := .dict #[] }).objs.size) (acc := cloFrom X.env.cells scope.names []) (PySem.mem_of_lookup e)
          obtain ⟨c', e'⟩ := mem_lookup hm
          exact ⟨c', by rw [hcl]; exact e'⟩
        · obtain ⟨c, h1, _⟩ := look e
          exact ⟨c, h1⟩
      rcases hy with hy | hy
      · exact key _ hy (.inl rfl)
      · exact key _ hy (.inr rfl)
    · have z : (scope.names.lookup y == some NameKind.cell) = true := z
      have z : scope.names.lookup y = some .cell := by simpa using z
      have e : cenv.cells.lookup y = some c := e
      rw [hcl] at e
      rcases cells_mem (PySem.mem_of_lookup e) with hm | ⟨_, h2, _⟩
      · rcases cloFrom_mem hm with hm | ⟨h1, _⟩
        · cases hm
        · have q := ok.uniq _ h1
          rw [z] at q; cases q
      · rw [Heap.size_push] at h2
        exact Nat.le_of_succ_le h2
    · show b ≠ cenv.locals
      rw [hL]; exact Nat.ne_of_lt (hfp b hb).2
    · have e : cenv.cells.lookup y = some c := e
      rcases mem e with ⟨h1, _⟩ | ⟨h1, _⟩
      · exact (hfp b hb).1.2.2.2.2.1 y c h1 z
      · have h2 : s.heap.objs.size + 1 ≤ b := by rw [← z]; exact h1
        exact absurd (Nat.lt_of_lt_of_le (hfp b hb).2 (Nat.le_of_succ_le h2)) (Nat.lt_irrefl _)
    · rcases (hfp b hb).1.2.2.2.1 with z | z
      · exact I.ok.noex b o e z
      · exact absurd (Nat.lt_of_lt_of_le (Heap.lt_size e) (Nat.le_trans I.ok.bsz z)) (Nat.lt_irrefl _)
    · rcases List.mem_cons.mp (I.stkSub b z) with z | z
      · exact (hfp b hb).1.2.1 z
      · exact (hfp b hb).1.2.2.1 z
  refine ⟨okB, rfl, I.bare, Un.kept kp, ⟨fun _ => none, ?_, fun i y av e1 e2 e3 => ?_⟩, fun y c e => ?_, ?_, fun y c e => ?_, fun p hp => ?_, I.hok.kept kp, by rw [wipe_length]; exact I.len⟩
  · show Heap.Ns _ cenv.locals _
    rw [hL]
    exact Heap.Ns.keeps (Heap.Ns.new ..) fun b o e => pushCells_keeps _ _ _ _ e
  · obtain ⟨e2, hne⟩ := wipe_some e2
    have hfr : scope.names.lookup y = some .free ∧ (cenv.kindOf y = some .cell ∨ cenv.kindOf y = some .free) := by
      have key : ∀ k, cenv.scope.names.lookup y = some k → k = .local ∨ k = .cell ∨ k = .free → scope.names.lookup y = some .free ∧ (cenv.kindOf y = some .cell ∨ cenv.kindOf y = some .free) := fun k hk hk' => by
        have hk0 := hk
        rw [hsc] at hk
        obtain ⟨k', e, r⟩ := lookup_relS hk
        have no : ¬ (k' = .local ∨ k' = .cell) := fun hh => by
          rcases ok.own _ (PySem.mem_of_lookup e) hh with e' | e'
          · obtain ⟨p, hp, hpy⟩ := List.mem_map.mp e'
            have e3 := ok.ix p hp
            have : p.1 = y := hpy
            rw [this] at e3
            exact hne (List.mem_map.mpr ⟨p, hp, nodup_ix hN e3 e1⟩)
          · exact e' (List.mem_of_getElem? e1)
        rcases r with rfl | ⟨rfl, rfl⟩
        · rcases hk' with rfl | rfl | rfl
          · exact absurd (.inl rfl) no
          · exact absurd (.inr rfl) no
          · exact ⟨e, .inr hk0⟩
        · exact ⟨e, .inl hk0⟩
      have e3 : Vis cenv.scope y := e3
      rcases e3 with e3 | e3 | e3
      · exact key _ e3 (.inl rfl)
      · exact key _ e3 (.inr (.inl rfl))
      · exact key _ e3 (.inr (.inr rfl))
    obtain ⟨m, hn, hl⟩ := I.loc
    have hvis : Vis X.env.scope y := (ok.free _ (PySem.mem_of_lookup hfr.1) rfl).elim (fun k => .inr (.inl k)) (fun k => .inr (.inr k))
    obtain ⟨w, r, q⟩ := hl i y av e1 e2 hvis
    refine ⟨w, r, .inr ⟨hfr.2, ?_⟩⟩
    obtain ⟨c, h1, h2⟩ := look hfr.1
    rcases q with ⟨k, _⟩ | ⟨_, c', e', z⟩
    · have k : X.env.scope.names.lookup y = some .local := k
      rcases ok.free _ (PySem.mem_of_lookup hfr.1) rfl with k' | k' <;> rw [show X.env.scope.names.lookup y = _ from k'] at k <;> cases k
    · rw [h2] at e'; cases e'
      exact ⟨c, h1, z.keeps kp⟩
  · have e : cenv.cells.lookup y = some c := e
    rcases mem e with ⟨h1, _⟩ | ⟨_, z⟩
    · obtain ⟨w, z⟩ := I.cell y c h1
      exact ⟨w, z.keeps kp⟩
    · exact ⟨_, z⟩
  · show H cenv.locals = none
    rw [hL]; exact I.hok.fresh (Nat.le_refl _)
  · have e : cenv.cells.lookup y = some c := e
    rcases mem e with ⟨h1, _⟩ | ⟨h1, _⟩
    · exact I.freeC y c h1
    · exact I.hok.fresh (Nat.le_of_succ_le h1)
  · exact absurd (show p ∈ ([] : List (Addr × Obj)) ++ [] from hp) (by simp)
theorem app_ok {E : Value → Shared → Prop} {D : Addr} {xs : List V} {y : V} {v : Value} {Q : Value → Shared → Prop} (I : Inv X pins σ H s) (hD : H D = some (.lst xs)) (hz : xs.length < sizeLine) (r : RelV y v)
    (h : ∀ s', Inv X pins σ (upd H D (.lst (xs ++ [y]))) s' → Q .none s') : wpAny (model X.prog X.w) X.A (call (.builtin "list.append") [.ref D, v]) Q E s := by
  obtain ⟨hz', its, n, ri, e⟩ := I.hok D _ hD
  have hl := ri.length
  refine append_at (hsz := by rw [List.size_toArray]; omega) e fun h' sb ho' => ?_
  refine h { s with heap := h' } (I.write (t' := s.toks) (by rw [hD]; trivial) (.inl rfl) (fun b u hb q => (sb.2 b hb).trans q) ⟨_, ho'⟩ ⟨by rw [List.length_append]; exact hz, its ++ [v], n + 1, ri.append (.cons r .nil), ?_⟩)
  rw [ho']
  simp
def PTs (X : Cx) (ifs : List Expr) (t : TT) : Prop :=
  ∀ (pins : List (Addr × Obj)) (s : Shared) (σ : St) (H : Hp) (Q : Bool → Hp → Prop), Inv X pins σ H s → t σ H Q →
    wpAny (model X.prog X.w) X.A (forIn ifs true fun c r => if r = true then do let ok ← isTrue c X.env (eval c X.env); pure (ForInStep.yield ok) else pure (ForInStep.yield r)) (TP X pins σ Q) X.xe s
def tYes : TT := fun _ H Q => Q true H
theorem pts_nil : PTs X [] tYes := fun _ _ _ H _ I h => wpAny_tests_nil ⟨H, I, h⟩
theorem pts_one {c : Expr} {t : TT} (h : PT X c t) : PTs X [c] t := fun pins s σ H Q I hw => wpAny_tests_one (h pins s σ H Q I hw)
end
theorem thnF {α : Type} {t : Sem α} {Q Q' : α → Shared → Prop} {M : Model} {A : Around} {E : Value → Shared → Prop} {s : Shared} (h : wpAny M A t Q (fun _ _ => False) s) (hQ : ∀ a s, Q a s → Q' a s) : wpAny M A t Q' E s := wpAny_mono h hQ fun _ _ z => False.elim z
theorem compLoop_any {prog : Program} {w : World} {A : Around} {R : Result → Shared → Prop} {s : Shared} {elt target iter : Expr} {ifs : List Expr} {scope : Scope} {pos : Pos} {it acc : Value} {env : Env} (I : Nat → Shared → Prop)
    (turn : ∀ n s, I n s → wpAny (model prog w) A (pyNext it) (fun r s₁ => match r with
      | none => R (.ok .next) s₁
      | some v => wpAny (model prog w) A (letOwnedTupleGo target it v) (fun _ s₁' => wpAny (model prog w) A (assign target env v) (fun _ s₂ =>
          wpAny (model prog w) A (forIn ifs true fun c r => if r = true then do let ok ← isTrue c env (eval c env); pure (ForInStep.yield ok) else pure (ForInStep.yield r)) (fun ok s₃ =>
            if ok = true then wpAny (model prog w) A (eval elt env) (fun x s₄ =>
              wpAny (model prog w) A (call (.builtin "list.append") [acc, x]) (fun _ s₅ => ∃ m, m < n ∧ I m s₅) (notedBy (model prog w) A env fun e s' => R (.error e) s') s₄) (notedBy (model prog w) A env fun e s' => R (.error e) s') s₃
            else ∃ m, m < n ∧ I m s₃) (notedBy (model prog w) A env fun e s' => R (.error e) s') s₂) (notedBy (model prog w) A env fun e s' => R (.error e) s') s₁') (notedBy (model prog w) A env fun e s' => R (.error e) s') s₁) (notedBy (model prog w) A env fun e s' => R (.error e) s') s)
    (n : Nat) (h : I n s) :
    codeAny (model prog w) A (.compLoop (.ListComp elt [⟨target, iter, ifs, 0⟩] scope pos) 0 it acc env) R s := by
  refine codeAny_loop rfl I (fun n s hI => ?_) n h
  show wpAny _ A ((compTurn (.ListComp elt [⟨target, iter, ifs, 0⟩] scope pos) 0 it acc env).onRaise (fun x => do noteFrame x env; theTreesLotGoes x)) _ _ s
  refine wpAny_noted ?_
  rw [compTurn_list]
  refine wpAny_bind (wpAny_standAt (wpAny_bind (wpAny_mono (turn n s hI) (fun r s₁ h₁ => ?_) fun _ _ h' => h')))
  cases r with
  | none => exact wpAny_pure h₁
  | some v =>
    refine wpAny_bind (wpAny_mono h₁ (fun _ s₁' h₁' => ?_) fun _ _ h' => h')
    refine wpAny_bind (wpAny_mono h₁' (fun _ s₂ h₂ => wpAny_bind (wpAny_mono h₂ (fun ok s₃ h₃ => ?_) fun _ _ h' => h')) fun _ _ h' => h')
    cases ok with
    | false => exact wpAny_pure ⟨rfl, h₃⟩
    | true =>
      exact wpAny_bind (wpAny_bind (wpAny_mono h₃ (fun x s₄ h₄ => wpAny_bind (wpAny_mono h₄ (fun _ s₅ h₅ => wpAny_pure (wpAny_pure ⟨rfl, h₅⟩)) fun _ _ h' => h')) fun _ _ h' => h'))
section
variable {X : Cx}
def tLc (wi : TI) (g : TG) (tt : TT) (te : TE) (vs : List Nat) : TE := fun σ H Q => wi σ H fun J H1 => ∀ D, H1 D = none → ∃ W : Nat → Nat → Hp → Prop, (∃ m, W 0 m (upd H1 D (.lst []))) ∧ ∀ i m H, W i m H →
  (J.stop i H ∧ Q (.ref D) H) ∨ (J.go i H ∧ ∃ Nx : Hp → Prop, (∀ H', Nx H' → ∃ m', m' < m ∧ W (i + 1) m' H') ∧ ∀ x H', J.yld i H x H' → g x (wipe σ vs) H' fun σ2 H2 => wipe σ2 vs = wipe σ vs ∧ tt σ2 H2 fun b H3 =>
    if b = true then te σ2 H3 fun y H4 => ∃ acc, H4 D = some (.lst acc) ∧ acc.length < sizeLine ∧ Nx (upd H4 D (.lst (acc ++ [y]))) else Nx H3)
theorem lc_core {pins : List (Addr × Obj)} {s : Shared} {σ : St} {H : Hp} {Q : VK} {elt tg iter : Expr} {ifs : List Expr} {scope : Scope} {own : List (Str × Nat)} {pos pos' : Pos} {wi : TI} {g : TG} {tt : TT} {te : TE} {use : Option (Value → Sem Unit)} {Qf : Value → Shared → Prop}
    (hc : X.calm = true) (hN : X.N.Nodup) (I : Inv X pins σ H s) (hi : PI X tg iter wi) (ok : BlkOk X.N X.env.scope scope own)
    (hg : ∀ (s : Shared) (H : Hp) (C : Addr) (cl : List (Str × Addr)) (fp : List Addr), PG (X.blk s H scope (compEnvC scope cl C X.env) fp) tg g) (ht : ∀ (s : Shared) (H : Hp) (C : Addr) (cl : List (Str × Addr)) (fp : List Addr), PTs (X.blk s H scope (compEnvC scope cl C X.env) fp) ifs tt)
    (he : ∀ (s : Shared) (H : Hp) (C : Addr) (cl : List (Str × Addr)) (fp : List Addr), PE (X.blk s H scope (compEnvC scope cl C X.env) fp) elt te) (hs : ∀ x, foldedSetIterable iter X.env x = pure x)
    (h : tLc wi g tt te (own.map (·.2)) σ H Q)
    (hRR : ∀ D C s' m H', Inv X pins σ H' s' → Q (.ref D) H' → s'.heap.Ns C m → FpOk X pins H' C → compPost (model X.prog X.w) X.A X.xe use Qf (.ref D) C (.ok .next) s') :
    wpAny (model X.prog X.w) X.A (comprehension (.ListComp elt [⟨tg, iter, ifs, 0⟩] scope pos) scope X.env pos' (newList []) false (eval iter X.env) use) Qf X.xe s := by
  have hfree : ∀ y ∈ scope.names, y.2 = .free → ∃ c, X.env.cells.lookup y.1 = some c := fun y hy e => by
    rcases ok.free y hy e with k | k
    · exact I.ok.has _ (.inl k)
    · exact I.ok.has _ (.inr k)
  refine wpAny_comprehension_free (use := use) rfl hs (closure_ok hfree) ok.kind (fun y hy e => by rw [ok.uniq y hy, e])
    (thn (hi pins s σ H _ I h) fun xv s1 hx => thn hx fun itv s2 h2 => ?_)
  obtain ⟨it, fp, tn, J, H2, e, I2, T, st2, f2, q⟩ := h2
  subst e
  refine wpAny_newObj_type (newEnv_comp ?_) (by show 0 ≤ sizeLine; decide)
  generalize hD : s2.heap.objs.size = D
  have hDn : H2 D = none := I2.hok.fresh (Nat.le_of_eq hD)
  obtain ⟨W, ⟨m0, w0⟩, turn⟩ := q D hDn
  generalize hs3 : ({ s2 with heap := s2.heap.push { cls := .type "list", data := .seq ([] : List Value).toArray } } : Shared) = s3
  have I3 : Inv X pins σ (upd H2 D (.lst [])) s3 := by
    rw [← hs3]
    refine I2.laid (t' := s2.toks) (fun b o e => Heap.get?_push_of_some _ e) (Nat.le_of_eq hD) ⟨Nat.zero_le _, [], 0, .nil, ?_⟩
    rw [← hD]
    exact Heap.get?_push_size _ rfl
  have h3 : s3.heap = s2.heap.push { cls := .type "list", data := .seq ([] : List Value).toArray } := by rw [← hs3]
  have sz : ∀ b ∈ fp, b < s2.heap.objs.size := fun b hb => by
    obtain ⟨o, e, _⟩ := T.obj _ _ st2 b hb
    exact Heap.lt_size e
  have f3 : ∀ b ∈ fp, FpOk X pins (upd H2 D (.lst [])) b ∧ b < s3.heap.objs.size := fun b hb => by
    have hlt := sz b hb
    refine ⟨⟨?_, (f2 b hb).2⟩, by rw [h3, Heap.size_push]; exact Nat.lt_succ_of_lt hlt⟩
    rw [upd_ne (by rw [← hD]; exact Nat.ne_of_lt hlt)]
    exact (f2 b hb).1
  have st3 : tn 0 s3.heap := T.keep _ _ _ st2 fun b _ o e => by rw [h3]; exact Heap.get?_push_of_some _ e
  have I4 := block_start I3 ok hN f3
  have pg := hg s3 (upd H2 D (.lst [])) s3.heap.objs.size (cellsFrom (s3.heap.objs.size + 1) scope.names (cloFrom X.env.cells scope.names [])) fp
  have pt := ht s3 (upd H2 D (.lst [])) s3.heap.objs.size (cellsFrom (s3.heap.objs.size + 1) scope.names (cloFrom X.env.cells scope.names [])) fp
  have pe := he s3 (upd H2 D (.lst [])) s3.heap.objs.size (cellsFrom (s3.heap.objs.size + 1) scope.names (cloFrom X.env.cells scope.names [])) fp
  show codeAny _ _ (.compStart (.ListComp elt [⟨tg, iter, ifs, 0⟩] scope pos) 0 (.ref it) (.ref D) (compEnvC scope (cellsFrom (s3.heap.objs.size + 1) scope.names (cloFrom X.env.cells scope.names [])) s3.heap.objs.size X.env)) (compPost (model X.prog X.w) X.A X.xe use Qf (.ref D) s3.heap.objs.size) { s3 with heap := pushCells (s3.heap.push { cls := .type "dict", data := .dict #[] }) scope.names }
  have nfp : ∀ b ∈ fp, (upd H2 D (.lst [])) b = none := fun b hb => (f3 b hb).1.1
  generalize hce : compEnvC scope (cellsFrom (s3.heap.objs.size + 1) scope.names (cloFrom X.env.cells scope.names [])) s3.heap.objs.size X.env = ce at I4 pg pt pe ⊢
  have cL : ce.locals = s3.heap.objs.size := by subst hce; rfl
  generalize hH3 : upd H2 D (.lst []) = H3 at I3 I4 pg pt pe w0 nfp f3
  generalize hs4 : ({ s3 with heap := pushCells (s3.heap.push { cls := .type "dict", data := .dict #[] }) scope.names } : Shared) = s4 at I4 ⊢
  have st4 : tn 0 s4.heap := T.keep _ _ _ st3 fun b _ o e => by rw [← hs4]; exact pushCells_keeps _ _ _ _ (Heap.get?_push_of_some _ e)
  have stat : ∀ {σ' : St} {H' : Hp} {s' : Shared}, Inv (X.blk s3 H3 scope ce fp) [] σ' H' s' → (∀ b ∈ fp, H' b = none) → ∀ b ∈ fp, FpOk (X.blk s3 H3 scope ce fp) [] H' b := fun {σ' H' s'} I' hn b hb =>
    ⟨hn b hb, (I'.ok.exf b hb).1, I'.ok.exfs b hb, .inl hb, fun x c e => (I'.ok.exf b hb).2 x c e, fun p hp => absurd (show p ∈ ([] : List (Addr × Obj)) ++ [] from hp) (by simp)⟩
  have loop : codeAny (model X.prog X.w) X.A (.compLoop (.ListComp elt [⟨tg, iter, ifs, 0⟩] scope pos) 0 (.ref it) (.ref D) ce) (compPost (model X.prog X.w) X.A X.xe use Qf (.ref D) s3.heap.objs.size) s4 := by
    refine compLoop_any (fun n s' => ∃ i H', Inv (X.blk s3 H3 scope ce fp) [] (wipe σ (own.map (·.2))) H' s' ∧ tn i s'.heap ∧ (∀ b ∈ fp, H' b = none) ∧ W i n H') ?_ m0 ⟨0, H3, I4, st4, nfp, w0⟩
    rintro n s5 ⟨i, H5, I5, st5, n5, w5⟩
    rcases turn i n H5 w5 with ⟨stop, qq⟩ | ⟨go, Nx, hNx, step⟩
    · have td := T.done (X.blk s3 H3 scope ce fp) rfl rfl rfl hc i [] s5 _ H5 (fun _ _ => False) I5 (stat I5 n5) st5 stop
      refine thnF td fun r s6 ⟨hr, I6⟩ => ?_
      subst hr
      have I7 : Inv X pins σ H5 s6 := I3.call' (ch := fp) I6.os I6.base I6.hok I6.bare fun b hb => ⟨(f3 b hb).1.2.2.2.1, (f3 b hb).1.2.1, (f3 b hb).1.2.2.2.2.1, (f3 b hb).1.2.2.2.2.2⟩
      have nC : H5 s3.heap.objs.size = none := by
        have z : H5 ce.locals = none := I6.free
        rw [cL] at z
        exact z
      obtain ⟨m, hn, _⟩ := I6.loc
      have hn : s6.heap.Ns ce.locals m := hn
      rw [cL] at hn
      exact hRR D s3.heap.objs.size s6 m H5 I7 qq hn (I3.fpOk (Nat.le_refl _) nC)
    · have ti := T.item (X.blk s3 H3 scope ce fp) rfl rfl rfl hc i [] s5 _ H5 (fun _ _ => False) I5 (stat I5 n5) st5 go
      refine thnF ti fun r s6 ⟨u, hr, h6⟩ => ?_
      subst hr
      refine thnF h6 fun _ s7 ⟨x, H7, I7, r7, y7, st7, n7⟩ => ?_
      have I7' := I7.pinned (stat I7 n7) (T.obj _ _ st7)
      refine thnF (pg _ s7 _ H7 x u _ I7' r7 (step x H7 y7)) fun _ s8 ⟨σ8, H8, I8, hw8, q8⟩ => ?_
      refine thnF (pt _ s8 σ8 H8 _ I8 q8) fun b s9 ⟨H9, I9, q9⟩ => ?_
      have fin : ∀ {s' : Shared} {H' : Hp}, Inv (X.blk s3 H3 scope ce fp) ([] ++ pinsAt fp s7.heap) σ8 H' s' → Nx H' → ∃ m, m < n ∧ ∃ i H', Inv (X.blk s3 H3 scope ce fp) [] (wipe σ (own.map (·.2))) H' s' ∧ tn i s'.heap ∧ (∀ b ∈ fp, H' b = none) ∧ W i m H' := fun {s' H'} I' nx => by
        obtain ⟨m', hm, w'⟩ := hNx H' nx
        have pin' : ∀ b ∈ fp, ∀ o, s7.heap.get? b = some o → s'.heap.get? b = some o ∧ H' b = none := fun b hb o e =>
          let z := I'.pin (b, o) (List.mem_append_right _ (List.mem_append_right _ (mem_pinsAt hb e)))
          ⟨z.1, z.2.1⟩
        have hl : (wipe σ (own.map (·.2))).length = σ8.length := by rw [← hw8, wipe_length]
        refine ⟨m', hm, i + 1, H', (I'.unpinned (pins := [])).weak hl (fun j v e => ?_), T.keep _ _ _ st7 fun b hb o e => (pin' b hb o e).1, fun b hb => ?_, w'⟩
        · rw [← hw8] at e
          exact (wipe_some e).1
        · obtain ⟨o, e, _⟩ := T.obj _ _ st7 b hb
          exact (pin' b hb o e).2
      cases b with
      | false =>
        simp only [Bool.false_eq_true, if_false] at q9 ⊢
        exact fin I9 q9
      | true =>
        simp only [if_true] at q9 ⊢
        refine thnF (pe _ s9 σ8 H9 _ I9 q9) fun z s10 ⟨yv, H10, I10, r10, acc, hD10, hz10, nx⟩ => ?_
        exact app_ok (X := X.blk s3 H3 scope ce fp) I10 hD10 hz10 r10 fun s11 I11 => fin I11 nx
  exact codeAny_compStart_list loop (T.self X.A 0 _ _ _ st4 loop)
theorem pe_lc {elt tg iter : Expr} {ifs : List Expr} {scope : Scope} {own : List (Str × Nat)} {pos : Pos} {wi : TI} {g : TG} {tt : TT} {te : TE} (hc : X.calm = true) (hN : X.N.Nodup) (hi : PI X tg iter wi) (ok : BlkOk X.N X.env.scope scope own)
    (hg : ∀ (s : Shared) (H : Hp) (C : Addr) (cl : List (Str × Addr)) (fp : List Addr), PG (X.blk s H scope (compEnvC scope cl C X.env) fp) tg g) (ht : ∀ (s : Shared) (H : Hp) (C : Addr) (cl : List (Str × Addr)) (fp : List Addr), PTs (X.blk s H scope (compEnvC scope cl C X.env) fp) ifs tt)
    (he : ∀ (s : Shared) (H : Hp) (C : Addr) (cl : List (Str × Addr)) (fp : List Addr), PE (X.blk s H scope (compEnvC scope cl C X.env) fp) elt te) (hs : ∀ x, foldedSetIterable iter X.env x = pure x := by intro _; rfl) :
    PE X (.ListComp elt [⟨tg, iter, ifs, 0⟩] scope pos) (tLc wi g tt te (own.map (·.2))) := by
  intro pins s σ H Q I h
  rw [eval_ListComp]
  refine lc_core hc hN I hi ok hg ht he hs h fun D C s' m H' I' q hn f => ⟨m, hn, fun h'' sb => ?_⟩
  obtain ⟨f0, f1, f2, f3, f4, f5⟩ := f
  exact ⟨.ref D, H', I'.turned (t' := s'.toks) (fun b o hb e => (sb.2 b hb).trans e) f0 f1 f3 f4 f5, rfl, q⟩
theorem ps_setLc {i : Nat} {y : Str} {py : Pos} {elt tg iter : Expr} {ifs : List Expr} {scope : Scope} {own : List (Str × Nat)} {pos spos : Pos} {wi : TI} {g : TG} {tt : TT} {te : TE} (hc : X.calm = true) (hN : X.N.Nodup) (hy : X.N[i]? = some y) (hyl : X.env.scope.names.lookup y = some .local)
    (hsw : swapsWith (.ListComp elt [⟨tg, iter, ifs, 0⟩] scope pos) (some (.Name y py)) spos.line X.env = pure true) (hi : PI X tg iter wi) (ok : BlkOk X.N X.env.scope scope own)
    (hg : ∀ (s : Shared) (H : Hp) (C : Addr) (cl : List (Str × Addr)) (fp : List Addr), PG (X.blk s H scope (compEnvC scope cl C X.env) fp) tg g) (ht : ∀ (s : Shared) (H : Hp) (C : Addr) (cl : List (Str × Addr)) (fp : List Addr), PTs (X.blk s H scope (compEnvC scope cl C X.env) fp) ifs tt)
    (he : ∀ (s : Shared) (H : Hp) (C : Addr) (cl : List (Str × Addr)) (fp : List Addr), PE (X.blk s H scope (compEnvC scope cl C X.env) fp) elt te) (hs : ∀ x, foldedSetIterable iter X.env x = pure x := by intro _; rfl) :
    PS X (.Assign [.Name y py] (.ListComp elt [⟨tg, iter, ifs, 0⟩] scope pos) spos) (tAsg (tLc wi g tt te (own.map (·.2))) (gName i)) := by
  intro pins s σ H D I h
  rw [exec_Assign_Name_used _ _ _ _ hsw]
  refine wpAny_bind (wpAny_standAt (wpAny_bind ?_))
  show wpAny _ X.A (do let _ ← comprehension (.ListComp elt [⟨tg, iter, ifs, 0⟩] scope pos) scope X.env (firstIterPos [⟨tg, iter, ifs, 0⟩] pos) (newList []) false (eval iter X.env) (some (assign (.Name y py) X.env))) _ _ s
  have h : tLc wi g tt te (own.map (·.2)) σ H (fun x H1 => gName i x σ H1 D.nx) := h
  refine wpAny_bind (thn (lc_core (Qf := fun _ s' => SP X pins D .next s') hc hN I hi ok hg ht he hs h fun L C s' m H' I' q hn f => ?_) fun _ s' hq => wpAny_pure (wpAny_pure hq))
  show wpAny _ _ (assign (.Name y py) X.env (.ref L)) _ _ _
  refine wpAny_assign_Name (store_ok2 (v := V.ref L) I' hN hy (.inl hyl) rfl (fun s2 I2 ⟨a, sb, ha⟩ => ?_) (.inr hyl))
  obtain ⟨f0, f1, f2, f3, f4, f5⟩ := f
  have haC : C ≠ a := by
    rcases ha with z | z
    · rw [z]; exact f1
    · exact fun e => f4 y a z e.symm
  refine ⟨m, hn.sameBut sb haC, fun h3 sb3 => ?_⟩
  exact ⟨_, H', I2.turned (t' := s2.toks) (fun b o hb e => (sb3.2 b hb).trans e) f0 f1 f3 f4 f5, q⟩
theorem sw_true {elt : Expr} {gs : List Comprehension} {scope : Scope} {pos py : Pos} {y : Str} {l : Nat} {env : Env} (hk : env.scope.kind = .function) (hy : env.scope.names.lookup y = some .local) (hl : (py.line == pos.line) = true)
    (ha : (scope.names.any fun (n, k) => n == y && (k == .local || k == .cell)) = false) : swapsWith (.ListComp elt gs scope pos) (some (.Name y py)) l env = pure true := by
  have ky : env.kindOf y = some .local := hy
  have hb : env.blockKind = .function := by unfold Env.blockKind; rw [hk]; rfl
  unfold swapsWith
  simp only [hb, ky, ha, Expr.pos, hl]
  rfl
end
theorem lc_range {lo : Int} {n : Nat} {g : TG} {tt : TT} {te : TE} {vs : List Nat} {σ : St} {H1 : Hp} {D : Addr} {Qd : Hp → Prop} (Pv : Nat → Hp → Prop) (h0 : Pv 0 (upd H1 D (.lst [])))
    (hs : ∀ i H, i < n → Pv i H → g (.int (lo + i)) (wipe σ vs) H fun σ2 H2 => wipe σ2 vs = wipe σ vs ∧ tt σ2 H2 fun b H3 =>
      if b = true then te σ2 H3 fun y H4 => ∃ acc, H4 D = some (.lst acc) ∧ acc.length < sizeLine ∧ Pv (i + 1) (upd H4 D (.lst (acc ++ [y]))) else Pv (i + 1) H3) (hd : ∀ H, Pv n H → Qd H) :
    ∃ W : Nat → Nat → Hp → Prop, (∃ m, W 0 m (upd H1 D (.lst []))) ∧ ∀ i m H, W i m H →
      ((Itr lo n).stop i H ∧ Qd H) ∨ ((Itr lo n).go i H ∧ ∃ Nx : Hp → Prop, (∀ H', Nx H' → ∃ m', m' < m ∧ W (i + 1) m' H') ∧ ∀ x H', (Itr lo n).yld i H x H' → g x (wipe σ vs) H' fun σ2 H2 => wipe σ2 vs = wipe σ vs ∧ tt σ2 H2 fun b H3 =>
        if b = true then te σ2 H3 fun y H4 => ∃ acc, H4 D = some (.lst acc) ∧ acc.length < sizeLine ∧ Nx (upd H4 D (.lst (acc ++ [y]))) else Nx H3) := by
  refine ⟨fun i m H => m = n - i ∧ i ≤ n ∧ Pv i H, ⟨n, by simp, Nat.zero_le _, h0⟩, ?_⟩
  rintro i m H ⟨rfl, hi, p⟩
  by_cases hlt : i < n
  · refine .inr ⟨hlt, Pv (i + 1), fun H' p' => ⟨n - (i + 1), by omega, rfl, hlt, p'⟩, fun x H' y => ?_⟩
    obtain ⟨e, y⟩ := y
    subst e y
    exact hs i _ hlt p
  · have e : i = n := by omega
    subst e
    exact .inl ⟨Nat.le_refl _, hd H p⟩
theorem lc_list {K : PySem.W.Frag} {a : Addr} {xs : List V} {g : TG} {tt : TT} {te : TE} {vs : List Nat} {σ : St} {H1 : Hp} {D : Addr} {Qd : Hp → Prop} (Pv : Nat → Hp → Prop) (h0 : Pv 0 (upd H1 D (.lst []))) (hl : ∀ i H, i ≤ xs.length → Pv i H → SqL K H a xs)
    (hs : ∀ i x H, xs[i]? = some x → Pv i H → g x (wipe σ vs) H fun σ2 H2 => wipe σ2 vs = wipe σ vs ∧ tt σ2 H2 fun b H3 =>
      if b = true then te σ2 H3 fun y H4 => ∃ acc, H4 D = some (.lst acc) ∧ acc.length < sizeLine ∧ Pv (i + 1) (upd H4 D (.lst (acc ++ [y]))) else Pv (i + 1) H3) (hd : ∀ H, Pv xs.length H → Qd H) :
    ∃ W : Nat → Nat → Hp → Prop, (∃ m, W 0 m (upd H1 D (.lst []))) ∧ ∀ i m H, W i m H →
      ((Itl K a).stop i H ∧ Qd H) ∨ ((Itl K a).go i H ∧ ∃ Nx : Hp → Prop, (∀ H', Nx H' → ∃ m', m' < m ∧ W (i + 1) m' H') ∧ ∀ x H', (Itl K a).yld i H x H' → g x (wipe σ vs) H' fun σ2 H2 => wipe σ2 vs = wipe σ vs ∧ tt σ2 H2 fun b H3 =>
        if b = true then te σ2 H3 fun y H4 => ∃ acc, H4 D = some (.lst acc) ∧ acc.length < sizeLine ∧ Nx (upd H4 D (.lst (acc ++ [y]))) else Nx H3) := by
  refine ⟨fun i m H => m = xs.length - i ∧ i ≤ xs.length ∧ Pv i H, ⟨xs.length, by simp, Nat.zero_le _, h0⟩, ?_⟩
  rintro i m H ⟨rfl, hi, p⟩
  have q := hl i H hi p
  by_cases hlt : i < xs.length
  · refine .inr ⟨⟨xs, xs[i], q, by simp [hlt]⟩, Pv (i + 1), fun H' p' => ⟨xs.length - (i + 1), by omega, rfl, hlt, p'⟩, fun x H' y => ?_⟩
    obtain ⟨e, y⟩ := y
    subst e
    exact hs i x _ (y xs q) p
  · have e : i = xs.length := by omega
    subst e
    exact .inl ⟨⟨xs, q, Nat.le_refl _⟩, hd H p⟩
def blkC (N : List Str) (sc scope : Scope) (own : List (Str × Nat)) : Bool :=
  (match scope.kind with | .function => true | _ => false) && (scope.names.all fun y => decide (scope.names.lookup y.1 = some y.2)) && (own.all fun p => decide (N[p.2]? = some p.1)) &&
    (scope.names.all fun y => match y.2 with
      | .free => (match sc.names.lookup y.1 with | some .cell => true | some .free => true | _ => false)
      | .local => decide (y.1 ∈ own.map (·.1)) || decide (y.1 ∉ N)
      | .cell => decide (y.1 ∈ own.map (·.1)) || decide (y.1 ∉ N)
      | _ => true)
theorem blkOk_by {N : List Str} {sc scope : Scope} {own : List (Str × Nat)} (h : blkC N sc scope own = true) : BlkOk N sc scope own := by
  unfold blkC at h
  simp only [Bool.and_eq_true, List.all_eq_true, decide_eq_true_eq] at h
  obtain ⟨⟨⟨h1, h2⟩, h3⟩, h4⟩ := h
  refine ⟨?_, h2, h3, fun y hy e => ?_, fun y hy e => ?_⟩
  · split at h1
    · assumption
    · cases h1
  · have q := h4 y hy
    simp only [e] at q
    split at q <;> first | exact .inl (by assumption) | exact .inr (by assumption) | cases q
  · have q := h4 y hy
    rcases e with e | e <;> (simp only [e, Bool.or_eq_true, decide_eq_true_eq] at q; exact q)
end L2
namespace L2
open PySem PySem.Spec PyProof.Rows
end L2
namespace L2
open PySem PySem.Spec PyProof.Rows
section
variable {κ : Type} [DecidableEq κ]
def valV (kvs : List (κ × V)) (k : κ) : Option V := (kvs.find? fun kv => decide (kv.1 = k)).map (·.2)
def putK (kvs : List (κ × V)) (k : κ) (v : V) : List (κ × V) :=
  if (kvs.any fun kv => decide (kv.1 = k)) = true then kvs.map (fun kv => if kv.1 = k then (kv.1, v) else kv) else kvs ++ [(k, v)]
theorem valV_nil {k : κ} : valV ([] : List (κ × V)) k = none := rfl
theorem valV_pos {p : κ × V} {r : List (κ × V)} {k : κ} (e : p.1 = k) : valV (p :: r) k = some p.2 := by simp [valV, List.find?_cons, e]
theorem valV_neg {p : κ × V} {r : List (κ × V)} {k : κ} (e : ¬ p.1 = k) : valV (p :: r) k = valV r k := by simp [valV, List.find?_cons, e]
theorem valV_any (k : κ) : ∀ kvs : List (κ × V), (kvs.any fun kv => decide (kv.1 = k)) = (valV kvs k).isSome
  | [] => rfl
  | p :: r => by
    rw [List.any_cons]
    by_cases e : p.1 = k
    · simp only [valV_pos e, decide_eq_true e, Bool.true_or, Option.isSome_some]
    · rw [valV_neg e, decide_eq_false e, Bool.false_or]; exact valV_any k r
theorem length_putK (kvs : List (κ × V)) (k : κ) (v : V) : (putK kvs k v).length ≤ kvs.length + 1 := by
  unfold putK
  split
  · rw [List.length_map]; omega
  · rw [List.length_append, List.length_cons, List.length_nil]; omega
theorem putK_new {kvs : List (κ × V)} {k : κ} (v : V) (h : valV kvs k = none) : putK kvs k v = kvs ++ [(k, v)] := by
  unfold putK
  rw [valV_any, h]
  exact if_neg (by decide)
theorem RelO.isSome_eq {o : Option V} {u : Option Value} (r : RelO o u) : o.isSome = u.isSome := by
  cases o with
  | none => cases u with
    | none => rfl
    | some _ => exact (show False from r).elim
  | some _ => cases u with
    | none => exact (show False from r).elim
    | some _ => rfl
theorem KV.val {kvs : List (κ × V)} {vs : List (κ × Value)} (r : KV kvs vs) (k : κ) : RelO (valV kvs k) (valueAt vs k) := by
  unfold KV at r
  induction r with
  | nil => exact True.intro
  | @cons p q ps qs h t ih =>
    obtain ⟨h1, h2⟩ := h
    by_cases e : p.1 = k
    · have e' : q.1 = k := h1.symm.trans e
      have b : valueAt (q :: qs) k = some q.2 := by simp [valueAt, List.find?_cons, e']
      rw [valV_pos e, b]; exact h2
    · have e' : ¬ q.1 = k := fun z => e (h1.trans z)
      have b : valueAt (q :: qs) k = valueAt qs k := by simp [valueAt, List.find?_cons, e']
      rw [valV_neg e, b]; exact ih
theorem KV.any {kvs : List (κ × V)} {vs : List (κ × Value)} (r : KV kvs vs) (k : κ) : (kvs.any fun kv => decide (kv.1 = k)) = vs.any fun kv => decide (kv.1 = k) := by
  unfold KV at r
  induction r with
  | nil => rfl
  | cons h t ih => rw [List.any_cons, List.any_cons, ih, h.1]
theorem KV.repl {kvs : List (κ × V)} {vs : List (κ × Value)} (r : KV kvs vs) (k : κ) {y : V} {u : Value} (ry : RelV y u) :
    KV (kvs.map fun kv => if kv.1 = k then (kv.1, y) else kv) (vs.map fun kv => if kv.1 = k then (kv.1, u) else kv) := by
  unfold KV at r ⊢
  induction r with
  | nil => exact .nil
  | @cons p q ps qs h t ih =>
    rw [List.map_cons, List.map_cons]
    refine .cons ?_ ih
    obtain ⟨h1, h2⟩ := h
    by_cases e : p.1 = k
    · rw [if_pos e, if_pos (h1.symm.trans e)]; exact ⟨h1, ry⟩
    · rw [if_neg e, if_neg (fun z => e (h1.trans z))]; exact ⟨h1, h2⟩
theorem KV.put {kvs : List (κ × V)} {vs : List (κ × Value)} (r : KV kvs vs) (k : κ) {y : V} {u : Value} (ry : RelV y u) : KV (putK kvs k y) (stored vs k u) := by
  unfold putK stored
  rw [r.any k]
  by_cases e : (vs.any fun kv => decide (kv.1 = k)) = true
  · rw [if_pos e, if_pos e]; exact r.repl k ry
  · rw [if_neg e, if_neg e]; exact Paired.snoc r ⟨rfl, ry⟩
theorem KV.length {kvs : List (κ × V)} {vs : List (κ × Value)} (r : KV kvs vs) : kvs.length = vs.length := Paired.length r
end
theorem kV_is {P : Program} {w : World} {k : Key} {u : Value} (r : RelV (kV k) u) : (mixKind P w).is k u = true := by
  cases k with
  | inl i => obtain ⟨t, e⟩ := (show ∃ t, u = Value.int i t from r); subst e; exact mixKind_int P w i t
  | inr x => obtain ⟨t, e⟩ := (show ∃ t, u = Value.str x t from r); subst e; exact mixKind_str P w x t
theorem items_are {P : Program} {w : World} : ∀ {ks : List Key} {us : List Value}, Vals (ks.map kV) us → ItemsAre (mixKind P w) ks us
  | [], _, r => by rw [List.map_nil] at r; cases r; exact .nil
  | k :: ks, _, r => by
    rw [List.map_cons] at r
    cases r with
    | cons h t => exact .cons (kV_is h) (items_are t)
abbrev KT (H : Hp) : List (List Key × V) → List (List Key × Addr × Value) → Prop := Paired fun p q => p.1 = q.1 ∧ H q.2.1 = some (.tup (p.1.map kV)) ∧ RelV p.2 q.2.2
theorem KT.val {H : Hp} {kvs : List (List Key × V)} {xs : List (List Key × Addr × Value)} (r : KT H kvs xs) (k : List Key) : RelO (valV kvs k) ((atKey xs k).map (·.2)) := by
  induction r with
  | nil => exact True.intro
  | @cons p q ps qs h t ih =>
    obtain ⟨h1, _, h2⟩ := h
    by_cases e : p.1 = k
    · have e' : q.1 = k := h1.symm.trans e
      have b : atKey (q :: qs) k = some q.2 := by simp [atKey, List.find?_cons, e']
      rw [valV_pos e, b]; exact h2
    · have e' : ¬ q.1 = k := fun z => e (h1.trans z)
      have b : atKey (q :: qs) k = atKey qs k := by simp [atKey, List.find?_cons, e']
      rw [valV_neg e, b]; exact ih
theorem KT.repl {H : Hp} {kvs : List (List Key × V)} {xs : List (List Key × Addr × Value)} (r : KT H kvs xs) (k : List Key) {y : V} {u : Value} (ry : RelV y u) :
    KT H (kvs.map fun kv => if kv.1 = k then (kv.1, y) else kv) (xs.map (putAt k u)) := by
  induction r with
  | nil => exact .nil
  | @cons p q ps qs h t ih =>
    rw [List.map_cons, List.map_cons]
    refine .cons ?_ ih
    obtain ⟨h1, h2, h3⟩ := h
    unfold putAt
    by_cases e : p.1 = k
    · rw [if_pos e, if_pos (h1.symm.trans e)]; exact ⟨h1, h2, ry⟩
    · rw [if_neg e, if_neg (fun z => e (h1.trans z))]; exact ⟨h1, h2, h3⟩
theorem KT.put {H : Hp} {kvs : List (List Key × V)} {xs : List (List Key × Addr × Value)} (r : KT H kvs xs) (k : List Key) {b : Addr} {y : V} {u : Value} (hb : H b = some (.tup (k.map kV))) (ry : RelV y u) :
    KT H (putK kvs k y) (storedH xs k b u) := by
  have e : (kvs.any fun kv => decide (kv.1 = k)) = (atKey xs k).isSome := by
    rw [valV_any, (r.val k).isSome_eq, Option.isSome_map]
  unfold putK storedH
  rw [e]
  by_cases q : (atKey xs k).isSome = true
  · rw [if_pos q, if_pos q]; exact r.repl k ry
  · rw [if_neg q, if_neg q]; exact Paired.snoc r ⟨rfl, hb, ry⟩
theorem KT.keeps {H H' : Hp} {kvs : List (List Key × V)} {xs : List (List Key × Addr × Value)} (r : KT H kvs xs) (ht : ∀ b ys, H b = some (.tup ys) → H' b = some (.tup ys)) : KT H' kvs xs :=
  Paired.mapP r fun _ _ z => ⟨z.1, ht _ _ z.2.1, z.2.2⟩
section
variable {P : Program} {w : World} {H : Hp} {h : Heap} {a : Addr}
theorem rd_of {u : HO} (ok : HOk P w H h) (e : Rd H a u) : ObjOk P w H h a u := e.ok ok
theorem dk_rd {kvs : List (Key × V)} (ok : HOk P w H h) (e : Rd H a (.dK kvs)) : kvs.length ≤ sizeLine ∧ (a == sysModules) = false ∧ ∃ vs, KV kvs vs ∧ h.DictOf (mixKind P w) a vs :=
  show ObjOk P w H h a (.dK kvs) from rd_of ok e
theorem dk_of {kvs : List (Key × V)} (ok : HOk P w H h) (e : H a = some (.dK kvs)) : kvs.length ≤ sizeLine ∧ (a == sysModules) = false ∧ ∃ vs, KV kvs vs ∧ h.DictOf (mixKind P w) a vs := dk_rd ok (.inl e)
theorem key_of {ks : List Key} (ok : HOk P w H h) (e : H a = some (.tup (ks.map kV))) : (tupleKind (mixKind P w)).is h ks a := by
  obtain ⟨_, its, r, o, h1, h2, n, h3⟩ := (show ObjOk P w H h a (.tup (ks.map kV)) from ok a _ e)
  exact ⟨o, its.toArray, n, h1, h2, h3, by simpa using items_are r⟩
theorem dt_rd {kvs : List (List Key × V)} (ok : HOk P w H h) (e : Rd H a (.dT kvs)) : kvs.length ≤ sizeLine ∧ (a == sysModules) = false ∧
    ∃ xs, KT H kvs xs ∧ h.DictOfH (tupleKind (mixKind P w)) a xs := by
  obtain ⟨z, y, xs, r, o, es, ep, h1, h2, h3, h4, h5⟩ := (show ObjOk P w H h a (.dT kvs) from rd_of ok e)
  refine ⟨z, y, xs, r, o, es, ep, h1, h2, h3, h4, fun x hx => ?_, h5⟩
  have all : ∀ {l : List (List Key × V)} {m : List (List Key × Addr × Value)}, KT H l m → ∀ x ∈ m, (tupleKind (mixKind P w)).is h x.1 x.2.1 := by
    intro l m q
    induction q with
    | nil => intro x hx; exact nomatch hx
    | @cons p q ps qs hq t ih =>
      intro x hx
      rcases List.mem_cons.mp hx with e | hx
      · subst e
        exact key_of ok (by rw [← hq.1]; exact hq.2.1)
      · exact ih x hx
  exact all r x hx
theorem dt_of {kvs : List (List Key × V)} (ok : HOk P w H h) (e : H a = some (.dT kvs)) : kvs.length ≤ sizeLine ∧ (a == sysModules) = false ∧
    ∃ xs, KT H kvs xs ∧ h.DictOfH (tupleKind (mixKind P w)) a xs := dt_rd ok (.inl e)
end
def DGet (H : Hp) (a : Addr) (y : V) (r : Option V) : Prop :=
  (∃ kvs k, Rd H a (.dK kvs) ∧ y = kV k ∧ r = valV kvs k) ∨ ∃ kvs k b, Rd H a (.dT kvs) ∧ y = .ref b ∧ H b = some (.tup (k.map kV)) ∧ r = valV kvs k
def DPut (H : Hp) (a : Addr) (y v : V) (H' : Hp) : Prop :=
  (∃ kvs k, H a = some (.dK kvs) ∧ y = kV k ∧ kvs.length < sizeLine ∧ H' = upd H a (.dK (putK kvs k v))) ∨
  ∃ kvs k b, H a = some (.dT kvs) ∧ y = .ref b ∧ H b = some (.tup (k.map kV)) ∧ kvs.length < sizeLine ∧ H' = upd H a (.dT (putK kvs k v))
theorem DGet.k {H : Hp} {a : Addr} {kvs : List (Key × V)} {k : Key} (e : H a = some (.dK kvs)) : DGet H a (kV k) (valV kvs k) := .inl ⟨kvs, k, .inl e, rfl, rfl⟩
theorem DPut.k {H : Hp} {a : Addr} {kvs : List (Key × V)} {k : Key} {v : V} (e : H a = some (.dK kvs)) (hl : kvs.length < sizeLine) : DPut H a (kV k) v (upd H a (.dK (putK kvs k v))) := .inl ⟨kvs, k, e, rfl, hl, rfl⟩
section
variable {X : Cx} {pins : List (Addr × Obj)} {σ : St} {H : Hp} {s : Shared} {a : Addr} {y v : V} {u r : Value} {o : Option V} {A : Around} {E : Value → Shared → Prop}
theorem Inv.big (I : Inv X pins σ H s) : sysModules < s.heap.objs.size := by
  have h : mainGlobals < s.heap.objs.size := (I.mod.glob.keeps I.bk).lt
  exact Nat.lt_trans (by decide) h
theorem d_getItem {Q : Value → Shared → Prop} (hu : A.units + 1 < cLine) (I : Inv X pins σ H s) (g : DGet H a y (some v)) (ry : RelV y u) (h : ∀ w' s', Inv X pins σ H s' → RelV v w' → Q w' s') :
    wpAny (model X.prog X.w) A (getItem (.ref a) u) Q E s := by
  rcases g with ⟨kvs, k, e, ey, l⟩ | ⟨kvs, k, b, e, ey, eb, l⟩
  · subst ey
    obtain ⟨z, hd, vs, rel, dd⟩ := dk_rd I.hok e
    obtain ⟨w', hw, rw'⟩ := RelO.some_of (v := v) (o := valueAt vs k) (by rw [l]; exact rel.val k)
    exact wpAny_getItem_of (kV_is ry) dd.mapOf hw (h w' _ (I.tok _) rw')
  · subst ey
    cases (show u = Value.ref b from ry)
    obtain ⟨z, hd, xs, rel, dd⟩ := dt_rd I.hok e
    obtain ⟨w', hw, rw'⟩ := RelO.some_of (v := v) (o := (atKey xs k).map (·.2)) (by rw [l]; exact rel.val k)
    obtain ⟨p, hp, hp2⟩ := Option.map_eq_some_iff.mp hw
    refine wpAny_getItem_heap (tupleKind_room_in1 hu) (key_of I.hok eb) dd hp ?_
    rw [hp2]
    exact h w' _ (I.tok _) rw'
theorem d_notIn {Q : Value → Shared → Prop} (hu : A.units + 1 < cLine) (I : Inv X pins σ H s) (g : DGet H a y o) (ry : RelV y u) (h : ∀ s', Inv X pins σ H s' → Q (.bool (!o.isSome)) s') :
    wpAny (model X.prog X.w) A (compareOp .NotIn u (.ref a)) Q E s := by
  rcases g with ⟨kvs, k, e, ey, l⟩ | ⟨kvs, k, b, e, ey, eb, l⟩
  · subst ey
    obtain ⟨z, hd, vs, rel, dd⟩ := dk_rd I.hok e
    refine wpAny_notIn_of (kV_is ry) hd dd.mapOf ?_
    rw [← (rel.val k).isSome_eq, ← l]
    exact h _ (I.tok _)
  · subst ey
    cases (show u = Value.ref b from ry)
    obtain ⟨z, hd, xs, rel, dd⟩ := dt_rd I.hok e
    refine wpAny_notIn_heap (tupleKind_room_in1 hu) (key_of I.hok eb) hd dd ?_
    have q := (rel.val k).isSome_eq
    rw [Option.isSome_map] at q
    rw [← q, ← l]
    exact h _ (I.tok _)
theorem d_write {h' : Heap} {t' : Nat} {ob : HO} (I : Inv X pins σ H s) (mu : Mut (H a)) (hs : Heap.SameBut a s.heap h') (he : ∃ q, h'.get? a = some q) (new : ObjOk X.prog X.w (upd H a ob) h' a ob) :
    Inv X pins σ (upd H a ob) { s with heap := h', toks := t' } :=
  I.write (x := a) (e := a) mu (.inl rfl) (fun b q hb z => (hs.2 b hb).trans z) he new
theorem dk_new {P : Program} {w : World} {H' : Hp} {h' : Heap} {kvs : List (Key × V)} {vs : List (Key × Value)} (z : kvs.length ≤ sizeLine) (hd : (a == sysModules) = false) (rel : KV kvs vs) (dd : h'.DictOf (mixKind P w) a vs) :
    ObjOk P w H' h' a (.dK kvs) := ⟨z, hd, vs, rel, dd⟩
theorem d_setItem {H' : Hp} {Q : Unit → Shared → Prop} (hu : A.units + 1 < cLine) (I : Inv X pins σ H s) (g : DPut H a y v H') (ry : RelV y u) (rv : RelV v r) (h : ∀ s', Inv X pins σ H' s' → Q () s') :
    wpAny (model X.prog X.w) A (setItem (.ref a) u r) Q E s := by
  rcases g with ⟨kvs, k, e, ey, l, eH⟩ | ⟨kvs, k, b, e, ey, eb, l, eH⟩
  · subst ey eH
    obtain ⟨z, hd, vs, rel, dd⟩ := dk_of I.hok e
    have hz : vs.length ≤ sizeLine := by rw [← rel.length]; exact z
    have hl : (putK kvs k v).length ≤ sizeLine := by have := length_putK kvs k v; omega
    refine wpAny_setItem_pairs (hsz := hz) (kV_is ry) dd fun h' dd' hs => h _ ?_
    have he : ∃ q, h'.get? a = some q := let ⟨q, _, _, hq, _⟩ := dd'; ⟨q, hq⟩
    exact d_write I (by rw [e]; exact True.intro) hs he (dk_new hl hd (rel.put k rv) dd')
  · subst ey eH
    cases (show u = Value.ref b from ry)
    obtain ⟨z, hd, xs, rel, dd⟩ := dt_of I.hok e
    have hz : xs.length ≤ sizeLine := by rw [← Paired.length rel]; exact z
    have hl : (putK kvs k v).length ≤ sizeLine := by have := length_putK kvs k v; omega
    refine wpAny_setItem_heap (hsz := hz) (tupleKind_room_in1 hu) (key_of I.hok eb) dd fun h' dd' hs => h _ ?_
    obtain ⟨q, es, ep, hq, h2, h3, h4, _, h5⟩ := dd'
    refine d_write I (by rw [e]; exact True.intro) hs ⟨q, hq⟩ ⟨hl, hd, _, (rel.put k eb rv).keeps fun c ys ec => ?_, q, es, ep, hq, h2, h3, h4, h5⟩
    rw [upd_ne (ne_of ec e (fun z => nomatch z))]
    exact ec
end
section
variable {X : Cx} {pins : List (Addr × Obj)} {σ : St} {H : Hp} {s : Shared} {a : Addr} {kvs : List (Key × V)} {k : Key} {u : Value} {A : Around} {E : Value → Shared → Prop}
theorem d_len {Q : Value → Shared → Prop} (I : Inv X pins σ H s) (e : Rd H a (.dK kvs)) (h : ∀ t s', Inv X pins σ H s' → Q (.int kvs.length t) s') : wpAny (model X.prog X.w) A (call (.builtin "len") [.ref a]) Q E s := by
  obtain ⟨z, hd, vs, rel, dd⟩ := dk_rd I.hok e
  refine call_len_dict hd dd (by rw [← rel.length]; rw [sizeLine_eq] at z; omega) ?_
  rw [← rel.length]
  exact h _ _ (I.tok _)
end
def NoSl (i : Expr) : Prop := ∀ ov iv, subscripted i false ov iv = operate [ov, iv] (getItem ov iv)
theorem subD_of {prog : Program} {w : World} {A : Around} {E : Value → Shared → Prop} {s : Shared} {env : Env} {value slice : Expr} {pos : Pos} {T id : String} {Q : Value → Shared → Prop}
    (hl : typeLookup (.type T) "__getitem__" = pure (some (.builtin id))) (hs : NoSl slice)
    (h : wpAny (model prog w) A (eval value env) (fun o s₁ => wpAny (model prog w) A (eval slice env) (fun i s₂ => s₂.TypeIs o T ∧ wpAny (model prog w) A (getItem o i) Q E s₂) E s₁) E s) :
    wpAny (model prog w) A (eval (.Subscript value slice pos) env) Q E s := by
  refine Subscript_ (wpAny_mono h (fun o s₁ h₁ => wpAny_mono h₁ (fun i s₂ h₂ => ?_) fun _ _ x => x) fun _ _ x => x)
  obtain ⟨hT, h₂⟩ := h₂
  unfold subscriptTail
  refine wpAny_bind ?_
  rw [getitemInPython_of_ne hT.not_modules]
  refine wpAny_bind (wpAny_specialOf hT hl ?_)
  have fin : wpAny (model prog w) A (subscripted slice false o i) (fun r s₃ => wpAny (model prog w) A (letTemporaryGo value o r >>= fun _ => pure r) Q E s₃) E s₂ := by
    rw [hs o i]
    exact wpAny_operating (wpAny_mono h₂ (fun r s₃ h₃ => wpAny_bind (wpAny_letTemporaryGo (wpAny_pure h₃))) fun _ _ x => x)
  first
    | exact wpAny_pure (wpAny_bind fin)
    | exact wpAny_bind (wpAny_pure (wpAny_bind fin))
    | exact wpAny_bind fin
theorem dict_typeIs {X : Cx} {pins : List (Addr × Obj)} {σ : St} {H : Hp} {s : Shared} {a : Addr} {y : V} {o : Option V} (I : Inv X pins σ H s) (g : DGet H a y o) : s.TypeIs (.ref a) "dict" := by
  rcases g with ⟨kvs, k, e, _, _⟩ | ⟨kvs, k, b, e, _, _, _⟩
  · obtain ⟨_, _, vs, _, dd⟩ := dk_rd I.hok e
    exact dd.typeIs
  · obtain ⟨_, _, xs, _, dd⟩ := dt_rd I.hok e
    exact dd.typeIs
def tDGet (td ty : TE) : TE := fun σ H Q => td σ H fun x H1 => ty σ H1 fun y H2 => ∃ a v, x = .ref a ∧ DGet H2 a y (some v) ∧ Q v H2
def tDNotIn (ty td : TE) : TE := fun σ H Q => ty σ H fun y H1 => td σ H1 fun x H2 => ∃ a o, x = .ref a ∧ DGet H2 a y o ∧ Q (.bl (!o.isSome)) H2
def sDPut (td ty tv : TE) : TS := fun D σ H => tv σ H fun v H1 => td σ H1 fun x H2 => ty σ H2 fun y H3 => ∃ a H4, x = .ref a ∧ DPut H3 a y v H4 ∧ D.nx σ H4
section
variable {X : Cx} {o i e value : Expr} {pos pos' tpos : Pos} {td ty tv : TE}
theorem pe_dget (hu : X.A.units + 1 < cLine) (ho : PE X o td) (hi : PE X i ty) (hs : NoSl i) : PE X (.Subscript o i pos) (tDGet td ty) := by
  intro pins s σ H Q I h
  refine subD_of PySem.F.slot_dict_getitem.lookup hs (thn (ho pins s σ H _ I h) fun u s1 ⟨x, H1, I1, rx, q1⟩ => thn (hi pins s1 σ H1 _ I1 q1) fun iv s2 ⟨y, H2, I2, ry, a, v, ex, g, q2⟩ => ?_)
  subst ex
  obtain rfl : u = Value.ref a := rx
  exact ⟨dict_typeIs I2 g, d_getItem hu I2 g ry fun w' s3 I3 rw' => ⟨v, H2, I3, rw', q2⟩⟩
theorem pc_dnotin (hu : X.A.units + 1 < cLine) (hi : PE X i ty) (ho : PE X o td) : PC X .NotIn i o (tDNotIn ty td) := by
  intro pins s σ H Q I h
  refine thn (hi pins s σ H _ I h) fun iv s1 ⟨y, H1, I1, ry, q1⟩ => thn (ho pins s1 σ H1 _ I1 q1) fun u s2 ⟨x, H2, I2, rx, a, ov, ex, g, q2⟩ => ?_
  subst ex
  obtain rfl : u = Value.ref a := rx
  exact d_notIn hu I2 g ry fun s3 I3 => ⟨.bl (!ov.isSome), H2, I3, rfl, q2⟩
theorem ps_dput (hu : X.A.units + 1 < cLine) (ho : PE X o td) (hi : PE X i ty) (hv : PE X value tv) (hs : swapsWith value (some (.Subscript o i pos')) pos.line X.env = pure false) :
    PS X (.Assign [.Subscript o i pos'] value pos) (sDPut td ty tv) := by
  intro pins s σ H D I h
  refine wpAny_Assign_Subscript (thn (hv pins s σ H _ I h) fun r s1 ⟨v, H1, I1, rv, q1⟩ => thn (ho pins s1 σ H1 _ I1 q1) fun u s2 ⟨x, H2, I2, rx, q2⟩ => thn (hi pins s2 σ H2 _ I2 q2) fun iv s3 ⟨y, H3, I3, ry, a, H4, ex, g, q3⟩ => ?_) hs
  subst ex
  obtain rfl : u = Value.ref a := rx
  exact d_setItem hu I3 g ry rv fun s4 I4 => ⟨σ, H4, I4, q3⟩
end
theorem dk_empty {P : Program} {w : World} {H : Hp} (h : Heap) (hb : sysModules < h.objs.size) : ObjOk P w H (h.push { cls := .type "dict", data := .dict #[] }) h.objs.size (.dK []) :=
  ⟨Nat.zero_le _, beq_eq_false_iff_ne.mpr (Ne.symm (Nat.ne_of_lt hb)), [], .nil, Heap.DictOf.new h⟩
def tPairs : List (TE × TE) → St → Hp → (List (V × V) → Hp → Prop) → Prop
  | [], _, H, Q => Q [] H
  | (tk, tv) :: r, σ, H, Q => tk σ H fun x H1 => tv σ H1 fun y H2 => tPairs r σ H2 fun ps H3 => Q ((x, y) :: ps) H3
abbrev VV : List (V × V) → List (Value × Value) → Prop := Paired fun p q => RelV p.1 q.1 ∧ RelV p.2 q.2
def PPs (X : Cx) (pos : Pos) (keys : List (Option Expr)) (values : List Expr) (trs : List (TE × TE)) : Prop :=
  ∀ (pins : List (Addr × Obj)) (s : Shared) (σ : St) (H : Hp) (Q : List (V × V) → Hp → Prop), Inv X pins σ H s → tPairs trs σ H Q →
    wpAny (model X.prog X.w) X.A (evalPairs (pairTrees keys values X.env pos)) (fun vs s' => ∃ ps H', Inv X pins σ H' s' ∧ VV ps vs ∧ Q ps H') X.xe s
theorem pps_nil {X : Cx} {pos : Pos} : PPs X pos [] [] [] := fun pins s σ H Q I h => pairTrees_nil_walk ⟨[], H, I, .nil, h⟩
theorem pps_cons {X : Cx} {pos : Pos} {k v : Expr} {ks : List (Option Expr)} {vs : List Expr} {tk tv : TE} {trs : List (TE × TE)} (hk : PE X k tk) (hv : PE X v tv) (hr : PPs X pos ks vs trs) :
    PPs X pos (some k :: ks) (v :: vs) ((tk, tv) :: trs) := fun pins s σ H Q I h =>
  pairTrees_cons_walk (thn (hk pins s σ H _ I h) fun u s1 ⟨x, H1, I1, rx, q1⟩ => thn (hv pins s1 σ H1 _ I1 q1) fun w2 s2 ⟨y, H2, I2, ry, q2⟩ =>
    thn (hr pins s2 σ H2 _ I2 q2) fun ws s3 ⟨ps, H3, I3, rel, q3⟩ => ⟨(x, y) :: ps, H3, I3, .cons ⟨rx, ry⟩ rel, q3⟩)
def mergeK (kvs more : List (Key × V)) : List (Key × V) := more.foldl (fun acc kv => putK acc kv.1 kv.2) kvs
theorem KV.merge : ∀ {more : List (Key × V)} {rs : List (Key × Value)} {kvs : List (Key × V)} {vs : List (Key × Value)}, KV more rs → KV kvs vs → KV (mergeK kvs more) (merged vs rs) := by
  intro more rs kvs vs r
  unfold KV at r
  induction r generalizing kvs vs with
  | nil => intro q; exact q
  | @cons p q ps qs h t ih =>
    intro r0
    have e : KV (putK kvs p.1 p.2) (stored vs q.1 q.2) := by
      have := r0.put p.1 h.2
      rw [← h.1]; exact this
    exact ih e
theorem length_mergeK : ∀ (more kvs : List (Key × V)), (mergeK kvs more).length ≤ kvs.length + more.length
  | [], kvs => by show kvs.length ≤ kvs.length + 0; omega
  | p :: r, kvs => by
    have h1 := length_mergeK r (putK kvs p.1 p.2)
    have h2 := length_putK kvs p.1 p.2
    show (mergeK (putK kvs p.1 p.2) r).length ≤ _
    rw [List.length_cons]; omega
theorem carries_of {P : Program} {w : World} : ∀ {kvs : List (Key × V)} {ws : List (Value × Value)}, VV (kvs.map fun kv => (kV kv.1, kv.2)) ws → ∃ rs, Carries (mixKind P w) ws rs ∧ KV kvs rs
  | [], _, r => by rw [List.map_nil] at r; cases r; exact ⟨[], True.intro, .nil⟩
  | p :: kvs, _, r => by
    rw [List.map_cons] at r
    cases r with
    | @cons a b as bs h t =>
      obtain ⟨rs, c, q⟩ := carries_of (P := P) (w := w) t
      obtain ⟨b1, b2⟩ := b
      exact ⟨(p.1, b2) :: rs, ⟨kV_is h.1, rfl, c⟩, .cons ⟨rfl, h.2⟩ q⟩
def tDisp (trs : List (TE × TE)) : TE := fun σ H Q => ∀ p, H p = none → tPairs trs σ (upd H p (.dK [])) fun ps H2 => H2 p = some (.dK []) ∧ ∃ kvs : List (Key × V), ps = kvs.map (fun kv => (kV kv.1, kv.2)) ∧ kvs.length ≤ 15 ∧ Q (.ref p) (upd H2 p (.dK (mergeK [] kvs)))
theorem pe_disp {X : Cx} {pos : Pos} {keys : List (Option Expr)} {values : List Expr} {trs : List (TE × TE)} (h : PPs X pos keys values trs) (hall : keys.all (·.isSome) = true) (hl : keys.length = values.length) (h0 : keys ≠ [])
    (h15 : keys.length ≤ 15) : PE X (.Dict keys values pos) (tDisp trs) := by
  intro pins s σ H Q I q
  have hn := I.hok.fresh (Nat.le_refl s.heap.objs.size)
  have I1 := I.laid (a := s.heap.objs.size) (o := .dK []) (h' := s.heap.push { cls := .type "dict", data := .dict #[] }) (t' := s.toks) (fun _ _ q => Heap.get?_push_of_some _ q) (Nat.le_refl _) (dk_empty s.heap I.big)
  refine wpAny_Dict_walk (knd := mixKind X.prog X.w) hall hl h0 h15 (thn (h pins _ σ _ _ I1 (q _ hn)) fun ws s2 ⟨ps, H2, I2, rel, e, kvs, ep, lk, q2⟩ => ?_)
  subst ep
  obtain ⟨rs, c, rk⟩ := carries_of (P := X.prog) (w := X.w) rel
  obtain ⟨z, hd, vs0, r0, dd⟩ := dk_of I2.hok e
  cases r0
  refine ⟨rs, c, dd, fun h' dd' hs => ⟨.ref s.heap.objs.size, _, ?_, rfl, q2⟩⟩
  have hz : (mergeK [] kvs).length ≤ sizeLine := by
    have h1 := length_mergeK kvs []
    rw [List.length_nil] at h1
    rw [sizeLine_eq]; omega
  have he : ∃ q, h'.get? s.heap.objs.size = some q := let ⟨q, _, _, hq, _⟩ := dd'; ⟨q, hq⟩
  exact d_write I2 (by rw [e]; exact True.intro) hs he (dk_new hz hd (rk.merge .nil) dd')
end L2
namespace L2
open PySem PySem.Spec PyProof.Rows
end L2
namespace L2
open PySem PySem.Spec PyProof.Rows
section
variable {X : Cx} {pins : List (Addr × Obj)} {σ : St} {H : Hp} {s : Shared} {h' : Heap}
theorem Inv.turnedNew {t' : Nat} {ch : List Addr} {T : Addr} {ob : HO} (I : Inv X pins σ H s) (k : ∀ b o, b ∉ ch → s.heap.get? b = some o → h'.get? b = some o) (hf : ∀ b ∈ ch, FpOk X pins H b) (hT : s.heap.objs.size ≤ T)
    (new : ObjOk X.prog X.w (upd H T ob) h' T ob) : Inv X pins σ (upd H T ob) { s with heap := h', toks := t' } := by
  have hn : H T = none := I.hok.fresh hT
  have nit : ∀ b u, H b = some u → b ∉ ch := fun b u e z => by
    have q := (hf b z).1
    rw [q] at e; cases e
  refine I.step (g' := s.gens) (d' := s.drawn) (ch := ch) (fun b hb => ⟨(hf b hb).2.2.2.1, (hf b hb).2.1, (hf b hb).2.2.2.2.1, (hf b hb).2.2.2.2.2⟩) (fun b o _ _ hc e _ => k b o hc e) (fun b o _ _ hc e _ => ⟨o.slots, k b o hc e⟩)
    (fun b o _ e n => ?_) (fun b o hc e => ⟨o, k b o hc e⟩) (fun b xs e => ?_) (fun b o u e => ?_) (fun b ps e => ⟨#[], ?_⟩) (fun m hm => ?_) (fun b u e => ?_) I.bare
  · rw [upd_ne (Nat.ne_of_lt (Nat.lt_of_lt_of_le (Heap.lt_size e) hT))]; exact n
  · rw [upd_ne (ne_of_none e hn)]; exact e
  · rw [upd_ne (ne_of_none e hn)]; exact e
  · rw [upd_ne (ne_of_none e hn), e]; simp
  · obtain ⟨o, es, ep, ho, r⟩ := hm
    exact ⟨o, es, ep, k _ o (fun z => (hf _ z).2.1 rfl) ho, r⟩
  · by_cases hb : b = T
    · subst hb
      rw [upd_same] at e
      cases e
      exact new
    · rw [upd_ne hb] at e
      refine (I.hok b u e).stay (fun c v hc q => k c v ?_ q) (fun c q => by rw [upd_ne (ne_of_none q hn)]; exact q) fun c xs q => by rw [upd_ne (ne_of_none q hn)]; exact q
      rcases hc with z | z
      · rw [z]; exact nit b u e
      · exact nit c _ z
theorem Inv.lock {d : Addr} {u : HO} (I : Inv X pins σ H s) (h : H d = some u) (mu : Mut (some u)) : ∃ od, Inv X pins σ (upd H d (.frz od u)) s := by
  have x := I.hok d u h
  have ex : ∃ od, s.heap.get? d = some od := by
    cases u with
    | lst xs => obtain ⟨_, _, _, _, e⟩ := x; exact ⟨_, e⟩
    | dK kvs => obtain ⟨_, _, _, _, o, _, _, e, _⟩ := x; exact ⟨o, e⟩
    | dT kvs => obtain ⟨_, _, _, _, o, _, _, e, _⟩ := x; exact ⟨o, e⟩
    | set S n => obtain ⟨o, _, _, _, e, _⟩ := x; exact ⟨o, e⟩
    | ins C dx fs => obtain ⟨_, _, _, e, _⟩ := x; exact ⟨_, e⟩
    | ext φ => obtain ⟨_, ⟨_, e⟩, _⟩ := x; exact ⟨_, e⟩
    | _ => exact False.elim mu
  obtain ⟨od, e⟩ := ex
  have new : ObjOk X.prog X.w (upd H d (.frz od u)) s.heap d (.frz od u) := by
    refine ⟨e, x.stay (fun b v _ q => q) (fun b q => ?_) fun b xs q => ?_⟩
    · rw [upd_ne (fun z => by rw [z, h] at q; cases q; exact mu)]; exact q
    · rw [upd_ne (fun z => by rw [z, h] at q; cases q; exact mu)]; exact q
  exact ⟨od, I.write (x := d) (e := d) (t' := s.toks) (h' := s.heap) (by rw [h]; exact mu) (.inl rfl) (fun b v _ q => q) ⟨od, e⟩ new⟩
end
section
variable {X : Cx}
theorem pi_one {tg : Expr} {pins : List (Addr × Obj)} {σ : St} {H : Hp} {s : Shared} {R : It → Hp → Prop} {J : It} {tn : Nat → Heap → Prop} {tk : Nat} (I : Inv X pins σ H s) (o : Obj)
    (T : Turn X.prog X.w X.K tg J [s.heap.objs.size] s.heap.objs.size tn) (st : tn 0 (s.heap.push o)) (q : R J H) : PIE X pins σ tg R (.ref s.heap.objs.size) { s with heap := s.heap.push o, toks := tk } := by
  refine ⟨s.heap.objs.size, [s.heap.objs.size], tn, J, H, rfl, I.kept fun b ob e => Heap.get?_push_of_some _ e, T, st, fun b hb => ?_, q⟩
  have e : b = s.heap.objs.size := by simpa using hb
  subst e
  exact I.fpOk (Nat.le_refl _) (I.hok.fresh (Nat.le_refl _))
end
theorem kv_get {κ : Type} {kvs : List (κ × V)} {vs : List (κ × Value)} (h : KV kvs vs) : ∀ {i : Nat} {k : κ} {v : V}, kvs[i]? = some (k, v) → ∃ u, vs[i]? = some (k, u) ∧ RelV v u := by
  unfold KV at h
  induction h with
  | nil => intro i k v e; simp at e
  | @cons a b l₁ l₂ r t ih =>
    intro i k v e
    cases i with
    | zero =>
      simp only [List.getElem?_cons_zero, Option.some.injEq] at e
      subst e
      refine ⟨b.2, ?_, r.2⟩
      simp only [List.getElem?_cons_zero]
      exact congrArg some (Prod.ext r.1.symm rfl)
    | succ j =>
      simp only [List.getElem?_cons_succ] at e ⊢
      exact ih e
theorem relV_key {k : Key} {u : Value} (h : keyIs k u = true) : RelV (kV k) u := by
  rcases keyIs_shape h with ⟨i, t, rfl, rfl⟩ | ⟨x, t, rfl, rfl⟩
  · exact ⟨t, rfl⟩
  · exact ⟨t, rfl⟩
section
variable {X : Cx} {pins : List (Addr × Obj)} {σ : St} {H : Hp} {s : Shared} {d : Addr} {o : Obj}
theorem Inv.frzK {kvs : List (Key × V)} (I : Inv X pins σ H s) (h : H d = some (.frz o (.dK kvs))) :
    (d == sysModules) = false ∧ s.heap.get? d = some o ∧ o.ExactDict ∧ ∃ (es : Array DictEntry) (ep : Nat) (vs : List (Key × Value)), o.data = .dict es ep ∧ es.size = kvs.length ∧ KV kvs vs ∧ s.heap.DictAt (mixKind X.prog X.w) d vs ep := by
  obtain ⟨hd, z, hs, vs, kv, o', es, ep, ho, hx, hdt, r⟩ := I.hok d _ h
  rw [hd] at ho
  cases ho
  refine ⟨hs, hd, hx, es, ep, vs, hdt, ?_, kv, o, es, hd, hx, hdt, r⟩
  have l1 := r.2.1.length
  have l2 : kvs.length = vs.length := Paired.length kv
  rw [Array.length_toList] at l1
  omega
end
def Iti (d : Addr) (o : Obj) (kvs : List (Key × V)) : It :=
  ⟨fun i H => H d = some (.frz o (.dK kvs)) ∧ i < kvs.length, fun i H x H' => ∃ T k v, kvs[i]? = some (k, v) ∧ x = .ref T ∧ H T = none ∧ H' = upd H T (.tup [kV k, v]), fun i H => H d = some (.frz o (.dK kvs)) ∧ kvs.length ≤ i⟩
theorem dict_ep {o : Obj} {es es' : Array DictEntry} {ep ep' : Nat} (h : o.data = .dict es ep) (h' : o.data = .dict es' ep') : es' = es ∧ ep' = ep := by
  rw [h] at h'
  cases h'
  exact ⟨rfl, rfl⟩
section
variable {P : Program} {w : World} {K : PySem.W.Frag} {tg : Expr} {d : Addr} {o : Obj} {es : Array DictEntry} {ep : Nat}
theorem turn_items {kvs : List (Key × V)} {elts : List Expr} {kk : Nat} {tpos : Pos} (it : Addr) (hod : o.data = .dict es ep) :
    Turn P w K (.Tuple elts kk tpos) (Iti d o kvs) [it] it (fun i h => ∃ ok ov, IsItemIter h it d i kvs.length ep ok ov) where
  mem := by simp
  obj := fun i h st b hb => by
    have e : b = it := by simpa using hb
    subst e
    obtain ⟨ok, ov, e⟩ := st
    exact ⟨_, e, fun v z => nomatch z⟩
  keep := fun i h h' st k => let ⟨ok, ov, e⟩ := st; ⟨ok, ov, k it (by simp) _ e⟩
  item := by
    intro X hP hw hK hc i pins s σ H E I hf st hg
    subst hP hw hK
    obtain ⟨hd, hi⟩ := hg
    obtain ⟨hs, hgd, hx, es', ep', vs, hdt, hsz, kv, hm⟩ := I.frzK hd
    obtain ⟨rfl, rfl⟩ := dict_ep hod hdt
    obtain ⟨⟨k, v⟩, hkv⟩ : ∃ p, kvs[i]? = some p := ⟨kvs[i], List.getElem?_eq_getElem hi⟩
    obtain ⟨u, hu, ru⟩ := kv_get kv hkv
    have hl : kvs.length = vs.length := Paired.length kv
    obtain ⟨ok, ov, he⟩ := st
    rw [hl] at he
    have hlt : it < s.heap.objs.size := Heap.lt_size he
    refine wpAny_pyNext_items_item he hm hu fun key h' hkey ho hT hz hk => ?_
    refine ⟨_, rfl, wpAny_letOwnedTupleGo_items (s := { s with heap := h' }) ho fun h'' he' sb => ?_⟩
    have hT2 : h''.get? s.heap.objs.size = some { cls := .type "tuple", data := .seq #[key, u] } := (sb.2 _ (Nat.ne_of_gt hlt)).trans hT
    have new : ObjOk X.prog X.w (upd H s.heap.objs.size (.tup [kV k, v])) h'' s.heap.objs.size (.tup [kV k, v]) :=
      ⟨by show 2 ≤ sizeLine; decide, [key, u], .cons (relV_key (show keyIs k key = true from hkey)) (.cons ru .nil), ⟨_, hT2, rfl, _, rfl⟩⟩
    have I1 : Inv X pins σ (upd H s.heap.objs.size (.tup [kV k, v])) { s with heap := h'' } :=
      I.turnedNew (t' := s.toks) (ch := [it]) (fun b ob hb e => (sb.2 b (by simpa using hb)).trans (hk b ob (by simpa using hb) e)) hf (Nat.le_refl _) new
    refine ⟨.ref s.heap.objs.size, _, I1, rfl, ⟨_, k, v, hkv, rfl, I.hok.fresh (Nat.le_refl _), rfl⟩, ⟨key, u, ?_⟩, fun b hb => ?_⟩
    · rw [hl]; exact he'
    · have e : b = it := by simpa using hb
      rw [e, upd_ne (Nat.ne_of_lt hlt)]
      exact (hf it (by simp)).1
  done := by
    intro X hP hw hK hc i pins s σ H E I hf st hg
    subst hP hw hK
    obtain ⟨hd, hi⟩ := hg
    obtain ⟨f0, f1, f2, f3, f4, f5⟩ := hf it (by simp)
    obtain ⟨hs, hgd, hx, es', ep', vs, hdt, hsz, kv, hm⟩ := I.frzK hd
    obtain ⟨rfl, rfl⟩ := dict_ep hod hdt
    have hl : kvs.length = vs.length := Paired.length kv
    obtain ⟨ok, ov, he⟩ := st
    rw [hl] at he
    exact wpAny_pyNext_items_end (I.ok.hd hc) he hm (List.getElem?_eq_none (by omega)) fun h' eb => ⟨rfl, I.turned (t' := s.toks) (fun b ob hb e => eb b ob hb e) f0 f1 f3 f4 f5⟩
  self := fun A i s Q E st h => let ⟨_, _, e⟩ := st; PySem.W.kcp_self e h
end
def iItems (td : TE) : TI := fun σ H R => td σ H fun x H1 => ∃ d o kvs, x = .ref d ∧ H1 d = some (.frz o (.dK kvs)) ∧ R (Iti d o kvs) H1
section
variable {X : Cx} {tg e : Expr} {td : TE} {apos cpos : Pos}
theorem pi_items {elts : List Expr} {kk : Nat} {tpos : Pos} (he : PE X e td) (hbase : attributeBase e "items" X.env (eval e X.env) = eval e X.env := by rfl) (hline : (apos.endLine == cpos.line) = true := by rfl) :
    PI X (.Tuple elts kk tpos) (.Call (.Attribute e "items" apos) [] [] cpos) (iItems td) := by
  intro pins s σ H R I h
  refine wpAny_Call_method (T := "dict") (id := "dict.items") hbase rfl hline F.plainAttrs_dict F.slot_dict_items F.type_dict_items (thn (he pins s σ H _ I h) fun u s1 ⟨x, H1, I1, rx, d, o, kvs, ex, hd, q⟩ => ?_)
  subst ex
  obtain rfl : u = Value.ref d := rx
  obtain ⟨hs, hgd, hx, es, ep, vs, hdt, hsz, kv, hm⟩ := I1.frzK hd
  have hl : kvs.length = vs.length := Paired.length kv
  refine ⟨hm.dictOf.typeIs, hm.dictOf.mapOf.noDict, ?_⟩
  have I2 : Inv X pins σ H1 { s1 with heap := s1.heap.push { cls := .type "dict_items", data := .fields #[.ref d] } } := I1.kept (t' := s1.toks) fun b ob q => Heap.get?_push_of_some _ q
  have fin : wpAny (model X.prog X.w) X.A (pyIter (.ref s1.heap.objs.size)) (PIE X pins σ (.Tuple elts kk tpos) R) X.xe { s1 with heap := s1.heap.push { cls := .type "dict_items", data := .fields #[.ref d] } } := by
    refine wpAny_pyIter_items (d := d) (knd := mixKind X.prog X.w) ⟨_, Heap.get?_push_size _ rfl, rfl, rfl⟩ (hm.push _) (pi_one (tk := s1.toks) I2 _ (turn_items _ hdt) ⟨.none, .none, ?_⟩ q)
    rw [hl]
    exact Heap.get?_push_size _ rfl
  show wpAny _ _ (callWith cpos (.builtin "dict.items") [.ref d] [] []) _ X.xe s1
  exact method_meetsIn F.slot_dict_items F.entry_dict_items rfl (PySem.evalArgs_none ⟨rfl, hm.dictOf.typeIs, F.args_dict_items_1 _, _, meets_dict_items (mixKind X.prog X.w) d hs, ⟨vs, hm.dictOf⟩, fin⟩)
end
def Ite (K : PySem.W.Frag) (a : Addr) : It :=
  ⟨fun i H => ∃ (xs : List V) (x : V), SqL K H a xs ∧ xs[i]? = some x, fun i H v H' => ∃ T x, v = .ref T ∧ H T = none ∧ H' = upd H T (.tup [.int (i : Nat), x]) ∧ ∀ xs, SqL K H a xs → xs[i]? = some x, fun i H => ∃ xs : List V, SqL K H a xs ∧ xs.length ≤ i⟩
theorem turn_enum {P : Program} {w : World} {K : PySem.W.Frag} {elts : List Expr} {kk : Nat} {tpos : Pos} (a e it : Addr) :
    Turn P w K (.Tuple elts kk tpos) (Ite K a) [e, it] e (fun i h => (∃ old, IsEnum h e it ((i : Nat) : Int) old) ∧ h.IsListIter it a i ∧ e ≠ it) where
  mem := by simp
  obj := fun i h st b hb => by
    obtain ⟨⟨old, he⟩, ⟨o, ho, hc, hd⟩, _⟩ := st
    have e' : b = e ∨ b = it := by simpa using hb
    rcases e' with z | z
    · rw [z]; exact ⟨_, he, fun v q => nomatch q⟩
    · rw [z]; exact ⟨o, ho, fun v q => by rw [hd] at q; cases q⟩
  keep := fun i h h' st k => let ⟨⟨old, he⟩, hi, hne⟩ := st; ⟨⟨old, k e (by simp) _ he⟩, hi.at fun o q => k it (by simp) o q, hne⟩
  item := by
    intro X hP hw hK hc i pins s σ H E I hf st hg
    subst hP hw hK
    obtain ⟨⟨old, he⟩, hit, hne⟩ := st
    obtain ⟨xs, x, hq, hx⟩ := hg
    obtain ⟨its, rv, p, hz⟩ := I.list hq
    obtain ⟨u, hu, ru⟩ := rv.get hx
    have hel : e < s.heap.objs.size := Heap.lt_size he
    have hil : it < s.heap.objs.size := by obtain ⟨_, q, _⟩ := hit; exact Heap.lt_size q
    refine wpAny_pyNext_enum_item he hit p.isList (x := u) (by simpa using hu) hne fun h' ho hit' hT hsz hk => ?_
    refine ⟨_, rfl, wpAny_letOwnedTupleGo_enum (s := { s with heap := h', toks := s.toks + 1 }) ho fun h'' he' sb => ?_⟩
    have hT2 : h''.get? s.heap.objs.size = some { cls := .type "tuple", data := .seq #[.int i s.toks, u] } := (sb.2 _ (Nat.ne_of_gt hel)).trans hT
    have new : ObjOk X.prog X.w (upd H s.heap.objs.size (.tup [.int (i : Nat), x])) h'' s.heap.objs.size (.tup [.int (i : Nat), x]) :=
      ⟨by show 2 ≤ sizeLine; decide, [.int i s.toks, u], .cons ⟨_, rfl⟩ (.cons ru .nil), ⟨_, hT2, rfl, _, rfl⟩⟩
    have I1 : Inv X pins σ (upd H s.heap.objs.size (.tup [.int (i : Nat), x])) { s with heap := h'', toks := s.toks + 1 } :=
      I.turnedNew (ch := [e, it]) (fun b ob hb q => (sb.2 b (fun z => hb (by simp [z]))).trans (hk b ob (fun z => hb (by simp [z])) (fun z => hb (by simp [z])) q)) hf (Nat.le_refl _) new
    refine ⟨.ref s.heap.objs.size, _, I1, rfl, ⟨_, x, rfl, I.hok.fresh (Nat.le_refl _), rfl, fun ys hy => by rw [I.list_inj hy hq]; exact hx⟩, ⟨⟨u, ?_⟩, hit'.at fun o q => (sb.2 it (Ne.symm hne)).trans q, hne⟩, fun b hb => ?_⟩
    · have e1 : ((i + 1 : Nat) : Int) = (i : Int) + 1 := by omega
      rw [e1]; exact he'
    · have hb' : b < s.heap.objs.size := by
        have e' : b = e ∨ b = it := by simpa using hb
        rcases e' with z | z
        · rw [z]; exact hel
        · rw [z]; exact hil
      rw [upd_ne (Nat.ne_of_lt hb')]
      exact (hf b hb).1
  done := by
    intro X hP hw hK hc i pins s σ H E I hf st hg
    subst hP hw hK
    obtain ⟨⟨old, he⟩, hit, hne⟩ := st
    obtain ⟨xs, hq, hx⟩ := hg
    obtain ⟨its, rv, p, hz⟩ := I.list hq
    obtain ⟨f0, f1, f2, f3, f4, f5⟩ := hf it (by simp)
    have hl := rv.length
    exact wpAny_pyNext_enum_end (I.ok.hd hc) he hit p.isList (by simp; omega) fun h' eb => ⟨rfl, I.turned (t' := s.toks) (fun b o hb q => eb b o hb q) f0 f1 f3 f4 f5⟩
  self := fun A i s Q E st h => let ⟨⟨_, he⟩, _⟩ := st; wpAny_pyIter_enum he h
def iEnum (K : PySem.W.Frag) (ta : TA) : TI := fun σ H R => ta σ H fun vs H1 => ∃ a xs, vs = [.ref a] ∧ SqL K H1 a xs ∧ R (Ite K a) H1
theorem pi_enum {X : Cx} {e : Expr} {ta : TA} {p pos tpos : Pos} {elts : List Expr} {kk : Nat} (hg : Gl X "enumerate") (hm : X.mg "enumerate" = none) (ha : PA X [e] ta) (hs : starEach [e] X.env = [(false, eval e X.env)] := by rfl) :
    PI X (.Tuple elts kk tpos) (.Call (.Name "enumerate" p) [e] [] pos) (iEnum X.K ta) := by
  intro pins s σ H R I h
  refine Call_ (ld_blt I hg hm boot_enumerate (PyProof.Rows.callWith_type1 (thn (ha pos pins s σ H _ I h) fun us s1 ⟨vs, H1, I1, r1, q1⟩ => ?_) hs rfl))
  obtain ⟨a, xs, ex, hq, q⟩ := q1
  subst ex
  cases r1 with
  | cons r rr =>
    cases rr
    cases r
    obtain ⟨its, rv, p', hz⟩ := I1.list hq
    refine call_enumerate_list p'.isList fun h' he hit hsz hk => wpAny_pyIter_enum he ?_
    have I2 : Inv X pins σ H1 { s1 with heap := h' } := I1.kept (t' := s1.toks) hk
    refine ⟨s1.heap.objs.size + 1, [s1.heap.objs.size + 1, s1.heap.objs.size], _, _, H1, rfl, I2, turn_enum a (s1.heap.objs.size + 1) s1.heap.objs.size, ⟨⟨.none, he⟩, hit, Nat.succ_ne_self _⟩, fun b hb => ?_, q⟩
    have e' : b = s1.heap.objs.size + 1 ∨ b = s1.heap.objs.size := by simpa using hb
    have hle : s1.heap.objs.size ≤ b := by
      rcases e' with z | z
      · rw [z]; exact Nat.le_add_right _ _
      · rw [z]; exact Nat.le_refl _
    exact I1.fpOk hle (I1.hok.fresh hle)
end L2
section 
namespace Bits
open PySem PyProof.Rows
theorem bitOr_pp {x y : Int} (hx : 0 ≤ x) (hy : 0 ≤ y) : Builtin.bitOr x y = ((x.toNat ||| y.toNat : Nat) : Int) := by
  have e := nat_or_add_and x.toNat y.toNat
  rw [bitOr_and, bitAnd_pp hx hy]
  omega
end Bits
end 
section 
namespace TL
open PySem PySem.Builtin PySem.Builtin.Str PySem.StrLaws
end TL
end 
namespace L2
open PySem PySem.Spec PyProof.Rows
end L2
namespace L2
open PySem PySem.Spec PyProof.Rows
end L2
namespace Att
open PySem PySem.W PySem.Calls PyProof.Rows
end Att
namespace L2
open PySem PySem.Spec PyProof.Rows
end L2
namespace L2
open PySem PySem.Spec PyProof.Rows
end L2
namespace L2
open PySem PySem.Spec PyProof.Rows
def inClass (s : Stmt) (j : Nat) : Stmt := match s with
  | .ClassDef _ _ _ body _ _ _ _ _ _ _ => body.getD j (.Pass ⟨0, 0, 0, 0⟩)
  | _ => .Pass ⟨0, 0, 0, 0⟩
def defArgs (s : Stmt) : Arguments := match s with
  | .FunctionDef _ a _ _ _ _ _ _ _ _ => a
  | _ => { posonlyargs := [], args := [], vararg := none, kwonlyargs := [], kw_defaults := [], kwarg := none, defaults := [] }
def defBody (s : Stmt) : List Stmt := match s with
  | .FunctionDef _ _ b _ _ _ _ _ _ _ => b
  | _ => []
def defScope (s : Stmt) : Scope := match s with
  | .FunctionDef _ _ _ _ _ _ sc _ _ _ => sc
  | _ => { kind := .function, names := [], isGenerator := false, isCoroutine := false }
abbrev CX0 : CXT := fun _ _ _ _ _ _ => False
abbrev E0 : XK := fun _ _ _ => False
theorem pass0 {X : Cx} : Passes CX0 X E0 := fun _ _ _ _ _ _ _ h => h.elim
structure Fun (K : PySem.W.Frag) (x qual : Str) (st : Stmt) (f : Addr) (fd : FuncData) : Prop where
  ex : ∃ (oc : Value) (od : Option Addr) (kV doc pm : Value) (an : Option Addr) (cdv ct : Value) (osl : Array (Option Value)),
    fd = PySem.W.fnOf x qual (defArgs st) (defBody st) (defScope st) .none kV doc pm an cdv ct ∧ K.lookup f = some ⟨oc, od, .func fd, osl⟩ ∧ PySem.W.codeIn K cdv qual = true
  kp : PySem.W.keepIn K (.ref f) = true
section
variable {P : Program} {w : World} {K : PySem.W.Frag} {mg : Str → Option Value} {base : Heap}
theorem Fun.ok {x qual : Str} {st : Stmt} {f : Addr} {fd : FuncData} {N ps : List Str} {k : Nat} {sp : Sp} (F : Fun K x qual st f fd) (S : FnScope N ps (defScope st)) (len : ∀ vs H Q E, sp vs H Q E → vs.length = ps.length)
    (hbody : ∀ (cdv : Value) (A : Around) (outer : List Env) (s : Shared) (H : Hp) (vs : List V) (Q : VK) (E : XK), Room k (A.deeper (envOfC qual (defScope st) s.heap.objs.size f cdv)) → sp vs H Q E →
      ∃ t, PSs (cxOf CX0 P w K mg base N qual (defScope st) f cdv A outer s H E).nox (defBody st) t ∧ t { nx := fun _ H' => Q .non H', rt := Q } (start N vs) H) : FnOk P w K mg base CX0 (k + 1) f fd ps sp := by
  obtain ⟨oc, od, kV, doc, pm, an, cdv, ct, osl, rfl, lk, hcd⟩ := F.ex
  refine fn_of lk hcd S len fun A outer s H vs Q E hr hsp => ?_
  obtain ⟨t, h, q⟩ := hbody cdv A outer s H vs Q E hr hsp
  exact ⟨t, h.nox, q⟩
theorem Fun.binds {x qual : Str} {st : Stmt} {f : Addr} {fd : FuncData} {ps : List Str} (F : Fun K x qual st f fd)
    (h : ∀ (kV doc pm : Value) (an : Option Addr) (cdv ct : Value) (us : List Value), us.length = ps.length → bindArgs (PySem.W.fnOf x qual (defArgs st) (defBody st) (defScope st) .none kV doc pm an cdv ct) ⟨us, []⟩ = pure (ps.zip us)) : Binds K fd ps [] := by
  obtain ⟨oc, od, kV, doc, pm, an, cdv, ct, osl, rfl, lk, hcd⟩ := F.ex
  exact .all (h kV doc pm an cdv ct)
theorem fun_mk {x qual : Str} {st : Stmt} {f : Addr} {oc : Value} {od an : Option Addr} {osl : Array (Option Value)} {kV doc pm cdv ct : Value} (l : K.lookup f = some ⟨oc, od, .func (PySem.W.fnOf x qual (defArgs st) (defBody st) (defScope st) .none kV doc pm an cdv ct), osl⟩)
    (c : PySem.W.codeIn K cdv qual = true) (k : PySem.W.keepIn K (.ref f) = true) : Fun K x qual st f (PySem.W.fnOf x qual (defArgs st) (defBody st) (defScope st) .none kV doc pm an cdv ct) := ⟨⟨oc, od, kV, doc, pm, an, cdv, ct, osl, rfl, l, c⟩, k⟩
end
theorem hu_of {A : Around} {k : Nat} (hr : Room k A) : A.units + 1 < cLine := Nat.lt_of_le_of_lt (Nat.add_le_add_left (by decide : 1 ≤ 64) _) hr.units
section
variable {X : Cx}
theorem pv (i : Nat) {x : Str} {pos : Pos} (hN : X.N[i]? = some x := by rfl) (hv : Vis X.env.scope x := by first | exact Or.inl rfl | exact Or.inr (Or.inl rfl) | exact Or.inr (Or.inr rfl)) (hd : (x == ("__debug__" : Str)) = false := by decide)
    (hcd : (x == ("__classdict__" : Str)) = false := by decide) : PE X (.Name x pos) (tVar i) := pe_var hN hv hd hcd
theorem call_lenD : CallR X (.builtin "len") (fun xs H Q => ∃ a kvs, xs = [V.ref a] ∧ H a = some (.dK kvs) ∧ Q (.int kvs.length) H) := by
  intro pins s σ H xs us Q I r h
  obtain ⟨a, kvs, rfl, ha, q⟩ := h
  obtain ⟨u, rfl, ru⟩ := vals1 r
  cases ru
  exact d_len I (.inl ha) fun t s' I' => ⟨.int kvs.length, H, I', ⟨t, rfl⟩, q⟩
end
theorem iteF {A B : Prop} (h : B) : if false = true then A else B := by
  rw [if_neg Bool.false_ne_true]
  exact h
theorem iteT {A B : Prop} (h : A) : if true = true then A else B := by
  rw [if_pos rfl]
  exact h
def Same (H H' : Hp) : Prop := ∀ b o, H b = some o → H' b = some o
theorem Same.refl (H : Hp) : Same H H := fun _ _ h => h
theorem Same.trans {H H1 H2 : Hp} (a : Same H H1) (b : Same H1 H2) : Same H H2 := fun c o h => b c o (a c o h)
theorem Same.free {H H' : Hp} (e : Same H H') {l : Addr} (h : H' l = Option.none) : H l = Option.none := by
  cases q : H l with
  | none => rfl
  | some o =>
    rw [e l o q] at h
    cases h
theorem Same.seq {K : PySem.W.Frag} {H H' : Hp} {a : Addr} {xs : List V} (e : Same H H') (h : SqL K H a xs) : SqL K H' a xs := by
  rcases h with (h | ⟨o, h⟩) | h
  · exact .inl (.inl (e _ _ h))
  · exact .inl (.inr ⟨o, e _ _ h⟩)
  · exact .inr h
theorem Same.made {H H1 : Hp} {x dx C : Addr} (nx : H x = Option.none) (nd : H dx = Option.none) (k : ∀ b o, (upd (upd H dx (.own x)) x (.ins C dx [])) b = some o → b ≠ x → H1 b = some o) : Same H H1 := fun b o e =>
  k b o (by rw [upd_ne (ne_of_none e nx), upd_ne (ne_of_none e nd)]; exact e) (ne_of_none e nx)
end L2
section
set_option Elab.async false
set_option linter.all false
set_option maxRecDepth 100000
set_option maxHeartbeats 2000000
namespace L2
open PySem PySem.Spec PyProof.Rows
open PySem.W (WData Codec OpenSpec Well WellAll ReadsW ReadsAllW)
mutual
inductive Dw (K : PySem.W.Frag) (H : Hp) : V → WData → Prop
  | non : Dw K H .non .none
  | bl (b : Bool) : Dw K H (.bl b) (.bool b)
  | int (i : Int) : Dw K H (.int i) (.int i)
  | str (x : Str) : Dw K H (.str x) (.str x)
  | byt (b : Array UInt8) : Dw K H (.byt b) (.bytes b.toList)
  | lst {a : Addr} {xs : List V} {ds : List WData} : SqL K H a xs → DwAll K H xs ds → Dw K H (.ref a) (.list ds)
  | tup {a : Addr} {xs : List V} {ds : List WData} : SqT K H a xs → DwAll K H xs ds → Dw K H (.ref a) (.tuple ds)
inductive DwAll (K : PySem.W.Frag) (H : Hp) : List V → List WData → Prop
  | nil : DwAll K H [] []
  | cons {v : V} {vs : List V} {d : WData} {ds : List WData} : Dw K H v d → DwAll K H vs ds → DwAll K H (v :: vs) (d :: ds)
end
theorem dw_ints {K : PySem.W.Frag} {H : Hp} : ∀ ns : List Int, DwAll K H (ns.map V.int) (ns.map WData.int)
  | [] => .nil
  | n :: r => .cons (.int n) (dw_ints r)
theorem ints_dw {K : PySem.W.Frag} {H : Hp} : ∀ (ns : List Int) (xs : List V), DwAll K H xs (ns.map WData.int) → xs = ns.map V.int
  | [], xs, h => by
    cases h
    rfl
  | n :: r, xs, h => by
    cases h with
    | cons h1 h2 =>
      cases h1
      rw [ints_dw r _ h2] <;> rfl
section
variable {P : Program} {w : World} {K : PySem.W.Frag} {H : Hp} {h : Heap} {R : PySem.W.WRecords} {cl : Str → Option Addr}
theorem sqL_at {a : Addr} {xs : List V} (hok : HOk P w H h) (KX : K.In h) (q : SqL K H a xs) : ∃ (its : List Value) (o : Obj) (n : Nat), Vals xs its ∧ h.get? a = some o ∧ o.cls = .type "list" ∧ o.data = .seq its.toArray n := by
  rcases q with q | ⟨o, its, n, e, hc, _, hd, _, hv⟩
  · obtain ⟨_, its, n, hv, e⟩ := (show ObjOk P w H h a (.lst xs) from q.ok hok)
    exact ⟨its, _, n, hv, e, rfl, rfl⟩
  · exact ⟨its.toList, o, n, hv, KX _ _ e, hc, by simp [hd]⟩
theorem sqT_at {a : Addr} {xs : List V} (hok : HOk P w H h) (KX : K.In h) (q : SqT K H a xs) : ∃ (its : List Value) (o : Obj) (n : Nat), Vals xs its ∧ h.get? a = some o ∧ o.cls = .type "tuple" ∧ o.data = .seq its.toArray n := by
  rcases q with q | ⟨o, its, n, e, hc, hd, _, hv⟩
  · obtain ⟨_, its, hv, o, e, hc, n, hd⟩ := (show ObjOk P w H h a (.tup xs) from q.ok hok)
    exact ⟨its, o, n, hv, e, hc, hd⟩
  · exact ⟨its.toList, o, n, hv, KX _ _ e, hc, by simp [hd]⟩
mutual
theorem Dw.reads (hok : HOk P w H h) (KX : K.In h) : ∀ (d : WData) (v : V) (u : Value), Dw K H v d → RelV v u → ∃ as, ReadsW R cl h u d as
  | .none, _, _, x, r => by
    cases x
    cases r
    exact ⟨_, ReadsW.none⟩
  | .bool b, _, _, x, r => by
    cases x
    cases r
    exact ⟨_, ReadsW.bool b⟩
  | .int i, _, _, x, r => by
    cases x
    obtain ⟨t, rfl⟩ := r
    exact ⟨_, ReadsW.int i t⟩
  | .str s, _, _, x, r => by
    cases x
    obtain ⟨t, rfl⟩ := r
    exact ⟨_, ReadsW.str s t⟩
  | .bytes b, _, _, x, r => by
    cases x
    obtain ⟨t, rfl⟩ := r
    exact ⟨_, ReadsW.bytes _ t⟩
  | .list ds, _, _, x, r => by
    cases x with
    | lst hs ha =>
      cases r
      obtain ⟨its, o, n, rv, ho, hc, hd⟩ := sqL_at hok KX hs
      obtain ⟨as, hr⟩ := Dw.readsAll hok KX ds _ its ha rv
      exact ⟨_, ReadsW.list ho hc hd hr⟩
  | .tuple ds, _, _, x, r => by
    cases x with
    | tup hs ha =>
      cases r
      obtain ⟨its, o, n, rv, ho, hc, hd⟩ := sqT_at hok KX hs
      obtain ⟨as, hr⟩ := Dw.readsAll hok KX ds _ its ha rv
      exact ⟨_, ReadsW.tuple ho hc hd hr⟩
  | .float _, _, _, x, _ => by cases x
  | .dict _, _, _, x, _ => by cases x
  | .bytearray _, _, _, x, _ => by cases x
  | .set _, _, _, x, _ => by cases x
  | .frozenset _, _, _, x, _ => by cases x
  | .obj _ _, _, _, x, _ => by cases x
theorem Dw.readsAll (hok : HOk P w H h) (KX : K.In h) : ∀ (ds : List WData) (vs : List V) (us : List Value), DwAll K H vs ds → Vals vs us → ∃ as, ReadsAllW R cl h us ds as
  | [], _, _, x, r => by
    cases x
    cases r
    exact ⟨_, ReadsAllW.nil⟩
  | d :: ds, _, _, x, r => by
    cases x with
    | cons h1 h2 =>
      cases r with
      | cons r1 r2 =>
        obtain ⟨as, q1⟩ := Dw.reads hok KX d _ _ h1 r1
        obtain ⟨bs, q2⟩ := Dw.readsAll hok KX ds _ _ h2 r2
        exact ⟨_, ReadsAllW.cons q1 q2⟩
end
end
mutual
def plW : WData → Bool
  | .none => true
  | .bool _ => true
  | .int _ => true
  | .str _ => true
  | .bytes _ => true
  | .list xs => plWs xs
  | .tuple xs => plWs xs
  | _ => false
def plWs : List WData → Bool
  | [] => true
  | x :: r => plW x && plWs r
end
theorem plWs_map {α : Type} {f : α → WData} (h : ∀ a, plW (f a) = true) : ∀ l : List α, plWs (l.map f) = true
  | [] => rfl
  | x :: r => by
    show (plW (f x) && plWs (r.map f)) = true
    rw [h x, plWs_map h r] <;> rfl
theorem pl_enc : ∀ (c : Codec) (a : c.denote), plW (c.enc a) = true
  | .unit, _ => rfl
  | .bool, _ => rfl
  | .int _ _, _ => rfl
  | .nat _ _, _ => rfl
  | .u8, _ => rfl
  | .bytes _ _, _ => rfl
  | .text _ _ _ _, _ => rfl
  | .list _ _ c, a => plWs_map (fun x => pl_enc c x) a
  | .pair c d, a => by
    show (plW (c.enc a.1) && (plW (d.enc a.2) && true)) = true
    rw [pl_enc c a.1, pl_enc d a.2] <;> rfl
  | .triple c d e, a => by
    show (plW (c.enc a.1) && (plW (d.enc a.2.1) && (plW (e.enc a.2.2) && true))) = true
    rw [pl_enc c a.1, pl_enc d a.2.1, pl_enc e a.2.2] <;> rfl
  | .option c, none => rfl
  | .option c, some x => pl_enc c x
theorem pl_encAll : ∀ (cs : List Codec) (a : Codec.denoteAll cs), plWs (Codec.encAll cs a) = true
  | [], _ => rfl
  | c :: cs, a => by
    show (plW (c.enc a.1) && plWs (Codec.encAll cs a.2)) = true
    rw [pl_enc c a.1, pl_encAll cs a.2] <;> rfl
theorem weight_mem : ∀ {xs : List WData} {d : WData}, d ∈ xs → d.weight ≤ WData.weightAll xs
  | [], d, h => absurd h (by simp)
  | x :: r, d, h => by
    show d.weight ≤ x.weight + 1 + WData.weightAll r
    rcases List.mem_cons.mp h with e | m
    · rw [e]
      omega
    · have z := weight_mem m
      omega
def toV : Value → V
  | .none => .non
  | .bool b => .bl b
  | .int i _ => .int i
  | .str x _ => .str x
  | .bytes b _ => .byt b
  | .ref a => .ref a
  | _ => .non
def OkU (A : List Addr) : Value → Prop
  | .none => True
  | .bool _ => True
  | .int _ _ => True
  | .str _ _ => True
  | .bytes _ _ => True
  | .ref a => a ∈ A
  | _ => False
theorem OkU.mono {A B : List Addr} (h : ∀ a ∈ A, a ∈ B) : ∀ {u : Value}, OkU A u → OkU B u := fun {u} x => by
  cases u with
  | ref a => exact h a x
  | none => trivial
  | bool b => trivial
  | int i t => trivial
  | str s t => trivial
  | bytes b t => trivial
  | _ => exact False.elim x
theorem relV_toV {A : List Addr} {u : Value} (x : OkU A u) : RelV (toV u) u := by
  cases u with
  | ref a => rfl
  | none => rfl
  | bool b => rfl
  | int i t => exact ⟨t, rfl⟩
  | str s t => exact ⟨t, rfl⟩
  | bytes b t => exact ⟨t, rfl⟩
  | _ => exact False.elim x
theorem vals_toV {A : List Addr} : ∀ {vs : List Value}, (∀ u ∈ vs, OkU A u) → Vals (vs.map toV) vs
  | [], _ => .nil
  | u :: r, h => .cons (relV_toV (h u (List.mem_cons_self ..))) (vals_toV fun x hx => h x (List.mem_cons_of_mem _ hx))
def ArgOb (h : Heap) (A : List Addr) (a : Addr) : Prop := ∃ vs : List Value, vs.length ≤ sizeLine ∧ (∀ u ∈ vs, OkU A u) ∧
  (h.get? a = some { cls := .type "list", data := .seq vs.toArray } ∨ h.get? a = some { cls := .type "tuple", data := .seq vs.toArray })
theorem ArgOb.mono {h : Heap} {A B : List Addr} {a : Addr} (k : ∀ a ∈ A, a ∈ B) (x : ArgOb h A a) : ArgOb h B a := by
  obtain ⟨vs, h1, h2, h3⟩ := x
  exact ⟨vs, h1, fun u hu => (h2 u hu).mono k, h3⟩
theorem wellAll_len {P : Params} {h : Heap} : ∀ {vs : List Value} {ds : List WData}, WellAll P h vs ds → vs.length = ds.length
  | _, _, .nil => rfl
  | _, _, .cons _ b => by
    show _ + 1 = _ + 1
    rw [wellAll_len b]
theorem well_list {P : Params} {h : Heap} {v : Value} {ds : List WData} (x : Well P h v (.list ds)) : ∃ (a : Addr) (vs : List Value), v = .ref a ∧ h.get? a = some { cls := .type "list", data := .seq vs.toArray } ∧ WellAll P h vs ds := by
  cases x with
  | list ho hall => exact ⟨_, _, rfl, ho, hall⟩
theorem well_tuple {P : Params} {h : Heap} {v : Value} {ds : List WData} (x : Well P h v (.tuple ds)) : ∃ (a : Addr) (vs : List Value), v = .ref a ∧ h.get? a = some { cls := .type "tuple", data := .seq vs.toArray } ∧ WellAll P h vs ds := by
  cases x with
  | tuple ho hall => exact ⟨_, _, rfl, ho, hall⟩
theorem well_cons {P : Params} {h : Heap} {us : List Value} {d : WData} {ds : List WData} (x : WellAll P h us (d :: ds)) : ∃ (v : Value) (vs : List Value), us = v :: vs ∧ Well P h v d ∧ WellAll P h vs ds := by
  cases x with
  | cons a b => exact ⟨_, _, rfl, a, b⟩
theorem line_of {n : Nat} (h : n ≤ 1048576) : n ≤ sizeLine := Nat.le_trans h (by decide)
section
variable {P : Params} {h : Heap}
mutual
theorem area_one : ∀ (d : WData) (v : Value), Well P h v d → plW d = true → d.weight ≤ 1048576 → ∃ A : List Addr, OkU A v ∧ ∀ a ∈ A, ArgOb h A a
  | .none, _, x, _, _ => by
    cases x
    exact ⟨[], trivial, fun a m => absurd m (by simp)⟩
  | .bool b, _, x, _, _ => by
    cases x
    exact ⟨[], trivial, fun a m => absurd m (by simp)⟩
  | .int i, _, x, _, _ => by
    cases x
    exact ⟨[], trivial, fun a m => absurd m (by simp)⟩
  | .str s, _, x, _, _ => by
    cases x
    exact ⟨[], trivial, fun a m => absurd m (by simp)⟩
  | .bytes b, _, x, _, _ => by
    cases x
    exact ⟨[], trivial, fun a m => absurd m (by simp)⟩
  | .list ds, _, x, p, z => by
    obtain ⟨a, vs, rfl, ho, hall⟩ := well_list x
    have z2 : WData.weightAll ds ≤ 1048576 := z
    obtain ⟨A, h1, h2⟩ := area_all ds _ hall p fun d hd => Nat.le_trans (weight_mem hd) z2
    have k : ∀ b ∈ A, b ∈ a :: A := fun b hb => List.mem_cons_of_mem _ hb
    refine ⟨a :: A, List.mem_cons_self .., fun b hb => ?_⟩
    rcases List.mem_cons.mp hb with e | m
    · rw [e]
      exact ⟨vs, line_of (by rw [wellAll_len hall]; exact Nat.le_trans (PySem.W.length_le_weightAllW ds) z2), fun u hu => (h1 u hu).mono k, .inl ho⟩
    · exact (h2 b m).mono k
  | .tuple ds, _, x, p, z => by
    obtain ⟨a, vs, rfl, ho, hall⟩ := well_tuple x
    have z2 : WData.weightAll ds ≤ 1048576 := z
    obtain ⟨A, h1, h2⟩ := area_all ds _ hall p fun d hd => Nat.le_trans (weight_mem hd) z2
    have k : ∀ b ∈ A, b ∈ a :: A := fun b hb => List.mem_cons_of_mem _ hb
    refine ⟨a :: A, List.mem_cons_self .., fun b hb => ?_⟩
    rcases List.mem_cons.mp hb with e | m
    · rw [e]
      exact ⟨vs, line_of (by rw [wellAll_len hall]; exact Nat.le_trans (PySem.W.length_le_weightAllW ds) z2), fun u hu => (h1 u hu).mono k, .inr ho⟩
    · exact (h2 b m).mono k
  | .float _, _, _, p, _ => Bool.noConfusion (show false = true from p)
  | .dict _, _, _, p, _ => Bool.noConfusion (show false = true from p)
  | .bytearray _, _, _, p, _ => Bool.noConfusion (show false = true from p)
  | .set _, _, _, p, _ => Bool.noConfusion (show false = true from p)
  | .frozenset _, _, _, p, _ => Bool.noConfusion (show false = true from p)
  | .obj _ _, _, _, p, _ => Bool.noConfusion (show false = true from p)
theorem area_all : ∀ (ds : List WData) (vs : List Value), WellAll P h vs ds → plWs ds = true → (∀ d ∈ ds, d.weight ≤ 1048576) → ∃ A : List Addr, (∀ u ∈ vs, OkU A u) ∧ ∀ a ∈ A, ArgOb h A a
  | [], _, x, _, _ => by
    cases x
    exact ⟨[], fun u m => absurd m (by simp), fun a m => absurd m (by simp)⟩
  | d :: ds, _, x, p, z => by
    obtain ⟨v, vs, rfl, x1, x2⟩ := well_cons x
    have q : plW d = true ∧ plWs ds = true := Bool.and_eq_true_iff.mp p
    obtain ⟨A, a1, a2⟩ := area_one d v x1 q.1 (z d (List.mem_cons_self ..))
    obtain ⟨B, b1, b2⟩ := area_all ds vs x2 q.2 fun e he => z e (List.mem_cons_of_mem _ he)
    have kA : ∀ b ∈ A, b ∈ A ++ B := fun b hb => List.mem_append.mpr (.inl hb)
    have kB : ∀ b ∈ B, b ∈ A ++ B := fun b hb => List.mem_append.mpr (.inr hb)
    refine ⟨A ++ B, fun u hu => ?_, fun b hb => ?_⟩
    · rcases List.mem_cons.mp hu with e | m
      · rw [e]
        exact a1.mono kA
      · exact (b1 u m).mono kB
    · rcases List.mem_append.mp hb with m | m
      · exact (a2 b m).mono kA
      · exact (b2 b m).mono kB
end
end
def hoOf (o : Obj) : Option HO := match o.data with
  | .seq vs _ => if (o.cls == Value.type "list") = true then some (.frz o (.lst (vs.toList.map toV))) else some (.frz o (.tup (vs.toList.map toV)))
  | _ => none
def argH (K : PySem.W.Frag) (h : Heap) (A : List Addr) : Hp := fun b => if b ∈ A then (if (K.lookup b).isNone = true then (h.get? b).bind hoOf else none) else none
def OnlyF (H : Hp) : Prop := ∀ b, H b = none ∨ ∃ o u, H b = some (.frz o u)
theorem hoOf_lst (vs : List Value) : hoOf { cls := .type "list", data := .seq vs.toArray } = some (.frz { cls := .type "list", data := .seq vs.toArray } (.lst (vs.map toV))) := by
  show (if (Value.type "list" == Value.type "list") = true then some (HO.frz { cls := .type "list", data := .seq vs.toArray } (.lst (vs.toArray.toList.map toV))) else some (HO.frz { cls := .type "list", data := .seq vs.toArray } (.tup (vs.toArray.toList.map toV)))) = _
  rw [if_pos (beq_self_eq_true _)]
theorem hoOf_tup (vs : List Value) : hoOf { cls := .type "tuple", data := .seq vs.toArray } = some (.frz { cls := .type "tuple", data := .seq vs.toArray } (.tup (vs.map toV))) := by
  show (if (Value.type "tuple" == Value.type "list") = true then some (HO.frz { cls := .type "tuple", data := .seq vs.toArray } (.lst (vs.toArray.toList.map toV))) else some (HO.frz { cls := .type "tuple", data := .seq vs.toArray } (.tup (vs.toArray.toList.map toV)))) = _
  rw [if_neg (by decide)]
section
variable {P : Program} {w : World} {K : PySem.W.Frag} {h : Heap} {A : List Addr}
theorem argH_at {b : Addr} {o : Obj} (hb : b ∈ A) (hk : K.lookup b = none) (e : h.get? b = some o) : argH K h A b = hoOf o := by
  unfold argH
  rw [if_pos hb, hk, if_pos (show (none : Option Obj).isNone = true from rfl), e] <;> rfl
theorem of_argH {b : Addr} {u : HO} (q : argH K h A b = some u) : b ∈ A ∧ K.lookup b = none := by
  unfold argH at q
  by_cases hb : b ∈ A
  · rw [if_pos hb] at q
    cases hk : K.lookup b with
    | none => exact ⟨hb, rfl⟩
    | some o =>
      rw [hk, if_neg (by simp)] at q
      cases q
  · rw [if_neg hb] at q
    cases q
theorem argH_is (ar : ∀ a ∈ A, ArgOb h A a) {b : Addr} {u : HO} (q : argH K h A b = some u) : K.lookup b = none ∧ ∃ vs : List Value, vs.length ≤ sizeLine ∧ (∀ u ∈ vs, OkU A u) ∧
    ((h.get? b = some { cls := .type "list", data := .seq vs.toArray } ∧ u = .frz { cls := .type "list", data := .seq vs.toArray } (.lst (vs.map toV))) ∨
     (h.get? b = some { cls := .type "tuple", data := .seq vs.toArray } ∧ u = .frz { cls := .type "tuple", data := .seq vs.toArray } (.tup (vs.map toV)))) := by
  obtain ⟨hb, hk⟩ := of_argH q
  obtain ⟨vs, h1, h2, h3⟩ := ar b hb
  refine ⟨hk, vs, h1, h2, ?_⟩
  rcases h3 with e | e
  · rw [argH_at hb hk e, hoOf_lst] at q
    exact .inl ⟨e, (Option.some.inj q).symm⟩
  · rw [argH_at hb hk e, hoOf_tup] at q
    exact .inr ⟨e, (Option.some.inj q).symm⟩
theorem argH_only (ar : ∀ a ∈ A, ArgOb h A a) : OnlyF (argH K h A) := fun b => by
  cases q : argH K h A b with
  | none => exact .inl rfl
  | some u =>
    obtain ⟨_, vs, _, _, ⟨_, e⟩ | ⟨_, e⟩⟩ := argH_is ar q
    · exact .inr ⟨_, _, by rw [e]⟩
    · exact .inr ⟨_, _, by rw [e]⟩
theorem argH_ok (ar : ∀ a ∈ A, ArgOb h A a) : HOk P w (argH K h A) h := fun b u q => by
  obtain ⟨_, vs, h1, h2, ⟨e, rfl⟩ | ⟨e, rfl⟩⟩ := argH_is ar q
  · exact ⟨e, by rw [List.length_map]; exact h1, vs, _, vals_toV h2, e⟩
  · exact ⟨e, by rw [List.length_map]; exact h1, vs, vals_toV h2, _, e, rfl, _, rfl⟩
theorem seq_inj {c c' : Value} {vs us : List Value} (e : (some { cls := c, data := .seq vs.toArray } : Option Obj) = some { cls := c', data := .seq us.toArray }) : c = c' ∧ vs = us := by
  have e1 := Option.some.inj e
  have e2 : c = c' := congrArg Obj.cls e1
  have e3 : Data.seq vs.toArray = Data.seq us.toArray := congrArg Obj.data e1
  injection e3 with e4
  refine ⟨e2, ?_⟩
  have e5 := congrArg Array.toList e4
  simpa using e5
theorem argL (KX : K.In h) (ar : ∀ a ∈ A, ArgOb h A a) {a : Addr} {vs : List Value} (ha : a ∈ A) (e : h.get? a = some { cls := .type "list", data := .seq vs.toArray }) : (∀ u ∈ vs, OkU A u) ∧ SqL K (argH K h A) a (vs.map toV) := by
  obtain ⟨us, h1, h2, h3⟩ := ar a ha
  have hu : us = vs := by
    rcases h3 with q | q
    · rw [e] at q
      exact (seq_inj q).2.symm
    · rw [e] at q
      exact absurd (Value.type.inj (seq_inj q).1) (by decide)
  subst hu
  refine ⟨h2, ?_⟩
  cases hk : K.lookup a with
  | none => exact .inl (.inr ⟨_, by rw [argH_at ha hk e, hoOf_lst]⟩)
  | some o =>
    have e2 := KX a o hk
    rw [e] at e2
    obtain rfl := Option.some.inj e2
    exact .inr ⟨_, us.toArray, _, hk, rfl, rfl, rfl, by rw [List.size_toArray]; exact h1, by simpa using vals_toV h2⟩
theorem argT (KX : K.In h) (ar : ∀ a ∈ A, ArgOb h A a) {a : Addr} {vs : List Value} (ha : a ∈ A) (e : h.get? a = some { cls := .type "tuple", data := .seq vs.toArray }) : (∀ u ∈ vs, OkU A u) ∧ SqT K (argH K h A) a (vs.map toV) := by
  obtain ⟨us, h1, h2, h3⟩ := ar a ha
  have hu : us = vs := by
    rcases h3 with q | q
    · rw [e] at q
      exact absurd (Value.type.inj (seq_inj q).1) (by decide)
    · rw [e] at q
      exact (seq_inj q).2.symm
  subst hu
  refine ⟨h2, ?_⟩
  cases hk : K.lookup a with
  | none => exact .inl (.inr ⟨_, by rw [argH_at ha hk e, hoOf_tup]⟩)
  | some o =>
    have e2 := KX a o hk
    rw [e] at e2
    obtain rfl := Option.some.inj e2
    exact .inr ⟨_, us.toArray, _, hk, rfl, rfl, by rw [List.size_toArray]; exact h1, by simpa using vals_toV h2⟩
mutual
theorem dw_one {Pm : Params} (KX : K.In h) (ar : ∀ a ∈ A, ArgOb h A a) : ∀ (d : WData) (v : Value), Well Pm h v d → plW d = true → OkU A v → Dw K (argH K h A) (toV v) d
  | .none, _, x, _, _ => by
    cases x
    exact .non
  | .bool b, _, x, _, _ => by
    cases x
    exact .bl b
  | .int i, _, x, _, _ => by
    cases x
    exact .int i
  | .str s, _, x, _, _ => by
    cases x
    exact .str s
  | .bytes b, _, x, _, _ => by
    cases x
    have z := Dw.byt (K := K) (H := argH K h A) b.toArray
    exact z
  | .list ds, _, x, p, hu => by
    obtain ⟨a, vs, rfl, ho, hall⟩ := well_list x
    obtain ⟨h2, hs⟩ := argL KX ar hu ho
    exact .lst hs (dw_all KX ar ds _ hall p h2)
  | .tuple ds, _, x, p, hu => by
    obtain ⟨a, vs, rfl, ho, hall⟩ := well_tuple x
    obtain ⟨h2, hs⟩ := argT KX ar hu ho
    exact .tup hs (dw_all KX ar ds _ hall p h2)
  | .float _, _, _, p, _ => Bool.noConfusion (show false = true from p)
  | .dict _, _, _, p, _ => Bool.noConfusion (show false = true from p)
  | .bytearray _, _, _, p, _ => Bool.noConfusion (show false = true from p)
  | .set _, _, _, p, _ => Bool.noConfusion (show false = true from p)
  | .frozenset _, _, _, p, _ => Bool.noConfusion (show false = true from p)
  | .obj _ _, _, _, p, _ => Bool.noConfusion (show false = true from p)
theorem dw_all {Pm : Params} (KX : K.In h) (ar : ∀ a ∈ A, ArgOb h A a) : ∀ (ds : List WData) (vs : List Value), WellAll Pm h vs ds → plWs ds = true → (∀ u ∈ vs, OkU A u) → DwAll K (argH K h A) (vs.map toV) ds
  | [], _, x, _, _ => by
    cases x
    exact .nil
  | d :: ds, _, x, p, hu => by
    obtain ⟨v, vs, rfl, x1, x2⟩ := well_cons x
    have q : plW d = true ∧ plWs ds = true := Bool.and_eq_true_iff.mp p
    exact .cons (dw_one KX ar d v x1 q.1 (hu _ (List.mem_cons_self ..))) (dw_all KX ar ds vs x2 q.2 fun u m => hu u (List.mem_cons_of_mem _ m))
end
end
theorem spec_call {P : Program} {w : World} {K : PySem.W.Frag} {mg mb : Str → Option Value} {CX : CXT} {k : Nat} {fa : Addr} {fd : FuncData} {ps : List Str} {sp : Sp} {s₁ : Shared} {vals : List Value} {ds : List WData} {R : PySem.W.WRecords} {cl : Str → Option Addr} {d0 : WData}
    (KX : K.In s₁.heap) (hns : s₁.heap.Ns mainGlobals mg) (hb : s₁.heap.Ns builtinsNs mb) (hbb : ∀ x : Str, x ≠ "__name__" → mb x = bootBuiltins x) (hlim : s₁.heap.NoLimit) (hg : s₁.gens = #[])
    (hwl : WellAll w.params s₁.heap vals ds) (hpl : plWs ds = true) (hwt : ∀ d ∈ ds, d.weight ≤ 1048576) (hr : Room k callerA)
    (F : ∀ base : Heap, K.In base → base.Ns mainGlobals mg → FnOk P w K mg base CX k fa fd ps sp) (hbind : ∀ (s : Shared) (us : List Value), us.length = ps.length → BindsTo s fd ⟨us, []⟩ (ps.zip us)) (hlen : ds.length = ps.length)
    (hsp : ∀ (H : Hp) (xs : List V), OnlyF H → DwAll K H xs ds → sp xs H (fun v H' => Dw K H' v d0) fun _ _ _ => False)
    (hCX : ∀ H e s', CX [] H s₁ (fun _ _ _ => False) e s' → False) :
    codeAny (model P w) callerA (.call (.ref fa) ⟨vals, []⟩) (fun r s' => ∃ u as, r = .ok (.ret u) ∧ ReadsW R cl s'.heap u d0 as ∧ OldK s₁.heap s'.heap ∧ s'.os = s₁.os ∧ AllBare s'.gens) s₁ := by
  obtain ⟨A, ho, ar⟩ := area_all ds vals hwl hpl hwt
  have hO : OnlyF (argH K s₁.heap A) := argH_only ar
  have hok : HOk P w (argH K s₁.heap A) s₁.heap := argH_ok ar
  have hS := dw_all KX ar ds vals hwl hpl ho
  have hV := vals_toV ho
  have hK : ∀ b u, argH K s₁.heap A b = some u → K.lookup b = none := fun b u q => (argH_is ar q).1
  have noA : ∀ {b : Addr} {o : Obj} {es : Array DictEntry} {ep : Nat}, s₁.heap.get? b = some o → o.data = .dict es ep → argH K s₁.heap A b = none := fun {b o es ep} e d => by
    cases q : argH K s₁.heap A b with
    | none => rfl
    | some u =>
      obtain ⟨_, vs, _, _, ⟨e2, _⟩ | ⟨e2, _⟩⟩ := argH_is ar q
      · rw [e2] at e
        cases e
        have d' : Data.seq vs.toArray _ = Data.dict es ep := d
        cases d'
      · rw [e2] at e
        cases e
        have d' : Data.seq vs.toArray _ = Data.dict es ep := d
        cases d'
  generalize argH K s₁.heap A = H at hO hok hS hK noA
  have base_of : ∀ {b : Addr} {o : Obj}, s₁.heap.get? b = some o → H b = none → (hidT s₁.heap H).get? b = some o := fun e n => hidT_get e n
  have nsK : ∀ {b : Addr} {m : Str → Option Value}, s₁.heap.Ns b m → (hidT s₁.heap H).Ns b m := fun {b m} ⟨o, es, ep, e, d, r⟩ => ⟨o, es, ep, base_of e (noA e d), d, r⟩
  have nK : ∀ b o, K.lookup b = some o → H b = none := fun b o e => by
    cases q : H b with
    | none => rfl
    | some u =>
      rw [hK b u q] at e
      cases e
  have hKb : K.In (hidT s₁.heap H) := fun b o e => base_of (KX b o e) (nK b o e)
  have hM : Mod K mg (hidT s₁.heap H) := ⟨hKb, nsK hns, ⟨mb, nsK hb, hbb⟩, let ⟨mc, h1, h2⟩ := hlim; ⟨mc, nsK h1, h2⟩⟩
  have e0 : Env0 P w K mg (hidT s₁.heap H) callerA [] s₁ H := ⟨rfl, hM, fun b o e => of_hidT e, Nat.le_of_eq (hidT_size _ _), trivial, fun b hb => absurd (show b ∈ ([] : List Addr) from hb) (by simp), hok, .of_eq hg⟩
  have hl : vals.length = ps.length := by rw [wellAll_len hwl]; exact hlen
  refine codeAny_mono ((F _ hKb (nsK hns)).run callerA [] s₁ H ⟨vals, []⟩ vals (vals.map toV) _ _ hr e0 (hbind s₁ vals hl) hV (hsp H _ hO hS)) fun r s' x => ?_
  cases r with
  | error e => exact (hCX H e s' x).elim
  | ok fl =>
    cases fl with
    | next => exact False.elim x
    | brk => exact False.elim x
    | cont => exact False.elim x
    | ret u =>
      obtain ⟨v, H', os, bare, un, hok', r', q⟩ := x
      have kept : ∀ b o, s₁.heap.get? b = some o → s'.heap.get? b = some o := fun b o e => by
        cases q2 : H b with
        | none => exact un.keep b o e q2 (by intro z; exact absurd (show b ∈ ([] : List Addr) from z) (by simp)) (by simp)
        | some u2 =>
          rcases hO b with z | ⟨ob, u3, z⟩
          · rw [q2] at z
            cases z
          · have z2 := un.frzs b ob _ z
            obtain ⟨e1, _⟩ := hok b _ z
            obtain ⟨e2, _⟩ := hok' b _ z2
            rw [e] at e1
            cases e1
            exact e2
      have KX' : K.In s'.heap := fun b o e => kept b o (KX b o e)
      obtain ⟨as, hrd⟩ := Dw.reads (R := R) (cl := cl) hok' KX' d0 v u q r'
      exact ⟨u, as, rfl, hrd, OldK.of_keep kept, os, bare⟩
theorem layable_weight {ds : List WData} (h : WData.layableAll ds = true) : ∀ d ∈ ds, d.weight ≤ 1048576 := fun d hd =>
  (PySem.W.layableW_iff.mp (List.all_eq_true.mp h d hd)).2.2
theorem encAll_len : ∀ (cs : List Codec) (a : Codec.denoteAll cs), (Codec.encAll cs a).length = cs.length
  | [], _ => rfl
  | c :: cs, a => by
    show (Codec.encAll cs a.2).length + 1 = cs.length + 1
    rw [encAll_len cs a.2]
theorem walk_spec {r : OpenSpec} {k : Nat} {q : Program} {loose : List Str} {XP : (Str → Option Value) → Heap → Prop} {YP : World → Heap → Prop} {d : DefRec} {K : Params → PySem.W.Frag} {CX : World → CXT} {ps : List Str} {sp : World → Sp}
    (hwell : r.wellSaid = true) (hdf : d.params.defaults = []) (hlen : r.args.length = ps.length) (hr : Room k callerA)
    (hY : ∀ (w : World) (h : Heap), YP w h → (K w.params).In h)
    (F : ∀ (w : World) (mg : Str → Option Value) (fa : Addr) (h : Heap), YP w h → (K w.params).In h → h.Ns mainGlobals mg → mg d.name = some (.ref fa) →
      ∃ fd : FuncData, (∀ (s : Shared) (us : List Value), us.length = ps.length → BindsTo s fd ⟨us, []⟩ (ps.zip us)) ∧
        ∀ base : Heap, (K w.params).In base → base.Ns mainGlobals mg → FnOk r.prog w (K w.params) mg base (CX w) k fa fd ps (sp w))
    (hsp : ∀ (w : World) (H : Hp) (xs : List V) (a : Codec.denoteAll r.args), OnlyF H → Codec.withinAll r.args a = true → Codec.app r.args r.asked a = true → DwAll (K w.params) H xs (Codec.encAll r.args a) →
      sp w xs H (fun v H' => Dw (K w.params) H' v (r.ret.enc (Codec.app r.args r.f a))) fun _ _ _ => False)
    (hCX : ∀ (w : World) (H : Hp) (s : Shared) (e : Value) (s' : Shared), CX w [] H s (fun _ _ _ => False) e s' → False) :
    PySem.W.WalkOS q loose XP YP r d [] (fun f vs => PySem.call f vs) := by
  intro w s_0 s₁ mg mb G Y fa o pm cd doc dV kV ho hd hcd hD hmg hg args vals as hpre hlay hrd hwl hlo
  obtain ⟨a, e1, e2⟩ := PySem.W.os_pre_some hpre
  obtain ⟨e3, hwi⟩ := Codec.encAll_of_decAll r.args args a e1
  subst e3
  have KX := hY w _ Y
  obtain ⟨fd, hb, hF⟩ := F w mg fa _ Y KX G.T.g hmg
  refine PySem.W.enter_call (codeAny_mono (spec_call (R := []) (cl := classAt s_0.heap) (d0 := r.ret.enc (Codec.app r.args r.f a)) KX G.T.g G.T.b G.T.builtins G.T.nolimit hg hwl (pl_encAll _ _) (layable_weight hlay) hr hF hb (by rw [encAll_len]; exact hlen)
    (fun H xs hO hS => hsp w H xs a hO hwi e2 hS) fun H e s' => hCX w H s₁ e s') fun r' s' hq => ?_)
  obtain ⟨u, as', rfl, h1, h2, h3, h4⟩ := hq
  exact ⟨.inl ⟨u, _, as', rfl, fun _ => rfl, h1, (OpenSpec.post_iff hwell hwi _ _).mpr rfl, fun z => Bool.noConfusion (show false = true from z)⟩, h2, h3, h4⟩
theorem walk_specK {r : OpenSpec} {k : Nat} {q : Program} {loose : List Str} {XP : (Str → Option Value) → Heap → Prop} {YP : World → Heap → Prop} {d : DefRec} {K : Params → PySem.W.Frag} {CX : CXT} {ps : List Str} {sp : PySem.W.Frag → Sp}
    (hwell : r.wellSaid = true) (hdf : d.params.defaults = []) (hlen : r.args.length = ps.length) (hr : Room k callerA)
    (hY : ∀ (w : World) (h : Heap), YP w h → (K w.params).In h)
    (F : ∀ (w : World) (mg : Str → Option Value) (fa : Addr) (h : Heap), YP w h → (K w.params).In h → h.Ns mainGlobals mg → mg d.name = some (.ref fa) →
      ∃ fd : FuncData, (∀ (s : Shared) (us : List Value), us.length = ps.length → BindsTo s fd ⟨us, []⟩ (ps.zip us)) ∧
        ∀ base : Heap, (K w.params).In base → base.Ns mainGlobals mg → FnOk r.prog w (K w.params) mg base CX k fa fd ps (sp (K w.params)))
    (hsp : ∀ (K : PySem.W.Frag) (H : Hp) (xs : List V) (a : Codec.denoteAll r.args), OnlyF H → Codec.withinAll r.args a = true → Codec.app r.args r.asked a = true → DwAll K H xs (Codec.encAll r.args a) →
      sp K xs H (fun v H' => Dw K H' v (r.ret.enc (Codec.app r.args r.f a))) fun _ _ _ => False)
    (hCX : ∀ (H : Hp) (s : Shared) (e : Value) (s' : Shared), CX [] H s (fun _ _ _ => False) e s' → False) :
    PySem.W.WalkOS q loose XP YP r d [] (fun f vs => PySem.call f vs) :=
  walk_spec (K := K) (CX := fun _ => CX) (sp := fun w => sp (K w.params)) hwell hdf hlen hr hY F (fun w H xs a h1 h2 h3 h4 => hsp (K w.params) H xs a h1 h2 h3 h4) fun _ H s e s' => hCX H s e s'
end L2
end
set_option Elab.async false
set_option linter.all false
set_option maxRecDepth 100000
set_option maxHeartbeats 2000000
namespace DX
open PySem PySem.Spec PyProof.Rows L2
theorem fsc {N P : List Str} {sc : Scope} (h1 : sc.kind = .function := by rfl) (h2 : sc.isCoroutine = false := by rfl) (h3 : sc.isGenerator = false := by rfl) (h4 : N.Nodup := by decide +kernel) (h5 : N.take P.length = P := by rfl)
    (h6 : ∀ x ∈ P, sc.names.lookup x = some .local ∨ sc.names.lookup x = some .cell := by decide +kernel) (h7 : ∀ y ∈ sc.names, y.2 ≠ .free := by decide +kernel) : FnScope N P sc := ⟨h1, h2, h3, h4, h5, h6, h7⟩
def sp1 (p : V → Hp → VK → Prop) : Sp := fun vs H Q _ => ∃ a, vs = [a] ∧ p a H Q
def sp2 (p : V → V → Hp → VK → Prop) : Sp := fun vs H Q _ => ∃ a b, vs = [a, b] ∧ p a b H Q
def sp3 (p : V → V → V → Hp → VK → Prop) : Sp := fun vs H Q _ => ∃ a b c, vs = [a, b, c] ∧ p a b c H Q
def Ok (P : Program) (w : World) (K : PySem.W.Frag) (mg : Str → Option Value) (base : Heap) (k : Nat) (x : Str) (ps : List Str) (sp : Sp) : Prop :=
  ∃ f fd, FnOk P w K mg base CX0 k f fd ps sp ∧ mg x = some (.ref f) ∧ PySem.W.keepIn K (.ref f) = true ∧ Binds K fd ps []
def Df (K : PySem.W.Frag) (mg : Str → Option Value) (x : Str) (st : Stmt) : Prop := ∃ f fd, Fun K x x st f fd ∧ mg x = some (.ref f)
section
variable {P : Program} {w : World} {K : PySem.W.Frag} {mg : Str → Option Value} {base : Heap} {x : Str} {st : Stmt} {N : List Str} {k : Nat}
theorem ok_of {ps : List Str} {sp : Sp} (h : Df K mg x st) (S : FnScope N ps (defScope st)) (len : ∀ vs H Q E, sp vs H Q E → vs.length = ps.length)
    (hb : ∀ (kV doc pm : Value) (an : Option Addr) (cdv ct : Value) (us : List Value), us.length = ps.length → bindArgs (PySem.W.fnOf x x (defArgs st) (defBody st) (defScope st) .none kV doc pm an cdv ct) ⟨us, []⟩ = pure (ps.zip us))
    (hbody : ∀ (f : Addr) (cdv : Value) (A : Around) (outer : List Env) (s : Shared) (H : Hp) (vs : List V) (Q : VK) (E : XK), Room k (A.deeper (envOfC x (defScope st) s.heap.objs.size f cdv)) → sp vs H Q E →
      ∃ t, PSs (cxOf CX0 P w K mg base N x (defScope st) f cdv A outer s H E).nox (defBody st) t ∧ t { nx := fun _ H' => Q .non H', rt := Q } (start N vs) H) : Ok P w K mg base (k + 1) x ps sp := by
  obtain ⟨f, fd, F, hm⟩ := h
  exact ⟨f, fd, F.ok S len (hbody f), hm, F.kp, F.binds hb⟩
theorem ok1 {p1 : Str} {p : V → Hp → VK → Prop} (h : Df K mg x st) (S : FnScope N [p1] (defScope st))
    (hb : ∀ (kV doc pm : Value) (an : Option Addr) (cdv ct u1 : Value), bindArgs (PySem.W.fnOf x x (defArgs st) (defBody st) (defScope st) .none kV doc pm an cdv ct) ⟨[u1], []⟩ = pure ([p1].zip [u1]))
    (hbody : ∀ (f : Addr) (cdv : Value) (A : Around) (outer : List Env) (s : Shared) (H : Hp) (a : V) (Q : VK) (E : XK), Room k (A.deeper (envOfC x (defScope st) s.heap.objs.size f cdv)) → p a H Q →
      ∃ t, PSs (cxOf CX0 P w K mg base N x (defScope st) f cdv A outer s H E).nox (defBody st) t ∧ t { nx := fun _ H' => Q .non H', rt := Q } (start N [a]) H) : Ok P w K mg base (k + 1) x [p1] (sp1 p) := by
  refine ok_of h S ?_ ?_ ?_
  · rintro vs H Q E ⟨a, rfl, _⟩
    rfl
  · intro kV doc pm an cdv ct us hl
    match us, hl with
    | [u1], _ => exact hb kV doc pm an cdv ct u1
  · rintro f cdv A outer s H vs Q E hr ⟨a, rfl, q⟩
    exact hbody f cdv A outer s H a Q E hr q
theorem ok2 {p1 p2 : Str} {p : V → V → Hp → VK → Prop} (h : Df K mg x st) (S : FnScope N [p1, p2] (defScope st))
    (hb : ∀ (kV doc pm : Value) (an : Option Addr) (cdv ct u1 u2 : Value), bindArgs (PySem.W.fnOf x x (defArgs st) (defBody st) (defScope st) .none kV doc pm an cdv ct) ⟨[u1, u2], []⟩ = pure ([p1, p2].zip [u1, u2]))
    (hbody : ∀ (f : Addr) (cdv : Value) (A : Around) (outer : List Env) (s : Shared) (H : Hp) (a b : V) (Q : VK) (E : XK), Room k (A.deeper (envOfC x (defScope st) s.heap.objs.size f cdv)) → p a b H Q →
      ∃ t, PSs (cxOf CX0 P w K mg base N x (defScope st) f cdv A outer s H E).nox (defBody st) t ∧ t { nx := fun _ H' => Q .non H', rt := Q } (start N [a, b]) H) : Ok P w K mg base (k + 1) x [p1, p2] (sp2 p) := by
  refine ok_of h S ?_ ?_ ?_
  · rintro vs H Q E ⟨a, b, rfl, _⟩
    rfl
  · intro kV doc pm an cdv ct us hl
    match us, hl with
    | [u1, u2], _ => exact hb kV doc pm an cdv ct u1 u2
  · rintro f cdv A outer s H vs Q E hr ⟨a, b, rfl, q⟩
    exact hbody f cdv A outer s H a b Q E hr q
theorem ok3 {p1 p2 p3 : Str} {p : V → V → V → Hp → VK → Prop} (h : Df K mg x st) (S : FnScope N [p1, p2, p3] (defScope st))
    (hb : ∀ (kV doc pm : Value) (an : Option Addr) (cdv ct u1 u2 u3 : Value), bindArgs (PySem.W.fnOf x x (defArgs st) (defBody st) (defScope st) .none kV doc pm an cdv ct) ⟨[u1, u2, u3], []⟩ = pure ([p1, p2, p3].zip [u1, u2, u3]))
    (hbody : ∀ (f : Addr) (cdv : Value) (A : Around) (outer : List Env) (s : Shared) (H : Hp) (a b c : V) (Q : VK) (E : XK), Room k (A.deeper (envOfC x (defScope st) s.heap.objs.size f cdv)) → p a b c H Q →
      ∃ t, PSs (cxOf CX0 P w K mg base N x (defScope st) f cdv A outer s H E).nox (defBody st) t ∧ t { nx := fun _ H' => Q .non H', rt := Q } (start N [a, b, c]) H) : Ok P w K mg base (k + 1) x [p1, p2, p3] (sp3 p) := by
  refine ok_of h S ?_ ?_ ?_
  · rintro vs H Q E ⟨a, b, c, rfl, _⟩
    rfl
  · intro kV doc pm an cdv ct us hl
    match us, hl with
    | [u1, u2, u3], _ => exact hb kV doc pm an cdv ct u1 u2 u3
  · rintro f cdv A outer s H vs Q E hr ⟨a, b, c, rfl, q⟩
    exact hbody f cdv A outer s H a b c Q E hr q
end
section
variable {X : Cx} {k : Nat} {x : Str} {ps : List Str} {sp : Sp} {p pos : Pos} {e : Expr} {es : List Expr} {t : TA}
theorem pcall {j : Nat} (h : Ok X.prog X.w X.K X.mg X.base k x ps sp) (hr : Room j X.A) (ha : PA X (e :: es) t) (hj : k ≤ j := by first | decide | omega) (hg : Gl X x := by rfl) (hdb : (x == ("__debug__" : Str)) = false := by decide)
    (he : starEach (e :: es) X.env = (false, eval e X.env) :: starEach es X.env := by rfl) (hpl : (backTo pos (starEach es X.env)).any (·.1) = false := by rfl) : PE X (.Call (.Name x p) (e :: es) [] pos) (tCall sp [] E0 t) := by
  obtain ⟨f, fd, F, hm, hk, hb⟩ := h
  exact pe_call F (hr.mono hj) hg hm hk hb .nil pass0 ha hdb he hpl
theorem pcall0 {j : Nat} (h : Ok X.prog X.w X.K X.mg X.base k x ps sp) (hr : Room j X.A) (hj : k ≤ j := by first | decide | omega) (hg : Gl X x := by rfl) (hdb : (x == ("__debug__" : Str)) = false := by decide) : PE X (.Call (.Name x p) [] [] pos) (tCall sp [] E0 tNil) := by
  obtain ⟨f, fd, F, hm, hk, hb⟩ := h
  exact pe_call0 F (hr.mono hj) hg hm hk hb .nil pass0 hdb
def GI (mg : Str → Option Value) (x : Str) (i : Int) : Prop := ∃ t, mg x = some (.int i t)
theorem pgi {i : Int} (h : GI X.mg x i) (hg : Gl X x := by rfl) (hd : (x == ("__debug__" : Str)) = false := by decide) : PE X (.Name x pos) (tC (.int i)) := by
  obtain ⟨t, h⟩ := h
  exact pe_glob hg h ⟨t, rfl⟩ hd
def GT (K : PySem.W.Frag) (mg : Str → Option Value) (x : Str) (xs : List V) : Prop := ∃ a, mg x = some (.ref a) ∧ ∀ H, SqT K H a xs
def tGT (K : PySem.W.Frag) (xs : List V) : TE := fun _ H Q => ∀ a, (∀ H, SqT K H a xs) → Q (.ref a) H
theorem pgt {xs : List V} (h : GT X.K X.mg x xs) (hg : Gl X x := by rfl) (hd : (x == ("__debug__" : Str)) = false := by decide) : PE X (.Name x pos) (tGT X.K xs) := by
  obtain ⟨a, h, hs⟩ := h
  intro pins s σ H Q I q
  exact pe_glob (v := .ref a) hg h rfl hd pins s σ H Q I (q a hs)
end
theorem bitAnd_nat (a b : Nat) : Builtin.bitAnd (a : Int) (b : Int) = ((a &&& b : Nat) : Int) := by
  rw [bitAnd_pp (Int.natCast_nonneg a) (Int.natCast_nonneg b)]
  rfl
theorem bitOr_nat (a b : Nat) : Builtin.bitOr (a : Int) (b : Int) = ((a ||| b : Nat) : Int) := by
  rw [Bits.bitOr_pp (Int.natCast_nonneg a) (Int.natCast_nonneg b)]
  rfl
section
variable {X : Cx} {x : Str} {pos : Pos}
abbrev rN (C : Nat → Nat → Prop) (g : Nat → Nat → V) : R2 := fun x y H Q => ∃ a b : Nat, x = .int (a : Int) ∧ y = .int (b : Int) ∧ C a b ∧ Q (g a b) H
abbrev rN0 (g : Nat → Nat → V) : R2 := fun x y H Q => ∃ a b : Nat, x = .int (a : Int) ∧ y = .int (b : Int) ∧ Q (g a b) H
theorem opN {f : Value → Value → Sem Value} {r : R2} {r' : R2} (h : OpR X f r) (k : ∀ x y H Q, r' x y H Q → r x y H Q) : OpR X f r' := fun pins s σ H x y v u Q I rx ry q => h pins s σ H x y v u Q I rx ry (k x y H Q q)
theorem on_and : OpR X (binaryOp .BitAnd) (rN0 fun a b => .int ((a &&& b : Nat) : Int)) := opN op_and fun x y H Q ⟨a, b, e1, e2, q⟩ => ⟨_, _, e1, e2, by dsimp only; rw [bitAnd_nat]; exact q⟩
theorem on_or : OpR X (binaryOp .BitOr) (rN0 fun a b => .int ((a ||| b : Nat) : Int)) := opN op_or fun x y H Q ⟨a, b, e1, e2, q⟩ => ⟨_, _, e1, e2, by dsimp only; rw [bitOr_nat]; exact q⟩
theorem on_add : OpR X (binaryOp .Add) (rN0 fun a b => .int ((a + b : Nat) : Int)) := opN op_add fun x y H Q ⟨a, b, e1, e2, q⟩ => ⟨_, _, e1, e2, by dsimp only; rw [← Int.natCast_add]; exact q⟩
theorem on_sub : OpR X (binaryOp .Sub) (rN (fun a b => b ≤ a) fun a b => .int ((a - b : Nat) : Int)) := opN op_sub fun x y H Q ⟨a, b, e1, e2, c, q⟩ => ⟨_, _, e1, e2, by dsimp only; rw [← Int.natCast_sub c]; exact q⟩
theorem on_mod : OpR X (binaryOp .Mod) (rN (fun _ b => 0 < b) fun a b => .int ((a % b : Nat) : Int)) := opN op_mod fun x y H Q ⟨a, b, e1, e2, c, q⟩ => ⟨_, _, e1, e2, Int.natCast_pos.mpr c, by dsimp only; rw [← Int.natCast_emod]; exact q⟩
theorem on_fdiv : OpR X (binaryOp .FloorDiv) (rN (fun _ b => 0 < b ∧ b < 1073741824) fun a b => .int ((a / b : Nat) : Int)) := opN op_fdiv fun x y H Q ⟨a, b, e1, e2, c, q⟩ => ⟨_, _, e1, e2, ⟨Int.natCast_pos.mpr c.1, by have := c.2; omega⟩, by dsimp only; rw [← Int.natCast_ediv]; exact q⟩
theorem dec_nat {a b : Nat} : decide (V.int (a : Int) = V.int (b : Int)) = decide (a = b) := by
  by_cases h : a = b
  · subst h; simp
  · rw [decide_eq_false h, decide_eq_false (fun e => h (by have := V.int.inj e; omega))]
theorem on_eq : OpR X (compareOp .Eq) (rN0 fun a b => .bl (decide (a = b))) := opN op_eq fun x y H Q ⟨a, b, e1, e2, q⟩ => by subst e1 e2; exact ⟨rfl, by rw [dec_nat]; exact q⟩
theorem on_ne : OpR X (compareOp .NotEq) (rN0 fun a b => .bl (!decide (a = b))) := opN op_ne fun x y H Q ⟨a, b, e1, e2, q⟩ => by subst e1 e2; exact ⟨rfl, by rw [dec_nat]; exact q⟩
theorem dec_lt {a b : Nat} : decide ((a : Int) < (b : Int)) = decide (a < b) := decide_eq_decide.mpr Int.ofNat_lt
theorem dec_le {a b : Nat} : decide ((a : Int) ≤ (b : Int)) = decide (a ≤ b) := decide_eq_decide.mpr Int.ofNat_le
theorem on_lt : OpR X (compareOp .Lt) (rN0 fun a b => .bl (decide (a < b))) := opN op_lt fun x y H Q ⟨a, b, e1, e2, q⟩ => ⟨_, _, e1, e2, by dsimp only; rw [dec_lt]; exact q⟩
theorem on_le : OpR X (compareOp .LtE) (rN0 fun a b => .bl (decide (a ≤ b))) := opN op_le fun x y H Q ⟨a, b, e1, e2, q⟩ => ⟨_, _, e1, e2, by dsimp only; rw [dec_le]; exact q⟩
theorem on_gt : OpR X (compareOp .Gt) (rN0 fun a b => .bl (decide (b < a))) := opN op_gt fun x y H Q ⟨a, b, e1, e2, q⟩ => ⟨_, _, e1, e2, by dsimp only; rw [dec_lt]; exact q⟩
theorem on_ge : OpR X (compareOp .GtE) (rN0 fun a b => .bl (decide (b ≤ a))) := opN op_ge fun x y H Q ⟨a, b, e1, e2, q⟩ => ⟨_, _, e1, e2, by dsimp only; rw [dec_le]; exact q⟩
theorem pn (n : Nat) {j : Nat} : PE X (.Constant (.int (n : Int)) j pos) (tC (.int (n : Int))) := pe_int
abbrev vn (n : Nat) : V := .int (n : Int)
def GN (mg : Str → Option Value) (x : Str) (n : Nat) : Prop := ∃ t, mg x = some (.int (n : Int) t)
theorem pgn {n : Nat} (h : GN X.mg x n) (hg : Gl X x := by rfl) (hd : (x == ("__debug__" : Str)) = false := by decide) : PE X (.Name x pos) (tC (.int (n : Int))) := pgi h hg hd
theorem ifB {A B : Prop} {c : Bool} (h1 : c = true → A) (h2 : c = false → B) : if c = true then A else B := by
  cases c with
  | true => rw [if_pos rfl]; exact h1 rfl
  | false => rw [if_neg Bool.false_ne_true]; exact h2 rfl
theorem ifD {A B : Prop} {p : Prop} [Decidable p] (h1 : p → A) (h2 : ¬ p → B) : if decide p = true then A else B := ifB (fun e => h1 (of_decide_eq_true e)) fun e => h2 (of_decide_eq_false e)
end
end DX
namespace DX
open PySem PySem.Spec PyProof.Rows L2
theorem same_new {H H1 : Hp} {p : Addr} {o : HO} (e : Same H H1) (hp : H1 p = none) : Same H (upd H1 p o) := fun b u q => by
  rw [upd_ne (ne_of_none (e _ _ q) hp)]
  exact e _ _ q
theorem take_snoc {α : Type} : ∀ {l : List α} {i : Nat} {x : α}, l[i]? = some x → l.take (i + 1) = l.take i ++ [x]
  | [], i, x, h => by simp at h
  | a :: l, 0, x, h => by
    have e : a = x := Option.some.inj h
    subst e
    rfl
  | a :: l, i + 1, x, h => by
    have ih := take_snoc (l := l) (i := i) (x := x) h
    show a :: l.take (i + 1) = a :: l.take i ++ [x]
    rw [ih]
    rfl
theorem map_at {α β : Type} {l : List α} {f : α → β} {i : Nat} {y : β} (h : (l.map f)[i]? = some y) : ∃ x, l[i]? = some x ∧ y = f x := by
  rw [List.getElem?_map] at h
  cases e : l[i]? with
  | none => rw [e] at h; cases h
  | some z => rw [e] at h; exact ⟨z, rfl, (Option.some.inj h).symm⟩
theorem lc_map {α : Type} {K : PySem.W.Frag} {a : Addr} {l : List α} {v : α → V} {g : TG} {tt : TT} {te : TE} {vs : List Nat} {σ : L2.St} {H1 : Hp} {D : Addr} {Qd : Hp → Prop} (ev : α → Option V) (hl : SqL K H1 a (l.map v)) (hD : H1 D = none) (hz : l.length ≤ sizeLine)
    (hs : ∀ (i : Nat) (x : α) (H : Hp), l[i]? = some x → Same H1 H → ∀ acc, H D = some (.lst acc) → acc.length < sizeLine → ∀ N : Hp → Prop, (∀ H', Same H H' → ev x = none → N H') → (∀ H' y, Same H H' → ev x = some y → N (upd H' D (.lst (acc ++ [y])))) →
      g (v x) (wipe σ vs) H fun σ2 H2 => wipe σ2 vs = wipe σ vs ∧ tt σ2 H2 fun b H3 => if b = true then te σ2 H3 fun y H4 => ∃ acc, H4 D = some (.lst acc) ∧ acc.length < sizeLine ∧ N (upd H4 D (.lst (acc ++ [y]))) else N H3)
    (hd : ∀ H, Same H1 H → H D = some (.lst (l.filterMap ev)) → Qd H) :
    ∃ W : Nat → Nat → Hp → Prop, (∃ m, W 0 m (upd H1 D (.lst []))) ∧ ∀ i m H, W i m H →
      ((Itl K a).stop i H ∧ Qd H) ∨ ((Itl K a).go i H ∧ ∃ Nx : Hp → Prop, (∀ H', Nx H' → ∃ m', m' < m ∧ W (i + 1) m' H') ∧ ∀ x H', (Itl K a).yld i H x H' → g x (wipe σ vs) H' fun σ2 H2 => wipe σ2 vs = wipe σ vs ∧ tt σ2 H2 fun b H3 =>
        if b = true then te σ2 H3 fun y H4 => ∃ acc, H4 D = some (.lst acc) ∧ acc.length < sizeLine ∧ Nx (upd H4 D (.lst (acc ++ [y]))) else Nx H3) := by
  have low : ∀ i, ((l.take i).filterMap ev).length ≤ i := fun i => Nat.le_trans (List.length_filterMap_le _ _) (List.length_take_le _ _)
  refine lc_list (xs := l.map v) (fun i H => Same H1 H ∧ H D = some (.lst ((l.take i).filterMap ev))) ⟨same_new (Same.refl H1) hD, upd_same⟩ (fun i H _ h => h.1.seq hl) ?_ ?_
  · rintro i y H hi ⟨h1, h2⟩
    obtain ⟨x, hx, rfl⟩ := map_at hi
    have lt : i < l.length := (List.getElem?_eq_some_iff.mp hx).1
    refine hs i x H hx h1 _ h2 (Nat.lt_of_le_of_lt (low i) (Nat.lt_of_lt_of_le lt hz)) _ (fun H' e q => ⟨h1.trans e, ?_⟩) (fun H' y e q => ⟨?_, ?_⟩)
    · rw [take_snoc hx, List.filterMap_append, e _ _ h2]
      simp [q]
    · intro b o hb
      rw [upd_ne (fun z => by subst z; rw [hD] at hb; cases hb)]
      exact e _ _ (h1 _ _ hb)
    · rw [upd_same, take_snoc hx, List.filterMap_append]
      simp [q]
  · rintro H ⟨h1, h2⟩
    rw [List.length_map, List.take_length] at h2
    exact hd H h1 h2
theorem lc_mapR {n : Nat} {g : TG} {tt : TT} {te : TE} {vs : List Nat} {σ : L2.St} {H1 : Hp} {D : Addr} {Qd : Hp → Prop} (ev : Nat → Option V) (hD : H1 D = none) (hz : n ≤ sizeLine)
    (hs : ∀ i H, i < n → Same H1 H → ∀ acc, H D = some (.lst acc) → acc.length < sizeLine → ∀ N : Hp → Prop, (∀ H', Same H H' → ev i = none → N H') → (∀ H' y, Same H H' → ev i = some y → N (upd H' D (.lst (acc ++ [y])))) →
      g (vn i) (wipe σ vs) H fun σ2 H2 => wipe σ2 vs = wipe σ vs ∧ tt σ2 H2 fun b H3 => if b = true then te σ2 H3 fun y H4 => ∃ acc, H4 D = some (.lst acc) ∧ acc.length < sizeLine ∧ N (upd H4 D (.lst (acc ++ [y]))) else N H3)
    (hd : ∀ H, Same H1 H → H D = some (.lst ((List.range n).filterMap ev)) → Qd H) :
    ∃ W : Nat → Nat → Hp → Prop, (∃ m, W 0 m (upd H1 D (.lst []))) ∧ ∀ i m H, W i m H →
      ((Itr 0 n).stop i H ∧ Qd H) ∨ ((Itr 0 n).go i H ∧ ∃ Nx : Hp → Prop, (∀ H', Nx H' → ∃ m', m' < m ∧ W (i + 1) m' H') ∧ ∀ x H', (Itr 0 n).yld i H x H' → g x (wipe σ vs) H' fun σ2 H2 => wipe σ2 vs = wipe σ vs ∧ tt σ2 H2 fun b H3 =>
        if b = true then te σ2 H3 fun y H4 => ∃ acc, H4 D = some (.lst acc) ∧ acc.length < sizeLine ∧ Nx (upd H4 D (.lst (acc ++ [y]))) else Nx H3) := by
  have low : ∀ i, ((List.range i).filterMap ev).length ≤ i := fun i => Nat.le_trans (List.length_filterMap_le _ _) (by rw [List.length_range]; exact Nat.le_refl _)
  refine lc_range (fun i H => Same H1 H ∧ H D = some (.lst ((List.range i).filterMap ev))) ⟨same_new (Same.refl H1) hD, upd_same⟩ ?_ (fun H h => hd H h.1 h.2)
  rintro i H hi ⟨h1, h2⟩
  rw [Int.zero_add]
  refine hs i H hi h1 _ h2 (Nat.lt_of_le_of_lt (low i) (Nat.lt_of_lt_of_le hi hz)) _ (fun H' e q => ⟨h1.trans e, ?_⟩) (fun H' y e q => ⟨?_, ?_⟩)
  · rw [List.range_succ, List.filterMap_append, e _ _ h2]
    simp [q]
  · intro b o hb
    rw [upd_ne (fun z => by subst z; rw [hD] at hb; cases hb)]
    exact e _ _ (h1 _ _ hb)
  · rw [upd_same, List.range_succ, List.filterMap_append]
    simp [q]
section
variable {X : Cx} {i k : Nat} {x : Str} {ps : List Str} {sp : Sp} {p pos : Pos} {e : Expr} {es : List Expr} {t : TA}
def OkA (P : Program) (w : World) (K : PySem.W.Frag) (mg : Str → Option Value) (base : Heap) (k : Nat) (f : Addr) (ps : List Str) (sp : Sp) : Prop :=
  ∃ fd, FnOk P w K mg base CX0 k f fd ps sp ∧ PySem.W.keepIn K (.ref f) = true ∧ Binds K fd ps []
def tCallV (X : Cx) (i k : Nat) (t : TA) : TE := fun σ H Q => ∃ f ps sp, σ[i]? = some (some (.ref f)) ∧ OkA X.prog X.w X.K X.mg X.base k f ps sp ∧ t σ H fun vs H1 => sp vs H1 Q E0
theorem pcallV (i k : Nat) (hr : Room k X.A) (ha : PA X (e :: es) t) (hN : X.N[i]? = some x := by rfl) (hv : Vis X.env.scope x := by first | exact Or.inl rfl | exact Or.inr (Or.inl rfl) | exact Or.inr (Or.inr rfl)) (hdb : (x == ("__debug__" : Str)) = false := by decide) (hcd : (x == ("__classdict__" : Str)) = false := by decide)
    (he : starEach (e :: es) X.env = (false, eval e X.env) :: starEach es X.env := by rfl) (hpl : (backTo pos (starEach es X.env)).any (·.1) = false := by rfl) : PE X (.Call (.Name x p) (e :: es) [] pos) (tCallV X i k t) := by
  rintro pins s σ H Q I ⟨f, ps, sp, hi, ⟨fd, F, hk, hb⟩, h⟩
  refine wpAny_Call_Name_kw (thn (pe_var hN hv hdb hcd pins s σ H (fun v H1 => v = .ref f ∧ H1 = H) I ⟨_, hi, rfl, rfl⟩) fun u s1 ⟨v, H1, I1, r, ev, eH⟩ => ?_)
  subst ev eH
  obtain rfl : u = Value.ref f := r
  refine PySem.W.callWith_K (h₀ := X.base) I.ok.mod.kin hk (thn (ha pos pins s1 σ _ _ I1 h) fun us s2 ⟨vs, H2, I2, r, q⟩ => ⟨I2.kIn, ?_⟩) he hpl
  exact run_fn (dvs := []) F hr hb .nil pass0 I2 r (by rw [List.append_nil]; exact q)
theorem Ok.at_ {P : Program} {w : World} {K : PySem.W.Frag} {mg : Str → Option Value} {base : Heap} {f : Addr} (h : Ok P w K mg base k x ps sp) (e : mg x = some (.ref f)) : OkA P w K mg base k f ps sp := by
  obtain ⟨f', fd, F, hm, hk, hb⟩ := h
  rw [hm] at e
  cases e
  exact ⟨fd, F, hk, hb⟩
theorem OkA.mono {P : Program} {w : World} {K : PySem.W.Frag} {mg : Str → Option Value} {base : Heap} {f : Addr} {j : Nat} (h : OkA P w K mg base k f ps sp) (hj : k ≤ j) : OkA P w K mg base j f ps sp := by
  obtain ⟨fd, F, hk, hb⟩ := h
  exact ⟨fd, ⟨F.len, fun A outer s H args us vs Q E r e b v q => F.run A outer s H args us vs Q E (r.mono hj) e b v q⟩, hk, hb⟩
def OkM (P : Program) (w : World) (K : PySem.W.Frag) (mg : Str → Option Value) (base : Heap) (C : Addr) (k : Nat) (m : Str) (ps : List Str) (sp : Sp) : Prop :=
  Cls K C ∧ ∃ f fd, FnOk P w K mg base CX0 k f fd ps sp ∧ Meth K C m f ∧ Binds K fd ps []
theorem pmeth {j : Nat} {C : Addr} {m : Str} {o : Expr} {ta : TE} {apos : Pos} {pl : Sem Bool} (h : OkM X.prog X.w X.K X.mg X.base C k m ps sp) (hr : Room j X.A) (ho : PE X o ta) (ha : PA X (e :: es) t)
    (hj : k ≤ j := by first | decide | omega) (hst : starEach (e :: es) X.env = (false, eval e X.env) :: starEach es X.env := by rfl) (hpl : (backTo pos (starEach es X.env)).any (·.1) = false := by rfl)
    (ht : eval (.Call (.Attribute o m apos) (e :: es) [] pos) X.env = (do
      let ov ← eval o X.env
      standAt apos.atName
      let (f, first) ← holding [ov] (getMethod ov m pl)
      callWith pos f first (backTo pos (starEach (e :: es) X.env)) (backToKw pos (keywordEach [] X.env))) := by rfl) : PE X (.Call (.Attribute o m apos) (e :: es) [] pos) (tMeth C m sp [] E0 ta t) := by
  obtain ⟨c, f, fd, F, hm, hb⟩ := h
  exact pe_meth ho c hm F (hr.mono hj) hb .nil pass0 ha hst hpl ht
theorem pmeth0 {j : Nat} {C : Addr} {m : Str} {o : Expr} {ta : TE} {apos : Pos} {pl : Sem Bool} (h : OkM X.prog X.w X.K X.mg X.base C k m ps sp) (hr : Room j X.A) (ho : PE X o ta)
    (hj : k ≤ j := by first | decide | omega) (ht : eval (.Call (.Attribute o m apos) [] [] pos) X.env = (do
      let ov ← eval o X.env
      standAt apos.atName
      let (f, first) ← holding [ov] (getMethod ov m pl)
      callWith pos f first (backTo pos (starEach [] X.env)) (backToKw pos (keywordEach [] X.env))) := by rfl) : PE X (.Call (.Attribute o m apos) [] [] pos) (tMeth C m sp [] E0 ta tNil) := by
  obtain ⟨c, f, fd, F, hm, hb⟩ := h
  exact pe_meth0 ho c hm F (hr.mono hj) hb .nil pass0 ht
def OkI (P : Program) (w : World) (K : PySem.W.Frag) (mg : Str → Option Value) (base : Heap) (x : Str) (C : Addr) (k : Nat) (ps : List Str) (sp : Sp) : Prop :=
  mg x = some (.ref C) ∧ ∃ f fd, FnOk P w K mg base CX0 k f fd ps sp ∧ Mk K C f ∧ Binds K fd ps []
theorem pmake {j : Nat} {C : Addr} (h : OkI X.prog X.w X.K X.mg X.base x C k ps sp) (hr : Room j X.A) (ha : PA X (e :: es) t) (hj : k + 1 ≤ j := by first | decide | omega) (hg : Gl X x := by rfl) (hdb : (x == ("__debug__" : Str)) = false := by decide)
    (he : starEach (e :: es) X.env = (false, eval e X.env) :: starEach es X.env := by rfl) (hpl : (backTo pos (starEach es X.env)).any (·.1) = false := by rfl) : PE X (.Call (.Name x p) (e :: es) [] pos) (tMake C sp [] E0 t) := by
  obtain ⟨hm, f, fd, F, M, hb⟩ := h
  exact pe_make M F (hr.mono hj) hg hm hb .nil pass0 ha hdb he hpl
theorem pmake0 {j : Nat} {C : Addr} (h : OkI X.prog X.w X.K X.mg X.base x C k ps sp) (hr : Room j X.A) (hj : k + 1 ≤ j := by first | decide | omega) (hg : Gl X x := by rfl) (hdb : (x == ("__debug__" : Str)) = false := by decide) : PE X (.Call (.Name x p) [] [] pos) (tMake C sp [] E0 tNil) := by
  obtain ⟨hm, f, fd, F, M, hb⟩ := h
  exact pe_make0 M F (hr.mono hj) hg hm hb .nil pass0 hdb
theorem call_range1T : CallR X (.type "range") (fun xs H Q => ∃ n : Nat, xs = [vn n] ∧ ∀ p, H p = none → Q (.ref p) (upd H p (.rng 0 (n : Int)))) := by
  intro pins s σ H xs us Q I r h
  obtain ⟨n, rfl, q⟩ := h
  obtain ⟨u, rfl, rx⟩ := vals1 r
  obtain ⟨tk, rfl⟩ := rx
  exact call_range_1 ⟨.ref s.heap.objs.size, _, I.laid (fun b o e => Heap.get?_push_of_some _ e) (Nat.le_refl _) (show ObjOk X.prog X.w _ _ _ (.rng 0 (n : Int)) from ⟨_, _, _, Heap.get?_push_size _ rfl⟩), rfl, q _ (I.hok.fresh (Nat.le_refl _))⟩
theorem vals_from : ∀ (us : List Value) (o : Nat), (∀ (j : Nat) (v : Value), us[j]? = some v → ∃ t, v = Value.int ((o + j : Nat) : Int) t) → Vals ((List.range' o us.length).map vn) us
  | [], o, _ => .nil
  | u :: us, o, h => by
    rw [List.length_cons, List.range'_succ, List.map_cons]
    refine .cons (h 0 u rfl) (vals_from us (o + 1) fun j v e => ?_)
    obtain ⟨t, q⟩ := h (j + 1) v e
    exact ⟨t, by rw [q, show o + (j + 1) = o + 1 + j by omega]⟩
theorem vals_items {n : Nat} {acc : Array Value} (h : ItemsOf (fun i v => ∃ t, v = .int (0 + (i : Nat) * 1) t) acc n) : Vals ((List.range n).map vn) acc.toList := by
  obtain ⟨h1, h2⟩ := h
  have z := vals_from acc.toList 0 fun j v e => by
    obtain ⟨t, q⟩ := h2 j v (by rw [← Array.getElem?_toList]; exact e)
    exact ⟨t, by rw [q]; simp⟩
  rw [Array.length_toList, h1, ← List.range_eq_range'] at z
  exact z
theorem call_list_rng (hc : X.calm = true) : CallR X (.type "list") (fun xs H Q => ∃ (p : Addr) (n : Nat), xs = [.ref p] ∧ H p = some (.rng 0 (n : Int)) ∧ n ≤ 65536 ∧ ∀ l, H l = none → Q (.ref l) (upd H l (.lst ((List.range n).map vn)))) := by
  intro pins s σ H xs us Q I r h
  obtain ⟨p, n, rfl, hp, hn, q⟩ := h
  obtain ⟨u, rfl, rx⟩ := vals1 r
  cases rx
  obtain ⟨t1, t2, t3, ho⟩ := I.hok p _ hp
  refine call_list_range (n := n) (I.ok.hd hc) ho (small_one (by decide) (by decide) (by omega) (by omega)) (by rw [rangeSize_one]; split <;> omega) (by omega) fun h' tk acc' c' kp e its => ?_
  refine ⟨.ref s.heap.objs.size, _, I.laid (t' := tk) kp (Nat.le_refl _) (show ObjOk X.prog X.w _ h' _ (.lst ((List.range n).map vn)) from ⟨by rw [List.length_map, List.length_range]; exact Nat.le_trans hn (by decide), acc'.toList, c', vals_items its, e⟩), rfl, q _ (I.hok.fresh (Nat.le_refl _))⟩
end
inductive KDs (mg : Str → Option Value) : List DictEntry → List (Nat × Str) → Prop
  | nil : KDs mg [] []
  | cons {e : DictEntry} {n : Nat} {x : Str} {es : List DictEntry} {kvs : List (Nat × Str)} (h : e.hash = hashInt (n : Int)) (k : ∃ t, e.key = .int (n : Int) t) (v : ∃ f, e.val = .ref f ∧ mg x = some (.ref f)) (r : KDs mg es kvs) : KDs mg (e :: es) ((n, x) :: kvs)
def KD (K : PySem.W.Frag) (mg : Str → Option Value) (x : Str) (kvs : List (Nat × Str)) : Prop :=
  ∃ d es ep, mg x = some (.ref d) ∧ (d == sysModules) = false ∧ K.lookup d = some ⟨.type "dict", none, .dict es ep, #[]⟩ ∧ KDs mg es.toList kvs ∧ (kvs.map (·.1)).Nodup
theorem KDs.pairs {P : Program} {w : World} {mg : Str → Option Value} {es : List DictEntry} {kvs : List (Nat × Str)} (h : KDs mg es kvs) : ∃ vs : List (Key × Value), Pairs (mixKind P w) es vs ∧ (∀ e ∈ es, ∃ k, (mixKind P w).is k e.key = true ∧ e.hash = (mixKind P w).hash k) ∧
    vs.map (·.1) = kvs.map (fun p => Sum.inl (p.1 : Int)) ∧ ∀ n : Nat, (kvs.lookup n = none → valueAt vs (Sum.inl (n : Int)) = none) ∧ ∀ x, kvs.lookup n = some x → ∃ f, valueAt vs (Sum.inl (n : Int)) = some (.ref f) ∧ mg x = some (.ref f) := by
  induction h with
  | nil => exact ⟨[], .nil, by simp, rfl, fun n => ⟨fun _ => rfl, fun x e => by cases e⟩⟩
  | @cons e n x es kvs hh hk hv r ih =>
    obtain ⟨vs, h1, h2, h3, h4⟩ := ih
    obtain ⟨t, hk⟩ := hk
    obtain ⟨f, hv, hm⟩ := hv
    have his : (mixKind P w).is (Sum.inl (n : Int)) e.key = true := by rw [hk]; exact keyIs_int (n : Int) t
    refine ⟨(Sum.inl (n : Int), .ref f) :: vs, .cons his hv h1, fun e' he => ?_, by simp [h3], fun n' => ?_⟩
    · rcases List.mem_cons.mp he with q | q
      · subst q
        exact ⟨_, his, hh⟩
      · exact h2 e' q
    · rw [List.lookup_cons]
      unfold valueAt
      rw [List.find?_cons]
      by_cases q : n' = n
      · subst q
        simp only [beq_self_eq_true, decide_true, Option.map_some]
        refine ⟨fun z => (by cases z), fun y z => ?_⟩
        cases z
        exact ⟨f, rfl, hm⟩
      · have q1 : (n' == n) = false := beq_eq_false_iff_ne.mpr q
        have q2 : ¬ (Sum.inl (n : Int) : Key) = Sum.inl (n' : Int) := fun z => q (by have := Sum.inl.inj z; omega)
        rw [q1]
        simp only [decide_eq_false q2]
        exact h4 n'
theorem KD.of {X : Cx} {pins : List (Addr × Obj)} {σ : L2.St} {H : Hp} {s : Shared} (I : Inv X pins σ H s) {x : Str} {kvs : List (Nat × Str)} (h : KD X.K X.mg x kvs) : ∃ (d : Addr) (vs : List (Key × Value)), X.mg x = some (.ref d) ∧ (d == sysModules) = false ∧ (∀ (H : Hp) (s : Shared), Inv X pins σ H s → s.heap.DictOf (mixKind X.prog X.w) d vs) ∧
    ∀ n : Nat, (kvs.lookup n = none → valueAt vs (Sum.inl (n : Int)) = none) ∧ ∀ y, kvs.lookup n = some y → ∃ f, valueAt vs (Sum.inl (n : Int)) = some (.ref f) ∧ X.mg y = some (.ref f) := by
  obtain ⟨d, es, ep, h1, h2, h3, h4, h5⟩ := h
  obtain ⟨vs, p1, p2, p3, p4⟩ := h4.pairs (P := X.prog) (w := X.w)
  refine ⟨d, vs, h1, h2, fun H s I => ⟨_, es, ep, I.kIn d _ h3, ⟨rfl, rfl, rfl⟩, rfl, fun e he => p2 e (Array.mem_toList_iff.mpr he), p1, ?_⟩, p4⟩
  rw [p3]
  have e : kvs.map (fun p => (Sum.inl (p.1 : Int) : Key)) = (kvs.map (·.1)).map fun n : Nat => (Sum.inl (n : Int) : Key) := by rw [List.map_map]; rfl
  rw [e]
  exact List.Pairwise.map _ (fun a b hab e => hab (by have := Sum.inl.inj e; omega)) h5
section
variable {X : Cx} {x : Str} {kvs : List (Nat × Str)} {i : Expr} {ty : TE} {p pos : Pos}
def tKGet (mg : Str → Option Value) (kvs : List (Nat × Str)) (ty : TE) : TE := fun σ H Q => ty σ H fun y H1 => ∃ (n : Nat) (x : Str), y = vn n ∧ kvs.lookup n = some x ∧ ∀ f, mg x = some (.ref f) → Q (.ref f) H1
theorem pe_kget (h : KD X.K X.mg x kvs) (hi : PE X i ty) (hg : Gl X x := by rfl) (hs : NoSl i := by intro _ _; rfl) (hd : (x == ("__debug__" : Str)) = false := by decide) : PE X (.Subscript (.Name x p) i pos) (tKGet X.mg kvs ty) := by
  intro pins s σ H Q I q
  obtain ⟨d, vs, h1, h2, h3, h4⟩ := h.of I
  refine subD_of PySem.F.slot_dict_getitem.lookup hs (ld_glob I hg h1 (thn (hi pins s σ H _ I q) fun iv s2 ⟨y, H2, I2, ry, n, z, ey, l, q2⟩ => ?_) hd)
  subst ey
  obtain ⟨f, e1, e2⟩ := (h4 n).2 z l
  exact ⟨(h3 _ _ I2).typeIs, wpAny_getItem_of (kV_is (k := Sum.inl (n : Int)) ry) (h3 _ _ I2).mapOf e1 ⟨.ref f, H2, I2.tok _, rfl, q2 f e2⟩⟩
def tKIn (kvs : List (Nat × Str)) (ty : TE) : TE := fun σ H Q => ty σ H fun y H1 => ∃ n : Nat, y = vn n ∧ Q (.bl (kvs.lookup n).isSome) H1
theorem pc_kin (h : KD X.K X.mg x kvs) (hi : PE X i ty) (hg : Gl X x := by rfl) (hd : (x == ("__debug__" : Str)) = false := by decide) : PC X .In i (.Name x p) (tKIn kvs ty) := by
  intro pins s σ H Q I q
  obtain ⟨d, vs, h1, h2, h3, h4⟩ := h.of I
  refine thn (hi pins s σ H _ I q) fun iv s2 ⟨y, H2, I2, ry, n, ey, q2⟩ => ?_
  subst ey
  refine ld_glob I2 hg h1 (wpAny_in_of (kV_is (k := Sum.inl (n : Int)) ry) h2 (h3 _ _ I2).mapOf ⟨.bl _, H2, I2.tok _, rfl, ?_⟩) hd
  cases e : kvs.lookup n with
  | none => rw [(h4 n).1 e]; rw [e] at q2; exact q2
  | some z =>
    obtain ⟨f, e1, e2⟩ := (h4 n).2 z e
    rw [e1]
    rw [e] at q2
    exact q2
end
theorem pe_fldK {X : Cx} {e : Expr} {f : Str} {ta : TE} {pos : Pos} (K : PySem.W.Frag) (hK : X.K = K) (he : PE X e ta) (hb : attributeBase e f X.env (eval e X.env) = eval e X.env) : PE X (.Attribute e f pos) (tFld K ta f) := by
  subst hK
  exact pe_fld he hb
theorem ix_listK {X : Cx} (K : PySem.W.Frag) (hK : X.K = K) : IxR X (rIxL K) := by
  subst hK
  exact ix_list
theorem ix_tupK {X : Cx} (K : PySem.W.Frag) (hK : X.K = K) : IxR X (rIxT K) := by
  subst hK
  exact ix_tup
theorem op_notIn_seqK {X : Cx} (K : PySem.W.Frag) (hK : X.K = K) : OpR X (compareOp .NotIn) (rIn K true) := by
  subst hK
  exact op_notIn_seq
def tLockV (td : TE) : TE := fun σ H Q => td σ H fun x H1 => ∃ d u, x = .ref d ∧ H1 d = some u ∧ Mut (some u) ∧ ∀ od, Q x (upd H1 d (.frz od u))
theorem pe_lockv {X : Cx} {e : Expr} {td : TE} (he : PE X e td) : PE X e (tLockV td) := by
  intro pins s σ H Q I h
  refine thn (he pins s σ H _ I h) fun v s1 ⟨x, H1, I1, rx, d, u, ex, hd, mu, q⟩ => ?_
  obtain ⟨od, I2⟩ := I1.lock hd mu
  exact ⟨x, _, I2, rx, q od⟩
theorem for_items {d : Addr} {o : Obj} {kvs : List (Key × V)} {g : TG} {tb : TS} {D : Ends} {σ : L2.St} {H : Hp} (Pv : Nat → L2.St → Hp → Prop) (h0 : Pv 0 σ H) (hl : ∀ i σ H, i ≤ kvs.length → Pv i σ H → H d = some (.frz o (.dK kvs)))
    (hs : ∀ (i : Nat) (k : Key) (v : V) (σ : L2.St) (H : Hp) (T : Addr), kvs[i]? = some (k, v) → Pv i σ H → H T = none → g (.ref T) σ (upd H T (.tup [kV k, v])) fun σ2 H2 => tb { D with nx := Pv (i + 1), ct := Pv (i + 1), bk := D.nx } σ2 H2) (hd : ∀ σ H, Pv kvs.length σ H → D.nx σ H) :
    ∃ W : Nat → Nat → L2.St → Hp → Prop, (∃ m, W 0 m σ H) ∧ ∀ i m σ H, W i m σ H →
      ((Iti d o kvs).stop i H ∧ D.nx σ H) ∨ ((Iti d o kvs).go i H ∧ ∃ N : L2.St → Hp → Prop, (∀ σ' H', N σ' H' → ∃ m', m' < m ∧ W (i + 1) m' σ' H') ∧ ∀ x H', (Iti d o kvs).yld i H x H' → g x σ H' fun σ2 H2 => tb { D with nx := N, ct := N, bk := D.nx } σ2 H2) := by
  refine ⟨fun i m σ H => m = kvs.length - i ∧ i ≤ kvs.length ∧ Pv i σ H, ⟨kvs.length, by simp, Nat.zero_le _, h0⟩, ?_⟩
  rintro i m σ H ⟨rfl, hi, p⟩
  have q := hl i σ H hi p
  by_cases hlt : i < kvs.length
  · refine .inr ⟨⟨q, hlt⟩, Pv (i + 1), fun σ' H' p' => ⟨kvs.length - (i + 1), by omega, rfl, hlt, p'⟩, fun x H' y => ?_⟩
    obtain ⟨T, k, v, e1, rfl, hT, rfl⟩ := y
    exact hs i k v σ H T e1 p hT
  · have e : i = kvs.length := by omega
    subst e
    exact .inl ⟨⟨q, Nat.le_refl _⟩, hd σ H p⟩
end DX
namespace DM
section
variable (n : Nat) (nx : Nat → Nat → Nat) (f : Nat → Bool)
def hit : Nat → Nat → Bool
  | 0, b => f b
  | k + 1, b => (List.range n).any fun i => hit k (nx b i)
def Path : Nat → Nat → Nat → Prop
  | 0, b, s => s = b
  | k + 1, b, s => ∃ t, Path k b t ∧ ∃ i, i < n ∧ s = nx t i
def IsD (b k : Nat) : Prop := hit n nx f k b = true ∧ ∀ j, j < k → hit n nx f j b = false
variable {n nx f}
theorem hit_succ {k b : Nat} : hit n nx f (k + 1) b = true ↔ ∃ i, i < n ∧ hit n nx f k (nx b i) = true := by
  show ((List.range n).any fun i => hit n nx f k (nx b i)) = true ↔ _
  rw [List.any_eq_true]
  constructor
  · rintro ⟨i, h1, h2⟩
    exact ⟨i, List.mem_range.mp h1, h2⟩
  · rintro ⟨i, h1, h2⟩
    exact ⟨i, List.mem_range.mpr h1, h2⟩
theorem Path.cons : ∀ {k b i s}, i < n → Path n nx k (nx b i) s → Path n nx (k + 1) b s
  | 0, b, i, s, hi, h => ⟨b, rfl, i, hi, h⟩
  | k + 1, b, i, s, hi, ⟨t, h1, j, hj, e⟩ => ⟨t, Path.cons hi h1, j, hj, e⟩
theorem hit_path : ∀ {k b}, hit n nx f k b = true ↔ ∃ s, Path n nx k b s ∧ f s = true
  | 0, b => ⟨fun h => ⟨b, rfl, h⟩, fun ⟨s, h, hf⟩ => by cases h; exact hf⟩
  | k + 1, b => by
    rw [hit_succ]
    constructor
    · rintro ⟨i, hi, h⟩
      obtain ⟨s, h1, h2⟩ := hit_path.mp h
      exact ⟨s, Path.cons hi h1, h2⟩
    · rintro ⟨s, h1, h2⟩
      have un : ∀ {k b s}, Path n nx (k + 1) b s → ∃ i, i < n ∧ Path n nx k (nx b i) s := by
        intro k
        induction k with
        | zero => rintro b s ⟨t, h, i, hi, e⟩; cases h; exact ⟨i, hi, e⟩
        | succ k ih =>
          rintro b s ⟨t, h, i, hi, e⟩
          obtain ⟨j, hj, q⟩ := ih h
          exact ⟨j, hj, t, q, i, hi, e⟩
      obtain ⟨i, hi, q⟩ := un h1
      exact ⟨i, hi, hit_path.mpr ⟨s, q, h2⟩⟩
theorem isD_zero {b} (h : f b = true) : IsD n nx f b 0 := ⟨h, fun j hj => absurd hj (Nat.not_lt_zero j)⟩
theorem IsD.uniq {b j k} (h : IsD n nx f b j) (g : IsD n nx f b k) : j = k := by
  rcases Nat.lt_trichotomy j k with q | q | q
  · have z := h.1
    rw [g.2 j q] at z
    cases z
  · exact q
  · have z := g.1
    rw [h.2 k q] at z
    cases z
theorem IsD.next {b k} (h : IsD n nx f b (k + 1)) : ∃ i, i < n ∧ IsD n nx f (nx b i) k := by
  obtain ⟨i, hi, q⟩ := hit_succ.mp h.1
  refine ⟨i, hi, q, fun j hj => ?_⟩
  cases e : hit n nx f j (nx b i) with
  | false => rfl
  | true => rw [← h.2 (j + 1) (Nat.succ_lt_succ hj)]; exact (hit_succ.mpr ⟨i, hi, e⟩).symm
theorem isD_or (b : Nat) : (∃ k, IsD n nx f b k) ∨ ∀ k, hit n nx f k b = false := by
  by_cases h : ∃ k, hit n nx f k b = true
  · left
    obtain ⟨k, hk⟩ := h
    induction k using Nat.strongRecOn with
    | _ k ih =>
      by_cases q : ∃ j, j < k ∧ hit n nx f j b = true
      · obtain ⟨j, hj, e⟩ := q
        exact ih j hj e
      · exact ⟨k, hk, fun j hj => by
          cases e : hit n nx f j b with
          | false => rfl
          | true => exact absurd ⟨j, hj, e⟩ q⟩
  · right
    intro k
    cases e : hit n nx f k b with
    | false => rfl
    | true => exact absurd ⟨k, e⟩ h
end
section
variable (n : Nat) (nx : Nat → Nat → Nat) (f : Nat → Bool)
abbrev Rw := List (Nat × List Nat)
def kid (s : Nat) (w : List Nat) (R : Rw) (i : Nat) : Rw := if nx s i ∈ R.map (·.1) then R else R ++ [(nx s i, w ++ [i])]
def kids (s : Nat) (w : List Nat) (R : Rw) (k : Nat) : Rw := (List.range k).foldl (kid nx s w) R
variable {n nx f}
theorem kids_zero {s w R} : kids nx s w R 0 = R := rfl
theorem kids_succ {s w R k} : kids nx s w R (k + 1) = kid nx s w (kids nx s w R k) k := by
  unfold kids
  rw [List.range_succ, List.foldl_append]
  rfl
structure Kids (nx : Nat → Nat → Nat) (s : Nat) (w : List Nat) (R : Rw) (k : Nat) (C : Rw) : Prop where
  eq : kids nx s w R k = R ++ C
  of : ∀ y ∈ C, ∃ i, i < k ∧ y = (nx s i, w ++ [i])
  all : ∀ i, i < k → nx s i ∈ (R ++ C).map (·.1)
  nd : (R.map (·.1)).Nodup → ((R ++ C).map (·.1)).Nodup
  at_ : ∀ i, i < k → nx s i ∉ R.map (·.1) → (∀ j, j < i → nx s j ≠ nx s i) → ∃ C1 C2, C = C1 ++ (nx s i, w ++ [i]) :: C2 ∧ ∀ y ∈ C1, ∃ j, j < i ∧ y = (nx s j, w ++ [j])
theorem kids_of (s : Nat) (w : List Nat) (R : Rw) : ∀ k, ∃ C, Kids nx s w R k C
  | 0 => ⟨[], ⟨by rw [kids_zero, List.append_nil], by simp, by simp, by simp, by simp⟩⟩
  | k + 1 => by
    obtain ⟨C, h⟩ := kids_of s w R k
    by_cases q : nx s k ∈ (R ++ C).map (·.1)
    · refine ⟨C, ⟨?_, ?_, ?_, h.nd, ?_⟩⟩
      · rw [kids_succ, h.eq]; unfold kid; rw [if_pos q]
      · intro y hy
        obtain ⟨i, hi, e⟩ := h.of y hy
        exact ⟨i, by omega, e⟩
      · intro i hi
        by_cases e : i = k
        · subst e; exact q
        · exact h.all i (by omega)
      · intro i hi h1 h2
        by_cases e : i = k
        · subst e
          exfalso
          rw [List.map_append, List.mem_append] at q
          rcases q with q | q
          · exact h1 q
          · obtain ⟨y, hy, ey⟩ := List.mem_map.mp q
            obtain ⟨j, hj, e2⟩ := h.of y hy
            subst e2
            exact h2 j hj ey
        · exact h.at_ i (by omega) h1 h2
    · refine ⟨C ++ [(nx s k, w ++ [k])], ⟨?_, ?_, ?_, ?_, ?_⟩⟩
      · rw [kids_succ, h.eq]; unfold kid; rw [if_neg q, List.append_assoc]
      · intro y hy
        rw [List.mem_append] at hy
        rcases hy with hy | hy
        · obtain ⟨i, hi, e⟩ := h.of y hy
          exact ⟨i, by omega, e⟩
        · exact ⟨k, by omega, by simpa using hy⟩
      · intro i hi
        rw [← List.append_assoc, List.map_append, List.mem_append]
        by_cases e : i = k
        · subst e; right; simp
        · left; exact h.all i (by omega)
      · intro hn
        rw [← List.append_assoc, List.map_append, List.nodup_append]
        refine ⟨h.nd hn, by simp, ?_⟩
        intro a ha b hb
        have e : b = nx s k := by simpa using hb
        subst e
        intro e
        subst e
        exact q ha
      · intro i hi h1 h2
        by_cases e : i = k
        · subst e
          exact ⟨C, [], rfl, h.of⟩
        · obtain ⟨C1, C2, e1, h3⟩ := h.at_ i (by omega) h1 h2
          exact ⟨C1, C2 ++ [(nx s k, w ++ [k])], by rw [e1]; simp, h3⟩
end
section
variable (n : Nat) (nx : Nat → Nat → Nat) (f : Nat → Bool)
structure WayOf (way : Nat → Nat → List Nat) : Prop where
  zero : ∀ b, way 0 b = []
  succ : ∀ k b, IsD n nx f b (k + 1) → ∃ i, i < n ∧ IsD n nx f (nx b i) k ∧ (∀ j, j < i → ¬ IsD n nx f (nx b j) k) ∧ way (k + 1) b = i :: way k (nx b i)
structure Seek (way : Nat → Nat → List Nat) (K : Nat) (T : List Nat) (R : Rw) (a : Nat) (d : Nat) (A B : Rw) : Prop where
  cut : R.drop a = A ++ B
  nd : (R.map (·.1)).Nodup
  old : ∀ x ∈ R.take a, x.2.length ≤ d
  lA : ∀ x ∈ A, x.2.length = d
  lB : ∀ x ∈ B, x.2.length = d + 1
  few : ∀ y ∈ R, ∀ j, y.2.length + j < K → hit n nx f j y.1 = false
  best : ∃ X s w Y k, B ++ A = X ++ (s, w) :: Y ∧ IsD n nx f s k ∧ w.length + k = K ∧ w ++ way k s = T ∧ ∀ y ∈ X, ∀ j, y.2.length + j ≤ K → hit n nx f j y.1 = false
variable {n nx f} {way : Nat → Nat → List Nat} {K : Nat} {T : List Nat} {R : Rw} {a d : Nat} {A B : Rw}
theorem Seek.start {b : Nat} (h : IsD n nx f b K) : Seek n nx f way K (way K b) [(b, [])] 0 0 [(b, [])] [] := by
  refine ⟨rfl, by simp, by simp, by simp, by simp, ?_, ⟨[], b, [], [], K, rfl, h, by simp, by simp, by simp⟩⟩
  intro y hy j hj
  have e : y = (b, []) := by simpa using hy
  subst e
  exact h.2 j (by simpa using hj)
theorem Seek.shift (S : Seek n nx f way K T R a d [] B) : Seek n nx f way K T R a (d + 1) B [] := by
  obtain ⟨X, s, w, Y, k, e, h⟩ := S.best
  refine ⟨by rw [S.cut]; simp, S.nd, fun x hx => Nat.le_succ_of_le (S.old x hx), S.lB, by simp, S.few, ⟨X, s, w, Y, k, by simpa using e, h⟩⟩
theorem Seek.more (S : Seek n nx f way K T R a d A B) : ∃ d x A' B', Seek n nx f way K T R a d (x :: A') B' := by
  match A, S with
  | x :: A', S => exact ⟨d, x, A', B, S⟩
  | [], S =>
    match B, S with
    | x :: B', S => exact ⟨d + 1, x, B', [], S.shift⟩
    | [], S =>
      obtain ⟨X, s, w, Y, k, e, h⟩ := S.best
      simp at e
theorem Seek.found {s : Nat} {w : List Nat} (W : WayOf n nx f way) (S : Seek n nx f way K T R a d ((s, w) :: A) B) (h : f s = true) : w = T := by
  obtain ⟨X, s', w', Y, k, e, hD, hK, hT, hX⟩ := S.best
  have lw : w.length = d := S.lA (s, w) (by simp)
  have hs : (s, w) ∈ R := List.mem_of_mem_drop (i := a) (by rw [S.cut]; simp)
  have hd : ¬ d < K := fun q => by
    have z := S.few (s, w) hs 0 (by simpa [lw] using q)
    rw [show hit n nx f 0 s = f s from rfl, h] at z
    cases z
  have key : ∀ (B X Y : Rw) , B ++ (s, w) :: A = X ++ (s', w') :: Y → (s', w') ∈ B ∨ (s, w) ∈ X ∨ ((s, w) = (s', w')) := by
    intro B
    induction B with
    | nil =>
      intro X Y e
      match X, e with
      | [], e => right; right; exact (List.cons.inj e).1
      | x :: X, e => right; left; rw [(List.cons.inj e).1]; simp
    | cons b B ih =>
      intro X Y e
      match X, e with
      | [], e => left; rw [← (List.cons.inj e).1]; simp
      | x :: X, e =>
        rcases ih X Y (List.cons.inj e).2 with q | q | q
        · left; exact List.mem_cons_of_mem _ q
        · right; left; exact List.mem_cons_of_mem _ q
        · right; right; exact q
  rcases key B X Y e with q | q | q
  · have l := S.lB _ q
    simp at l
    omega
  · have ge : d ≤ w'.length := by
      have m : (s', w') ∈ B ++ (s, w) :: A := by rw [e]; simp
      rw [List.mem_append] at m
      rcases m with m | m
      · have := S.lB _ m
        simp at this
        omega
      · have := S.lA _ m
        simp at this
        omega
    have z := hX _ q 0 (by simp [lw]; omega)
    rw [show hit n nx f 0 s = f s from rfl, h] at z
    cases z
  · have e1 : s = s' := congrArg Prod.fst q
    have e2 : w = w' := congrArg Prod.snd q
    subst e1 e2
    have : k = 0 := by omega
    subst this
    rw [W.zero, List.append_nil] at hT
    exact hT
theorem Seek.step {s : Nat} {w : List Nat} {C : Rw} (W : WayOf n nx f way) (S : Seek n nx f way K T R a d ((s, w) :: A) B) (h : f s = false) (Kd : Kids nx s w R n C) : ∃ d A' B', Seek n nx f way K T (R ++ C) (a + 1) d A' B' := by
  have lw : w.length = d := S.lA (s, w) (by simp)
  have ha : a < R.length := by
    apply Nat.lt_of_not_le
    intro q
    have z := S.cut
    rw [List.drop_of_length_le q] at z
    cases z
  have hRa : R.drop a = (s, w) :: (A ++ B) := S.cut
  have hs : (s, w) ∈ R := List.mem_of_mem_drop (i := a) (by rw [hRa]; simp)
  have dr : (R ++ C).drop (a + 1) = A ++ (B ++ C) := by
    have : R.drop (a + 1) = A ++ B := by
      rw [← List.drop_drop, hRa]
      rfl
    rw [List.drop_append_of_le_length (by omega), this, List.append_assoc]
  have tk : ∀ x ∈ (R ++ C).take (a + 1), x.2.length ≤ d := by
    intro x hx
    rw [List.take_append_of_le_length (by omega)] at hx
    have e : R.take (a + 1) = R.take a ++ [(s, w)] := by
      have e2 : R[a]? = some (s, w) := by
        have z : (R.drop a)[0]? = some (s, w) := by rw [hRa]; rfl
        rw [List.getElem?_drop] at z
        exact z
      rw [List.take_add_one, e2]
      rfl
    rw [e, List.mem_append] at hx
    rcases hx with hx | hx
    · exact S.old x hx
    · have e : x = (s, w) := by simpa using hx
      subst e
      exact Nat.le_of_eq lw
  have lC : ∀ x ∈ C, x.2.length = d + 1 := by
    intro x hx
    obtain ⟨i, hi, e⟩ := Kd.of x hx
    subst e
    simp [lw]
  have few' : ∀ y ∈ R ++ C, ∀ j, y.2.length + j < K → hit n nx f j y.1 = false := by
    intro y hy j hj
    rw [List.mem_append] at hy
    rcases hy with hy | hy
    · exact S.few y hy j hj
    · obtain ⟨i, hi, e⟩ := Kd.of y hy
      subst e
      cases q : hit n nx f j (nx s i) with
      | false => rfl
      | true =>
        have z := S.few (s, w) hs (j + 1) (by simp at hj ⊢; omega)
        rw [show hit n nx f (j + 1) s = true from hit_succ.mpr ⟨i, hi, q⟩] at z
        cases z
  refine ⟨d, A, B ++ C, dr, Kd.nd S.nd, tk, fun x hx => S.lA x (List.mem_cons_of_mem _ hx), ?_, few', ?_⟩
  · intro x hx
    rw [List.mem_append] at hx
    rcases hx with hx | hx
    · exact S.lB x hx
    · exact lC x hx
  · obtain ⟨X, s', w', Y, k, e, hD, hK, hT, hX⟩ := S.best
    have key : ∀ (B X : Rw), B ++ (s, w) :: A = X ++ (s', w') :: Y → (∃ Z, B = X ++ (s', w') :: Z) ∨ (X = B ∧ (s, w) = (s', w') ∧ A = Y) ∨ (∃ Z, X = B ++ (s, w) :: Z ∧ A = Z ++ (s', w') :: Y) := by
      intro B
      induction B with
      | nil =>
        intro X e
        match X, e with
        | [], e => right; left; exact ⟨rfl, (List.cons.inj e).1, (List.cons.inj e).2⟩
        | x :: X, e => right; right; exact ⟨X, by rw [(List.cons.inj e).1]; rfl, (List.cons.inj e).2⟩
      | cons b B ih =>
        intro X e
        match X, e with
        | [], e => left; exact ⟨B, by rw [(List.cons.inj e).1]; rfl⟩
        | x :: X, e =>
          have e0 := (List.cons.inj e).1
          subst e0
          rcases ih X (List.cons.inj e).2 with ⟨Z, q⟩ | ⟨q1, q2, q3⟩ | ⟨Z, q1, q2⟩
          · left; exact ⟨Z, by rw [q]; rfl⟩
          · right; left; exact ⟨by rw [q1], q2, q3⟩
          · right; right; exact ⟨Z, by rw [q1]; rfl, q2⟩
    rcases key B X e with ⟨Z, q⟩ | ⟨q1, q2, q3⟩ | ⟨Z, q1, q2⟩
    · exact ⟨X, s', w', Z ++ C ++ A, k, by rw [q]; simp, hD, hK, hT, hX⟩
    · have e1 : s = s' := congrArg Prod.fst q2
      have e2 : w = w' := congrArg Prod.snd q2
      subst e1 e2 q1 q3
      cases k with
      | zero =>
        have z := hD.1
        rw [show hit n nx f 0 s = f s from rfl, h] at z
        cases z
      | succ k =>
        obtain ⟨i, hi, hDi, hmin, hway⟩ := W.succ k s hD
        have low : ∀ j i', i' < n → j ≤ k → ¬ (j = k ∧ IsD n nx f (nx s i') k) → hit n nx f j (nx s i') = false := by
          intro j i' hi' hj nn
          cases q : hit n nx f j (nx s i') with
          | false => rfl
          | true =>
            by_cases ejk : j = k
            · subst ejk
              exfalso
              apply nn
              refine ⟨rfl, q, fun j2 hj2 => ?_⟩
              cases q2 : hit n nx f j2 (nx s i') with
              | false => rfl
              | true =>
                have z := hD.2 (j2 + 1) (by omega)
                rw [show hit n nx f (j2 + 1) s = true from hit_succ.mpr ⟨i', hi', q2⟩] at z
                cases z
            · have z := hD.2 (j + 1) (by omega)
              rw [show hit n nx f (j + 1) s = true from hit_succ.mpr ⟨i', hi', q⟩] at z
              cases z
        have notin : nx s i ∉ R.map (·.1) := by
          intro hm
          obtain ⟨y, hy, ey⟩ := List.mem_map.mp hm
          have hyk : hit n nx f k y.1 = true := by rw [ey]; exact hDi.1
          have fw := S.few y hy k
          rw [hyk] at fw
          have ge : ¬ y.2.length + k < K := fun q => nomatch fw q
          have hy2 : y ∈ R.take a ++ R.drop a := by rw [List.take_append_drop]; exact hy
          rw [List.mem_append, hRa] at hy2
          rcases hy2 with q | q
          · have := S.old y q
            omega
          · rw [← List.cons_append, List.mem_append] at q
            rcases q with q | q
            · have := S.lA y q
              omega
            · have l := S.lB y q
              have z := hX y q k (by omega)
              rw [hyk] at z
              cases z
        obtain ⟨C1, C2, eC, hC1⟩ := Kd.at_ i hi notin (fun j hj eq => hmin j hj (by rw [eq]; exact hDi))
        refine ⟨X ++ C1, nx s i, w ++ [i], C2 ++ A, k, by rw [eC]; simp, hDi, by simp; omega, by rw [hway] at hT; rw [← hT]; simp, ?_⟩
        intro y hy j hj
        rw [List.mem_append] at hy
        rcases hy with hy | hy
        · exact hX y hy j hj
        · obtain ⟨i', hi', ey⟩ := hC1 y hy
          subst ey
          simp at hj
          exact low j i' (by omega) (by omega) (fun ⟨_, q⟩ => hmin i' hi' q)
    · refine ⟨B ++ C ++ Z, s', w', Y, k, by rw [q2]; simp, hD, hK, hT, ?_⟩
      intro y hy j hj
      rw [List.mem_append, List.mem_append] at hy
      rcases hy with (hy | hy) | hy
      · exact hX y (by rw [q1]; simp [hy]) j hj
      · obtain ⟨i, hi, ey⟩ := Kd.of y hy
        subst ey
        cases q : hit n nx f j (nx s i) with
        | false => rfl
        | true =>
          have z := hX (s, w) (by rw [q1]; simp) (j + 1) (by simp at hj ⊢; omega)
          rw [show hit n nx f (j + 1) s = true from hit_succ.mpr ⟨i, hi, q⟩] at z
          cases z
      · exact hX y (by rw [q1]; simp [hy]) j hj
end
end DM
namespace DM
open Krb7 (full both not_ within truth right behind)
def pc : Nat → Nat → Nat
  | 0, _ => 0
  | k + 1, x => x % 2 + pc k (x / 2)
theorem pc_le : ∀ k x, pc k x ≤ k
  | 0, _ => Nat.le_refl _
  | k + 1, x => by
    have := pc_le k (x / 2)
    show x % 2 + pc k (x / 2) ≤ k + 1
    omega
theorem and_split (x y : Nat) : (x &&& y) / 2 = x / 2 &&& y / 2 ∧ (x &&& y) % 2 = (x % 2) * (y % 2) := by
  refine ⟨Nat.and_div_two, ?_⟩
  have h : ∀ z : Nat, z % 2 = if z.testBit 0 then 1 else 0 := fun z => by
    rw [Nat.testBit_zero]
    by_cases q : z % 2 = 1 <;> simp [q] <;> omega
  rw [h (x &&& y), h x, h y, Nat.testBit_and]
  cases x.testBit 0 <;> cases y.testBit 0 <;> rfl
theorem pc_sub : ∀ k x y, x < 2 ^ k → y < 2 ^ k → x &&& y = x → pc k x ≤ pc k y ∧ (pc k x = pc k y → x = y)
  | 0, x, y, hx, hy, _ => by
    refine ⟨Nat.le_refl _, fun _ => ?_⟩
    simp at hx hy
    omega
  | k + 1, x, y, hx, hy, h => by
    have hx2 : x / 2 < 2 ^ k := by rw [Nat.pow_succ] at hx; omega
    have hy2 : y / 2 < 2 ^ k := by rw [Nat.pow_succ] at hy; omega
    have s := and_split x y
    rw [h] at s
    have ih := pc_sub k (x / 2) (y / 2) hx2 hy2 s.1.symm
    have le : x % 2 ≤ y % 2 := by
      rcases Nat.mod_two_eq_zero_or_one x with a | a <;> rcases Nat.mod_two_eq_zero_or_one y with b | b <;> rw [a, b] at s <;> omega
    show x % 2 + pc k (x / 2) ≤ y % 2 + pc k (y / 2) ∧ (x % 2 + pc k (x / 2) = y % 2 + pc k (y / 2) → x = y)
    refine ⟨by omega, fun e => ?_⟩
    have e2 := ih.2 (by omega)
    omega
theorem full_lt {m : Nat} (hm : m ≤ 3) : full m ≤ 255 := by
  match m, hm with
  | 0, _ => decide
  | 1, _ => decide
  | 2, _ => decide
  | 3, _ => decide
theorem full_pow (m : Nat) : full m + 1 = 2 ^ 2 ^ m := by
  unfold full Krb7.worlds
  have : 0 < 2 ^ 2 ^ m := Nat.pow_pos (by decide)
  omega
theorem and_le_full {m b p : Nat} (hb : b ≤ full m) : b &&& p ≤ full m := Nat.le_trans Nat.and_le_left hb
theorem and_not {m b p : Nat} (hb : b ≤ full m) (hp : p ≤ full m) : b &&& (full m - p) = b - (b &&& p) := by
  have hF := full_pow m
  have e1 : full m - p = 2 ^ 2 ^ m - (p + 1) := by omega
  have hsum : (b &&& p) + (b &&& (full m - p)) = b := by
    have h0 : (b &&& p) &&& (b &&& (full m - p)) = 0 := by
      apply Nat.eq_of_testBit_eq
      intro i
      rw [e1]
      simp only [Nat.testBit_and, Nat.zero_testBit, Nat.testBit_two_pow_sub_succ (show p < 2 ^ 2 ^ m by omega)]
      cases b.testBit i <;> cases p.testBit i <;> simp
    have h1 : (b &&& p) ||| (b &&& (full m - p)) = b := by
      apply Nat.eq_of_testBit_eq
      intro i
      rw [e1]
      simp only [Nat.testBit_and, Nat.testBit_or, Nat.testBit_two_pow_sub_succ (show p < 2 ^ 2 ^ m by omega)]
      by_cases hi : i < 2 ^ m
      · simp only [hi, decide_true, Bool.true_and]
        cases b.testBit i <;> cases p.testBit i <;> rfl
      · have : b.testBit i = false := Nat.testBit_lt_two_pow (Nat.lt_of_lt_of_le (show b < 2 ^ 2 ^ m by omega) (Nat.pow_le_pow_right (by decide) (by omega)))
        simp [this]
    have key : ∀ x y : Nat, x &&& y = 0 → x + y = x ||| y := by
      intro x
      induction x using Nat.strongRecOn with
      | _ x ih =>
        intro y h
        by_cases hx : x = 0
        · subst hx; simp
        · have s := and_split x y
          rw [h] at s
          have q := ih (x / 2) (by omega) (y / 2) s.1.symm
          have d : (x ||| y) / 2 = x / 2 ||| y / 2 := Nat.or_div_two
          have r : (x ||| y) % 2 = x % 2 + y % 2 := by
            have hz : ∀ z : Nat, z % 2 = if z.testBit 0 then 1 else 0 := fun z => by
              rw [Nat.testBit_zero]
              by_cases q : z % 2 = 1 <;> simp [q] <;> omega
            have s2 := s.2
            rw [hz x, hz y] at s2
            rw [hz (x ||| y), hz x, hz y, Nat.testBit_or]
            revert s2
            cases x.testBit 0 <;> cases y.testBit 0 <;> simp
          omega
    rw [key _ _ h0, h1]
  omega
def nrw (b p a : Nat) : Nat := if a = 1 then b &&& p else if a = 0 then b - (b &&& p) else b
theorem behind_eq {m b p a : Nat} (hb : b ≤ full m) (hp : p ≤ full m) : behind m b p a = nrw b p a := by
  unfold behind nrw both not_
  rw [and_not hb hp]
theorem nrw_le {b p a : Nat} : nrw b p a ≤ b := by
  unfold nrw
  split
  · exact Nat.and_le_left
  · split <;> omega
theorem behind_sub {m b p a : Nat} : behind m b p a &&& b = behind m b p a := by
  unfold behind both
  split
  · rw [Nat.and_comm, ← Nat.and_assoc, Nat.and_self]
  · split
    · rw [Nat.and_comm, ← Nat.and_assoc, Nat.and_self]
    · exact Nat.and_self _
theorem behind_le {m b p a : Nat} : behind m b p a ≤ b := by
  rw [← behind_sub (m := m) (b := b) (p := p) (a := a)]
  exact Nat.and_le_right
abbrev nxt (h : Krc9.House) (b i : Nat) : Nat := h.next b (h.stock.getD i 0)
theorem next_sub (h : Krc9.House) (b p : Nat) : h.next b p &&& b = h.next b p := behind_sub
theorem next_le (h : Krc9.House) (b p : Nat) : h.next b p ≤ b := behind_le
theorem mem_step {h : Krc9.House} {l : List Nat} {x : Nat} : x ∈ h.step l ↔ ∃ b, b ∈ l ∧ ∃ i, i < h.stock.length ∧ x = nxt h b i := by
  unfold Krc9.House.step
  rw [List.mem_eraseDups, List.mem_flatMap]
  constructor
  · rintro ⟨b, hb, hx⟩
    obtain ⟨p, hp, e⟩ := List.mem_map.mp hx
    obtain ⟨i, hi, e2⟩ := List.getElem_of_mem hp
    refine ⟨b, hb, i, hi, ?_⟩
    rw [← e, ← e2]
    show _ = h.next b (h.stock.getD i 0)
    rw [List.getD_eq_getElem?_getD, List.getElem?_eq_getElem hi]
    rfl
  · rintro ⟨b, hb, i, hi, e⟩
    refine ⟨b, hb, List.mem_map.mpr ⟨h.stock[i], List.getElem_mem hi, ?_⟩⟩
    rw [e]
    show _ = h.next b (h.stock.getD i 0)
    rw [List.getD_eq_getElem?_getD, List.getElem?_eq_getElem hi]
    rfl
section
variable (h : Krc9.House) (f : Nat → Bool) (b0 : Nat)
structure Srch (k : Nat) (seen now : List Nat) : Prop where
  a : b0 ∈ seen ∨ b0 ∈ now
  b : ∀ s ∈ seen, ∀ i, i < h.stock.length → nxt h s i ∈ seen ∨ nxt h s i ∈ now
  d : ∀ s ∈ now, Path h.stock.length (nxt h) k b0 s ∧ pc 8 s + k ≤ pc 8 b0 ∧ s < 256
  e : ∀ j, j < k → ∀ s, Path h.stock.length (nxt h) j b0 s → s ∈ seen
variable {h f b0}
theorem Srch.start (hb : b0 < 256) : Srch h b0 0 [] [b0] := by
  refine ⟨.inr (by simp), by simp, ?_, fun j hj => absurd hj (Nat.not_lt_zero j)⟩
  intro s hs
  have e : s = b0 := by simpa using hs
  subst e
  exact ⟨rfl, Nat.le_refl _, hb⟩
theorem Srch.step {k : Nat} {seen now : List Nat} (S : Srch h b0 k seen now) : Srch h b0 (k + 1) (seen ++ now) ((h.step now).filter fun b => !((seen ++ now).contains b)) := by
  have mem : ∀ x, x ∈ (h.step now).filter (fun b => !((seen ++ now).contains b)) ↔ (∃ b, b ∈ now ∧ ∃ i, i < h.stock.length ∧ x = nxt h b i) ∧ x ∉ seen ++ now := by
    intro x
    rw [List.mem_filter, mem_step]
    simp
  have e' : ∀ j, j < k + 1 → ∀ s, Path h.stock.length (nxt h) j b0 s → s ∈ seen ++ now := by
    intro j hj s hp
    by_cases q : j < k
    · exact List.mem_append_left _ (S.e j q s hp)
    · have q : j = k := by omega
      subst q
      cases j with
      | zero =>
        cases hp
        rcases S.a with a | a
        · exact List.mem_append_left _ a
        · exact List.mem_append_right _ a
      | succ j =>
        obtain ⟨t, h1, i, hi, e⟩ := hp
        subst e
        rcases S.b t (S.e j (Nat.lt_succ_self j) t h1) i hi with z | z
        · exact List.mem_append_left _ z
        · exact List.mem_append_right _ z
  refine ⟨?_, ?_, ?_, e'⟩
  · left
    rcases S.a with a | a
    · exact List.mem_append_left _ a
    · exact List.mem_append_right _ a
  · intro s hs i hi
    by_cases q : nxt h s i ∈ seen ++ now
    · exact .inl q
    · right
      rw [mem]
      refine ⟨?_, q⟩
      rw [List.mem_append] at hs
      rcases hs with hs | hs
      · exfalso
        apply q
        rcases S.b s hs i hi with z | z
        · exact List.mem_append_left _ z
        · exact List.mem_append_right _ z
      · exact ⟨s, hs, i, hi, rfl⟩
  · intro s hs
    rw [mem] at hs
    obtain ⟨⟨b, hb, i, hi, e⟩, hn⟩ := hs
    obtain ⟨p, c, lt⟩ := S.d b hb
    have lt2 : s < 256 := by rw [e]; exact Nat.lt_of_le_of_lt (next_le _ _ _) lt
    have ps := pc_sub 8 s b lt2 lt (by rw [e]; exact next_sub _ _ _)
    have ne : ¬ pc 8 s = pc 8 b := fun q => hn (by rw [ps.2 q]; exact List.mem_append_right _ hb)
    exact ⟨⟨b, p, i, hi, e⟩, by omega, lt2⟩
theorem Srch.closed {k : Nat} {seen : List Nat} (S : Srch h b0 k seen []) : ∀ j s, Path h.stock.length (nxt h) j b0 s → s ∈ seen := by
  intro j
  induction j with
  | zero =>
    intro s hp
    cases hp
    rcases S.a with a | a
    · exact a
    · cases a
  | succ j ih =>
    rintro s ⟨t, h1, i, hi, e⟩
    subst e
    rcases S.b t (ih t h1) i hi with z | z
    · exact z
    · cases z
theorem search_ok : ∀ (fuel k : Nat) (seen now : List Nat), fuel + k = 10 → Srch h b0 k seen now → (∀ s ∈ seen, f s = false) →
    (∀ r, h.search f fuel k seen now = some r → IsD h.stock.length (nxt h) f b0 r) ∧ (h.search f fuel k seen now = none → ∀ j, hit h.stock.length (nxt h) f j b0 = false)
  | 0, k, seen, now, hk, S, hf => by
    refine ⟨fun r e => (by cases e), fun _ j => ?_⟩
    have hn : now = [] := by
      cases now with
      | nil => rfl
      | cons x l =>
        have := (S.d x (by simp)).2.1
        have := pc_le 8 b0
        omega
    subst hn
    cases q : hit h.stock.length (nxt h) f j b0 with
    | false => rfl
    | true =>
      obtain ⟨s, hp, hs⟩ := hit_path.mp q
      rw [hf s (S.closed j s hp)] at hs
      cases hs
  | fuel + 1, k, seen, now, hk, S, hf => by
    unfold Krc9.House.search
    by_cases q : now.any f = true
    · rw [if_pos q]
      refine ⟨fun r e => ?_, fun e => (by cases e)⟩
      cases e
      obtain ⟨s, hs, fs⟩ := List.any_eq_true.mp q
      refine ⟨hit_path.mpr ⟨s, (S.d s hs).1, fs⟩, fun j hj => ?_⟩
      cases q2 : hit h.stock.length (nxt h) f j b0 with
      | false => rfl
      | true =>
        obtain ⟨s, hp, hs⟩ := hit_path.mp q2
        rw [hf s (S.e j hj s hp)] at hs
        cases hs
    · rw [if_neg q]
      have hf2 : ∀ s ∈ seen ++ now, f s = false := by
        intro s hs
        rw [List.mem_append] at hs
        rcases hs with hs | hs
        · exact hf s hs
        · cases q2 : f s with
          | false => rfl
          | true => exact absurd (List.any_eq_true.mpr ⟨s, hs, q2⟩) q
      by_cases q3 : now = []
      · rw [if_pos q3]
        subst q3
        refine ⟨fun r e => (by cases e), fun _ j => ?_⟩
        cases q : hit h.stock.length (nxt h) f j b0 with
        | false => rfl
        | true =>
          obtain ⟨s, hp, hs⟩ := hit_path.mp q
          rw [hf s (S.closed j s hp)] at hs
          cases hs
      · rw [if_neg q3]
        exact search_ok fuel (k + 1) _ _ (by omega) S.step hf2
theorem soonest_some (hb : b0 < 256) {r : Nat} : h.soonest f b0 = some r ↔ IsD h.stock.length (nxt h) f b0 r := by
  have z := search_ok (f := f) 10 0 [] [b0] rfl (Srch.start (h := h) hb) (by simp)
  constructor
  · exact z.1 r
  · intro d
    cases e : h.soonest f b0 with
    | none =>
      have q := d.1
      rw [z.2 e r] at q
      cases q
    | some r' => rw [(z.1 r' e).uniq d]
theorem soonest_none (hb : b0 < 256) : h.soonest f b0 = none ↔ ∀ j, hit h.stock.length (nxt h) f j b0 = false := by
  have z := search_ok (f := f) 10 0 [] [b0] rfl (Srch.start (h := h) hb) (by simp)
  constructor
  · exact z.2
  · intro d
    cases e : h.soonest f b0 with
    | none => rfl
    | some r' =>
      have q := (z.1 r' e).1
      rw [d] at q
      cases q
end
theorem way_of (h : Krc9.House) (f : Nat → Bool) (k b : Nat) (hb : b < 256) (hD : IsD h.stock.length (nxt h) f b (k + 1)) :
    ∃ i, i < h.stock.length ∧ IsD h.stock.length (nxt h) f (nxt h b i) k ∧ (∀ j, j < i → ¬ IsD h.stock.length (nxt h) f (nxt h b j) k) ∧ h.way f (k + 1) b = i :: h.way f k (nxt h b i) := by
  have lt : ∀ i, nxt h b i < 256 := fun i => Nat.lt_of_le_of_lt (next_le _ _ _) hb
  show ∃ i, _ ∧ _ ∧ _ ∧ (match (List.range h.stock.length).find? fun i => h.soonest f (h.next b (h.stock.getD i 0)) == some k with
    | none => []
    | some i => i :: h.way f k (h.next b (h.stock.getD i 0))) = _
  cases e : (List.range h.stock.length).find? fun i => h.soonest f (h.next b (h.stock.getD i 0)) == some k with
  | none =>
    exfalso
    obtain ⟨i, hi, hd⟩ := hD.next
    have q := List.find?_eq_none.mp e i (List.mem_range.mpr hi)
    rw [show h.soonest f (h.next b (h.stock.getD i 0)) = some k from (soonest_some (lt i)).mpr hd] at q
    simp at q
  | some i =>
    have hi := List.mem_range.mp (List.mem_of_find?_eq_some e)
    have hp := List.find?_some e
    have hd := (soonest_some (lt i)).mp (eq_of_beq hp)
    refine ⟨i, hi, hd, fun j hj hdj => ?_, rfl⟩
    have := (List.find?_range_eq_some.mp e).2.2 j hj
    rw [show h.soonest f (h.next b (h.stock.getD j 0)) = some k from (soonest_some (lt j)).mpr hdj] at this
    simp at this
def wy (n : Nat) (nx : Nat → Nat → Nat) (f : Nat → Bool) : Nat → Nat → List Nat
  | 0, _ => []
  | k + 1, b => match (List.range n).find? fun i => hit n nx f k (nx b i) && (List.range k).all fun j => !hit n nx f j (nx b i) with
    | none => []
    | some i => i :: wy n nx f k (nx b i)
theorem isD_dec {n : Nat} {nx : Nat → Nat → Nat} {f : Nat → Bool} {k b : Nat} : (hit n nx f k b && (List.range k).all fun j => !hit n nx f j b) = true ↔ IsD n nx f b k := by
  rw [Bool.and_eq_true, List.all_eq_true]
  unfold IsD
  simp
theorem wayOf_wy (n : Nat) (nx : Nat → Nat → Nat) (f : Nat → Bool) : WayOf n nx f (wy n nx f) := by
  refine ⟨fun _ => rfl, fun k b hD => ?_⟩
  show ∃ i, _ ∧ _ ∧ _ ∧ (match (List.range n).find? fun i => hit n nx f k (nx b i) && (List.range k).all fun j => !hit n nx f j (nx b i) with
    | none => []
    | some i => i :: wy n nx f k (nx b i)) = _
  cases e : (List.range n).find? fun i => hit n nx f k (nx b i) && (List.range k).all fun j => !hit n nx f j (nx b i) with
  | none =>
    exfalso
    obtain ⟨i, hi, hd⟩ := hD.next
    exact List.find?_eq_none.mp e i (List.mem_range.mpr hi) (isD_dec.mpr hd)
  | some i =>
    have hp := List.find?_some e
    refine ⟨i, List.mem_range.mp (List.mem_of_find?_eq_some e), isD_dec.mp hp, fun j hj hdj => ?_, rfl⟩
    have := (List.find?_range_eq_some.mp e).2.2 j hj
    rw [isD_dec.mpr hdj] at this
    cases this
theorem WayOf.uniq {n : Nat} {nx : Nat → Nat → Nat} {f : Nat → Bool} {w1 : Nat → Nat → List Nat} (W : WayOf n nx f w1) {i j k b : Nat} (h1 : IsD n nx f (nx b i) k) (h2 : ∀ j, j < i → ¬ IsD n nx f (nx b j) k) (g1 : IsD n nx f (nx b j) k) (g2 : ∀ i, i < j → ¬ IsD n nx f (nx b i) k) : i = j := by
  rcases Nat.lt_trichotomy i j with q | q | q
  · exact absurd h1 (g2 i q)
  · exact q
  · exact absurd g1 (h2 j q)
theorem way_wy (h : Krc9.House) (f : Nat → Bool) : ∀ k b, b < 256 → IsD h.stock.length (nxt h) f b k → h.way f k b = wy h.stock.length (nxt h) f k b
  | 0, _, _, _ => rfl
  | k + 1, b, hb, hD => by
    obtain ⟨i, hi, h1, h2, e1⟩ := way_of h f k b hb hD
    obtain ⟨j, hj, g1, g2, e2⟩ := (wayOf_wy h.stock.length (nxt h) f).succ k b hD
    have e := (wayOf_wy h.stock.length (nxt h) f).uniq h1 h2 g1 g2
    subst e
    rw [e1, e2, way_wy h f k _ (Nat.lt_of_le_of_lt (next_le _ _ _) hb) h1]
section
variable {h : Krc9.House} {b0 : Nat}
theorem spread_ok : ∀ (fuel k : Nat) (seen now : List Nat), fuel + k = 10 → Srch h b0 k seen now → (∀ s ∈ seen, ∃ j, Path h.stock.length (nxt h) j b0 s) → ∀ x, x ∈ h.spread fuel seen now ↔ ∃ j, Path h.stock.length (nxt h) j b0 x
  | 0, k, seen, now, hk, S, hf, x => by
    have hn : now = [] := by
      cases now with
      | nil => rfl
      | cons x l =>
        have := (S.d x (by simp)).2.1
        have := pc_le 8 b0
        omega
    subst hn
    exact ⟨hf x, fun ⟨j, p⟩ => S.closed j x p⟩
  | fuel + 1, k, seen, now, hk, S, hf, x => by
    unfold Krc9.House.spread
    by_cases q : now = []
    · rw [if_pos q]
      subst q
      exact ⟨hf x, fun ⟨j, p⟩ => S.closed j x p⟩
    · rw [if_neg q]
      refine spread_ok fuel (k + 1) _ _ (by omega) S.step (fun s hs => ?_) x
      rw [List.mem_append] at hs
      rcases hs with hs | hs
      · exact hf s hs
      · exact ⟨k, (S.d s hs).1⟩
end
theorem path_le (h : Krc9.House) : ∀ {j b s}, Path h.stock.length (nxt h) j b s → s ≤ b
  | 0, b, s, e => by cases e; exact Nat.le_refl _
  | j + 1, b, s, ⟨t, p, i, hi, e⟩ => by
    subst e
    exact Nat.le_trans (next_le _ _ _) (path_le h p)
theorem reach_len {h : Krc9.House} (hb : h.stands < 256) (hF : h.stands ≤ full h.m) {l : List Nat} (nd : l.Nodup) (hl : ∀ x, x ∈ l ↔ ∃ j, Path h.stock.length (nxt h) j h.stands x) : h.reach.length = l.length := by
  have nd2 : h.reach.Nodup := by
    unfold Krc9.House.reach Krc9.House.ps
    exact List.nodup_range.sublist List.filter_sublist
  have mem : ∀ x, x ∈ h.reach ↔ x ∈ l := by
    intro x
    unfold Krc9.House.reach Krc9.House.ps
    rw [List.mem_filter, hl]
    have sp := spread_ok 10 0 [] [h.stands] rfl (Srch.start (h := h) hb) (by simp) x
    constructor
    · rintro ⟨_, q⟩
      exact sp.mp (by simpa using q)
    · rintro ⟨j, p⟩
      exact ⟨List.mem_range.mpr (by have := path_le h p; omega), by simpa using sp.mpr ⟨j, p⟩⟩
  exact ((List.perm_ext_iff_of_nodup nd2 nd).mpr mem).length_eq
end DM
namespace DY
open PySem PySem.Spec PyProof.Rows L2 DX DM
open Krb7 (full)
def top (i : Nat) : Stmt := PySem.Challenge.pw_disputation_s01_answers.main.body.getD i (.Pass ⟨0, 0, 0, 0⟩)
abbrev st_always : Stmt := top 9
theorem sc_always : FnScope ["letters"] ["letters"] (defScope st_always) := fsc
abbrev st_is_proposition : Stmt := top 10
theorem sc_is_proposition : FnScope ["letters", "p"] ["letters", "p"] (defScope st_is_proposition) := fsc
abbrev st_letter_is_so : Stmt := top 11
theorem sc_letter_is_so : FnScope ["letters", "i"] ["letters", "i"] (defScope st_letter_is_so) := fsc
abbrev st_not_so : Stmt := top 12
theorem sc_not_so : FnScope ["letters", "p"] ["letters", "p"] (defScope st_not_so) := fsc
abbrev st_how_many : Stmt := top 13
theorem sc_how_many : FnScope ["worlds", "found", "rest"] ["worlds"] (defScope st_how_many) := fsc
abbrev st_so_in_all : Stmt := top 14
theorem sc_so_in_all : FnScope ["worlds", "p"] ["worlds", "p"] (defScope st_so_in_all) := fsc
abbrev st_so_in_none : Stmt := top 15
theorem sc_so_in_none : FnScope ["worlds", "p"] ["worlds", "p"] (defScope st_so_in_none) := fsc
abbrev st_bearing : Stmt := top 16
theorem sc_bearing : FnScope ["worlds", "p"] ["worlds", "p"] (defScope st_bearing) := fsc
abbrev st_answer_by_known : Stmt := top 17
theorem sc_answer_by_known : FnScope ["known", "p"] ["known", "p"] (defScope st_answer_by_known) := fsc
abbrev st_right_by : Stmt := top 18
theorem sc_right_by : FnScope ["worlds", "known", "p", "found"] ["worlds", "known", "p"] (defScope st_right_by) := fsc
abbrev st_narrowed : Stmt := top 19
theorem sc_narrowed : FnScope ["stands", "p", "answer"] ["stands", "p", "answer"] (defScope st_narrowed) := fsc
abbrev st_State_init : Stmt := inClass (top 22) 0
theorem sc_State_init : FnScope ["self", "letters", "known"] ["self", "letters", "known"] (defScope st_State_init) := fsc
abbrev st_State_twin : Stmt := inClass (top 22) 1
theorem sc_State_twin : FnScope ["self", "other"] ["self"] (defScope st_State_twin) := fsc
abbrev st_takes : Stmt := top 23
theorem sc_takes : FnScope ["state", "p"] ["state", "p"] (defScope st_takes) := fsc
abbrev st_takes_all : Stmt := top 24
theorem sc_takes_all : FnScope ["state", "propositions", "p"] ["state", "propositions"] (defScope st_takes_all) := fsc
abbrev st_all_propositions : Stmt := top 25
theorem sc_all_propositions : FnScope ["state"] ["state"] (defScope st_all_propositions) := fsc
abbrev st_none_laid : Stmt := top 26
theorem sc_none_laid : FnScope ["state"] ["state"] (defScope st_none_laid) := fsc
abbrev st_answered_by : Stmt := top 27
theorem sc_answered_by : FnScope ["state", "stands"] ["state", "stands"] (defScope st_answered_by) := fsc
abbrev st_right_while : Stmt := top 28
theorem sc_right_while : FnScope ["state", "stands", "p"] ["state", "stands", "p"] (defScope st_right_while) := fsc
abbrev st_stands_after_right : Stmt := top 29
theorem sc_stands_after_right : FnScope ["state", "stands", "p"] ["state", "stands", "p"] (defScope st_stands_after_right) := fsc
abbrev st_stands_behind : Stmt := top 30
theorem sc_stands_behind : FnScope ["state", "many", "stands", "p", "answer"] ["state", "many"] (defScope st_stands_behind) := fsc
abbrev st_stands_now : Stmt := top 31
theorem sc_stands_now : FnScope ["state"] ["state"] (defScope st_stands_now) := fsc
abbrev st_right_answer : Stmt := top 33
theorem sc_right_answer : FnScope ["state", "i"] ["state", "i"] (defScope st_right_answer) := fsc
abbrev st_is_bad : Stmt := top 34
theorem sc_is_bad : FnScope ["state", "i"] ["state", "i"] (defScope st_is_bad) := fsc
abbrev st_bad_answers : Stmt := top 35
theorem sc_bad_answers : FnScope ["state", "i"] ["state"] (defScope st_bad_answers) := fsc
abbrev st_all_is_right : Stmt := top 36
theorem sc_all_is_right : FnScope ["state", "stands", "p", "answer"] ["state"] (defScope st_all_is_right) := fsc
abbrev st_is_caught : Stmt := top 37
theorem sc_is_caught : FnScope ["state"] ["state"] (defScope st_is_caught) := fsc
abbrev st_caught_behind : Stmt := top 38
theorem sc_caught_behind : FnScope ["state", "many"] ["state"] (defScope st_caught_behind) := fsc
abbrev st_verdict_on : Stmt := top 39
theorem sc_verdict_on : FnScope ["state", "caught"] ["state"] (defScope st_verdict_on) := fsc
abbrev st_mended_answers : Stmt := top 40
theorem sc_mended_answers : FnScope ["state", "mended", "stands", "p", "answer"] ["state"] (defScope st_mended_answers) := fsc
abbrev st_bad_by_other_rule : Stmt := top 41
theorem sc_bad_by_other_rule : FnScope ["state", "tried"] ["state"] (defScope st_bad_by_other_rule) := fsc
abbrev st_sets_of_answers : Stmt := top 42
theorem sc_sets_of_answers : FnScope ["many", "sets", "i", "found"] ["many"] (defScope st_sets_of_answers) := fsc
abbrev st_fewest_to_strike : Stmt := top 43
theorem sc_fewest_to_strike : FnScope ["state", "tried", "fewest", "struck", "i"] ["state"] (defScope st_fewest_to_strike) := fsc
abbrev st_right_if_laid : Stmt := top 44
theorem sc_right_if_laid : FnScope ["state", "tried", "found", "p"] ["state"] (defScope st_right_if_laid) := fsc
abbrev st_right_if_known : Stmt := top 45
theorem sc_right_if_known : FnScope ["state", "tried", "found", "k"] ["state"] (defScope st_right_if_known) := fsc
abbrev st_answer_by_laid : Stmt := top 46
theorem sc_answer_by_laid : FnScope ["state", "p"] ["state", "p"] (defScope st_answer_by_laid) := fsc
abbrev st_do_clash : Stmt := top 47
theorem sc_do_clash : FnScope ["state", "p", "q"] ["state", "p", "q"] (defScope st_do_clash) := fsc
abbrev st_clashing_pairs : Stmt := top 48
theorem sc_clashing_pairs : FnScope ["state", "found", "p", "conceded", "i", "q"] ["state"] (defScope st_clashing_pairs) := fsc
abbrev st_first_row : Stmt := top 58
theorem sc_first_row : FnScope ["state", "t", "wanted", "now", "q"] ["state", "t", "wanted"] (defScope st_first_row) := fsc
abbrev st_can_be_conceded : Stmt := top 59
theorem sc_can_be_conceded : FnScope ["state", "t", "now"] ["state", "t"] (defScope st_can_be_conceded) := fsc
abbrev st_stock_rows : Stmt := top 60
theorem sc_stock_rows : FnScope ["state", "rows", "reached", "at", "place", "q", "then"] ["state"] (defScope st_stock_rows) := fsc
abbrev st_first_stock_row : Stmt := top 61
theorem sc_first_stock_row : FnScope ["state", "t", "wanted", "stands", "places"] ["state", "t", "wanted"] (defScope st_first_stock_row) := fsc
abbrev st_reached_by_rule_0 : Stmt := top 62
theorem sc_reached_by_rule_0 : FnScope ["state", "tried"] ["state"] (defScope st_reached_by_rule_0) := fsc
abbrev st_rule : Stmt := top 65
theorem sc_rule : FnScope ["state", "numbers", "former"] ["state", "numbers"] (defScope st_rule) := fsc
abbrev st_lay : Stmt := top 66
theorem sc_lay : FnScope ["state", "numbers", "p"] ["state", "numbers"] (defScope st_lay) := fsc
abbrev st_propose : Stmt := top 67
theorem sc_propose : FnScope ["state", "numbers", "p", "stands", "answer"] ["state", "numbers"] (defScope st_propose) := fsc
abbrev st_answer_so : Stmt := top 68
theorem sc_answer_so : FnScope ["state", "numbers", "p", "answer", "right"] ["state", "numbers"] (defScope st_answer_so) := fsc
abbrev st_press : Stmt := top 69
theorem sc_press : FnScope ["state", "numbers", "t", "found", "p"] ["state", "numbers"] (defScope st_press) := fsc
abbrev st_strike : Stmt := top 70
theorem sc_strike : FnScope ["state", "numbers", "i"] ["state", "numbers"] (defScope st_strike) := fsc
abbrev st_amend : Stmt := top 71
theorem sc_amend : FnScope ["state", "numbers", "i", "answer", "former"] ["state", "numbers"] (defScope st_amend) := fsc
abbrev st_learn : Stmt := top 72
theorem sc_learn : FnScope ["state", "numbers", "known"] ["state", "numbers"] (defScope st_learn) := fsc
abbrev st_stock : Stmt := top 73
theorem sc_stock : FnScope ["state", "numbers"] ["state", "numbers"] (defScope st_stock) := fsc
abbrev st_finish : Stmt := top 74
theorem sc_finish : FnScope ["state", "numbers", "bad", "told"] ["state", "numbers"] (defScope st_finish) := fsc
abbrev st_is_change : Stmt := top 76
theorem sc_is_change : FnScope ["number"] ["number"] (defScope st_is_change) := fsc
abbrev st_make_change : Stmt := top 77
theorem sc_make_change : FnScope ["state", "number", "numbers", "change"] ["state", "number", "numbers"] (defScope st_make_change) := fsc
abbrev st_right : Stmt := top 80
theorem sc_right : FnScope ["state", "numbers", "p", "stands"] ["state", "numbers"] (defScope st_right) := fsc
abbrev st_row : Stmt := top 81
theorem sc_row : FnScope ["state", "numbers", "told", "stands", "p"] ["state", "numbers"] (defScope st_row) := fsc
abbrev st_stands_told : Stmt := top 82
theorem sc_stands_told : FnScope ["state", "numbers", "stands"] ["state", "numbers"] (defScope st_stands_told) := fsc
abbrev st_log : Stmt := top 83
theorem sc_log : FnScope ["state", "numbers", "i", "pair"] ["state", "numbers"] (defScope st_log) := fsc
abbrev st_row_told : Stmt := top 84
theorem sc_row_told : FnScope ["state", "t", "wanted", "found"] ["state", "t", "wanted"] (defScope st_row_told) := fsc
abbrev st_concede : Stmt := top 85
theorem sc_concede : FnScope ["state", "numbers"] ["state", "numbers"] (defScope st_concede) := fsc
abbrev st_deny : Stmt := top 86
theorem sc_deny : FnScope ["state", "numbers"] ["state", "numbers"] (defScope st_deny) := fsc
abbrev st_may : Stmt := top 87
theorem sc_may : FnScope ["state", "numbers", "t", "told", "wanted", "counts"] ["state", "numbers"] (defScope st_may) := fsc
abbrev st_false : Stmt := top 88
theorem sc_false : FnScope ["state", "numbers", "p", "known_false"] ["state", "numbers"] (defScope st_false) := fsc
abbrev st_from_stock : Stmt := top 89
theorem sc_from_stock : FnScope ["state", "numbers", "wanted", "t", "found"] ["state", "numbers"] (defScope st_from_stock) := fsc
abbrev st_reach : Stmt := top 90
theorem sc_reach : FnScope ["state", "numbers"] ["state", "numbers"] (defScope st_reach) := fsc
abbrev st_ask : Stmt := top 92
theorem sc_ask : FnScope ["state", "number", "numbers", "question"] ["state", "number", "numbers"] (defScope st_ask) := fsc
abbrev st_letter : Stmt := top 94
theorem sc_letter : FnScope ["state", "numbers"] ["state", "numbers"] (defScope st_letter) := fsc
abbrev st_not_of : Stmt := top 95
theorem sc_not_of : FnScope ["state", "numbers"] ["state", "numbers"] (defScope st_not_of) := fsc
abbrev st_both : Stmt := top 96
theorem sc_both : FnScope ["state", "numbers"] ["state", "numbers"] (defScope st_both) := fsc
abbrev st_either : Stmt := top 97
theorem sc_either : FnScope ["state", "numbers"] ["state", "numbers"] (defScope st_either) := fsc
abbrev st_if_then : Stmt := top 98
theorem sc_if_then : FnScope ["state", "numbers"] ["state", "numbers"] (defScope st_if_then) := fsc
abbrev st_sums : Stmt := top 99
theorem sc_sums : FnScope ["state", "numbers", "pair", "caught", "bad"] ["state", "numbers"] (defScope st_sums) := fsc
abbrev st_is_reckoned : Stmt := top 101
theorem sc_is_reckoned : FnScope ["number"] ["number"] (defScope st_is_reckoned) := fsc
abbrev st_reckon : Stmt := top 102
theorem sc_reckon : FnScope ["state", "number", "numbers", "call"] ["state", "number", "numbers"] (defScope st_reckon) := fsc
abbrev st_counted : Stmt := top 105
theorem sc_counted : FnScope ["numbers"] ["numbers"] (defScope st_counted) := fsc
abbrev st_one_of : Stmt := top 106
theorem sc_one_of : FnScope ["found", "k"] ["found", "k"] (defScope st_one_of) := fsc
abbrev st_bad : Stmt := top 107
theorem sc_bad : FnScope ["state", "numbers"] ["state", "numbers"] (defScope st_bad) := fsc
abbrev st_first : Stmt := top 108
theorem sc_first : FnScope ["state", "numbers", "found"] ["state", "numbers"] (defScope st_first) := fsc
abbrev st_caught : Stmt := top 109
theorem sc_caught : FnScope ["state", "numbers"] ["state", "numbers"] (defScope st_caught) := fsc
abbrev st_mended : Stmt := top 110
theorem sc_mended : FnScope ["state", "numbers"] ["state", "numbers"] (defScope st_mended) := fsc
abbrev st_least : Stmt := top 111
theorem sc_least : FnScope ["state", "numbers"] ["state", "numbers"] (defScope st_least) := fsc
abbrev st_laids : Stmt := top 112
theorem sc_laids : FnScope ["state", "numbers"] ["state", "numbers"] (defScope st_laids) := fsc
abbrev st_laid : Stmt := top 113
theorem sc_laid : FnScope ["state", "numbers"] ["state", "numbers"] (defScope st_laid) := fsc
abbrev st_knowns : Stmt := top 114
theorem sc_knowns : FnScope ["state", "numbers"] ["state", "numbers"] (defScope st_knowns) := fsc
abbrev st_known : Stmt := top 115
theorem sc_known : FnScope ["state", "numbers"] ["state", "numbers"] (defScope st_known) := fsc
abbrev st_other : Stmt := top 116
theorem sc_other : FnScope ["state", "numbers"] ["state", "numbers"] (defScope st_other) := fsc
abbrev st_clash : Stmt := top 117
theorem sc_clash : FnScope ["state", "numbers"] ["state", "numbers"] (defScope st_clash) := fsc
abbrev st_clashes : Stmt := top 118
theorem sc_clashes : FnScope ["state", "numbers"] ["state", "numbers"] (defScope st_clashes) := fsc
abbrev st_verdict : Stmt := top 119
theorem sc_verdict : FnScope ["state", "numbers"] ["state", "numbers"] (defScope st_verdict) := fsc
abbrev st_is_verdict : Stmt := top 121
theorem sc_is_verdict : FnScope ["number"] ["number"] (defScope st_is_verdict) := fsc
abbrev st_judge : Stmt := top 122
theorem sc_judge : FnScope ["state", "number", "numbers", "call"] ["state", "number", "numbers"] (defScope st_judge) := fsc
abbrev st_Hall_init : Stmt := inClass (top 133) 0
theorem sc_Hall_init : FnScope ["self"] ["self"] (defScope st_Hall_init) := fsc
abbrev st_Hall_call : Stmt := inClass (top 133) 1
theorem sc_Hall_call : FnScope ["self", "number", "numbers"] ["self", "number", "numbers"] (defScope st_Hall_call) := fsc
abbrev st_Hall_begin : Stmt := inClass (top 133) 2
theorem sc_Hall_begin : FnScope ["self", "letters", "known"] ["self", "letters", "known"] (defScope st_Hall_begin) := fsc
abbrev st_Hall_change : Stmt := inClass (top 133) 3
theorem sc_Hall_change : FnScope ["self", "number", "numbers", "changed", "told"] ["self", "number", "numbers"] (defScope st_Hall_change) := fsc
abbrev st_Hall_back : Stmt := inClass (top 133) 4
theorem sc_Hall_back : FnScope ["self"] ["self"] (defScope st_Hall_back) := fsc
abbrev st_Hall_again : Stmt := inClass (top 133) 5
theorem sc_Hall_again : FnScope ["self"] ["self"] (defScope st_Hall_again) := fsc
abbrev st_Hall_told_state : Stmt := inClass (top 133) 6
theorem sc_Hall_told_state : FnScope ["self", "now", "told"] ["self"] (defScope st_Hall_told_state) := fsc
abbrev st_answers : Stmt := top 134
theorem sc_answers : FnScope ["calls", "held", "told", "at", "number", "start", "size", "answer"] ["calls"] (defScope st_answers) := fsc
structure ClsOk (K : PySem.W.Frag) (mg : Str → Option Value) (x : Str) (C : Addr) (vals : List Str) (meths : List (Str × Str × Stmt)) : Prop where
  cl : Cls K C
  no : ∀ f ∈ vals, NoAttr K C f
  mg : mg x = some (.ref C)
  makes : PySem.W.makesIn K C = true
  kp : PySem.W.keepIn K (.ref C) = true
  me : ∀ p ∈ meths, ∃ f fd, Fun K p.1 p.2.1 p.2.2 f fd ∧ PySem.W.findIn K (.ref C) p.1 = some (some (.ref f)) ∧ PySem.W.isFn K (.ref f) = true
structure Txt (K : PySem.W.Frag) (mg : Str → Option Value) (CS CH : Addr) : Prop where
  g_DENIED : GN mg "DENIED" 0
  g_CONCEDED : GN mg "CONCEDED" 1
  g_DOUBTED : GN mg "DOUBTED" 2
  g_NO_MATTER : GN mg "NO_MATTER" 0
  g_FOLLOWS : GN mg "FOLLOWS" 1
  g_AGAINST : GN mg "AGAINST" 2
  t_ALWAYS : GT K mg "ALWAYS" (([0, 3, 15, 255] : List Nat).map vn)
  t_LETTERS : GT K mg "LETTERS" (([170, 204, 240] : List Nat).map vn)
  g_MOST_ANSWERS : GN mg "MOST_ANSWERS" 8
  g_NO_SUCH : GI mg "NO_SUCH" (-2)
  g_NOTHING : GI mg "NOTHING" (-6)
  g_NOT_BEGUN : GI mg "NOT_BEGUN" (-11)
  g_LAID_DOWN : GI mg "LAID_DOWN" (-16)
  g_LAID_ALREADY : GI mg "LAID_ALREADY" (-17)
  g_WRONG : GI mg "WRONG" (-22)
  g_TOO_MANY : GI mg "TOO_MANY" (-28)
  g_CANNOT : GI mg "CANNOT" (-33)
  g_MOST_STOCK : GN mg "MOST_STOCK" 6
  d_CHANGES : KD K mg "CHANGES" [(1, "rule"), (2, "lay"), (3, "propose"), (4, "answer_so"), (5, "press"), (6, "strike"), (7, "amend"), (8, "learn"), (9, "stock"), (10, "finish")]
  g_MOST_IN_ROW : GN mg "MOST_IN_ROW" 8
  d_QUESTIONS : KD K mg "QUESTIONS" [(13, "right"), (14, "row"), (15, "stands_told"), (16, "log"), (17, "concede"), (18, "deny"), (19, "may"), (20, "false"), (21, "from_stock"), (22, "reach")]
  d_RECKONED : KD K mg "RECKONED" [(36, "letter"), (37, "not_of"), (38, "both"), (39, "either"), (40, "if_then"), (41, "sums")]
  g_CLASH : GN mg "CLASH" 33
  d_VERDICTS : KD K mg "VERDICTS" [(23, "bad"), (24, "first"), (25, "caught"), (26, "mended"), (27, "least"), (28, "laids"), (29, "laid"), (30, "knowns"), (31, "known"), (32, "other"), (33, "clash"), (34, "clashes"), (35, "verdict")]
  g_BEGIN : GN mg "BEGIN" 0
  g_STOCK : GN mg "STOCK" 9
  g_BACK : GN mg "BACK" 11
  g_AGAIN : GN mg "AGAIN" 12
  g_ROW : GN mg "ROW" 14
  g_STATE : GN mg "STATE" 42
  g_MOST_LETTERS : GN mg "MOST_LETTERS" 3
  g_MOST_TAKEN_BACK : GN mg "MOST_TAKEN_BACK" 20
  t_SIZES : GT K mg "SIZES" (([2, 1, 1, 1, 2, 1, 1, 2, 1, 0, 0, 0, 0, 1, 0, 0, 1, 1, 1, 1, 0, 2, 0, 0, 0, 0, 0, 0, 0, 1, 0, 1, 0, 2, 0, 0, 1, 1, 2, 2, 2, 0, 0] : List Nat).map vn)
  no_len : mg "len" = none
  no_range : mg "range" = none
  no_enumerate : mg "enumerate" = none
  no_list : mg "list" = none
  no_all : mg "all" = none
  no_any : mg "any" = none
  no_sum : mg "sum" = none
  no_zip : mg "zip" = none
  no_reversed : mg "reversed" = none
  f_always : Df K mg "always" st_always
  f_is_proposition : Df K mg "is_proposition" st_is_proposition
  f_letter_is_so : Df K mg "letter_is_so" st_letter_is_so
  f_not_so : Df K mg "not_so" st_not_so
  f_how_many : Df K mg "how_many" st_how_many
  f_so_in_all : Df K mg "so_in_all" st_so_in_all
  f_so_in_none : Df K mg "so_in_none" st_so_in_none
  f_bearing : Df K mg "bearing" st_bearing
  f_answer_by_known : Df K mg "answer_by_known" st_answer_by_known
  f_right_by : Df K mg "right_by" st_right_by
  f_narrowed : Df K mg "narrowed" st_narrowed
  f_takes : Df K mg "takes" st_takes
  f_takes_all : Df K mg "takes_all" st_takes_all
  f_all_propositions : Df K mg "all_propositions" st_all_propositions
  f_none_laid : Df K mg "none_laid" st_none_laid
  f_answered_by : Df K mg "answered_by" st_answered_by
  f_right_while : Df K mg "right_while" st_right_while
  f_stands_after_right : Df K mg "stands_after_right" st_stands_after_right
  f_stands_behind : Df K mg "stands_behind" st_stands_behind
  f_stands_now : Df K mg "stands_now" st_stands_now
  f_right_answer : Df K mg "right_answer" st_right_answer
  f_is_bad : Df K mg "is_bad" st_is_bad
  f_bad_answers : Df K mg "bad_answers" st_bad_answers
  f_all_is_right : Df K mg "all_is_right" st_all_is_right
  f_is_caught : Df K mg "is_caught" st_is_caught
  f_caught_behind : Df K mg "caught_behind" st_caught_behind
  f_verdict_on : Df K mg "verdict_on" st_verdict_on
  f_mended_answers : Df K mg "mended_answers" st_mended_answers
  f_bad_by_other_rule : Df K mg "bad_by_other_rule" st_bad_by_other_rule
  f_sets_of_answers : Df K mg "sets_of_answers" st_sets_of_answers
  f_fewest_to_strike : Df K mg "fewest_to_strike" st_fewest_to_strike
  f_right_if_laid : Df K mg "right_if_laid" st_right_if_laid
  f_right_if_known : Df K mg "right_if_known" st_right_if_known
  f_answer_by_laid : Df K mg "answer_by_laid" st_answer_by_laid
  f_do_clash : Df K mg "do_clash" st_do_clash
  f_clashing_pairs : Df K mg "clashing_pairs" st_clashing_pairs
  f_first_row : Df K mg "first_row" st_first_row
  f_can_be_conceded : Df K mg "can_be_conceded" st_can_be_conceded
  f_stock_rows : Df K mg "stock_rows" st_stock_rows
  f_first_stock_row : Df K mg "first_stock_row" st_first_stock_row
  f_reached_by_rule_0 : Df K mg "reached_by_rule_0" st_reached_by_rule_0
  f_rule : Df K mg "rule" st_rule
  f_lay : Df K mg "lay" st_lay
  f_propose : Df K mg "propose" st_propose
  f_answer_so : Df K mg "answer_so" st_answer_so
  f_press : Df K mg "press" st_press
  f_strike : Df K mg "strike" st_strike
  f_amend : Df K mg "amend" st_amend
  f_learn : Df K mg "learn" st_learn
  f_stock : Df K mg "stock" st_stock
  f_finish : Df K mg "finish" st_finish
  f_is_change : Df K mg "is_change" st_is_change
  f_make_change : Df K mg "make_change" st_make_change
  f_right : Df K mg "right" st_right
  f_row : Df K mg "row" st_row
  f_stands_told : Df K mg "stands_told" st_stands_told
  f_log : Df K mg "log" st_log
  f_row_told : Df K mg "row_told" st_row_told
  f_concede : Df K mg "concede" st_concede
  f_deny : Df K mg "deny" st_deny
  f_may : Df K mg "may" st_may
  f_false : Df K mg "false" st_false
  f_from_stock : Df K mg "from_stock" st_from_stock
  f_reach : Df K mg "reach" st_reach
  f_ask : Df K mg "ask" st_ask
  f_letter : Df K mg "letter" st_letter
  f_not_of : Df K mg "not_of" st_not_of
  f_both : Df K mg "both" st_both
  f_either : Df K mg "either" st_either
  f_if_then : Df K mg "if_then" st_if_then
  f_sums : Df K mg "sums" st_sums
  f_is_reckoned : Df K mg "is_reckoned" st_is_reckoned
  f_reckon : Df K mg "reckon" st_reckon
  f_counted : Df K mg "counted" st_counted
  f_one_of : Df K mg "one_of" st_one_of
  f_bad : Df K mg "bad" st_bad
  f_first : Df K mg "first" st_first
  f_caught : Df K mg "caught" st_caught
  f_mended : Df K mg "mended" st_mended
  f_least : Df K mg "least" st_least
  f_laids : Df K mg "laids" st_laids
  f_laid : Df K mg "laid" st_laid
  f_knowns : Df K mg "knowns" st_knowns
  f_known : Df K mg "known" st_known
  f_other : Df K mg "other" st_other
  f_clash : Df K mg "clash" st_clash
  f_clashes : Df K mg "clashes" st_clashes
  f_verdict : Df K mg "verdict" st_verdict
  f_is_verdict : Df K mg "is_verdict" st_is_verdict
  f_judge : Df K mg "judge" st_judge
  f_answers : Df K mg "answers" st_answers
  c_State : ClsOk K mg "State" CS ["letters", "known", "rule", "laid", "given", "stock", "ended"] [("__init__", "State.__init__", st_State_init), ("twin", "State.twin", st_State_twin)]
  c_Hall : ClsOk K mg "Hall" CH ["now", "earlier", "undone"] [("__init__", "Hall.__init__", st_Hall_init), ("call", "Hall.call", st_Hall_call), ("begin", "Hall.begin", st_Hall_begin), ("change", "Hall.change", st_Hall_change), ("back", "Hall.back", st_Hall_back), ("again", "Hall.again", st_Hall_again), ("told_state", "Hall.told_state", st_Hall_told_state)]
section
variable {P : Program} {w : World} {K : PySem.W.Frag} {mg : Str → Option Value} {base : Heap} {CS CH : Addr}
theorem full_at {m : Nat} (h1 : 1 ≤ m) (h3 : m ≤ 3) : atI (([0, 3, 15, 255] : List Nat).map vn) (m : Int) = some (vn (full m)) := by
  match m, h1, h3 with
  | 1, _, _ => rfl
  | 2, _, _ => rfl
  | 3, _, _ => rfl
def pAlways : V → Hp → VK → Prop := fun a H Q => ∃ m : Nat, a = vn m ∧ 1 ≤ m ∧ m ≤ 3 ∧ Q (vn (full m)) H
theorem ok_always (T : Txt K mg CS CH) : Ok P w K mg base 1 "always" ["letters"] (sp1 pAlways) := by
  refine ok1 T.f_always sc_always (fun _ _ _ _ _ _ _ => rfl) fun f cdv A outer s H a Q E hr h => ?_
  obtain ⟨m, rfl, h1, h3, q⟩ := h
  refine ⟨_, (pss_one (ps_ret (pe_ix ix_tup (pgt T.t_ALWAYS) (pv 0) (fun _ _ => rfl)))), ?_⟩
  exact fun t ht => ⟨_, rfl, t, _, _, _, rfl, rfl, ht _, full_at h1 h3, q⟩
def pIsProp : V → V → Hp → VK → Prop := fun a b H Q => ∃ m p : Nat, a = vn m ∧ b = vn p ∧ 1 ≤ m ∧ m ≤ 3 ∧ Q (.bl (decide (p ≤ full m))) H
theorem ok_is_proposition (T : Txt K mg CS CH) : Ok P w K mg base 1 "is_proposition" ["letters", "p"] (sp2 pIsProp) := by
  refine ok2 T.f_is_proposition sc_is_proposition (fun _ _ _ _ _ _ _ _ => rfl) fun f cdv A outer s H a b Q E hr h => ?_
  obtain ⟨m, p, rfl, rfl, h1, h3, q⟩ := h
  refine ⟨_, (pss_one (ps_ret (pe_cmpR on_le (pv 1) (pe_ix ix_tup (pgt T.t_ALWAYS) (pv 0) (fun _ _ => rfl)) (nomark _)))), ?_⟩
  exact ⟨_, rfl, fun t ht => ⟨_, rfl, t, _, _, _, rfl, rfl, ht _, full_at h1 h3, _, _, rfl, rfl, q⟩⟩
theorem letter_at {m i : Nat} (h1 : 1 ≤ m) (h3 : m ≤ 3) (hi : i < m) : ∃ a, atI (([170, 204, 240] : List Nat).map vn) (i : Int) = some (vn a) ∧ a &&& full m = Krb7.letter m i := by
  have all : ∀ m, m < 4 → ∀ i, i < m → ∃ a, ([170, 204, 240] : List Nat)[i]? = some a ∧ a &&& full m = Krb7.letter m i := by
    intro m hm i hi
    have : m = 0 ∨ m = 1 ∨ m = 2 ∨ m = 3 := by omega
    rcases this with rfl | rfl | rfl | rfl
    · omega
    · have : i = 0 := by omega
      subst this
      exact ⟨170, rfl, by decide +kernel⟩
    · have : i = 0 ∨ i = 1 := by omega
      rcases this with rfl | rfl
      · exact ⟨170, rfl, by decide +kernel⟩
      · exact ⟨204, rfl, by decide +kernel⟩
    · have : i = 0 ∨ i = 1 ∨ i = 2 := by omega
      rcases this with rfl | rfl | rfl
      · exact ⟨170, rfl, by decide +kernel⟩
      · exact ⟨204, rfl, by decide +kernel⟩
      · exact ⟨240, rfl, by decide +kernel⟩
  obtain ⟨a, h, e⟩ := all m (by omega) i hi
  exact ⟨a, atI_nat (by rw [List.getElem?_map, h]; rfl), e⟩
def pLetter : V → V → Hp → VK → Prop := fun a b H Q => ∃ m i : Nat, a = vn m ∧ b = vn i ∧ 1 ≤ m ∧ m ≤ 3 ∧ i < m ∧ Q (vn (Krb7.letter m i)) H
theorem ok_letter_is_so (T : Txt K mg CS CH) : Ok P w K mg base 1 "letter_is_so" ["letters", "i"] (sp2 pLetter) := by
  refine ok2 T.f_letter_is_so sc_letter_is_so (fun _ _ _ _ _ _ _ _ => rfl) fun f cdv A outer s H a b Q E hr h => ?_
  obtain ⟨m, i, rfl, rfl, h1, h3, hi, q⟩ := h
  obtain ⟨z, hz, e⟩ := letter_at h1 h3 hi
  refine ⟨_, (pss_one (ps_ret (pe_op on_and (pe_ix ix_tup (pgt T.t_LETTERS) (pv 1) (fun _ _ => rfl)) (pe_ix ix_tup (pgt T.t_ALWAYS) (pv 0) (fun _ _ => rfl))))), ?_⟩
  refine fun t ht => ⟨_, rfl, t, _, _, _, rfl, rfl, ht _, hz, fun t2 ht2 => ⟨_, rfl, t2, _, _, _, rfl, rfl, ht2 _, full_at h1 h3, _, _, rfl, rfl, ?_⟩⟩
  rw [← e] at q
  exact q
def pNotSo : V → V → Hp → VK → Prop := fun a b H Q => ∃ m p : Nat, a = vn m ∧ b = vn p ∧ 1 ≤ m ∧ m ≤ 3 ∧ p ≤ full m ∧ Q (vn (full m - p)) H
theorem ok_not_so (T : Txt K mg CS CH) : Ok P w K mg base 1 "not_so" ["letters", "p"] (sp2 pNotSo) := by
  refine ok2 T.f_not_so sc_not_so (fun _ _ _ _ _ _ _ _ => rfl) fun f cdv A outer s H a b Q E hr h => ?_
  obtain ⟨m, p, rfl, rfl, h1, h3, hp, q⟩ := h
  refine ⟨_, (pss_one (ps_ret (pe_op on_sub (pe_ix ix_tup (pgt T.t_ALWAYS) (pv 0) (fun _ _ => rfl)) (pv 1)))), ?_⟩
  exact fun t ht => ⟨_, rfl, t, _, _, _, rfl, rfl, ht _, full_at h1 h3, _, rfl, _, _, rfl, rfl, hp, q⟩
def msr (σ : L2.St) (i : Nat) : Nat := match σ[i]? with
  | some (some (V.int r)) => r.toNat
  | _ => 0
def pHow : V → Hp → VK → Prop := fun a H Q => ∃ n : Nat, a = vn n ∧ n < 256 ∧ Q (vn (pc 8 n)) H
theorem pc_zero : ∀ k, pc k 0 = 0
  | 0 => rfl
  | k + 1 => by
    show 0 % 2 + pc k (0 / 2) = 0
    rw [show 0 / 2 = 0 from rfl, pc_zero k]
theorem pc_step {n : Nat} : ∀ {k : Nat}, n < 2 ^ k → 0 < n → pc k n = n % 2 + pc k (n / 2) := by
  intro k
  induction k generalizing n with
  | zero => intro h h0; simp at h; omega
  | succ k ih =>
    intro h h0
    show n % 2 + pc k (n / 2) = n % 2 + (n / 2 % 2 + pc k (n / 2 / 2))
    by_cases q : n / 2 = 0
    · rw [q]
      show _ = n % 2 + (0 % 2 + pc k (0 / 2))
      rw [show 0 / 2 = 0 from rfl, pc_zero]
    · rw [ih (n := n / 2) (by rw [Nat.pow_succ] at h; omega) (by omega)]
theorem ok_how_many (T : Txt K mg CS CH) : Ok P w K mg base 1 "how_many" ["worlds"] (sp1 pHow) := by
  refine ok1 T.f_how_many sc_how_many (fun _ _ _ _ _ _ _ => rfl) fun f cdv A outer s H a Q E hr h => ?_
  obtain ⟨n, rfl, hn, q⟩ := h
  refine ⟨_, (pss_cons (ps_set (i := 1) sc_how_many.nd rfl (Or.inl rfl) (pn 0))
      (pss_cons (ps_set (i := 2) sc_how_many.nd rfl (Or.inl rfl) (pv 0))
      (pss_cons (ps_while PassesOwn.never (pt_cmpR on_gt (pv 2) (pn 0) (nomark _))
      (pss_cons (ps_set (i := 1) sc_how_many.nd rfl (Or.inl rfl) (pe_op on_add (pv 1) (pe_op on_mod (pv 2) (pn 2))))
      (pss_one (ps_set (i := 2) sc_how_many.nd rfl (Or.inl rfl) (pe_op on_fdiv (pv 2) (pn 2))))))
      (pss_one (ps_ret (pv 1)))))), ?_⟩
  refine ⟨_, rfl, ?_⟩
  refine while_by (fun σ H' => H' = H ∧ ∃ c r : Nat, σ = [some (vn n), some (vn c), some (vn r)] ∧ r < 256 ∧ c + pc 8 r = pc 8 n) (fun σ _ => msr σ 2) ⟨rfl, 0, n, rfl, hn, by omega⟩ ?_ ?_
  · rintro σ H' ⟨rfl, c, r, rfl, hr, hc⟩
    refine ⟨_, rfl, _, _, rfl, rfl, _, rfl, ifD (fun h0 => ?_) fun h0 => ?_⟩
    · refine ⟨_, rfl, _, rfl, _, _, rfl, rfl, (by show 0 < 2; decide), _, _, rfl, rfl, _, rfl, _, _, rfl, rfl, (by show 0 < 2 ∧ 2 < 1073741824; decide), ⟨rfl, _, _, rfl, by omega, ?_⟩, ?_⟩
      · rw [pc_step (k := 8) hr h0] at hc
        omega
      · show ((r / 2 : Nat) : Int).toNat < ((r : Nat) : Int).toNat
        simp only [Int.toNat_natCast]
        omega
    · have e : r = 0 := by omega
      subst e
      rw [pc_zero] at hc
      have e : c = pc 8 n := by omega
      subst e
      exact ⟨_, rfl, q⟩
  · rintro σ H' Q1 Q2 hq ⟨v, e, a1, b1, e1, e2, k, e3, q3⟩
    exact ⟨v, e, a1, b1, e1, e2, k, e3, hq _ _ q3⟩
def pAll : V → V → Hp → VK → Prop := fun a b H Q => ∃ n p : Nat, a = vn n ∧ b = vn p ∧ Q (.bl (decide (n &&& p = n))) H
theorem ok_so_in_all (T : Txt K mg CS CH) : Ok P w K mg base 1 "so_in_all" ["worlds", "p"] (sp2 pAll) := by
  refine ok2 T.f_so_in_all sc_so_in_all (fun _ _ _ _ _ _ _ _ => rfl) fun f cdv A outer s H a b Q E hr h => ?_
  obtain ⟨n, p, rfl, rfl, q⟩ := h
  refine ⟨_, (pss_one (ps_ret (pe_cmpR on_eq (pe_op on_and (pv 0) (pv 1)) (pv 0) (nomark _)))), ?_⟩
  exact ⟨_, rfl, _, rfl, _, _, rfl, rfl, _, rfl, _, _, rfl, rfl, q⟩
def pNone : V → V → Hp → VK → Prop := fun a b H Q => ∃ n p : Nat, a = vn n ∧ b = vn p ∧ Q (.bl (decide (n &&& p = 0))) H
theorem ok_so_in_none (T : Txt K mg CS CH) : Ok P w K mg base 1 "so_in_none" ["worlds", "p"] (sp2 pNone) := by
  refine ok2 T.f_so_in_none sc_so_in_none (fun _ _ _ _ _ _ _ _ => rfl) fun f cdv A outer s H a b Q E hr h => ?_
  obtain ⟨n, p, rfl, rfl, q⟩ := h
  refine ⟨_, (pss_one (ps_ret (pe_cmpR on_eq (pe_op on_and (pv 0) (pv 1)) (pn 0) (nomark _)))), ?_⟩
  exact ⟨_, rfl, _, rfl, _, _, rfl, rfl, _, _, rfl, rfl, q⟩
def pBear : V → V → Hp → VK → Prop := fun a b H Q => ∃ n p : Nat, a = vn n ∧ b = vn p ∧ Q (vn (Krb7.why n p)) H
theorem ok_bearing (T : Txt K mg CS CH) : Ok P w K mg base 2 "bearing" ["worlds", "p"] (sp2 pBear) := by
  refine ok2 T.f_bearing sc_bearing (fun _ _ _ _ _ _ _ _ => rfl) fun f cdv A outer s H a b Q E hr h => ?_
  obtain ⟨n, p, rfl, rfl, q⟩ := h
  refine ⟨_, (pss_cons (ps_if (pt_val (pcall (ok_so_in_all T) hr (pa_cons (pv 0) (pa_cons (pv 1) pa_nil))))
      (pss_one (ps_ret (pgn T.g_FOLLOWS)))
      pss_nil)
      (pss_cons (ps_if (pt_val (pcall (ok_so_in_none T) hr (pa_cons (pv 0) (pa_cons (pv 1) pa_nil))))
      (pss_one (ps_ret (pgn T.g_AGAINST)))
      pss_nil)
      (pss_one (ps_ret (pgn T.g_NO_MATTER))))), ?_⟩
  unfold Krb7.why Krb7.within Krb7.both at q
  refine ⟨_, rfl, _, rfl, _, _, rfl, _, _, rfl, rfl, _, rfl, ifD (fun h1 => ?_) fun h1 => ?_⟩
  · rw [if_pos (by simpa using h1)] at q
    exact q
  · rw [if_neg (by simpa using h1)] at q
    refine ⟨_, rfl, _, rfl, _, _, rfl, _, _, rfl, rfl, _, rfl, ifD (fun h2 => ?_) fun h2 => ?_⟩
    · rw [if_pos h2] at q
      exact q
    · rw [if_neg h2] at q
      exact q
def pTruth : V → V → Hp → VK → Prop := fun a b H Q => ∃ n p : Nat, a = vn n ∧ b = vn p ∧ Q (vn (Krb7.truth n p)) H
theorem ok_answer_by_known (T : Txt K mg CS CH) : Ok P w K mg base 2 "answer_by_known" ["known", "p"] (sp2 pTruth) := by
  refine ok2 T.f_answer_by_known sc_answer_by_known (fun _ _ _ _ _ _ _ _ => rfl) fun f cdv A outer s H a b Q E hr h => ?_
  obtain ⟨n, p, rfl, rfl, q⟩ := h
  refine ⟨_, (pss_cons (ps_if (pt_val (pcall (ok_so_in_all T) hr (pa_cons (pv 0) (pa_cons (pv 1) pa_nil))))
      (pss_one (ps_ret (pgn T.g_CONCEDED)))
      pss_nil)
      (pss_cons (ps_if (pt_val (pcall (ok_so_in_none T) hr (pa_cons (pv 0) (pa_cons (pv 1) pa_nil))))
      (pss_one (ps_ret (pgn T.g_DENIED)))
      pss_nil)
      (pss_one (ps_ret (pgn T.g_DOUBTED))))), ?_⟩
  unfold Krb7.truth Krb7.within Krb7.both at q
  refine ⟨_, rfl, _, rfl, _, _, rfl, _, _, rfl, rfl, _, rfl, ifD (fun h1 => ?_) fun h1 => ?_⟩
  · rw [if_pos (by simpa using h1)] at q
    exact q
  · rw [if_neg (by simpa using h1)] at q
    refine ⟨_, rfl, _, rfl, _, _, rfl, _, _, rfl, rfl, _, rfl, ifD (fun h2 => ?_) fun h2 => ?_⟩
    · rw [if_pos h2] at q
      exact q
    · rw [if_neg h2] at q
      exact q
def pRightBy : V → V → V → Hp → VK → Prop := fun a b c H Q => ∃ n k p : Nat, a = vn n ∧ b = vn k ∧ c = vn p ∧ Q (vn (Krb7.right k n p)) H
theorem ok_right_by (T : Txt K mg CS CH) : Ok P w K mg base 3 "right_by" ["worlds", "known", "p"] (sp3 pRightBy) := by
  refine ok3 T.f_right_by sc_right_by (fun _ _ _ _ _ _ _ _ _ => rfl) fun f cdv A outer s H a b c Q E hr h => ?_
  obtain ⟨n, k, p, rfl, rfl, rfl, q⟩ := h
  refine ⟨_, (pss_cons (ps_set (i := 3) sc_right_by.nd rfl (Or.inl rfl) (pcall (ok_bearing T) hr (pa_cons (pv 0) (pa_cons (pv 2) pa_nil))))
      (pss_cons (ps_if (pt_cmpR on_eq (pv 3) (pgn T.g_FOLLOWS) (nomark _))
      (pss_one (ps_ret (pgn T.g_CONCEDED)))
      pss_nil)
      (pss_cons (ps_if (pt_cmpR on_eq (pv 3) (pgn T.g_AGAINST) (nomark _))
      (pss_one (ps_ret (pgn T.g_DENIED)))
      pss_nil)
      (pss_one (ps_ret (pcall (ok_answer_by_known T) hr (pa_cons (pv 1) (pa_cons (pv 2) pa_nil)))))))), ?_⟩
  unfold Krb7.right at q
  refine ⟨_, rfl, _, rfl, _, _, rfl, _, _, rfl, rfl, ?_⟩
  unfold Krb7.why
  refine ⟨_, rfl, _, _, rfl, rfl, _, rfl, ifD (fun h1 => ?_) fun h1 => ?_⟩
  · have h : Krb7.within n p = true := by
      by_cases h : Krb7.within n p = true
      · exact h
      · rw [if_neg h] at h1
        split at h1 <;> omega
    rw [if_pos h] at q
    exact q
  · have h : ¬ Krb7.within n p = true := fun h => h1 (by rw [if_pos h])
    rw [if_neg h] at q h1
    refine ⟨_, rfl, _, _, rfl, rfl, _, rfl, ifD (fun h2 => ?_) fun h2 => ?_⟩
    · rw [if_neg h] at h2
      have h3 : Krb7.both n p = 0 := by
        by_cases h3 : Krb7.both n p = 0
        · exact h3
        · rw [if_neg h3] at h2
          cases h2
      rw [if_pos h3] at q
      exact q
    · rw [if_neg h] at h2
      have h3 : ¬ Krb7.both n p = 0 := fun h3 => h2 (by rw [if_pos h3])
      rw [if_neg h3] at q
      exact ⟨_, rfl, _, rfl, _, _, rfl, _, _, rfl, rfl, q⟩
def pNarrow : V → V → V → Hp → VK → Prop := fun a b c H Q => ∃ n p x : Nat, a = vn n ∧ b = vn p ∧ c = vn x ∧ Q (vn (nrw n p x)) H
theorem ok_narrowed (T : Txt K mg CS CH) : Ok P w K mg base 1 "narrowed" ["stands", "p", "answer"] (sp3 pNarrow) := by
  refine ok3 T.f_narrowed sc_narrowed (fun _ _ _ _ _ _ _ _ _ => rfl) fun f cdv A outer s H a b c Q E hr h => ?_
  obtain ⟨n, p, x, rfl, rfl, rfl, q⟩ := h
  refine ⟨_, (pss_cons (ps_if (pt_cmpR on_eq (pv 2) (pgn T.g_CONCEDED) (nomark _))
      (pss_one (ps_ret (pe_op on_and (pv 0) (pv 1))))
      pss_nil)
      (pss_cons (ps_if (pt_cmpR on_eq (pv 2) (pgn T.g_DENIED) (nomark _))
      (pss_one (ps_ret (pe_op on_sub (pv 0) (pe_op on_and (pv 0) (pv 1)))))
      pss_nil)
      (pss_one (ps_ret (pv 0))))), ?_⟩
  unfold nrw at q
  refine ⟨_, rfl, _, _, rfl, rfl, _, rfl, ifD (fun h1 => ?_) fun h1 => ?_⟩
  · rw [if_pos h1] at q
    exact ⟨_, rfl, _, rfl, _, _, rfl, rfl, q⟩
  · rw [if_neg h1] at q
    refine ⟨_, rfl, _, _, rfl, rfl, _, rfl, ifD (fun h2 => ?_) fun h2 => ?_⟩
    · rw [if_pos h2] at q
      exact ⟨_, rfl, _, rfl, _, rfl, _, _, rfl, rfl, _, _, rfl, rfl, Nat.and_le_left, q⟩
    · rw [if_neg h2] at q
      exact ⟨_, rfl, q⟩
end
end DY
namespace DY
open PySem PySem.Spec PyProof.Rows L2 DX DM
open Krb7 (full)
structure Rec where
  m : Nat
  known : Nat
  rule : Nat
  laid : Nat
  given : List (Nat × Nat)
  stock : List Nat
  ended : List (Nat × Nat)
structure Good (r : Rec) : Prop where
  m1 : 1 ≤ r.m
  m3 : r.m ≤ 3
  k : r.known ≤ full r.m
  k0 : r.known ≠ 0
  ru : r.rule ≤ 1
  la : r.laid ≤ full r.m
  gi : ∀ x ∈ r.given, x.1 ≤ full r.m ∧ x.2 ≤ 2
  gl : r.given.length ≤ 8
  st : ∀ p ∈ r.stock, p ≤ full r.m
  sl : r.stock.length ≤ 6
  el : r.ended.length ≤ 11600
def sf (r : Rec) (g k d : Addr) : List (Str × V) := [("letters", vn r.m), ("known", vn r.known), ("rule", vn r.rule), ("laid", vn r.laid), ("given", .ref g), ("stock", .ref k), ("ended", .ref d)]
def Tups (H : Hp) : List Addr → List (Nat × Nat) → Prop
  | [], [] => True
  | a :: as, x :: l => H a = some (.tup [vn x.1, vn x.2]) ∧ Tups H as l
  | _, _ => False
structure SAt (CS : Addr) (H : Hp) (a : Addr) (r : Rec) (dx g k : Addr) (as : List Addr) (d : Addr) (ds : List Addr) : Prop where
  ob : H a = some (.ins CS dx (sf r g k d))
  gi : H g = some (.lst (as.map V.ref))
  tu : Tups H as r.given
  st : H k = some (.lst (r.stock.map vn))
  en : H d = some (.lst (ds.map V.ref))
  te : Tups H ds r.ended
def StAt (CS : Addr) (H : Hp) (a : Addr) (r : Rec) : Prop := ∃ dx g k as d ds, SAt CS H a r dx g k as d ds
theorem Tups.same {H H' : Hp} (e : Same H H') : ∀ {as : List Addr} {l : List (Nat × Nat)}, Tups H as l → Tups H' as l
  | [], [], _ => trivial
  | a :: as, x :: l, h => ⟨e _ _ h.1, Tups.same e h.2⟩
  | [], _ :: _, h => h.elim
  | _ :: _, [], h => h.elim
theorem Tups.len {H : Hp} : ∀ {as : List Addr} {l : List (Nat × Nat)}, Tups H as l → as.length = l.length
  | [], [], _ => rfl
  | a :: as, x :: l, h => by simp [Tups.len h.2]
  | [], _ :: _, h => h.elim
  | _ :: _, [], h => h.elim
theorem Tups.at_ {H : Hp} : ∀ {as : List Addr} {l : List (Nat × Nat)} {i : Nat} {a : Addr}, Tups H as l → as[i]? = some a → ∃ x, l[i]? = some x ∧ H a = some (.tup [vn x.1, vn x.2])
  | a :: as, x :: l, 0, b, h, e => by
    have e : a = b := Option.some.inj e
    subst e
    exact ⟨x, rfl, h.1⟩
  | a :: as, x :: l, i + 1, b, h, e => Tups.at_ (as := as) (l := l) (i := i) h.2 e
  | [], [], _, _, _, e => by simp at e
  | [], _ :: _, _, _, h, _ => h.elim
  | _ :: _, [], _, _, h, _ => h.elim
theorem SAt.same {CS : Addr} {H H' : Hp} {a dx g k d : Addr} {r : Rec} {as ds : List Addr} (h : SAt CS H a r dx g k as d ds) (e : Same H H') : SAt CS H' a r dx g k as d ds := ⟨e _ _ h.ob, e _ _ h.gi, h.tu.same e, e _ _ h.st, e _ _ h.en, h.te.same e⟩
theorem StAt.same {CS : Addr} {H H' : Hp} {a : Addr} {r : Rec} (h : StAt CS H a r) (e : Same H H') : StAt CS H' a r := let ⟨dx, g, k, as, d, ds, h⟩ := h; ⟨dx, g, k, as, d, ds, h.same e⟩
def stb (r : Rec) (n : Nat) : Nat := Krb7.stands r.m r.laid (r.given.take n)
def now (r : Rec) : Nat := Krb7.stands r.m r.laid r.given
theorem stb_all (r : Rec) : stb r r.given.length = now r := by unfold stb now; rw [List.take_length]
theorem stands_snoc (m b : Nat) (l : List (Nat × Nat)) (x : Nat × Nat) : Krb7.stands m b (l ++ [x]) = Krb7.behind m (Krb7.stands m b l) x.1 x.2 := by
  unfold Krb7.stands
  rw [List.foldl_append]
  rfl
theorem stands_le (m : Nat) : ∀ (l : List (Nat × Nat)) (b : Nat), Krb7.stands m b l ≤ b
  | [], b => Nat.le_refl _
  | x :: l, b => Nat.le_trans (stands_le m l _) behind_le
theorem stb_le (r : Rec) (n : Nat) : stb r n ≤ r.laid := stands_le _ _ _
theorem now_le (r : Rec) : now r ≤ r.laid := stands_le _ _ _
theorem stb_succ {r : Rec} (G : Good r) {i : Nat} {x : Nat × Nat} (hx : r.given[i]? = some x) : stb r (i + 1) = nrw (stb r i) x.1 x.2 := by
  have gx := G.gi x (List.mem_of_getElem? hx)
  unfold stb
  rw [take_snoc hx, stands_snoc, behind_eq (Nat.le_trans (stands_le _ _ _) G.la) gx.1]
def byW (r : Rec) (s : Nat) : Nat := if r.rule = 1 then r.laid else s
def rw_ (r : Rec) (s p : Nat) : Nat := Krb7.right r.known (byW r s) p
def nextW (r : Rec) (s p : Nat) : Nat := nrw s p (rw_ r s p)
section
variable {P : Program} {w : World} {K : PySem.W.Frag} {mg : Str → Option Value} {base : Heap} {CS CH : Addr}
def pTakes (CS : Addr) : V → V → Hp → VK → Prop := fun a b H Q => ∃ (s : Addr) (r : Rec) (p : Nat), a = .ref s ∧ b = vn p ∧ StAt CS H s r ∧ Good r ∧ Q (.bl (decide (p ≤ full r.m))) H
theorem ok_takes (T : Txt K mg CS CH) : Ok P w K mg base 2 "takes" ["state", "p"] (sp2 (pTakes CS)) := by
  refine ok2 T.f_takes sc_takes (fun _ _ _ _ _ _ _ _ => rfl) fun f cdv A outer s H a b Q E hr h => ?_
  obtain ⟨a, r, p, rfl, rfl, ⟨dx, g, k, as, d, ds, S⟩, G, q⟩ := h
  refine ⟨_, (pss_one (ps_ret (pcall (ok_is_proposition T) hr (pa_cons (pe_fld (pv 0) rfl) (pa_cons (pv 1) pa_nil))))), ?_⟩
  exact ⟨_, rfl, a, CS, dx, _, _, rfl, S.ob, T.c_State.cl, T.c_State.no _ (by decide), rfl, _, rfl, _, _, rfl, _, _, rfl, rfl, G.m1, G.m3, q⟩
def pNoneLaid (CS : Addr) : V → Hp → VK → Prop := fun a H Q => ∃ (s : Addr) (r : Rec), a = .ref s ∧ StAt CS H s r ∧ Q (.bl (decide (r.laid = 0))) H
theorem ok_none_laid (T : Txt K mg CS CH) : Ok P w K mg base 1 "none_laid" ["state"] (sp1 (pNoneLaid CS)) := by
  refine ok1 T.f_none_laid sc_none_laid (fun _ _ _ _ _ _ _ => rfl) fun f cdv A outer s H a Q E hr h => ?_
  obtain ⟨a, r, rfl, ⟨dx, g, k, as, d, ds, S⟩, q⟩ := h
  refine ⟨_, (pss_one (ps_ret (pe_cmpR on_eq (pe_fld (pv 0) rfl) (pn 0) (nomark _)))), ?_⟩
  exact ⟨_, rfl, a, CS, dx, _, _, rfl, S.ob, T.c_State.cl, T.c_State.no _ (by decide), rfl, _, _, rfl, rfl, q⟩
def pBy (CS : Addr) : V → V → Hp → VK → Prop := fun a b H Q => ∃ (s : Addr) (r : Rec) (n : Nat), a = .ref s ∧ b = vn n ∧ StAt CS H s r ∧ Q (vn (byW r n)) H
theorem ok_answered_by (T : Txt K mg CS CH) : Ok P w K mg base 1 "answered_by" ["state", "stands"] (sp2 (pBy CS)) := by
  refine ok2 T.f_answered_by sc_answered_by (fun _ _ _ _ _ _ _ _ => rfl) fun f cdv A outer s H a b Q E hr h => ?_
  obtain ⟨a, r, n, rfl, rfl, ⟨dx, g, k, as, d, ds, S⟩, q⟩ := h
  refine ⟨_, (pss_cons (ps_if (pt_cmpR on_eq (pe_fld (pv 0) rfl) (pn 1) (nomark _))
      (pss_one (ps_ret (pe_fld (pv 0) rfl)))
      pss_nil)
      (pss_one (ps_ret (pv 1)))), ?_⟩
  unfold byW at q
  refine ⟨_, rfl, a, CS, dx, _, _, rfl, S.ob, T.c_State.cl, T.c_State.no _ (by decide), rfl, _, _, rfl, rfl, _, rfl, ifD (fun h1 => ?_) fun h1 => ?_⟩
  · rw [if_pos h1] at q
    exact ⟨_, rfl, a, CS, dx, _, _, rfl, S.ob, T.c_State.cl, T.c_State.no _ (by decide), rfl, q⟩
  · rw [if_neg h1] at q
    exact ⟨_, rfl, q⟩
def pRW (CS : Addr) : V → V → V → Hp → VK → Prop := fun a b c H Q => ∃ (s : Addr) (r : Rec) (n p : Nat), a = .ref s ∧ b = vn n ∧ c = vn p ∧ StAt CS H s r ∧ Q (vn (rw_ r n p)) H
theorem ok_right_while (T : Txt K mg CS CH) : Ok P w K mg base 4 "right_while" ["state", "stands", "p"] (sp3 (pRW CS)) := by
  refine ok3 T.f_right_while sc_right_while (fun _ _ _ _ _ _ _ _ _ => rfl) fun f cdv A outer s H a b c Q E hr h => ?_
  obtain ⟨a, r, n, p, rfl, rfl, rfl, S0, q⟩ := h
  have S1 := S0
  obtain ⟨dx, g, k, as, d, ds, S⟩ := S1
  refine ⟨_, (pss_one (ps_ret (pcall (ok_right_by T) hr (pa_cons (pcall (ok_answered_by T) hr (pa_cons (pv 0) (pa_cons (pv 1) pa_nil))) (pa_cons (pe_fld (pv 0) rfl) (pa_cons (pv 2) pa_nil)))))), ?_⟩
  exact ⟨_, rfl, _, rfl, _, _, rfl, _, _, _, rfl, rfl, S0, _, rfl, a, CS, dx, _, _, rfl, S.ob, T.c_State.cl, T.c_State.no _ (by decide), rfl, _, rfl, _, _, _, rfl, _, _, _, rfl, rfl, rfl, q⟩
def pNextW (CS : Addr) : V → V → V → Hp → VK → Prop := fun a b c H Q => ∃ (s : Addr) (r : Rec) (n p : Nat), a = .ref s ∧ b = vn n ∧ c = vn p ∧ StAt CS H s r ∧ Q (vn (nextW r n p)) H
theorem ok_stands_after_right (T : Txt K mg CS CH) : Ok P w K mg base 5 "stands_after_right" ["state", "stands", "p"] (sp3 (pNextW CS)) := by
  refine ok3 T.f_stands_after_right sc_stands_after_right (fun _ _ _ _ _ _ _ _ _ => rfl) fun f cdv A outer s H a b c Q E hr h => ?_
  obtain ⟨a, r, n, p, rfl, rfl, rfl, S0, q⟩ := h
  refine ⟨_, (pss_one (ps_ret (pcall (ok_narrowed T) hr (pa_cons (pv 1) (pa_cons (pv 2) (pa_cons (pcall (ok_right_while T) hr (pa_cons (pv 0) (pa_cons (pv 1) (pa_cons (pv 2) pa_nil)))) pa_nil)))))), ?_⟩
  exact ⟨_, rfl, _, rfl, _, rfl, _, rfl, _, rfl, _, _, _, rfl, _, _, _, _, rfl, rfl, rfl, S0, _, _, _, rfl, _, _, _, rfl, rfl, rfl, q⟩
def pStb (CS : Addr) : V → V → Hp → VK → Prop := fun a b H Q => ∃ (s : Addr) (r : Rec) (n : Nat), a = .ref s ∧ b = vn n ∧ StAt CS H s r ∧ Good r ∧ n ≤ r.given.length ∧ ∀ H', Same H H' → Q (vn (stb r n)) H'
theorem cut_take {xs : List V} {n : Nat} (h : n ≤ xs.length) : cutV xs none (some (n : Int)) = xs.take n := by
  unfold cutV
  have e1 : HT.sIx xs.length 0 none = 0 := rfl
  have e2 : HT.sIx xs.length xs.length (some (n : Int)) = n := by
    show (if (n : Int) < 0 then ((n : Int) + (xs.length : Int)).toNat else min ((n : Int)).toNat xs.length) = n
    rw [if_neg (by omega), Int.toNat_natCast]
    omega
  rw [e1, e2]
  rfl
theorem ok_stands_behind (T : Txt K mg CS CH) : Ok P w K mg base 2 "stands_behind" ["state", "many"] (sp2 (pStb CS)) := by
  refine ok2 T.f_stands_behind sc_stands_behind (fun _ _ _ _ _ _ _ _ => rfl) fun f cdv A outer s H a b Q E hr h => ?_
  obtain ⟨a, r, n, rfl, rfl, ⟨dx, g, k, as, d, ds, S⟩, G, hn, q⟩ := h
  have al := S.tu.len
  refine ⟨_, (pss_cons (ps_set (i := 2) sc_stands_behind.nd rfl (Or.inl rfl) (pe_fld (pv 0) rfl))
      (pss_cons (ps_for PassesOwn.never rfl (pi_list (pe_slice sl_list (pe_fld (pv 0) rfl) po_none (po_some (pv 1)))) (pg_tup rfl (pgs_cons (pg_name (i := 3) sc_stands_behind.nd rfl (Or.inl rfl)) (pgs_cons (pg_name (i := 4) sc_stands_behind.nd rfl (Or.inl rfl)) pgs_nil)))
      (pss_one (ps_set (i := 2) sc_stands_behind.nd rfl (Or.inl rfl) (pcall (ok_narrowed T) hr (pa_cons (pv 2) (pa_cons (pv 3) (pa_cons (pv 4) pa_nil)))))))
      (pss_one (ps_ret (pv 2))))), ?_⟩
  refine ⟨_, rfl, a, CS, dx, _, _, rfl, S.ob, T.c_State.cl, T.c_State.no _ (by decide), rfl, ?_⟩
  refine ⟨_, rfl, a, CS, dx, _, _, rfl, S.ob, T.c_State.cl, T.c_State.no _ (by decide), rfl, _, rfl, _, rfl, g, _, rfl, SqL.of S.gi, fun l hl => ?_⟩
  rw [cut_take (by rw [List.length_map, al]; exact hn), ← List.map_take]
  have s1 : Same H (upd H l (.lst ((as.take n).map V.ref))) := same_new (Same.refl H) hl
  refine ⟨l, rfl, ⟨_, SqL.of upd_same⟩, for_list (K := K) (a := l) (xs := (as.take n).map V.ref) (fun i σ H' => H' = upd H l (.lst ((as.take n).map V.ref)) ∧ ∃ v w : Option V, σ = [some (.ref a), some (vn n), some (vn (stb r i)), v, w])
    ⟨rfl, none, none, rfl⟩ (fun i σ H' _ ⟨e, _⟩ => by subst e; exact SqL.of upd_same) ?_ ?_⟩
  · rintro i y σ H' hi ⟨rfl, v, w, rfl⟩
    obtain ⟨c, hc, rfl⟩ : ∃ c, (as.take n)[i]? = some c ∧ y = V.ref c := by
      rw [List.getElem?_map] at hi
      cases e : (as.take n)[i]? with
      | none => rw [e] at hi; cases hi
      | some z => rw [e] at hi; exact ⟨z, rfl, (Option.some.inj hi).symm⟩
    have lt : i < n := by
      have := (List.getElem?_eq_some_iff.mp hc).1
      rw [List.length_take] at this
      omega
    rw [List.getElem?_take, if_pos lt] at hc
    obtain ⟨x, hx, hH⟩ := S.tu.at_ hc
    have gx := G.gi x (List.mem_of_getElem? hx)
    refine ⟨c, _, rfl, SqT.of (s1 _ _ hH), rfl, _, _, rfl, _, _, rfl, rfl, ?_⟩
    refine ⟨_, rfl, _, rfl, _, rfl, _, _, _, rfl, _, _, _, rfl, rfl, rfl, rfl, some (vn x.1), some (vn x.2), ?_⟩
    rw [stb_succ G hx]
    all_goals rfl
  · rintro σ H' ⟨rfl, v, w, rfl⟩
    have e : ((as.take n).map V.ref).length = n := by rw [List.length_map, List.length_take]; omega
    rw [e]
    exact ⟨_, rfl, q _ s1⟩
def pNow (CS : Addr) : V → Hp → VK → Prop := fun a H Q => ∃ (s : Addr) (r : Rec), a = .ref s ∧ StAt CS H s r ∧ Good r ∧ ∀ H', Same H H' → Q (vn (now r)) H'
theorem ok_stands_now (T : Txt K mg CS CH) : Ok P w K mg base 3 "stands_now" ["state"] (sp1 (pNow CS)) := by
  refine ok1 T.f_stands_now sc_stands_now (fun _ _ _ _ _ _ _ => rfl) fun f cdv A outer s H a Q E hr h => ?_
  obtain ⟨a, r, rfl, S0, G, q⟩ := h
  have S1 := S0
  obtain ⟨dx, g, k, as, d, ds, S⟩ := S1
  refine ⟨_, (pss_one (ps_ret (pcall (ok_stands_behind T) hr (pa_cons (pv 0) (pa_cons (pe_callB call_len_seq rfl T.no_len PySem.boot_len (pa_cons (pe_fld (pv 0) rfl) pa_nil)) pa_nil))))), ?_⟩
  refine ⟨_, rfl, _, rfl, a, CS, dx, _, _, rfl, S.ob, T.c_State.cl, T.c_State.no _ (by decide), rfl, g, _, rfl, .inl (SqL.of S.gi), ?_⟩
  rw [List.length_map, S.tu.len]
  exact ⟨_, _, rfl, a, r, _, rfl, rfl, S0, G, Nat.le_refl _, by rw [stb_all]; exact q⟩
end
end DY
namespace DY
open PySem PySem.Spec PyProof.Rows L2 DX DM
open Krb7 (full)
theorem for_enum {K : PySem.W.Frag} {a : Addr} {xs : List V} {g : TG} {tb : TS} {D : Ends} {σ : L2.St} {H : Hp} (Pv : Nat → L2.St → Hp → Prop) (h0 : Pv 0 σ H) (hl : ∀ i σ H, i ≤ xs.length → Pv i σ H → SqL K H a xs)
    (hs : ∀ (i : Nat) (x : V) (σ : L2.St) (H : Hp) (T : Addr), xs[i]? = some x → Pv i σ H → H T = none → g (.ref T) σ (upd H T (.tup [vn i, x])) fun σ2 H2 => tb { D with nx := Pv (i + 1), ct := Pv (i + 1), bk := D.nx } σ2 H2) (hd : ∀ σ H, Pv xs.length σ H → D.nx σ H) :
    ∃ W : Nat → Nat → L2.St → Hp → Prop, (∃ m, W 0 m σ H) ∧ ∀ i m σ H, W i m σ H →
      ((Ite K a).stop i H ∧ D.nx σ H) ∨ ((Ite K a).go i H ∧ ∃ N : L2.St → Hp → Prop, (∀ σ' H', N σ' H' → ∃ m', m' < m ∧ W (i + 1) m' σ' H') ∧ ∀ x H', (Ite K a).yld i H x H' → g x σ H' fun σ2 H2 => tb { D with nx := N, ct := N, bk := D.nx } σ2 H2) := by
  refine ⟨fun i m σ H => m = xs.length - i ∧ i ≤ xs.length ∧ Pv i σ H, ⟨xs.length, by simp, Nat.zero_le _, h0⟩, ?_⟩
  rintro i m σ H ⟨rfl, hi, p⟩
  have q := hl i σ H hi p
  by_cases hlt : i < xs.length
  · refine .inr ⟨⟨xs, xs[i], q, by simp [hlt]⟩, Pv (i + 1), fun σ' H' p' => ⟨xs.length - (i + 1), by omega, rfl, hlt, p'⟩, fun x H' y => ?_⟩
    obtain ⟨T, z, rfl, hT, rfl, y⟩ := y
    exact hs i z σ H T (y xs q) p hT
  · have e : i = xs.length := by omega
    subst e
    exact .inl ⟨⟨xs, q, Nat.le_refl _⟩, hd σ H p⟩
theorem fm_if {α β : Type} (b : α → Bool) (f : α → β) : ∀ l : List α, (l.filterMap fun x => if b x = true then some (f x) else none) = (l.filter b).map f
  | [] => rfl
  | x :: l => by
    have ih := fm_if b f l
    rw [List.filterMap_cons, List.filter_cons]
    by_cases q : b x = true
    · simp only [q, if_true, List.map_cons, ih]
    · simp only [q, if_false, ih]
      rfl
theorem fm_all {α β : Type} (f : α → β) : ∀ l : List α, (l.filterMap fun x => some (f x)) = l.map f
  | [] => rfl
  | x :: l => by rw [List.filterMap_cons, List.map_cons, fm_all f l]
theorem full_256 {r : Rec} (G : Good r) : full r.m + 1 ≤ 256 := by have := full_lt G.m3; omega
section
variable {P : Program} {w : World} {K : PySem.W.Frag} {mg : Str → Option Value} {base : Heap} {CS CH : Addr}
def pTakesAll (K : PySem.W.Frag) (CS : Addr) : V → V → Hp → VK → Prop := fun a b H Q => ∃ (s l : Addr) (r : Rec) (ns : List Nat), a = .ref s ∧ b = .ref l ∧ StAt CS H s r ∧ Good r ∧ SqL K H l (ns.map vn) ∧ ns.length ≤ 65536 ∧ ∀ H', Same H H' → Q (.bl (ns.all fun p => decide (p ≤ full r.m))) H'
theorem ok_takes_all (T : Txt K mg CS CH) : Ok P w K mg base 3 "takes_all" ["state", "propositions"] (sp2 (pTakesAll K CS)) := by
  refine ok2 T.f_takes_all sc_takes_all (fun _ _ _ _ _ _ _ _ => rfl) fun f cdv A outer s H a b Q E hr h => ?_
  obtain ⟨a, l, r, ns, rfl, rfl, S0, G, hl, hn, q⟩ := h
  refine ⟨_, (pss_one (ps_ret (pe_callB (cr_all rfl) rfl T.no_all (by decide +kernel) (pa_cons (pe_lc rfl sc_takes_all.nd (pi_list (pv 1)) (blkOk_by (own := [("p", 2)]) (by show blkC ["state", "propositions", "p"] (defScope st_takes_all) _ _ = true; decide +kernel)) (fun _ _ _ _ _ => (pg_name (i := 2) sc_takes_all.nd rfl (Or.inl rfl))) (fun _ _ _ _ _ => pts_nil) (fun _ _ _ _ _ => (pcall (ok_takes T) hr (pa_cons (pv 0) (pa_cons (pv 2) pa_nil))))) pa_nil)))), ?_⟩
  refine ⟨_, rfl, l, rfl, ⟨_, hl⟩, fun D hD => lc_map (K := K) (a := l) (l := ns) (v := vn) (fun p => some (.bl (decide (p ≤ full r.m)))) hl hD (Nat.le_trans hn (by decide)) ?_ ?_⟩
  · intro i p H1 hp s1 acc hacc hz N k1 k2
    refine ⟨rfl, ?_⟩
    dsimp only [tYes]
    rw [if_pos rfl]
    exact ⟨_, rfl, _, rfl, _, _, rfl, a, r, p, rfl, rfl, S0.same s1, G, acc, hacc, hz, k2 _ _ (Same.refl _) rfl⟩
  · intro H1 s1 e
    refine ⟨D, ns.map fun p => decide (p ≤ full r.m), rfl, SqL.of ?_, ?_⟩
    · rw [e, fm_all, List.map_map]
      all_goals rfl
    · have e2 : (ns.map fun p => decide (p ≤ full r.m)).all id = ns.all fun p => decide (p ≤ full r.m) := by rw [List.all_map]; rfl
      rw [e2]
      exact q _ s1
def pAllProps (CS : Addr) : V → Hp → VK → Prop := fun a H Q => ∃ (s : Addr) (r : Rec), a = .ref s ∧ StAt CS H s r ∧ Good r ∧ ∀ H' l, Same H H' → H' l = some (.lst ((List.range (full r.m + 1)).map vn)) → Q (.ref l) H'
theorem ok_all_propositions (T : Txt K mg CS CH) : Ok P w K mg base 2 "all_propositions" ["state"] (sp1 (pAllProps CS)) := by
  refine ok1 T.f_all_propositions sc_all_propositions (fun _ _ _ _ _ _ _ => rfl) fun f cdv A outer s H a Q E hr h => ?_
  obtain ⟨a, r, rfl, ⟨dx, g, k, as, d, ds, S⟩, G, q⟩ := h
  refine ⟨_, (pss_one (ps_ret (pe_callTy (call_list_rng rfl) rfl T.no_list (by decide +kernel) (pa_cons (pe_callTy call_range1T rfl T.no_range (by decide +kernel) (pa_cons (pe_op on_add (pcall (ok_always T) hr (pa_cons (pe_fld (pv 0) rfl) pa_nil)) (pn 1)) pa_nil)) pa_nil)))), ?_⟩
  refine ⟨_, rfl, a, CS, dx, _, _, rfl, S.ob, T.c_State.cl, T.c_State.no _ (by decide), rfl, _, rfl, _, rfl, G.m1, G.m3, _, _, rfl, rfl, _, rfl, fun p hp => ?_⟩
  exact ⟨p, _, rfl, upd_same, Nat.le_trans (full_256 G) (by decide), fun l hl => q _ l (same_new (same_new (Same.refl H) hp) hl) upd_same⟩
def gv (r : Rec) (i : Nat) : Nat × Nat := r.given.getD i (0, 1)
def badB (r : Rec) (i : Nat) : Bool := !decide ((gv r i).2 = rw_ r (stb r i) (gv r i).1)
def bads (r : Rec) : List Nat := (List.range r.given.length).filter (badB r)
def pIsBad (CS : Addr) : V → V → Hp → VK → Prop := fun a b H Q => ∃ (s : Addr) (r : Rec) (i : Nat), a = .ref s ∧ b = vn i ∧ StAt CS H s r ∧ Good r ∧ i < r.given.length ∧ ∀ H', Same H H' → Q (.bl (badB r i)) H'
theorem tup_at {CS : Addr} {H : Hp} {a dx g k d : Addr} {r : Rec} {as ds : List Addr} (S : SAt CS H a r dx g k as d ds) {i : Nat} (hi : i < r.given.length) : ∃ c, as[i]? = some c ∧ H c = some (.tup [vn (gv r i).1, vn (gv r i).2]) ∧ r.given[i]? = some (gv r i) := by
  have hl : i < as.length := by rw [S.tu.len]; exact hi
  have hc : as[i]? = some as[i] := List.getElem?_eq_getElem hl
  obtain ⟨x, hx, hH⟩ := S.tu.at_ hc
  have e : gv r i = x := by
    unfold gv
    rw [List.getD_eq_getElem?_getD, hx]
    rfl
  rw [e]
  exact ⟨_, hc, hH, hx⟩
def rgt (r : Rec) (i : Nat) : Nat := rw_ r (stb r i) (gv r i).1
def pRightAt (CS : Addr) : V → V → Hp → VK → Prop := fun a b H Q => ∃ (s : Addr) (r : Rec) (i : Nat), a = .ref s ∧ b = vn i ∧ StAt CS H s r ∧ Good r ∧ i < r.given.length ∧ ∀ H', Same H H' → Q (vn (rgt r i)) H'
theorem ok_right_answer (T : Txt K mg CS CH) : Ok P w K mg base 5 "right_answer" ["state", "i"] (sp2 (pRightAt CS)) := by
  refine ok2 T.f_right_answer sc_right_answer (fun _ _ _ _ _ _ _ _ => rfl) fun f cdv A outer s H a b Q E hr h => ?_
  obtain ⟨a, r, i, rfl, rfl, S0, G, hi, q⟩ := h
  refine ⟨_, (pss_one (ps_ret (pcall (ok_right_while T) hr (pa_cons (pv 0) (pa_cons (pcall (ok_stands_behind T) hr (pa_cons (pv 0) (pa_cons (pv 1) pa_nil))) (pa_cons (pe_ix ix_tup (pe_ix ix_list (pe_fld (pv 0) rfl) (pv 1) (fun _ _ => rfl)) (pn 0) (fun _ _ => rfl)) pa_nil)))))), ?_⟩
  refine ⟨_, rfl, _, rfl, _, rfl, _, _, rfl, a, r, i, rfl, rfl, S0, G, Nat.le_of_lt hi, fun H1 s1 => ?_⟩
  have S1 := S0.same s1
  obtain ⟨dx, g, k, as, d, ds, S⟩ := S1
  obtain ⟨c, hc, hH, _⟩ := tup_at S hi
  refine ⟨_, rfl, a, CS, dx, _, _, rfl, S.ob, T.c_State.cl, T.c_State.no _ (by decide), rfl, _, rfl, g, _, _, V.ref c, rfl, rfl, SqL.of S.gi, atI_nat (by rw [List.getElem?_map, hc]; all_goals rfl), ?_⟩
  exact ⟨c, _, _, _, rfl, rfl, SqT.of hH, atI_nat (j := 0) rfl, _, _, _, rfl, a, r, _, _, rfl, rfl, rfl, S0.same s1, q _ s1⟩
theorem ok_is_bad (T : Txt K mg CS CH) : Ok P w K mg base 6 "is_bad" ["state", "i"] (sp2 (pIsBad CS)) := by
  refine ok2 T.f_is_bad sc_is_bad (fun _ _ _ _ _ _ _ _ => rfl) fun f cdv A outer s H a b Q E hr h => ?_
  obtain ⟨a, r, i, rfl, rfl, S0, G, hi, q⟩ := h
  have S1 := S0
  obtain ⟨dx, g, k, as, d, ds, S⟩ := S1
  obtain ⟨c, hc, hH, _⟩ := tup_at S hi
  refine ⟨_, (pss_one (ps_ret (pe_cmpR on_ne (pe_ix ix_tup (pe_ix ix_list (pe_fld (pv 0) rfl) (pv 1) (fun _ _ => rfl)) (pn 1) (fun _ _ => rfl)) (pcall (ok_right_answer T) hr (pa_cons (pv 0) (pa_cons (pv 1) pa_nil))) (nomark _)))), ?_⟩
  refine ⟨_, rfl, a, CS, dx, _, _, rfl, S.ob, T.c_State.cl, T.c_State.no _ (by decide), rfl, _, rfl, g, _, _, V.ref c, rfl, rfl, SqL.of S.gi, atI_nat (by rw [List.getElem?_map, hc]; all_goals rfl), ?_⟩
  refine ⟨c, _, _, _, rfl, rfl, SqT.of hH, atI_nat (j := 1) rfl, ?_⟩
  exact ⟨_, rfl, _, rfl, _, _, rfl, a, r, i, rfl, rfl, S0, G, hi, fun H1 s1 => ⟨_, _, rfl, rfl, q _ s1⟩⟩
def pBads (CS : Addr) : V → Hp → VK → Prop := fun a H Q => ∃ (s : Addr) (r : Rec), a = .ref s ∧ StAt CS H s r ∧ Good r ∧ ∀ H' l, Same H H' → H' l = some (.lst ((bads r).map vn)) → Q (.ref l) H'
theorem ok_bad_answers (T : Txt K mg CS CH) : Ok P w K mg base 7 "bad_answers" ["state"] (sp1 (pBads CS)) := by
  refine ok1 T.f_bad_answers sc_bad_answers (fun _ _ _ _ _ _ _ => rfl) fun f cdv A outer s H a Q E hr h => ?_
  obtain ⟨a, r, rfl, S0, G, q⟩ := h
  have S1 := S0
  obtain ⟨dx, g, k, as, d, ds, S⟩ := S1
  have gl := G.gl
  refine ⟨_, (pss_one (ps_ret (pe_lc rfl sc_bad_answers.nd (pi_range1 rfl T.no_range (pa_cons (pe_callB call_len_seq rfl T.no_len PySem.boot_len (pa_cons (pe_fld (pv 0) rfl) pa_nil)) pa_nil)) (blkOk_by (own := [("i", 1)]) (by show blkC ["state", "i"] (defScope st_bad_answers) _ _ = true; decide +kernel)) (fun _ _ _ _ _ => (pg_name (i := 1) sc_bad_answers.nd rfl (Or.inl rfl))) (fun _ _ _ _ _ => (pts_one (pt_val (pcall (ok_is_bad T) hr (pa_cons (pv 0) (pa_cons (pv 1) pa_nil)))))) (fun _ _ _ _ _ => (pv 1))))), ?_⟩
  refine ⟨_, rfl, a, CS, dx, _, _, rfl, S.ob, T.c_State.cl, T.c_State.no _ (by decide), rfl, g, _, rfl, .inl (SqL.of S.gi), ?_⟩
  rw [List.length_map, S.tu.len]
  refine ⟨_, rfl, by omega, by omega, fun D hD => lc_mapR (fun i => if badB r i = true then some (vn i) else none) hD (by rw [Int.toNat_natCast]; exact Nat.le_trans gl (by decide)) ?_ ?_⟩
  · intro i H1 hi s1 acc hacc hz N k1 k2
    rw [Int.toNat_natCast] at hi
    refine ⟨rfl, _, rfl, _, rfl, _, _, rfl, a, r, i, rfl, rfl, S0.same s1, G, hi, fun H2 s2 => ⟨_, rfl, ifB (fun h => ?_) fun h => ?_⟩⟩
    · exact ⟨_, rfl, acc, s2 _ _ hacc, hz, k2 _ _ s2 (by rw [if_pos h])⟩
    · exact k1 _ s2 (by rw [if_neg (by rw [h]; exact Bool.false_ne_true)])
  · intro H1 s1 e
    rw [Int.toNat_natCast, fm_if] at e
    exact q _ D s1 e
def pCaught (CS : Addr) : V → Hp → VK → Prop := fun a H Q => ∃ (s : Addr) (r : Rec), a = .ref s ∧ StAt CS H s r ∧ Good r ∧ ∀ H', Same H H' → Q (.bl (decide (now r = 0))) H'
theorem ok_is_caught (T : Txt K mg CS CH) : Ok P w K mg base 4 "is_caught" ["state"] (sp1 (pCaught CS)) := by
  refine ok1 T.f_is_caught sc_is_caught (fun _ _ _ _ _ _ _ => rfl) fun f cdv A outer s H a Q E hr h => ?_
  obtain ⟨a, r, rfl, S0, G, q⟩ := h
  refine ⟨_, (pss_one (ps_ret (pe_cmpR on_eq (pcall (ok_stands_now T) hr (pa_cons (pv 0) pa_nil)) (pn 0) (nomark _)))), ?_⟩
  exact ⟨_, rfl, _, rfl, a, r, rfl, S0, G, fun H1 s1 => ⟨_, _, rfl, rfl, q _ s1⟩⟩
def vdt (r : Rec) : Nat := if bads r = [] then (if now r = 0 then 3 else 0) else if now r = 0 then 2 else 1
def pVerdict (CS : Addr) : V → Hp → VK → Prop := fun a H Q => ∃ (s : Addr) (r : Rec), a = .ref s ∧ StAt CS H s r ∧ Good r ∧ ∀ H', Same H H' → Q (vn (vdt r)) H'
theorem ok_verdict_on (T : Txt K mg CS CH) : Ok P w K mg base 8 "verdict_on" ["state"] (sp1 (pVerdict CS)) := by
  refine ok1 T.f_verdict_on sc_verdict_on (fun _ _ _ _ _ _ _ => rfl) fun f cdv A outer s H a Q E hr h => ?_
  obtain ⟨a, r, rfl, S0, G, q⟩ := h
  refine ⟨_, (pss_cons (ps_set (i := 1) sc_verdict_on.nd rfl (Or.inl rfl) (pcall (ok_is_caught T) hr (pa_cons (pv 0) pa_nil)))
      (pss_cons (ps_if (pt_cmpR on_gt (pe_callB call_len_seq rfl T.no_len PySem.boot_len (pa_cons (pcall (ok_bad_answers T) hr (pa_cons (pv 0) pa_nil)) pa_nil)) (pn 0) (nomark _))
      (pss_one (ps_ret (pe_ifExp (pt_val (pv 1)) (pn 2) (pn 1))))
      pss_nil)
      (pss_one (ps_ret (pe_ifExp (pt_val (pv 1)) (pn 3) (pn 0)))))), ?_⟩
  refine ⟨_, rfl, _, rfl, a, r, rfl, S0, G, fun H1 s1 => ?_⟩
  refine ⟨_, rfl, _, rfl, a, r, rfl, S0.same s1, G, fun H2 l s2 hl => ⟨l, _, rfl, .inl (SqL.of hl), ?_⟩⟩
  have q2 := q _ (s1.trans s2)
  unfold vdt at q2
  refine ⟨_, _, rfl, rfl, _, rfl, ifD (fun h => ?_) fun h => ?_⟩
  · rw [List.length_map] at h
    rw [if_neg (fun e => by rw [e] at h; exact absurd h (by decide))] at q2
    refine ⟨_, rfl, _, rfl, ifD (fun h2 => ?_) fun h2 => ?_⟩
    · rw [if_pos h2] at q2; exact q2
    · rw [if_neg h2] at q2; exact q2
  · rw [List.length_map] at h
    rw [if_pos (List.eq_nil_of_length_eq_zero (by omega))] at q2
    refine ⟨_, rfl, _, rfl, ifD (fun h2 => ?_) fun h2 => ?_⟩
    · rw [if_pos h2] at q2; exact q2
    · rw [if_neg h2] at q2; exact q2
end
end DY
namespace DY
open PySem PySem.Spec PyProof.Rows L2 DX DM
open Krb7 (full)
def rowF (r : Rec) (t a : Nat) : Option (List Nat) := if rw_ r (now r) t = a then some [t] else ((List.range (full r.m + 1)).find? fun q => rw_ r (nextW r (now r) q) t == a).map fun q => [q, t]
def Gives (H : Hp) (Q : VK) (o : Option (List Nat)) : Prop := (o = none → ∀ H', Same H H' → Q .non H') ∧ ∀ l, o = some l → ∀ H' p, H p = none → Same H H' → H' p = some (.lst (l.map vn)) → Q (.ref p) H'
theorem range_at {n i : Nat} {y : V} (h : ((List.range n).map vn)[i]? = some y) : i < n ∧ y = vn i := by
  obtain ⟨x, hx, e⟩ := map_at h
  obtain ⟨h1, h2⟩ := List.getElem?_eq_some_iff.mp hx
  rw [List.length_range] at h1
  rw [List.getElem_range] at h2
  exact ⟨h1, by rw [e, h2]⟩
section
variable {P : Program} {w : World} {K : PySem.W.Frag} {mg : Str → Option Value} {base : Heap} {CS CH : Addr}
def pFirstRow (CS : Addr) : V → V → V → Hp → VK → Prop := fun a b c H Q => ∃ (s : Addr) (r : Rec) (t x : Nat), a = .ref s ∧ b = vn t ∧ c = vn x ∧ StAt CS H s r ∧ Good r ∧ Gives H Q (rowF r t x)
theorem ok_first_row (T : Txt K mg CS CH) : Ok P w K mg base 6 "first_row" ["state", "t", "wanted"] (sp3 (pFirstRow CS)) := by
  refine ok3 T.f_first_row sc_first_row (fun _ _ _ _ _ _ _ _ _ => rfl) fun f cdv A outer s H a b c Q E hr h => ?_
  obtain ⟨a, r, t, x, rfl, rfl, rfl, S0, G, q0, q1⟩ := h
  refine ⟨_, (pss_cons (ps_set (i := 3) sc_first_row.nd rfl (Or.inl rfl) (pcall (ok_stands_now T) hr (pa_cons (pv 0) pa_nil)))
      (pss_cons (ps_if (pt_cmpR on_eq (pcall (ok_right_while T) hr (pa_cons (pv 0) (pa_cons (pv 3) (pa_cons (pv 1) pa_nil)))) (pv 2) (nomark _))
      (pss_one (ps_ret (pe_lst (pa_cons (pv 1) pa_nil))))
      pss_nil)
      (pss_cons (ps_for PassesOwn.never rfl (pi_list (pcall (ok_all_propositions T) hr (pa_cons (pv 0) pa_nil))) (pg_name (i := 4) sc_first_row.nd rfl (Or.inl rfl))
      (pss_one (ps_if (pt_cmpR on_eq (pcall (ok_right_while T) hr (pa_cons (pv 0) (pa_cons (pcall (ok_stands_after_right T) hr (pa_cons (pv 0) (pa_cons (pv 3) (pa_cons (pv 4) pa_nil)))) (pa_cons (pv 1) pa_nil)))) (pv 2) (nomark _))
      (pss_one (ps_ret (pe_lst (pa_cons (pv 4) (pa_cons (pv 1) pa_nil)))))
      pss_nil)))
      (pss_one (ps_ret pe_non))))), ?_⟩
  refine ⟨_, rfl, _, rfl, a, r, rfl, S0, G, fun H1 s1 => ?_⟩
  refine ⟨_, rfl, _, rfl, _, rfl, _, _, _, rfl, a, r, _, _, rfl, rfl, rfl, S0.same s1, _, rfl, _, _, rfl, rfl, _, rfl, ifD (fun h => ?_) fun h => ?_⟩
  · refine ⟨_, rfl, (by show 1 ≤ sizeLine; decide), fun p hp => ?_⟩
    exact q1 [t] (by unfold rowF; rw [if_pos h]) _ p (s1.free hp) (same_new s1 hp) upd_same
  · have e0 : rowF r t x = ((List.range (full r.m + 1)).find? fun q => rw_ r (nextW r (now r) q) t == x).map fun q => [q, t] := by unfold rowF; rw [if_neg h]
    refine ⟨_, rfl, _, rfl, a, r, rfl, S0.same s1, G, fun H2 l s2 hl => ?_⟩
    have s3 := s1.trans s2
    refine ⟨l, rfl, ⟨_, SqL.of hl⟩, for_list (K := K) (a := l) (xs := (List.range (full r.m + 1)).map vn) (fun i σ H' => H' = H2 ∧ (∃ v, σ = [some (.ref a), some (vn t), some (vn x), some (vn (now r)), v]) ∧ ∀ j, j < i → ¬ rw_ r (nextW r (now r) j) t = x)
      ⟨rfl, ⟨none, rfl⟩, fun j hj => absurd hj (Nat.not_lt_zero j)⟩ (fun i σ H' _ ⟨e, _⟩ => by subst e; exact SqL.of hl) ?_ ?_⟩
    · rintro i y σ H' hi ⟨rfl, ⟨v, rfl⟩, hno⟩
      obtain ⟨lt, rfl⟩ := range_at hi
      refine ⟨_, rfl, _, rfl, _, rfl, _, rfl, _, _, _, rfl, a, r, _, _, rfl, rfl, rfl, S0.same s3, _, rfl, _, _, _, rfl, a, r, _, _, rfl, rfl, rfl, S0.same s3, _, rfl, _, _, rfl, rfl, _, rfl, ifD (fun h2 => ?_) fun h2 => ?_⟩
      · refine ⟨_, rfl, _, rfl, (by show 2 ≤ sizeLine; decide), fun p hp => ?_⟩
        refine q1 [i, t] ?_ _ p (s3.free hp) (same_new s3 hp) upd_same
        rw [e0, show (List.range (full r.m + 1)).find? (fun q => rw_ r (nextW r (now r) q) t == x) = some i from ?_]
        · rfl
        · rw [List.find?_range_eq_some]
          exact ⟨by simpa using h2, List.mem_range.mpr lt, fun j hj => by simpa using hno j hj⟩
      · refine ⟨rfl, ⟨_, rfl⟩, fun j hj => ?_⟩
        by_cases e : j = i
        · subst e; exact h2
        · exact hno j (by omega)
    · rintro σ H' ⟨rfl, ⟨v, rfl⟩, hno⟩
      refine q0 ?_ _ s3
      rw [List.length_map, List.length_range] at hno
      rw [e0, show (List.range (full r.m + 1)).find? (fun q => rw_ r (nextW r (now r) q) t == x) = none from ?_]
      · rfl
      · rw [List.find?_eq_none]
        intro j hj
        simpa using hno j (List.mem_range.mp hj)
def canB (r : Rec) (t : Nat) : Bool := if r.rule = 1 ∨ now r = 0 then decide (rw_ r (now r) t = 1) else decide ((now r &&& r.known) &&& t = now r &&& r.known) && !decide (now r &&& t = 0)
def pCan (CS : Addr) : V → V → Hp → VK → Prop := fun a b H Q => ∃ (s : Addr) (r : Rec) (t : Nat), a = .ref s ∧ b = vn t ∧ StAt CS H s r ∧ Good r ∧ ∀ H', Same H H' → Q (.bl (canB r t)) H'
theorem ok_can_be_conceded (T : Txt K mg CS CH) : Ok P w K mg base 5 "can_be_conceded" ["state", "t"] (sp2 (pCan CS)) := by
  refine ok2 T.f_can_be_conceded sc_can_be_conceded (fun _ _ _ _ _ _ _ _ => rfl) fun f cdv A outer s H a b Q E hr h => ?_
  obtain ⟨a, r, t, rfl, rfl, S0, G, q⟩ := h
  refine ⟨_, (pss_cons (ps_set (i := 2) sc_can_be_conceded.nd rfl (Or.inl rfl) (pcall (ok_stands_now T) hr (pa_cons (pv 0) pa_nil)))
      (pss_cons (ps_if (PW.pt (pw_or (pt_cmpR on_eq (pe_fld (pv 0) rfl) (pn 1) (nomark _)) (pw_or1 (pt_cmpR on_eq (pv 2) (pn 0) (nomark _)))))
      (pss_one (ps_ret (pe_cmpR on_eq (pcall (ok_right_while T) hr (pa_cons (pv 0) (pa_cons (pv 2) (pa_cons (pv 1) pa_nil)))) (pgn T.g_CONCEDED) (nomark _))))
      pss_nil)
      (pss_one (ps_ret (pe_and (pcall (ok_so_in_all T) hr (pa_cons (pe_op on_and (pv 2) (pe_fld (pv 0) rfl)) (pa_cons (pv 1) pa_nil))) (pe_one (pe_not (pcall (ok_so_in_none T) hr (pa_cons (pv 2) (pa_cons (pv 1) pa_nil)))))))))), ?_⟩
  refine ⟨_, rfl, _, rfl, a, r, rfl, S0, G, fun H1 s1 => ?_⟩
  have q2 := q _ s1
  have S1 := S0.same s1
  have S2 := S1
  obtain ⟨dx, g, k, as, d, ds, S⟩ := S2
  unfold canB at q2
  have yes : r.rule = 1 ∨ now r = 0 → Q (.bl (decide (rw_ r (now r) t = 1))) H1 := fun h => by rw [if_pos h] at q2; exact q2
  refine ⟨_, rfl, a, CS, dx, _, _, rfl, S.ob, T.c_State.cl, T.c_State.no _ (by decide), rfl, _, _, rfl, rfl, _, rfl, ifD (fun h1 => ?_) fun h1 => ?_⟩
  · exact iteT ⟨_, rfl, _, rfl, _, rfl, _, _, _, rfl, a, r, _, _, rfl, rfl, rfl, S1, _, _, rfl, rfl, yes (.inl h1)⟩
  · refine ⟨_, rfl, _, _, rfl, rfl, _, rfl, ifD (fun h2 => ?_) fun h2 => ?_⟩
    · exact ⟨_, rfl, _, rfl, _, rfl, _, _, _, rfl, a, r, _, _, rfl, rfl, rfl, S1, _, _, rfl, rfl, yes (.inr h2)⟩
    · rw [if_neg (by rintro (z | z); exact h1 z; exact h2 z)] at q2
      refine ⟨_, rfl, _, rfl, a, CS, dx, _, _, rfl, S.ob, T.c_State.cl, T.c_State.no _ (by decide), rfl, _, _, rfl, rfl, _, rfl, _, _, rfl, _, _, rfl, rfl, _, rfl, ifD (fun h3 => ?_) fun h3 => ?_⟩
      · rw [decide_eq_true h3, Bool.true_and] at q2
        exact ⟨_, rfl, _, rfl, _, _, rfl, _, _, rfl, rfl, _, rfl, q2⟩
      · rw [decide_eq_false h3, Bool.false_and] at q2
        exact q2
end
end DY
namespace DY
open PySem PySem.Spec PyProof.Rows L2 DX DM
open Krb7 (full)
def nxS (r : Rec) (b i : Nat) : Nat := nextW r b (r.stock.getD i 0)
def hitF (r : Rec) (t x b : Nat) : Bool := rw_ r b t == x
theorem nd_len : ∀ (N : Nat) (l : List Nat), l.Nodup → (∀ x ∈ l, x < N) → l.length ≤ N
  | 0, l, _, h => by
    cases l with
    | nil => exact Nat.le_refl _
    | cons x l => exact absurd (h x (by simp)) (Nat.not_lt_zero x)
  | N + 1, l, nd, h => by
    have ih := nd_len N (l.erase N) (nd.erase N) (fun x hx => by
      have h1 := h x (List.mem_of_mem_erase hx)
      have h2 : x ≠ N := fun e => by
        subst e
        exact (List.Nodup.not_mem_erase nd) hx
      omega)
    have := List.length_erase (a := N) (l := l)
    split at this <;> omega
structure SK (r : Rec) (t x : Nat) (R : Rw) (k : Nat) : Prop where
  le : k ≤ R.length
  lt : ∀ y ∈ R, y.1 < 256
  nd : (R.map (·.1)).Nodup
  wl : ∀ y ∈ R, y.2.length ≤ k
  or_ : (∃ K, IsD r.stock.length (nxS r) (hitF r t x) (now r) K ∧ ∃ d A B, Seek r.stock.length (nxS r) (hitF r t x) (wy r.stock.length (nxS r) (hitF r t x)) K (wy r.stock.length (nxS r) (hitF r t x) K (now r)) R k d A B) ∨
    ((∀ j, hit r.stock.length (nxS r) (hitF r t x) j (now r) = false) ∧ ∀ y ∈ R, ∀ j, hit r.stock.length (nxS r) (hitF r t x) j y.1 = false)
theorem SK.start {r : Rec} {t x : Nat} (G : Good r) : SK r t x [(now r, [])] 0 := by
  refine ⟨Nat.zero_le _, ?_, by simp, by simp, ?_⟩
  · intro y hy
    have e : y = (now r, []) := by simpa using hy
    subst e
    have := now_le r
    have := G.la
    have := full_lt G.m3
    show now r < 256
    omega
  · rcases isD_or (n := r.stock.length) (nx := nxS r) (f := hitF r t x) (now r) with ⟨K, h⟩ | h
    · exact .inl ⟨K, h, 0, _, _, Seek.start h⟩
    · right
      refine ⟨h, fun y hy j => ?_⟩
      have e : y = (now r, []) := by simpa using hy
      subst e
      exact h j
theorem SK.len {r : Rec} {t x : Nat} {R : Rw} {k : Nat} (S : SK r t x R k) : R.length ≤ 256 := by
  have := nd_len 256 (R.map (·.1)) S.nd (fun y hy => by
    obtain ⟨z, hz, e⟩ := List.mem_map.mp hy
    rw [← e]
    exact S.lt z hz)
  rwa [List.length_map] at this
theorem seek_at {n : Nat} {nx : Nat → Nat → Nat} {f : Nat → Bool} {way : Nat → Nat → List Nat} {K : Nat} {T : List Nat} {R : Rw} {a d : Nat} {A B : Rw} {y : Nat × List Nat} (S : Seek n nx f way K T R a d A B) (h : R[a]? = some y) : ∃ d A' B', Seek n nx f way K T R a d (y :: A') B' := by
  obtain ⟨d, z, A', B', S'⟩ := S.more
  have e : R[a]? = some z := by
    have q : (R.drop a)[0]? = some z := by rw [S'.cut]; rfl
    rw [List.getElem?_drop] at q
    exact q
  rw [h] at e
  cases e
  exact ⟨d, A', B', S'⟩
theorem SK.found {r : Rec} {t x : Nat} {R : Rw} {k s : Nat} {w : List Nat} (S : SK r t x R k) (h : R[k]? = some (s, w)) (hf : rw_ r s t = x) : ∃ K, IsD r.stock.length (nxS r) (hitF r t x) (now r) K ∧ w = wy r.stock.length (nxS r) (hitF r t x) K (now r) := by
  have hf' : hitF r t x s = true := by unfold hitF; simpa using hf
  rcases S.or_ with ⟨K, hK, d, A, B, S'⟩ | ⟨_, h2⟩
  · obtain ⟨d, A', B', S2⟩ := seek_at S' h
    exact ⟨K, hK, S2.found (wayOf_wy _ _ _) hf'⟩
  · have z := h2 _ (List.mem_of_getElem? h) 0
    rw [show hit r.stock.length (nxS r) (hitF r t x) 0 s = hitF r t x s from rfl, hf'] at z
    cases z
theorem SK.step {r : Rec} {t x : Nat} {R : Rw} {k s : Nat} {w : List Nat} (S : SK r t x R k) (h : R[k]? = some (s, w)) (hf : ¬ rw_ r s t = x) : SK r t x (kids (nxS r) s w R r.stock.length) (k + 1) := by
  have hf' : hitF r t x s = false := by unfold hitF; simpa using hf
  obtain ⟨C, Kd⟩ := kids_of (nx := nxS r) s w R r.stock.length
  have hk : k < R.length := (List.getElem?_eq_some_iff.mp h).1
  rw [Kd.eq]
  have wl' : ∀ y ∈ R ++ C, y.2.length ≤ k + 1 := by
    intro y hy
    rw [List.mem_append] at hy
    rcases hy with hy | hy
    · exact Nat.le_succ_of_le (S.wl y hy)
    · obtain ⟨i, hi, e⟩ := Kd.of y hy
      subst e
      have := S.wl (s, w) (List.mem_of_getElem? h)
      simp at this ⊢
      exact this
  refine ⟨by rw [List.length_append]; omega, ?_, Kd.nd S.nd, wl', ?_⟩
  · intro y hy
    rw [List.mem_append] at hy
    rcases hy with hy | hy
    · exact S.lt y hy
    · obtain ⟨i, hi, e⟩ := Kd.of y hy
      subst e
      exact Nat.lt_of_le_of_lt nrw_le (S.lt (s, w) (List.mem_of_getElem? h))
  · rcases S.or_ with ⟨K, hK, d, A, B, S'⟩ | ⟨h1, h2⟩
    · obtain ⟨d, A', B', S2⟩ := seek_at S' h
      obtain ⟨d, A2, B2, S3⟩ := S2.step (wayOf_wy _ _ _) hf' Kd
      exact .inl ⟨K, hK, d, A2, B2, S3⟩
    · refine .inr ⟨h1, fun y hy j => ?_⟩
      rw [List.mem_append] at hy
      rcases hy with hy | hy
      · exact h2 y hy j
      · obtain ⟨i, hi, e⟩ := Kd.of y hy
        subst e
        cases q : hit r.stock.length (nxS r) (hitF r t x) j (nxS r s i) with
        | false => rfl
        | true =>
          have z := h2 (s, w) (List.mem_of_getElem? h) (j + 1)
          rw [show hit r.stock.length (nxS r) (hitF r t x) (j + 1) s = true from hit_succ.mpr ⟨i, hi, q⟩] at z
          cases z
theorem SK.none {r : Rec} {t x : Nat} {R : Rw} {k : Nat} (S : SK r t x R k) (h : R.length ≤ k) : ∀ j, hit r.stock.length (nxS r) (hitF r t x) j (now r) = false := by
  rcases S.or_ with ⟨K, hK, d, A, B, S'⟩ | ⟨h1, _⟩
  · obtain ⟨d, z, A', B', S2⟩ := S'.more
    have q := S2.cut
    rw [List.drop_of_length_le h] at q
    cases q
  · exact h1
def Wys (H : Hp) : List Addr → Rw → Prop
  | [], [] => True
  | a :: as, x :: l => H a = some (.lst (x.2.map vn)) ∧ Wys H as l
  | _, _ => False
theorem Wys.keep {H H' : Hp} : ∀ {as : List Addr} {l : Rw}, Wys H as l → (∀ a o, a ∈ as → H a = some o → H' a = some o) → Wys H' as l
  | [], [], _, _ => trivial
  | a :: as, x :: l, h, e => ⟨e _ _ (by simp) h.1, Wys.keep h.2 fun b o hb => e b o (List.mem_cons_of_mem _ hb)⟩
  | [], _ :: _, h, _ => h.elim
  | _ :: _, [], h, _ => h.elim
theorem Wys.at_ {H : Hp} : ∀ {as : List Addr} {l : Rw} {i : Nat} {y : Nat × List Nat}, Wys H as l → l[i]? = some y → ∃ a, as[i]? = some a ∧ H a = some (.lst (y.2.map vn))
  | a :: as, x :: l, 0, b, h, e => by
    have e : x = b := Option.some.inj e
    subst e
    exact ⟨a, rfl, h.1⟩
  | a :: as, x :: l, i + 1, b, h, e => Wys.at_ (as := as) (l := l) (i := i) h.2 e
  | [], [], _, _, _, e => by simp at e
  | [], _ :: _, _, _, h, _ => h.elim
  | _ :: _, [], _, _, h, _ => h.elim
theorem Wys.len {H : Hp} : ∀ {as : List Addr} {l : Rw}, Wys H as l → as.length = l.length
  | [], [], _ => rfl
  | a :: as, x :: l, h => by simp [Wys.len h.2]
  | [], _ :: _, h => h.elim
  | _ :: _, [], h => h.elim
theorem Wys.snoc {H : Hp} {q : Addr} {y : Nat × List Nat} (hq : H q = some (.lst (y.2.map vn))) : ∀ {as : List Addr} {l : Rw}, Wys H as l → Wys H (as ++ [q]) (l ++ [y])
  | [], [], _ => ⟨hq, trivial⟩
  | a :: as, x :: l, h => ⟨h.1, Wys.snoc hq h.2⟩
  | [], _ :: _, h => h.elim
  | _ :: _, [], h => h.elim
def kvR : Rw → List Addr → List (Key × V)
  | y :: R, a :: ws => (Sum.inl (y.1 : Int), V.ref a) :: kvR R ws
  | _, _ => []
theorem kvR_len : ∀ {R : Rw} {ws : List Addr}, ws.length = R.length → (kvR R ws).length = R.length
  | [], [], _ => rfl
  | y :: R, a :: ws, h => by
    show (kvR R ws).length + 1 = R.length + 1
    rw [kvR_len (by simpa using h)]
  | [], _ :: _, h => by simp at h
  | _ :: _, [], h => by simp at h
theorem kvR_none {c : Nat} : ∀ {R : Rw} {ws : List Addr}, ws.length = R.length → (valV (kvR R ws) (Sum.inl (c : Int) : Key)).isSome = decide (c ∈ R.map (·.1))
  | [], [], _ => by simp [kvR, valV_nil]
  | y :: R, a :: ws, h => by
    have ih := kvR_none (c := c) (R := R) (ws := ws) (by simpa using h)
    by_cases e : y.1 = c
    · show (valV ((Sum.inl (y.1 : Int), V.ref a) :: kvR R ws) _).isSome = _
      rw [valV_pos (p := (Sum.inl (y.1 : Int), V.ref a)) (show (Sum.inl (y.1 : Int) : Key) = Sum.inl (c : Int) by rw [e])]
      simp [e]
    · show (valV ((Sum.inl (y.1 : Int), V.ref a) :: kvR R ws) _).isSome = _
      rw [valV_neg (p := (Sum.inl (y.1 : Int), V.ref a)) (show ¬ (Sum.inl (y.1 : Int) : Key) = Sum.inl (c : Int) from fun z => e (by have := Sum.inl.inj z; omega)), ih]
      have e' : ¬ c = y.1 := fun z => e z.symm
      simp [e']
  | [], _ :: _, h => by simp at h
  | _ :: _, [], h => by simp at h
theorem kvR_at {c : Nat} {v : List Nat} : ∀ {R : Rw} {ws : List Addr} {k : Nat}, ws.length = R.length → (R.map (·.1)).Nodup → R[k]? = some (c, v) → ∃ q, ws[k]? = some q ∧ valV (kvR R ws) (Sum.inl (c : Int) : Key) = some (V.ref q)
  | y :: R, a :: ws, 0, h, nd, e => by
    have e : y = (c, v) := Option.some.inj e
    subst e
    exact ⟨a, rfl, valV_pos (p := (Sum.inl (c : Int), V.ref a)) rfl⟩
  | y :: R, a :: ws, k + 1, h, nd, e => by
    rw [List.map_cons, List.nodup_cons] at nd
    have e : R[k]? = some (c, v) := e
    obtain ⟨q, h1, h2⟩ := kvR_at (R := R) (ws := ws) (k := k) (by simpa using h) nd.2 e
    refine ⟨q, h1, ?_⟩
    have ne : ¬ y.1 = c := fun z => nd.1 (by rw [z]; exact List.mem_map.mpr ⟨(c, v), List.mem_of_getElem? e, rfl⟩)
    show valV ((Sum.inl (y.1 : Int), V.ref a) :: kvR R ws) _ = _
    rw [valV_neg (p := (Sum.inl (y.1 : Int), V.ref a)) (show ¬ (Sum.inl (y.1 : Int) : Key) = Sum.inl (c : Int) from fun z => ne (by have := Sum.inl.inj z; omega))]
    exact h2
  | [], [], _, _, _, e => by simp at e
  | [], _ :: _, _, h, _, _ => by simp at h
  | _ :: _, [], _, h, _, _ => by simp at h
theorem kvR_snoc {y : Nat × List Nat} {q : Addr} : ∀ {R : Rw} {ws : List Addr}, ws.length = R.length → kvR (R ++ [y]) (ws ++ [q]) = kvR R ws ++ [(Sum.inl (y.1 : Int), V.ref q)]
  | [], [], _ => rfl
  | z :: R, a :: ws, h => by
    show _ :: kvR (R ++ [y]) (ws ++ [q]) = _ :: kvR R ws ++ _
    rw [kvR_snoc (by simpa using h)]
    rfl
  | [], _ :: _, h => by simp at h
  | _ :: _, [], h => by simp at h
theorem kvR_get : ∀ {R : Rw} {ws : List Addr} {i : Nat} {k : Key} {v : V}, (kvR R ws)[i]? = some (k, v) → ∃ y q, R[i]? = some y ∧ ws[i]? = some q ∧ k = Sum.inl (y.1 : Int) ∧ v = .ref q
  | y :: R, a :: ws, 0, k, v, e => by
    have e : (Sum.inl (y.1 : Int), V.ref a) = (k, v) := Option.some.inj e
    cases e
    exact ⟨y, a, rfl, rfl, rfl, rfl⟩
  | y :: R, a :: ws, i + 1, k, v, e => kvR_get (R := R) (ws := ws) (i := i) e
  | [], [], _, _, _, e => by simp [kvR] at e
  | [], _ :: _, _, _, _, e => by simp [kvR] at e
  | _ :: _, [], _, _, _, e => by simp [kvR] at e
structure WH (H H' : Hp) (ra da : Addr) (ws : List Addr) (R : Rw) : Prop where
  same : Same H H'
  r0 : H ra = none
  d0 : H da = none
  nr : ∀ q ∈ ws, q ≠ ra
  hr : H' ra = some (.lst (R.map fun y => vn y.1))
  hd : H' da = some (.dK (kvR R ws))
  wy : Wys H' ws R
theorem WH.new {H H' : Hp} {ra da : Addr} {ws : List Addr} {R : Rw} (h : WH H H' ra da ws R) {T : Addr} {o : HO} (hT : H' T = none) : WH H (upd H' T o) ra da ws R := by
  have s : Same H' (upd H' T o) := same_new (Same.refl _) hT
  exact ⟨h.same.trans s, h.r0, h.d0, h.nr, s _ _ h.hr, s _ _ h.hd, h.wy.keep fun a o _ e => s _ _ e⟩
theorem Wys.lst {H : Hp} : ∀ {as : List Addr} {l : Rw}, Wys H as l → ∀ a ∈ as, ∃ xs, H a = some (.lst xs)
  | a :: as, x :: l, h, b, hb => by
    rcases List.mem_cons.mp hb with z | z
    · subst z; exact ⟨_, h.1⟩
    · exact Wys.lst h.2 b z
  | [], [], _, _, hb => by cases hb
  | [], _ :: _, h, _, _ => h.elim
  | _ :: _, [], h, _, _ => h.elim
theorem WH.push {H H' : Hp} {ra da : Addr} {ws : List Addr} {R : Rw} (h : WH H H' ra da ws R) {c : Nat} {v : List Nat} {p q : Addr} {o1 o2 : HO} (hn : ¬ c ∈ R.map (·.1)) (e2 : o2 = .lst (v.map vn)) (hp : H' p = none) (hq : (upd H' p o1) q = none) :
    WH H (upd (upd (upd (upd H' p o1) q o2) da (.dK (putK (kvR R ws) (Sum.inl (c : Int)) (.ref q)))) ra (.lst ((R ++ [(c, v)]).map fun y => vn y.1))) ra da (ws ++ [q]) (R ++ [(c, v)]) := by
  have nqp : q ≠ p := fun e => by subst e; rw [upd_same] at hq; cases hq
  have hq' : H' q = none := by rw [upd_ne nqp] at hq; exact hq
  have nqr : q ≠ ra := (ne_of_none h.hr hq').symm
  have nqd : q ≠ da := (ne_of_none h.hd hq').symm
  have nrd : ra ≠ da := ne_of h.hr h.hd (by intro z; cases z)
  have up : ∀ b o, H' b = some o → b ≠ ra → b ≠ da → (upd (upd (upd (upd H' p o1) q o2) da (.dK (putK (kvR R ws) (Sum.inl (c : Int)) (.ref q)))) ra (.lst ((R ++ [(c, v)]).map fun y => vn y.1))) b = some o := fun b o e n m => by
    rw [upd_ne n, upd_ne m, upd_ne (ne_of_none e hq'), upd_ne (ne_of_none e hp)]
    exact e
  have wl := h.wy.len
  have vn0 : valV (kvR R ws) (Sum.inl (c : Int) : Key) = none := by
    have z := kvR_none (c := c) wl
    rw [decide_eq_false hn] at z
    cases e : valV (kvR R ws) (Sum.inl (c : Int) : Key) with
    | none => rfl
    | some x => rw [e] at z; cases z
  refine ⟨fun b o e => up b o (h.same _ _ e) (ne_of_none e h.r0) (ne_of_none e h.d0), h.r0, h.d0, ?_, upd_same, ?_, ?_⟩
  · intro b hb
    rw [List.mem_append] at hb
    rcases hb with hb | hb
    · exact h.nr b hb
    · have e : b = q := by simpa using hb
      subst e
      exact nqr
  · rw [upd_ne nrd.symm, upd_same, putK_new _ vn0, kvR_snoc wl]
  · refine Wys.snoc ?_ (h.wy.keep fun a o ha e => up a o e (h.nr a ha) ?_)
    · rw [upd_ne nqr, upd_ne nqd, upd_same, e2]
    · obtain ⟨xs, z⟩ := h.wy.lst a ha
      exact ne_of z h.hd (by intro z; cases z)
theorem kids_at {nx : Nat → Nat → Nat} {s : Nat} {w : List Nat} {R : Rw} {k i : Nat} {y : Nat × List Nat} (h : R[k]? = some y) : (kids nx s w R i)[k]? = some y := by
  obtain ⟨C, Kd⟩ := kids_of (nx := nx) s w R i
  rw [Kd.eq, List.getElem?_append_left (List.getElem?_eq_some_iff.mp h).1]
  exact h
inductive Bf (r : Rec) : Nat → Rw → Prop
  | start : Bf r 0 [(now r, [])]
  | step {k s : Nat} {w : List Nat} {R : Rw} (h : Bf r k R) (e : R[k]? = some (s, w)) : Bf r (k + 1) (kids (nxS r) s w R r.stock.length)
structure SB (R : Rw) (k : Nat) : Prop where
  le : k ≤ R.length
  lt : ∀ y ∈ R, y.1 < 256
  nd : (R.map (·.1)).Nodup
  wl : ∀ y ∈ R, y.2.length ≤ k
theorem Bf.sb {r : Rec} (G : Good r) {k : Nat} {R : Rw} (h : Bf r k R) : SB R k := by
  induction h with
  | start =>
    refine ⟨Nat.zero_le _, ?_, by simp, by simp⟩
    intro y hy
    have e : y = (now r, []) := by simpa using hy
    subst e
    have := now_le r
    have := G.la
    have := full_lt G.m3
    show now r < 256
    omega
  | @step k s w R h e S =>
    obtain ⟨C, Kd⟩ := kids_of (nx := nxS r) s w R r.stock.length
    have hk : k < R.length := (List.getElem?_eq_some_iff.mp e).1
    rw [Kd.eq]
    refine ⟨by rw [List.length_append]; omega, ?_, Kd.nd S.nd, ?_⟩
    · intro y hy
      rw [List.mem_append] at hy
      rcases hy with hy | hy
      · exact S.lt y hy
      · obtain ⟨i, hi, e1⟩ := Kd.of y hy
        subst e1
        exact Nat.lt_of_le_of_lt nrw_le (S.lt (s, w) (List.mem_of_getElem? e))
    · intro y hy
      rw [List.mem_append] at hy
      rcases hy with hy | hy
      · exact Nat.le_succ_of_le (S.wl y hy)
      · obtain ⟨i, hi, e1⟩ := Kd.of y hy
        subst e1
        have := S.wl (s, w) (List.mem_of_getElem? e)
        simp at this ⊢
        exact this
theorem SB.len {R : Rw} {k : Nat} (S : SB R k) : R.length ≤ 256 := by
  have := nd_len 256 (R.map (·.1)) S.nd (fun y hy => by
    obtain ⟨z, hz, e⟩ := List.mem_map.mp hy
    rw [← e]
    exact S.lt z hz)
  rwa [List.length_map] at this
theorem Bf.sk {r : Rec} (G : Good r) {t x : Nat} {k : Nat} {R : Rw} (h : Bf r k R) (hno : ∀ j, j < k → ∀ s w, R[j]? = some (s, w) → ¬ rw_ r s t = x) : SK r t x R k := by
  induction h with
  | start => exact SK.start G
  | @step k s w R h e ih =>
    refine SK.step (ih fun j hj s' w' e' => hno j (by omega) s' w' (kids_at e')) e ?_
    exact hno k (by omega) s w (kids_at e)
theorem Bf.pre {r : Rec} {n : Nat} {R : Rw} (h : Bf r n R) : ∀ i, i < n → ∃ R', Bf r i R' ∧ (∃ y, R'[i]? = some y ∧ R[i]? = some y) ∧ ∀ (j : Nat) (y : Nat × List Nat), R'[j]? = some y → R[j]? = some y := by
  induction h with
  | start => intro i hi; omega
  | @step k s w R h e ih =>
    intro i hi
    by_cases q : i = k
    · subst q
      exact ⟨R, h, ⟨_, e, kids_at e⟩, fun j y hy => kids_at hy⟩
    · obtain ⟨R', h1, ⟨y, h2, h3⟩, h4⟩ := ih i (by omega)
      exact ⟨R', h1, ⟨y, h2, kids_at h3⟩, fun j y hy => kids_at (h4 j y hy)⟩
section
variable {P : Program} {w : World} {K : PySem.W.Frag} {mg : Str → Option Value} {base : Heap} {CS CH : Addr}
def pRows (CS : Addr) : V → Hp → VK → Prop := fun a H Q => ∃ (s : Addr) (r : Rec), a = .ref s ∧ StAt CS H s r ∧ Good r ∧
  ∀ (H' : Hp) (da : Addr) (ws : List Addr) (R : Rw), Same H H' → H da = none → H' da = some (.dK (kvR R ws)) → Wys H' ws R → Bf r R.length R → Q (.ref da) H'
theorem ok_stock_rows (T : Txt K mg CS CH) : Ok P w K mg base 6 "stock_rows" ["state"] (sp1 (pRows CS)) := by
  refine ok1 T.f_stock_rows sc_stock_rows (fun _ _ _ _ _ _ _ => rfl) fun f cdv A outer s H a Q E hr h => ?_
  obtain ⟨a, r, rfl, S0, G, q0⟩ := h
  have sl := G.sl
  refine ⟨_, (pss_cons (ps_set (i := 1) sc_stock_rows.nd rfl (Or.inl rfl) (pe_disp (pps_cons (pcall (ok_stands_now T) hr (pa_cons (pv 0) pa_nil)) (pe_lst pa_nil) pps_nil) rfl rfl (by intro z; cases z) (by decide)))
      (pss_cons (ps_set (i := 2) sc_stock_rows.nd rfl (Or.inl rfl) (pe_lst (pa_cons (pcall (ok_stands_now T) hr (pa_cons (pv 0) pa_nil)) pa_nil)))
      (pss_cons (ps_set (i := 3) sc_stock_rows.nd rfl (Or.inl rfl) (pn 0))
      (pss_cons (ps_while PassesOwn.never (pt_cmpR on_lt (pv 3) (pe_callB call_len_seq rfl T.no_len PySem.boot_len (pa_cons (pv 2) pa_nil)) (nomark _))
      (pss_cons (ps_for PassesOwn.never rfl (pi_enum rfl T.no_enumerate (pa_cons (pe_fld (pv 0) rfl) pa_nil)) (pg_tup rfl (pgs_cons (pg_name (i := 4) sc_stock_rows.nd rfl (Or.inl rfl)) (pgs_cons (pg_name (i := 5) sc_stock_rows.nd rfl (Or.inl rfl)) pgs_nil)))
      (pss_cons (ps_set (i := 6) sc_stock_rows.nd rfl (Or.inl rfl) (pcall (ok_stands_after_right T) hr (pa_cons (pv 0) (pa_cons (pe_ix ix_list (pv 2) (pv 3) (fun _ _ => rfl)) (pa_cons (pv 5) pa_nil)))))
      (pss_one (ps_if (pt_cmp (pc_dnotin (hu_of hr) (pv 6) (pv 1)))
      (pss_cons (ps_dput (hu_of hr) (pv 1) (pv 6) (pe_op op_cat (pe_dget (hu_of hr) (pv 1) (pe_ix ix_list (pv 2) (pv 3) (fun _ _ => rfl)) (fun _ _ => rfl)) (pe_lst (pa_cons (pv 4) pa_nil))) rfl)
      (pss_one (ps_expr (pe_bm PySem.F.plainAttrs_list PySem.F.slot_list_append PySem.F.type_list_append mt_append (pv 2) (pa_cons (pv 6) pa_nil)))))
      pss_nil))))
      (pss_one (ps_set (i := 3) sc_stock_rows.nd rfl (Or.inl rfl) (pe_op on_add (pv 3) (pn 1))))))
      (pss_one (ps_ret (pv 1))))))), ?_⟩
  refine fun da hda => ?_
  have s0 : Same H (upd H da (.dK [])) := same_new (Same.refl H) hda
  refine ⟨_, rfl, _, rfl, a, r, rfl, S0.same s0, G, fun H1 s1 => ⟨(by show 0 ≤ sizeLine; decide), fun w1 hw1 => ?_⟩⟩
  have hda1 : H1 da = some (.dK []) := s1 _ _ upd_same
  have n1 : da ≠ w1 := ne_of_none hda1 hw1
  have s2 : Same H1 (upd H1 w1 (.lst [])) := same_new (Same.refl _) hw1
  refine ⟨by rw [upd_ne n1]; exact hda1, [(Sum.inl (now r : Int), V.ref w1)], rfl, (by show 1 ≤ 15; decide), ?_⟩
  have em : mergeK [] [((Sum.inl (now r : Int) : Key), V.ref w1)] = kvR [(now r, [])] [w1] := rfl
  rw [em]
  have hS3 : Same H (upd (upd H1 w1 (.lst [])) da (.dK (kvR [(now r, [])] [w1]))) := fun b o e => by
    rw [upd_ne (ne_of_none e hda)]
    exact s2 _ _ (s1 _ _ (s0 _ _ e))
  refine ⟨_, rfl, _, rfl, a, r, rfl, S0.same hS3, G, fun H4 s4 => ⟨(by show 1 ≤ sizeLine; decide), fun ra hra => ?_⟩⟩
  have s5 : Same H4 (upd H4 ra (.lst [vn (now r)])) := same_new (Same.refl _) hra
  have hw4 : H4 w1 = some (.lst []) := s4 _ _ (by rw [upd_ne n1.symm]; exact upd_same)
  have W0 : WH H (upd H4 ra (.lst [vn (now r)])) ra da [w1] [(now r, [])] := by
    refine ⟨(hS3.trans s4).trans s5, hS3.free (s4.free hra), hda, fun q hq => ?_, upd_same, s5 _ _ (s4 _ _ upd_same), s5 _ _ hw4, trivial⟩
    have e : q = w1 := by simpa using hq
    subst e
    exact ne_of_none hw4 hra
  refine while_by (fun σ H' => ∃ (R : Rw) (k : Nat) (ws : List Addr) (v4 v5 v6 : Option V), σ = [some (.ref a), some (.ref da), some (.ref ra), some (vn k), v4, v5, v6] ∧ WH H H' ra da ws R ∧ Bf r k R) (fun σ _ => 256 - msr σ 3)
    ⟨_, 0, _, none, none, none, rfl, W0, Bf.start⟩ ?_ ?_
  · rintro σ H' ⟨R, k, ws, v4, v5, v6, rfl, W, B⟩
    have S := B.sb G
    have rl := S.len
    refine ⟨_, rfl, _, rfl, ra, _, rfl, .inl (SqL.of W.hr), _, _, rfl, rfl, _, rfl, ifD (fun hk => ?_) fun hk => ?_⟩
    · rw [List.length_map] at hk
      obtain ⟨⟨c, v⟩, hy⟩ : ∃ y, R[k]? = some y := ⟨_, List.getElem?_eq_getElem hk⟩
      have vl : v.length ≤ k := S.wl (c, v) (List.mem_of_getElem? hy)
      have atR : ∀ {R' : Rw}, R'[k]? = some (c, v) → atI (R'.map fun y => vn y.1) (k : Int) = some (vn c) := fun {R'} h => atI_nat (by rw [List.getElem?_map, h]; rfl)
      obtain ⟨dx, g, kk, as, d, ds, SS⟩ := S0
      refine ⟨_, rfl, a, CS, dx, _, _, rfl, W.same _ _ SS.ob, T.c_State.cl, T.c_State.no _ (by decide), rfl, kk, _, rfl, SqL.of (W.same _ _ SS.st), ?_⟩
      refine for_enum (K := K) (a := kk) (xs := r.stock.map vn) (fun i σ H' => ∃ (ws : List Addr) (v4 v5 v6 : Option V), σ = [some (.ref a), some (.ref da), some (.ref ra), some (vn k), v4, v5, v6] ∧ WH H H' ra da ws (kids (nxS r) c v R i))
        ⟨ws, _, _, _, rfl, W⟩ (fun i σ H' _ ⟨_, _, _, _, _, W⟩ => SqL.of (W.same _ _ SS.st)) ?_ ?_
      · rintro i y σ H5 T5 hi ⟨ws5, u4, u5, u6, rfl, W5⟩ hT
        obtain ⟨p, hp, rfl⟩ := map_at hi
        have lt : i < r.stock.length := (List.getElem?_eq_some_iff.mp hp).1
        have gp : r.stock.getD i 0 = p := by rw [List.getD_eq_getElem?_getD, hp]; rfl
        have hy5 := kids_at (nx := nxS r) (s := c) (w := v) (i := i) hy
        have W6 := W5.new (T := T5) (o := .tup [vn i, vn p]) hT
        have wl6 := W6.wy.len
        have kl : (kids (nxS r) c v R i).length ≤ 262 := by
          have z : ∀ j, (kids (nxS r) c v R j).length ≤ R.length + j := by
            intro j
            induction j with
            | zero => exact Nat.le_refl _
            | succ j ih =>
              rw [kids_succ]
              unfold kid
              split
              · omega
              · rw [List.length_append]
                show _ + 1 ≤ _
                omega
          have := z i
          omega
        have nd5 : ((kids (nxS r) c v R i).map (·.1)).Nodup := by
          obtain ⟨C, Kd⟩ := kids_of (nx := nxS r) c v R i
          rw [Kd.eq]
          exact Kd.nd S.nd
        refine ⟨T5, _, rfl, SqT.of upd_same, rfl, _, _, rfl, _, _, rfl, rfl, ?_⟩
        refine ⟨_, rfl, _, rfl, _, rfl, ra, _, _, _, rfl, rfl, SqL.of W6.hr, atR hy5, _, rfl, _, _, _, rfl, a, r, _, _, rfl, rfl, rfl, ⟨dx, g, kk, as, d, ds, SS.same W6.same⟩, ?_⟩
        have en : nextW r c p = nxS r c i := by unfold nxS; rw [gp]
        rw [en]
        refine ⟨_, rfl, _, rfl, da, _, rfl, DGet.k (k := Sum.inl (nxS r c i : Int)) W6.hd, _, rfl, ?_⟩
        rw [kvR_none wl6, kids_succ]
        refine ifB (fun hn => ?_) fun hn => ?_
        · have hn : ¬ nxS r c i ∈ (kids (nxS r) c v R i).map (·.1) := by simpa using hn
          have ek : kid (nxS r) c v (kids (nxS r) c v R i) i = kids (nxS r) c v R i ++ [(nxS r c i, v ++ [i])] := by unfold kid; rw [if_neg hn]
          rw [ek]
          obtain ⟨q5, hq5, hv5⟩ := kvR_at wl6 nd5 hy5
          obtain ⟨q5', hq5', hqH5⟩ := W6.wy.at_ hy5
          rw [hq5] at hq5'
          cases hq5'
          have dg : DGet (upd H5 T5 (.tup [vn i, vn p])) da (vn c) (some (V.ref q5)) := by
            have z := DGet.k (k := Sum.inl (c : Int)) W6.hd
            rw [hv5] at z
            exact z
          refine ⟨_, rfl, _, rfl, _, rfl, ra, _, _, _, rfl, rfl, SqL.of W6.hr, atR hy5, da, _, rfl, dg, _, rfl, (by show 1 ≤ sizeLine; decide), fun p1 hp1 => ?_⟩
          have nq1 : q5 ≠ p1 := ne_of_none hqH5 hp1
          refine ⟨q5, p1, _, _, rfl, rfl, by rw [upd_ne nq1]; exact hqH5, upd_same, ?_, fun p2 hp2 => ?_⟩
          · rw [List.length_map]
            show v.length + 1 ≤ sizeLine
            have : sizeLine = 16777216 := rfl
            omega
          · have nd1 : da ≠ p1 := ne_of_none W6.hd hp1
            have hd7 : (upd (upd H5 T5 (.tup [vn i, vn p])) p1 (.lst [vn i])) da = some (.dK (kvR (kids (nxS r) c v R i) ws5)) := by rw [upd_ne nd1]; exact W6.hd
            have nd2 : da ≠ p2 := ne_of_none hd7 hp2
            have hd8 : ∀ {o : HO}, (upd (upd (upd H5 T5 (.tup [vn i, vn p])) p1 (.lst [vn i])) p2 o) da = some (.dK (kvR (kids (nxS r) c v R i) ws5)) := fun {o} => by rw [upd_ne nd2]; exact hd7
            have nr1 : ra ≠ p1 := ne_of_none W6.hr hp1
            have hr7 : (upd (upd H5 T5 (.tup [vn i, vn p])) p1 (.lst [vn i])) ra = some (.lst ((kids (nxS r) c v R i).map fun y => vn y.1)) := by rw [upd_ne nr1]; exact W6.hr
            have nr2 : ra ≠ p2 := ne_of_none hr7 hp2
            have nrd : ra ≠ da := ne_of W6.hr W6.hd (by intro z; cases z)
            have hr9 : ∀ {o o' : HO}, (upd (upd (upd (upd H5 T5 (.tup [vn i, vn p])) p1 (.lst [vn i])) p2 o) da o') ra = some (.lst ((kids (nxS r) c v R i).map fun y => vn y.1)) := fun {o o'} => by rw [upd_ne nrd, upd_ne nr2]; exact hr7
            refine ⟨_, rfl, _, rfl, da, _, rfl, DPut.k (k := Sum.inl (nxS r c i : Int)) hd8 ?_, ?_⟩
            · rw [kvR_len wl6]
              exact Nat.lt_of_le_of_lt kl (by decide)
            · refine ⟨_, rfl, .inl ⟨rfl, _, SqL.of hr9⟩, _, rfl, ra, _, _, rfl, rfl, hr9, ?_, ws5 ++ [p2], _, _, _, rfl, ?_⟩
              · rw [List.length_map]; exact Nat.lt_of_le_of_lt kl (by decide)
              · have em : ((kids (nxS r) c v R i).map fun y => vn y.1) ++ [vn (nxS r c i)] = (kids (nxS r) c v R i ++ [(nxS r c i, v ++ [i])]).map fun y => vn y.1 := by rw [List.map_append]; rfl
                rw [em]
                exact W6.push hn (by rw [List.map_append]; all_goals rfl) hp1 hp2
        · have hn : nxS r c i ∈ (kids (nxS r) c v R i).map (·.1) := by simpa using hn
          have ek : kid (nxS r) c v (kids (nxS r) c v R i) i = kids (nxS r) c v R i := by unfold kid; rw [if_pos hn]
          rw [ek]
          exact ⟨ws5, _, _, _, rfl, W6⟩
      · rintro σ H5 ⟨ws5, u4, u5, u6, rfl, W5⟩
        rw [List.length_map] at W5
        refine ⟨_, rfl, _, _, rfl, rfl, ⟨_, k + 1, ws5, _, _, _, rfl, W5, Bf.step B hy⟩, ?_⟩
        show 256 - ((k + 1 : Nat) : Int).toNat < 256 - ((k : Nat) : Int).toNat
        simp only [Int.toNat_natCast]
        omega
    · rw [List.length_map] at hk
      have ek : k = R.length := by have := S.le; omega
      subst ek
      exact ⟨_, rfl, q0 _ da ws R W.same W.d0 W.hd W.wy B⟩
  · rintro σ H' Q1 Q2 hq ⟨v1, e1, v2, e2, p, ys, e3, hs, a1, b1, e4, e5, k, e6, q6⟩
    exact ⟨v1, e1, v2, e2, p, ys, e3, hs, a1, b1, e4, e5, k, e6, hq _ _ q6⟩
def pStockRow (CS : Addr) : V → V → V → Hp → VK → Prop := fun a b c H Q => ∃ (s : Addr) (r : Rec) (t x : Nat), a = .ref s ∧ b = vn t ∧ c = vn x ∧ StAt CS H s r ∧ Good r ∧
  ((∀ j, hit r.stock.length (nxS r) (hitF r t x) j (now r) = false) → ∀ H', Same H H' → Q .non H') ∧
  ∀ K, IsD r.stock.length (nxS r) (hitF r t x) (now r) K → (wy r.stock.length (nxS r) (hitF r t x) K (now r)).length ≤ 256 → ∀ H' p, Same H H' → H' p = some (.lst ((wy r.stock.length (nxS r) (hitF r t x) K (now r)).map vn)) → Q (.ref p) H'
theorem ok_first_stock_row (T : Txt K mg CS CH) : Ok P w K mg base 7 "first_stock_row" ["state", "t", "wanted"] (sp3 (pStockRow CS)) := by
  refine ok3 T.f_first_stock_row sc_first_stock_row (fun _ _ _ _ _ _ _ _ _ => rfl) fun f cdv A outer s H a b c Q E hr h => ?_
  obtain ⟨a, r, t, x, rfl, rfl, rfl, S0, G, q0, q1⟩ := h
  refine ⟨_, (pss_cons (ps_for PassesOwn.never rfl (pi_items (pe_lockv (pcall (ok_stock_rows T) hr (pa_cons (pv 0) pa_nil)))) (pg_tup rfl (pgs_cons (pg_name (i := 3) sc_first_stock_row.nd rfl (Or.inl rfl)) (pgs_cons (pg_name (i := 4) sc_first_stock_row.nd rfl (Or.inl rfl)) pgs_nil)))
      (pss_one (ps_if (pt_cmpR on_eq (pcall (ok_right_while T) hr (pa_cons (pv 0) (pa_cons (pv 3) (pa_cons (pv 1) pa_nil)))) (pv 2) (nomark _))
      (pss_one (ps_ret (pv 4)))
      pss_nil)))
      (pss_one (ps_ret pe_non))), ?_⟩
  refine ⟨_, rfl, _, rfl, a, r, rfl, S0, G, fun H1 da ws R s1 hd0 hd wys B => ⟨da, _, rfl, hd, trivial, fun od => ⟨da, od, _, rfl, upd_same, ?_⟩⟩⟩
  have SBr := B.sb G
  have rl := SBr.len
  have s2 : Same H (upd H1 da (.frz od (.dK (kvR R ws)))) := fun b o e => by
    rw [upd_ne (ne_of_none e hd0)]
    exact s1 _ _ e
  have wys2 : Wys (upd H1 da (.frz od (.dK (kvR R ws)))) ws R := wys.keep fun b o hb e => by
    obtain ⟨xs, z⟩ := wys.lst b hb
    rw [upd_ne (ne_of z hd (by intro z; cases z))]
    exact e
  have kl := kvR_len wys.len
  refine for_items (d := da) (o := od) (kvs := kvR R ws) (fun i σ H' => (∃ v3 v4, σ = [some (.ref a), some (vn t), some (vn x), v3, v4]) ∧ Same (upd H1 da (.frz od (.dK (kvR R ws)))) H' ∧ ∀ j, j < i → ∀ s w, R[j]? = some (s, w) → ¬ rw_ r s t = x)
    ⟨⟨none, none, rfl⟩, Same.refl _, fun j hj => absurd hj (Nat.not_lt_zero j)⟩ (fun i σ H' _ ⟨_, e, _⟩ => e _ _ upd_same) ?_ ?_
  · rintro i k v σ H' T5 hi ⟨⟨v3, v4, rfl⟩, s3, hno⟩ hT
    obtain ⟨⟨c, y⟩, q5, hy, hq5, rfl, rfl⟩ := kvR_get hi
    obtain ⟨q6, hq6, hqH⟩ := wys2.at_ hy
    rw [hq5] at hq6
    cases hq6
    have s4 : Same (upd H1 da (.frz od (.dK (kvR R ws)))) (upd H' T5 (.tup [kV (Sum.inl (c : Int)), V.ref q5])) := same_new s3 hT
    refine ⟨T5, _, rfl, SqT.of upd_same, rfl, _, _, rfl, _, _, rfl, rfl, ?_⟩
    refine ⟨_, rfl, _, rfl, _, rfl, _, _, _, rfl, a, r, c, t, rfl, rfl, rfl, S0.same (s2.trans s4), _, rfl, _, _, rfl, rfl, _, rfl, ifD (fun hf => ?_) fun hf => ?_⟩
    · have lt : i < R.length := (List.getElem?_eq_some_iff.mp hy).1
      obtain ⟨R', B', ⟨z, h1, h2⟩, h3⟩ := B.pre i lt
      rw [hy] at h2
      cases h2
      have SKr : SK r t x R' i := B'.sk G fun j hj s w e => hno j hj s w (h3 _ _ e)
      obtain ⟨D, hD, e⟩ := SKr.found h1 hf
      have yl : y.length ≤ R.length := SBr.wl (c, y) (List.mem_of_getElem? hy)
      subst e
      exact ⟨_, rfl, q1 D hD (by omega) _ q5 (s2.trans s4) (s4 _ _ hqH)⟩
    · refine ⟨⟨_, _, rfl⟩, s4, fun j hj s w e => ?_⟩
      by_cases z : j = i
      · subst z
        rw [hy] at e
        cases e
        exact hf
      · exact hno j (by omega) s w e
  · rintro σ H' ⟨⟨v3, v4, rfl⟩, s3, hno⟩
    rw [kl] at hno
    exact q0 ((B.sk G (t := t) (x := x) hno).none (Nat.le_refl _)) _ (s2.trans s3)
end
end DY
namespace DY
open PySem PySem.Spec PyProof.Rows L2 DX DM
open Krb7 (full)
structure Own3 (H0 : Hp) (g k d : Addr) : Prop where
  gk : g ≠ k
  gd : g ≠ d
  kd : k ≠ d
  g0 : H0 g = none
  k0 : H0 k = none
  d0 : H0 d = none
def OwnAt (CS : Addr) (H0 H : Hp) (s : Addr) (r : Rec) : Prop := Same H0 H ∧ H0 s = none ∧ ∃ dx g k as d ds, SAt CS H s r dx g k as d ds ∧ Own3 H0 g k d
theorem OwnAt.st {CS : Addr} {H0 H : Hp} {s : Addr} {r : Rec} (h : OwnAt CS H0 H s r) : StAt CS H s r := let ⟨_, _, dx, g, k, as, d, ds, S, _⟩ := h; ⟨dx, g, k, as, d, ds, S⟩
theorem OwnAt.same {CS : Addr} {H0 H H' : Hp} {s : Addr} {r : Rec} (h : OwnAt CS H0 H s r) (e : Same H H') : OwnAt CS H0 H' s r := let ⟨a, b, dx, g, k, as, d, ds, S, c⟩ := h; ⟨a.trans e, b, dx, g, k, as, d, ds, S.same e, c⟩
theorem OwnAt.new {CS : Addr} {H0 H : Hp} {s p : Addr} {r : Rec} {o : HO} (h : OwnAt CS H0 H s r) (hp : H p = none) : OwnAt CS H0 (upd H p o) s r := h.same (same_new (Same.refl _) hp)
theorem OwnAt.free {CS : Addr} {H0 H : Hp} {s p : Addr} {r : Rec} (h : OwnAt CS H0 H s r) (hp : H p = none) : H0 p = none := h.1.free hp
theorem Tups.keep {H H' : Hp} (e : ∀ b xs, H b = some (.tup xs) → H' b = some (.tup xs)) : ∀ {as : List Addr} {l : List (Nat × Nat)}, Tups H as l → Tups H' as l
  | [], [], _ => trivial
  | a :: as, x :: l, h => ⟨e _ _ h.1, Tups.keep e h.2⟩
  | [], _ :: _, h => h.elim
  | _ :: _, [], h => h.elim
theorem SAt.put {CS : Addr} {H : Hp} {s : Addr} {r r' : Rec} {dx g k d : Addr} {as ds : List Addr} {fs : List (Str × V)} (S : SAt CS H s r dx g k as d ds) (g' k' d' : Addr) (as' ds' : List Addr) (e : fs = sf r' g' k' d')
    (hg : H g' = some (.lst (as'.map V.ref))) (ht : Tups H as' r'.given) (hk : H k' = some (.lst (r'.stock.map vn))) (hd : H d' = some (.lst (ds'.map V.ref))) (hte : Tups H ds' r'.ended) : SAt CS (upd H s (.ins CS dx fs)) s r' dx g' k' as' d' ds' := by
  subst e
  have n1 : ∀ b xs, H b = some (.lst xs) → b ≠ s := fun b xs q => ne_of q S.ob (by intro z; cases z)
  have n2 : ∀ b xs, H b = some (.tup xs) → b ≠ s := fun b xs q => ne_of q S.ob (by intro z; cases z)
  exact ⟨upd_same, by rw [upd_ne (n1 _ _ hg)]; exact hg, ht.keep fun b xs e => by rw [upd_ne (n2 _ _ e)]; exact e, by rw [upd_ne (n1 _ _ hk)]; exact hk, by rw [upd_ne (n1 _ _ hd)]; exact hd, hte.keep fun b xs e => by rw [upd_ne (n2 _ _ e)]; exact e⟩
theorem OwnAt.put {CS : Addr} {H0 H : Hp} {s : Addr} {r r' : Rec} {dx g k d : Addr} {as ds : List Addr} {fs : List (Str × V)} (h : OwnAt CS H0 H s r) (S : SAt CS H s r dx g k as d ds) (g' k' d' : Addr) (as' ds' : List Addr) (e : fs = sf r' g' k' d') (h0 : Own3 H0 g' k' d')
    (hg : H g' = some (.lst (as'.map V.ref))) (ht : Tups H as' r'.given) (hk : H k' = some (.lst (r'.stock.map vn))) (hd : H d' = some (.lst (ds'.map V.ref))) (hte : Tups H ds' r'.ended) : OwnAt CS H0 (upd H s (.ins CS dx fs)) s r' ∧ SAt CS (upd H s (.ins CS dx fs)) s r' dx g' k' as' d' ds' := by
  have T := S.put g' k' d' as' ds' e hg ht hk hd hte
  refine ⟨⟨fun b o q => ?_, h.2.1, dx, g', k', as', d', ds', T, h0⟩, T⟩
  rw [upd_ne (ne_of_none q h.2.1)]
  exact h.1 _ _ q
theorem OwnAt.put0 {CS : Addr} {H0 H : Hp} {s : Addr} {r r' : Rec} {dx g k d : Addr} {as ds : List Addr} {fs : List (Str × V)} (h : OwnAt CS H0 H s r) (S : SAt CS H s r dx g k as d ds) (h0 : Own3 H0 g k d) (e : fs = sf r' g k d) (eg : r'.given = r.given) (es : r'.stock = r.stock) (ee : r'.ended = r.ended) :
    OwnAt CS H0 (upd H s (.ins CS dx fs)) s r' ∧ SAt CS (upd H s (.ins CS dx fs)) s r' dx g k as d ds :=
  h.put S g k d as ds e h0 S.gi (by rw [eg]; exact S.tu) (by rw [es]; exact S.st) S.en (by rw [ee]; exact S.te)
theorem OwnAt.putG {CS : Addr} {H0 H : Hp} {s : Addr} {r r' : Rec} {dx g k d g' : Addr} {as ds as' : List Addr} {fs : List (Str × V)} (h : OwnAt CS H0 H s r) (S : SAt CS H s r dx g k as d ds) (h0 : Own3 H0 g' k d) (e : fs = sf r' g' k d) (hg : H g' = some (.lst (as'.map V.ref))) (ht : Tups H as' r'.given) (es : r'.stock = r.stock) (ee : r'.ended = r.ended) :
    OwnAt CS H0 (upd H s (.ins CS dx fs)) s r' ∧ SAt CS (upd H s (.ins CS dx fs)) s r' dx g' k as' d ds :=
  h.put S g' k d as' ds e h0 hg ht (by rw [es]; exact S.st) S.en (by rw [ee]; exact S.te)
theorem Tups.snoc {H : Hp} {q : Addr} {y : Nat × Nat} (hq : H q = some (.tup [vn y.1, vn y.2])) : ∀ {as : List Addr} {l : List (Nat × Nat)}, Tups H as l → Tups H (as ++ [q]) (l ++ [y])
  | [], [], _ => ⟨hq, trivial⟩
  | a :: as, x :: l, h => ⟨h.1, Tups.snoc hq h.2⟩
  | [], _ :: _, h => h.elim
  | _ :: _, [], h => h.elim
theorem Own3.newG {H0 H1 : Hp} {g k d g' : Addr} {o1 o2 : HO} (o : Own3 H0 g k d) (s : Same H0 H1) (h : H1 g' = none) (hk : H1 k = some o1) (hd : H1 d = some o2) : Own3 H0 g' k d :=
  ⟨(ne_of_none hk h).symm, (ne_of_none hd h).symm, o.kd, s.free h, o.k0, o.d0⟩
theorem OwnAt.push {CS : Addr} {H0 H : Hp} {s : Addr} {r : Rec} {dx g k q d : Addr} {as ds : List Addr} {y : Nat × Nat} (h : OwnAt CS H0 H s r) (S : SAt CS H s r dx g k as d ds) (h0 : Own3 H0 g k d) (hq : H q = some (.tup [vn y.1, vn y.2])) :
    OwnAt CS H0 (upd H g (.lst (as.map V.ref ++ [.ref q]))) s { r with given := r.given ++ [y] } ∧ SAt CS (upd H g (.lst (as.map V.ref ++ [.ref q]))) s { r with given := r.given ++ [y] } dx g k (as ++ [q]) d ds := by
  have nt : ∀ b xs, H b = some (.tup xs) → b ≠ g := fun b xs q => ne_of q S.gi (by intro z; cases z)
  have T : SAt CS (upd H g (.lst (as.map V.ref ++ [.ref q]))) s { r with given := r.given ++ [y] } dx g k (as ++ [q]) d ds := by
    refine ⟨?_, ?_, ?_, ?_, ?_, ?_⟩
    · rw [upd_ne (ne_of S.ob S.gi (by intro z; cases z))]; exact S.ob
    · rw [upd_same, List.map_append]; rfl
    · exact Tups.snoc (by rw [upd_ne (nt _ _ hq)]; exact hq) (S.tu.keep fun b xs e => by rw [upd_ne (nt _ _ e)]; exact e)
    · rw [upd_ne h0.gk.symm]; exact S.st
    · rw [upd_ne h0.gd.symm]; exact S.en
    · exact S.te.keep fun b xs e => by rw [upd_ne (nt _ _ e)]; exact e
  exact ⟨⟨fun b o e => by rw [upd_ne (ne_of_none e h0.g0)]; exact h.1 _ _ e, h.2.1, dx, g, k, _, d, ds, T, h0⟩, T⟩
theorem OwnAt.over {CS : Addr} {H0 H : Hp} {s : Addr} {r : Rec} {dx g k q d : Addr} {as ds : List Addr} {y : Nat × Nat} (h : OwnAt CS H0 H s r) (S : SAt CS H s r dx g k as d ds) (h0 : Own3 H0 g k d) (hq : H q = some (.tup [vn y.1, vn y.2])) :
    OwnAt CS H0 (upd H d (.lst (ds.map V.ref ++ [.ref q]))) s { r with ended := r.ended ++ [y] } ∧ SAt CS (upd H d (.lst (ds.map V.ref ++ [.ref q]))) s { r with ended := r.ended ++ [y] } dx g k as d (ds ++ [q]) := by
  have nt : ∀ b xs, H b = some (.tup xs) → b ≠ d := fun b xs q => ne_of q S.en (by intro z; cases z)
  have T : SAt CS (upd H d (.lst (ds.map V.ref ++ [.ref q]))) s { r with ended := r.ended ++ [y] } dx g k as d (ds ++ [q]) := by
    refine ⟨?_, ?_, ?_, ?_, ?_, ?_⟩
    · rw [upd_ne (ne_of S.ob S.en (by intro z; cases z))]; exact S.ob
    · rw [upd_ne h0.gd]; exact S.gi
    · exact S.tu.keep fun b xs e => by rw [upd_ne (nt _ _ e)]; exact e
    · rw [upd_ne h0.kd]; exact S.st
    · rw [upd_same, List.map_append]; rfl
    · exact Tups.snoc (by rw [upd_ne (nt _ _ hq)]; exact hq) (S.te.keep fun b xs e => by rw [upd_ne (nt _ _ e)]; exact e)
  exact ⟨⟨fun b o e => by rw [upd_ne (ne_of_none e h0.d0)]; exact h.1 _ _ e, h.2.1, dx, g, k, as, d, _, T, h0⟩, T⟩
def pChg (K : PySem.W.Frag) (CS : Addr) (d : Rec → List Nat → List Int × Rec) (ok : List Nat → Prop) : V → V → Hp → VK → Prop := fun a b H Q => ∃ (H0 : Hp) (s l : Addr) (r : Rec) (ns : List Nat), a = .ref s ∧ b = .ref l ∧ OwnAt CS H0 H s r ∧ Good r ∧ SqL K H0 l (ns.map vn) ∧ ok ns ∧
  ∀ H' p, H0 p = none → OwnAt CS H0 H' s (d r ns).2 → H' p = some (.lst ((d r ns).1.map V.int)) → Q (.ref p) H'
def doRule (r : Rec) (ns : List Nat) : List Int × Rec :=
  if 1 < ns.getD 0 0 then ([-22], r) else if ¬ r.laid = 0 then ([-16], r) else ([(r.rule : Int)], { r with rule := ns.getD 0 0 })
def doLay (r : Rec) (ns : List Nat) : List Int × Rec :=
  if ¬ ns.getD 0 0 ≤ full r.m then ([-22], r) else if ¬ r.laid = 0 then ([-17], r) else if ns.getD 0 0 = 0 then ([-33], r) else ([(Krb7.truth r.known (ns.getD 0 0) : Int)], { r with laid := ns.getD 0 0, given := [] })
def more (r : Rec) (p a : Nat) : Rec := { r with given := r.given ++ [(p, a)] }
def doPropose (r : Rec) (ns : List Nat) : List Int × Rec :=
  if ¬ ns.getD 0 0 ≤ full r.m then ([-22], r) else if r.laid = 0 then ([-6], r) else if 8 ≤ r.given.length then ([-28], r) else
    ([(rw_ r (now r) (ns.getD 0 0) : Int), (Krb7.why (byW r (now r)) (ns.getD 0 0) : Int), (pc 8 (now (more r (ns.getD 0 0) (rw_ r (now r) (ns.getD 0 0)))) : Int)], more r (ns.getD 0 0) (rw_ r (now r) (ns.getD 0 0)))
def doAnswer (r : Rec) (ns : List Nat) : List Int × Rec :=
  if ¬ ns.getD 0 0 ≤ full r.m ∨ 2 < ns.getD 1 0 then ([-22], r) else if r.laid = 0 then ([-6], r) else if 8 ≤ r.given.length then ([-28], r) else
    ([if ns.getD 1 0 = rw_ r (now r) (ns.getD 0 0) then 1 else 0, (rw_ r (now r) (ns.getD 0 0) : Int), (pc 8 (now (more r (ns.getD 0 0) (ns.getD 1 0))) : Int)], more r (ns.getD 0 0) (ns.getD 1 0))
def doStrike (r : Rec) (ns : List Nat) : List Int × Rec :=
  if r.laid = 0 then ([-6], r) else if r.given.length ≤ ns.getD 0 0 then ([-2], r) else ([((r.given.eraseIdx (ns.getD 0 0)).length : Int)], { r with given := r.given.eraseIdx (ns.getD 0 0) })
def doAmend (r : Rec) (ns : List Nat) : List Int × Rec :=
  if r.laid = 0 then ([-6], r) else if r.given.length ≤ ns.getD 0 0 then ([-2], r) else if 2 < ns.getD 1 0 then ([-22], r) else ([((gv r (ns.getD 0 0)).2 : Int)], { r with given := r.given.set (ns.getD 0 0) ((gv r (ns.getD 0 0)).1, ns.getD 1 0) })
def doLearn (r : Rec) (ns : List Nat) : List Int × Rec :=
  if ¬ ns.getD 0 0 ≤ full r.m then ([-22], r) else if r.known &&& ns.getD 0 0 = 0 then ([-33], r) else ([(pc 8 (r.known &&& ns.getD 0 0) : Int)], { r with known := r.known &&& ns.getD 0 0 })
def doStock (r : Rec) (ns : List Nat) : List Int × Rec :=
  if 6 < ns.length ∨ ¬ (ns.all fun p => decide (p ≤ full r.m)) = true then ([-22], r) else ([(ns.length : Int)], { r with stock := ns })
theorem at1 {ns : List Nat} (h : ns.length = 1) : atI (ns.map vn) (0 : Nat) = some (vn (ns.getD 0 0)) := by
  match ns, h with
  | [a], _ => rfl
theorem at2 {ns : List Nat} (h : ns.length = 2) : atI (ns.map vn) (0 : Nat) = some (vn (ns.getD 0 0)) ∧ atI (ns.map vn) (1 : Nat) = some (vn (ns.getD 1 0)) := by
  match ns, h with
  | [a, b], _ => exact ⟨rfl, rfl⟩
theorem Good.now_lt {r : Rec} (G : Good r) : now r < 256 := by
  have := now_le r
  have := G.la
  have := full_lt G.m3
  omega
theorem right_le (k b p : Nat) : Krb7.right k b p ≤ 2 := by
  unfold Krb7.right Krb7.truth
  repeat' split
  all_goals decide
theorem Good.more {r : Rec} (G : Good r) {p a : Nat} (hp : p ≤ full r.m) (ha : a ≤ 2) (hl : ¬ 8 ≤ r.given.length) : Good (more r p a) :=
  ⟨G.m1, G.m3, G.k, G.k0, G.ru, G.la, fun x hx => by
    rcases List.mem_append.mp (show x ∈ r.given ++ [(p, a)] from hx) with q | q
    · exact G.gi x q
    · have e : x = (p, a) := by simpa using q
      subst e
      exact ⟨hp, ha⟩, by show (r.given ++ [(p, a)]).length ≤ 8; rw [List.length_append]; show r.given.length + 1 ≤ 8; omega, G.st, G.sl, G.el⟩
section
variable {P : Program} {w : World} {K : PySem.W.Frag} {mg : Str → Option Value} {base : Heap} {CS CH : Addr}
theorem fin1 {K : PySem.W.Frag} {H0 H : Hp} {s : Addr} {r r' : Rec} {c : Int} {Q : VK} {dr : List Int × Rec} (O : OwnAt CS H0 H s r') (e : dr = ([c], r')) (q : ∀ H' p, H0 p = none → OwnAt CS H0 H' s dr.2 → H' p = some (.lst (dr.1.map V.int)) → Q (.ref p) H') :
    [V.int c].length ≤ sizeLine ∧ ∀ p, H p = none → Q (.ref p) (upd H p (.lst [V.int c])) := by
  subst e
  exact ⟨(by show 1 ≤ sizeLine; decide), fun p hp => q _ p (O.free hp) (O.new hp) upd_same⟩
theorem ok_rule (T : Txt K mg CS CH) : Ok P w K mg base 2 "rule" ["state", "numbers"] (sp2 (pChg K CS doRule fun ns => ns.length = 1)) := by
  refine ok2 T.f_rule sc_rule (fun _ _ _ _ _ _ _ _ => rfl) fun f cdv A outer s H a b Q E hr h => ?_
  obtain ⟨H0, a, l, r, ns, rfl, rfl, O, G, hl, hn, q⟩ := h
  have O2 := O
  obtain ⟨s0, hs0, dx, g, k, as, d, ds, S, o3⟩ := O2
  have hl1 := s0.seq hl
  refine ⟨_, (pss_cons (ps_if (pt_cmpR on_gt (pe_ix ix_list (pv 1) (pn 0) (fun _ _ => rfl)) (pn 1) (nomark _))
      (pss_one (ps_ret (pe_lst (pa_cons (pgi T.g_WRONG) pa_nil))))
      pss_nil)
      (pss_cons (ps_if (pt_not (pt_val (pcall (ok_none_laid T) hr (pa_cons (pv 0) pa_nil))))
      (pss_one (ps_ret (pe_lst (pa_cons (pgi T.g_LAID_DOWN) pa_nil))))
      pss_nil)
      (pss_cons (ps_set (i := 2) sc_rule.nd rfl (Or.inl rfl) (pe_fld (pv 0) rfl))
      (pss_cons (ps_fld (pv 0) (pe_ix ix_list (pv 1) (pn 0) (fun _ _ => rfl)) rfl)
      (pss_one (ps_ret (pe_lst (pa_cons (pv 2) pa_nil)))))))), ?_⟩
  refine ⟨_, rfl, l, _, _, _, rfl, rfl, hl1, at1 hn, _, _, rfl, rfl, _, rfl, ifD (fun h1 => ?_) fun h1 => ?_⟩
  · exact fin1 (K := K) (r := r) O (by unfold doRule; rw [if_pos h1]) q
  · refine ⟨_, rfl, _, rfl, a, r, rfl, O.st, _, rfl, ?_⟩
    refine ifB (fun h2 => ?_) fun h2 => ?_
    · have h2 : ¬ r.laid = 0 := by simpa using h2
      exact fin1 (K := K) (r := r) O (by unfold doRule; rw [if_neg h1, if_pos h2]) q
    · have h2 : ¬ ¬ r.laid = 0 := by simpa using h2
      refine ⟨_, rfl, a, CS, dx, _, _, rfl, S.ob, T.c_State.cl, T.c_State.no _ (by decide), rfl, ?_⟩
      refine ⟨_, rfl, l, _, _, _, rfl, rfl, hl1, at1 hn, _, rfl, a, CS, dx, _, rfl, S.ob, T.c_State.cl, T.c_State.no _ (by decide), (by show 7 < 1000; decide), ?_⟩
      have ⟨O3, _⟩ := O.put0 (r' := { r with rule := ns.getD 0 0 }) (fs := putF "rule" (vn (ns.getD 0 0)) (sf r g k d)) S o3 rfl rfl rfl rfl
      exact ⟨_, rfl, fin1 (K := K) (r := r) O3 (by unfold doRule; rw [if_neg h1, if_neg h2]) q⟩
theorem ok_lay (T : Txt K mg CS CH) : Ok P w K mg base 3 "lay" ["state", "numbers"] (sp2 (pChg K CS doLay fun ns => ns.length = 1)) := by
  refine ok2 T.f_lay sc_lay (fun _ _ _ _ _ _ _ _ => rfl) fun f cdv A outer s H a b Q E hr h => ?_
  obtain ⟨H0, a, l, r, ns, rfl, rfl, O, G, hl, hn, q⟩ := h
  have O2 := O
  obtain ⟨s0, hs0, dx, g, k, as, d, ds, S, o3⟩ := O2
  have hl1 := s0.seq hl
  refine ⟨_, (pss_cons (ps_set (i := 2) sc_lay.nd rfl (Or.inl rfl) (pe_ix ix_list (pv 1) (pn 0) (fun _ _ => rfl)))
      (pss_cons (ps_if (pt_not (pt_val (pcall (ok_takes T) hr (pa_cons (pv 0) (pa_cons (pv 2) pa_nil)))))
      (pss_one (ps_ret (pe_lst (pa_cons (pgi T.g_WRONG) pa_nil))))
      pss_nil)
      (pss_cons (ps_if (pt_not (pt_val (pcall (ok_none_laid T) hr (pa_cons (pv 0) pa_nil))))
      (pss_one (ps_ret (pe_lst (pa_cons (pgi T.g_LAID_ALREADY) pa_nil))))
      pss_nil)
      (pss_cons (ps_if (pt_cmpR on_eq (pv 2) (pn 0) (nomark _))
      (pss_one (ps_ret (pe_lst (pa_cons (pgi T.g_CANNOT) pa_nil))))
      pss_nil)
      (pss_cons (ps_fld (pv 0) (pv 2) rfl)
      (pss_cons (ps_fld (pv 0) (pe_lst pa_nil) rfl)
      (pss_one (ps_ret (pe_lst (pa_cons (pcall (ok_answer_by_known T) hr (pa_cons (pe_fld (pv 0) rfl) (pa_cons (pv 2) pa_nil))) pa_nil)))))))))), ?_⟩
  refine ⟨_, rfl, l, _, _, _, rfl, rfl, hl1, at1 hn, ?_⟩
  refine ⟨_, rfl, _, rfl, _, _, rfl, a, r, _, rfl, rfl, O.st, G, _, rfl, ifB (fun h1 => ?_) fun h1 => ?_⟩
  · have h1 : ¬ ns.getD 0 0 ≤ full r.m := by simpa using h1
    exact fin1 (K := K) (r := r) O (by unfold doLay; rw [if_pos h1]) q
  · have h1 : ¬ ¬ ns.getD 0 0 ≤ full r.m := by simpa using h1
    refine ⟨_, rfl, _, rfl, a, r, rfl, O.st, _, rfl, ifB (fun h2 => ?_) fun h2 => ?_⟩
    · have h2 : ¬ r.laid = 0 := by simpa using h2
      exact fin1 (K := K) (r := r) O (by unfold doLay; rw [if_neg h1, if_pos h2]) q
    · have h2 : ¬ ¬ r.laid = 0 := by simpa using h2
      refine ⟨_, rfl, _, _, rfl, rfl, _, rfl, ifD (fun h3 => ?_) fun h3 => ?_⟩
      · exact fin1 (K := K) (r := r) O (by unfold doLay; rw [if_neg h1, if_neg h2, if_pos h3]) q
      · refine ⟨_, rfl, _, rfl, a, CS, dx, _, rfl, S.ob, T.c_State.cl, T.c_State.no _ (by decide), (by show 7 < 1000; decide), ?_⟩
        have ⟨O3, S3⟩ := O.put0 (r' := { r with laid := ns.getD 0 0 }) (fs := putF "laid" (vn (ns.getD 0 0)) (sf r g k d)) S o3 rfl rfl rfl rfl
        refine ⟨(by show 0 ≤ sizeLine; decide), fun g2 hg2 => ?_⟩
        have sm := same_new (o := .lst []) (Same.refl _) hg2
        have S5 := S3.same sm
        refine ⟨_, rfl, a, CS, dx, _, rfl, S5.ob, T.c_State.cl, T.c_State.no _ (by decide), (by show 7 < 1000; decide), ?_⟩
        have ⟨O6, S6⟩ := (O3.same sm).putG (r' := { r with laid := ns.getD 0 0, given := [] }) (as' := []) (fs := putF "given" (.ref g2) (sf { r with laid := ns.getD 0 0 } g k d)) S5 (o3.newG O3.1 hg2 S3.st S3.en) rfl upd_same trivial rfl rfl
        refine ⟨_, rfl, a, CS, dx, _, _, rfl, S6.ob, T.c_State.cl, T.c_State.no _ (by decide), rfl, _, rfl, _, _, rfl, _, _, rfl, rfl, ?_⟩
        exact fin1 (K := K) (r := r) O6 (by unfold doLay; rw [if_neg h1, if_neg h2, if_neg h3]) q
theorem ok_learn (T : Txt K mg CS CH) : Ok P w K mg base 3 "learn" ["state", "numbers"] (sp2 (pChg K CS doLearn fun ns => ns.length = 1)) := by
  refine ok2 T.f_learn sc_learn (fun _ _ _ _ _ _ _ _ => rfl) fun f cdv A outer s H a b Q E hr h => ?_
  obtain ⟨H0, a, l, r, ns, rfl, rfl, O, G, hl, hn, q⟩ := h
  have O2 := O
  obtain ⟨s0, hs0, dx, g, k, as, d, ds, S, o3⟩ := O2
  have hl1 := s0.seq hl
  refine ⟨_, (pss_cons (ps_if (pt_not (pt_val (pcall (ok_takes T) hr (pa_cons (pv 0) (pa_cons (pe_ix ix_list (pv 1) (pn 0) (fun _ _ => rfl)) pa_nil)))))
      (pss_one (ps_ret (pe_lst (pa_cons (pgi T.g_WRONG) pa_nil))))
      pss_nil)
      (pss_cons (ps_set (i := 2) sc_learn.nd rfl (Or.inl rfl) (pe_op on_and (pe_fld (pv 0) rfl) (pe_ix ix_list (pv 1) (pn 0) (fun _ _ => rfl))))
      (pss_cons (ps_if (pt_cmpR on_eq (pv 2) (pn 0) (nomark _))
      (pss_one (ps_ret (pe_lst (pa_cons (pgi T.g_CANNOT) pa_nil))))
      pss_nil)
      (pss_cons (ps_fld (pv 0) (pv 2) rfl)
      (pss_one (ps_ret (pe_lst (pa_cons (pcall (ok_how_many T) hr (pa_cons (pv 2) pa_nil)) pa_nil)))))))), ?_⟩
  refine ⟨_, rfl, _, rfl, l, _, _, _, rfl, rfl, hl1, at1 hn, _, _, rfl, a, r, _, rfl, rfl, O.st, G, _, rfl, ifB (fun h1 => ?_) fun h1 => ?_⟩
  · have h1 : ¬ ns.getD 0 0 ≤ full r.m := by simpa using h1
    exact fin1 (K := K) (r := r) O (by unfold doLearn; rw [if_pos h1]) q
  · have h1 : ¬ ¬ ns.getD 0 0 ≤ full r.m := by simpa using h1
    refine ⟨_, rfl, a, CS, dx, _, _, rfl, S.ob, T.c_State.cl, T.c_State.no _ (by decide), rfl, _, rfl, l, _, _, _, rfl, rfl, hl1, at1 hn, _, _, rfl, rfl, ?_⟩
    refine ⟨_, rfl, _, _, rfl, rfl, _, rfl, ifD (fun h2 => ?_) fun h2 => ?_⟩
    · exact fin1 (K := K) (r := r) O (by unfold doLearn; rw [if_neg h1, if_pos h2]) q
    · refine ⟨_, rfl, _, rfl, a, CS, dx, _, rfl, S.ob, T.c_State.cl, T.c_State.no _ (by decide), (by show 7 < 1000; decide), ?_⟩
      have ⟨O3, _⟩ := O.put0 (r' := { r with known := r.known &&& ns.getD 0 0 }) (fs := putF "known" (vn (r.known &&& ns.getD 0 0)) (sf r g k d)) S o3 rfl rfl rfl rfl
      have lt : r.known &&& ns.getD 0 0 < 256 := by
        have := G.k
        have := full_lt G.m3
        have := Nat.and_le_left (n := r.known) (m := ns.getD 0 0)
        omega
      exact ⟨_, rfl, _, rfl, _, rfl, lt, fin1 (K := K) (r := r) O3 (by unfold doLearn; rw [if_neg h1, if_neg h2]) q⟩
theorem ok_stock (T : Txt K mg CS CH) : Ok P w K mg base 4 "stock" ["state", "numbers"] (sp2 (pChg K CS doStock fun ns => ns.length ≤ 65536)) := by
  refine ok2 T.f_stock sc_stock (fun _ _ _ _ _ _ _ _ => rfl) fun f cdv A outer s H a b Q E hr h => ?_
  obtain ⟨H0, a, l, r, ns, rfl, rfl, O, G, hl, hn, q⟩ := h
  have O2 := O
  obtain ⟨s0, hs0, dx, g, k, as, d, ds, S, o3⟩ := O2
  have hl1 := s0.seq hl
  have ln : (ns.map vn).length = ns.length := List.length_map _
  refine ⟨_, (pss_cons (ps_if (PW.pt (pw_or (pt_cmpR on_gt (pe_callB call_len_seq rfl T.no_len PySem.boot_len (pa_cons (pv 1) pa_nil)) (pgn T.g_MOST_STOCK) (nomark _)) (pw_or1 (pt_not (pt_val (pcall (ok_takes_all T) hr (pa_cons (pv 0) (pa_cons (pv 1) pa_nil))))))))
      (pss_one (ps_ret (pe_lst (pa_cons (pgi T.g_WRONG) pa_nil))))
      pss_nil)
      (pss_cons (ps_fld (pv 0) (pe_callTy call_list_of rfl T.no_list (by decide +kernel) (pa_cons (pv 1) pa_nil)) rfl)
      (pss_one (ps_ret (pe_lst (pa_cons (pe_callB call_len_seq rfl T.no_len PySem.boot_len (pa_cons (pv 1) pa_nil)) pa_nil)))))), ?_⟩
  refine ⟨_, rfl, l, _, rfl, .inl hl1, _, _, rfl, rfl, _, rfl, ifD (fun h1 => ?_) fun h1 => ?_⟩
  · rw [ln] at h1
    exact iteT (fin1 (K := K) (r := r) O (by unfold doStock; rw [if_pos (.inl h1)]) q)
  · rw [ln] at h1
    refine ⟨_, rfl, _, rfl, _, _, rfl, a, l, r, ns, rfl, rfl, O.st, G, hl1, hn, fun H1 s1 => ⟨_, rfl, ifB (fun h2 => ?_) fun h2 => ?_⟩⟩
    · have h2 : ¬ (ns.all fun p => decide (p ≤ full r.m)) = true := by rw [Bool.not_eq_true']  at h2; rw [h2]; exact Bool.false_ne_true
      exact fin1 (K := K) (r := r) (O.same s1) (by unfold doStock; rw [if_pos (.inr h2)]) q
    · have h2 : ¬ (6 < ns.length ∨ ¬ (ns.all fun p => decide (p ≤ full r.m)) = true) := by
        rintro (z | z)
        · exact h1 z
        · rw [Bool.not_eq_false'] at h2
          exact z h2
      refine ⟨_, rfl, l, _, rfl, .inl (s1.seq hl1), fun k2 hk2 => ?_⟩
      have sm := same_new (o := .lst (ns.map vn)) (Same.refl _) hk2
      have S3 := S.same s1
      have S5 := S3.same sm
      refine ⟨_, rfl, a, CS, dx, _, rfl, S5.ob, T.c_State.cl, T.c_State.no _ (by decide), (by show 7 < 1000; decide), ?_⟩
      have ⟨O6, S6⟩ := ((O.same s1).same sm).put (r' := { r with stock := ns }) (fs := putF "stock" (.ref k2) (sf r g k d)) S5 g k2 d as ds rfl ⟨ne_of_none S3.gi hk2, o3.gd, (ne_of_none S3.en hk2).symm, o3.g0, (O.same s1).free hk2, o3.d0⟩ S5.gi S5.tu upd_same S5.en S5.te
      refine ⟨_, rfl, l, _, rfl, .inl (O6.1.seq hl), ?_⟩
      rw [ln]
      exact fin1 (K := K) (r := r) O6 (by unfold doStock; rw [if_neg h2]) q
end
end DY
namespace DY
open PySem PySem.Spec PyProof.Rows L2 DX DM
open Krb7 (full)
section
variable {P : Program} {w : World} {K : PySem.W.Frag} {mg : Str → Option Value} {base : Heap} {CS CH : Addr}
theorem fin3 {H0 H : Hp} {s : Addr} {r' : Rec} {c1 c2 c3 : Int} {Q : VK} {dr : List Int × Rec} (O : OwnAt CS H0 H s r') (e : dr = ([c1, c2, c3], r')) (q : ∀ H' p, H0 p = none → OwnAt CS H0 H' s dr.2 → H' p = some (.lst (dr.1.map V.int)) → Q (.ref p) H') :
    [V.int c1, V.int c2, V.int c3].length ≤ sizeLine ∧ ∀ p, H p = none → Q (.ref p) (upd H p (.lst [V.int c1, V.int c2, V.int c3])) := by
  subst e
  exact ⟨(by show 3 ≤ sizeLine; decide), fun p hp => q _ p (O.free hp) (O.new hp) upd_same⟩
theorem ok_propose (T : Txt K mg CS CH) : Ok P w K mg base 5 "propose" ["state", "numbers"] (sp2 (pChg K CS doPropose fun ns => ns.length = 1)) := by
  refine ok2 T.f_propose sc_propose (fun _ _ _ _ _ _ _ _ => rfl) fun f cdv A outer s H a b Q E hr h => ?_
  obtain ⟨H0, a, l, r, ns, rfl, rfl, O, G, hl, hn, q⟩ := h
  have O2 := O
  obtain ⟨s0, hs0, dx, g, k, as, d, ds, S, o3⟩ := O2
  have hl1 := s0.seq hl
  have al : (as.map V.ref).length = r.given.length := by rw [List.length_map, S.tu.len]
  refine ⟨_, (pss_cons (ps_set (i := 2) sc_propose.nd rfl (Or.inl rfl) (pe_ix ix_list (pv 1) (pn 0) (fun _ _ => rfl)))
      (pss_cons (ps_if (pt_not (pt_val (pcall (ok_takes T) hr (pa_cons (pv 0) (pa_cons (pv 2) pa_nil)))))
      (pss_one (ps_ret (pe_lst (pa_cons (pgi T.g_WRONG) pa_nil))))
      pss_nil)
      (pss_cons (ps_if (pt_val (pcall (ok_none_laid T) hr (pa_cons (pv 0) pa_nil)))
      (pss_one (ps_ret (pe_lst (pa_cons (pgi T.g_NOTHING) pa_nil))))
      pss_nil)
      (pss_cons (ps_if (pt_cmpR on_ge (pe_callB call_len_seq rfl T.no_len PySem.boot_len (pa_cons (pe_fld (pv 0) rfl) pa_nil)) (pgn T.g_MOST_ANSWERS) (nomark _))
      (pss_one (ps_ret (pe_lst (pa_cons (pgi T.g_TOO_MANY) pa_nil))))
      pss_nil)
      (pss_cons (ps_set (i := 3) sc_propose.nd rfl (Or.inl rfl) (pcall (ok_stands_now T) hr (pa_cons (pv 0) pa_nil)))
      (pss_cons (ps_set (i := 4) sc_propose.nd rfl (Or.inl rfl) (pcall (ok_right_while T) hr (pa_cons (pv 0) (pa_cons (pv 3) (pa_cons (pv 2) pa_nil)))))
      (pss_cons (ps_expr (pe_bm PySem.F.plainAttrs_list PySem.F.slot_list_append PySem.F.type_list_append mt_append (pe_fld (pv 0) rfl) (pa_cons (pe_tup (pa_cons (pv 2) (pa_cons (pv 4) pa_nil))) pa_nil)))
      (pss_one (ps_ret (pe_lst (pa_cons (pv 4) (pa_cons (pcall (ok_bearing T) hr (pa_cons (pcall (ok_answered_by T) hr (pa_cons (pv 0) (pa_cons (pv 3) pa_nil))) (pa_cons (pv 2) pa_nil))) (pa_cons (pcall (ok_how_many T) hr (pa_cons (pcall (ok_stands_now T) hr (pa_cons (pv 0) pa_nil)) pa_nil)) pa_nil))))))))))))), ?_⟩
  refine ⟨_, rfl, l, _, _, _, rfl, rfl, hl1, at1 hn, ?_⟩
  refine ⟨_, rfl, _, rfl, _, _, rfl, a, r, _, rfl, rfl, O.st, G, _, rfl, ifB (fun h1 => ?_) fun h1 => ?_⟩
  · have h1 : ¬ ns.getD 0 0 ≤ full r.m := by simpa using h1
    exact fin1 (K := K) (r := r) O (by unfold doPropose; rw [if_pos h1]) q
  · have h1p : ns.getD 0 0 ≤ full r.m := by simpa using h1
    have h1 : ¬ ¬ ns.getD 0 0 ≤ full r.m := fun z => z h1p
    refine ⟨_, rfl, _, rfl, a, r, rfl, O.st, _, rfl, ifD (fun h2 => ?_) fun h2 => ?_⟩
    · exact fin1 (K := K) (r := r) O (by unfold doPropose; rw [if_neg h1, if_pos h2]) q
    · refine ⟨_, rfl, a, CS, dx, _, _, rfl, S.ob, T.c_State.cl, T.c_State.no _ (by decide), rfl, g, _, rfl, .inl (SqL.of S.gi), _, _, rfl, rfl, _, rfl, ifD (fun h3 => ?_) fun h3 => ?_⟩
      · rw [al] at h3
        exact fin1 (K := K) (r := r) O (by unfold doPropose; rw [if_neg h1, if_neg h2, if_pos h3]) q
      · rw [al] at h3
        have Gm := G.more h1p (right_le r.known (byW r (now r)) (ns.getD 0 0)) h3
        refine ⟨_, rfl, _, rfl, a, r, rfl, O.st, G, fun H1 s1 => ?_⟩
        refine ⟨_, rfl, _, rfl, _, rfl, _, _, _, rfl, a, r, _, _, rfl, rfl, rfl, O.st.same s1, ?_⟩
        have S1 := S.same s1
        refine ⟨_, rfl, a, CS, dx, _, _, rfl, S1.ob, T.c_State.cl, T.c_State.no _ (by decide), rfl, .inl ⟨rfl, _, SqL.of S1.gi⟩, _, rfl, _, rfl, (by show 2 ≤ sizeLine; decide), fun tp htp => ?_⟩
        have sm := same_new (o := .tup [vn (ns.getD 0 0), vn (rw_ r (now r) (ns.getD 0 0))]) (Same.refl H1) htp
        have S2 := S1.same sm
        refine ⟨g, _, _, rfl, rfl, S2.gi, by rw [al]; exact Nat.lt_of_not_le (fun z => h3 (Nat.le_trans (by decide) z)), ?_⟩
        have ⟨O3, S3⟩ := ((O.same s1).same sm).push (y := (ns.getD 0 0, rw_ r (now r) (ns.getD 0 0))) S2 o3 upd_same
        refine ⟨_, rfl, _, rfl, _, rfl, _, _, rfl, a, _, _, rfl, rfl, O3.st, _, rfl, _, _, rfl, _, _, rfl, rfl, _, rfl, _, rfl, a, _, rfl, O3.st, Gm, fun H4 s4 => ⟨_, rfl, _, rfl, Gm.now_lt, ?_⟩⟩
        exact fin3 (O3.same s4) (by unfold doPropose; rw [if_neg h1, if_neg h2, if_neg h3]; rfl) q
theorem ok_answer_so (T : Txt K mg CS CH) : Ok P w K mg base 5 "answer_so" ["state", "numbers"] (sp2 (pChg K CS doAnswer fun ns => ns.length = 2)) := by
  refine ok2 T.f_answer_so sc_answer_so (fun _ _ _ _ _ _ _ _ => rfl) fun f cdv A outer s H a b Q E hr h => ?_
  obtain ⟨H0, a, l, r, ns, rfl, rfl, O, G, hl, hn, q⟩ := h
  have O2 := O
  obtain ⟨s0, hs0, dx, g, k, as, d, ds, S, o3⟩ := O2
  have hl1 := s0.seq hl
  have al : (as.map V.ref).length = r.given.length := by rw [List.length_map, S.tu.len]
  refine ⟨_, (pss_cons (ps_set (i := 2) sc_answer_so.nd rfl (Or.inl rfl) (pe_ix ix_list (pv 1) (pn 0) (fun _ _ => rfl)))
      (pss_cons (ps_set (i := 3) sc_answer_so.nd rfl (Or.inl rfl) (pe_ix ix_list (pv 1) (pn 1) (fun _ _ => rfl)))
      (pss_cons (ps_if (PW.pt (pw_or (pt_not (pt_val (pcall (ok_takes T) hr (pa_cons (pv 0) (pa_cons (pv 2) pa_nil))))) (pw_or1 (pt_cmpR on_gt (pv 3) (pgn T.g_DOUBTED) (nomark _)))))
      (pss_one (ps_ret (pe_lst (pa_cons (pgi T.g_WRONG) pa_nil))))
      pss_nil)
      (pss_cons (ps_if (pt_val (pcall (ok_none_laid T) hr (pa_cons (pv 0) pa_nil)))
      (pss_one (ps_ret (pe_lst (pa_cons (pgi T.g_NOTHING) pa_nil))))
      pss_nil)
      (pss_cons (ps_if (pt_cmpR on_ge (pe_callB call_len_seq rfl T.no_len PySem.boot_len (pa_cons (pe_fld (pv 0) rfl) pa_nil)) (pgn T.g_MOST_ANSWERS) (nomark _))
      (pss_one (ps_ret (pe_lst (pa_cons (pgi T.g_TOO_MANY) pa_nil))))
      pss_nil)
      (pss_cons (ps_set (i := 4) sc_answer_so.nd rfl (Or.inl rfl) (pcall (ok_right_while T) hr (pa_cons (pv 0) (pa_cons (pcall (ok_stands_now T) hr (pa_cons (pv 0) pa_nil)) (pa_cons (pv 2) pa_nil)))))
      (pss_cons (ps_expr (pe_bm PySem.F.plainAttrs_list PySem.F.slot_list_append PySem.F.type_list_append mt_append (pe_fld (pv 0) rfl) (pa_cons (pe_tup (pa_cons (pv 2) (pa_cons (pv 3) pa_nil))) pa_nil)))
      (pss_one (ps_ret (pe_lst (pa_cons (pe_ifExp (pt_cmpR on_eq (pv 3) (pv 4) (nomark _)) (pn 1) (pn 0)) (pa_cons (pv 4) (pa_cons (pcall (ok_how_many T) hr (pa_cons (pcall (ok_stands_now T) hr (pa_cons (pv 0) pa_nil)) pa_nil)) pa_nil))))))))))))), ?_⟩
  refine ⟨_, rfl, l, _, _, _, rfl, rfl, hl1, (at2 hn).1, _, rfl, l, _, _, _, rfl, rfl, hl1, (at2 hn).2, ?_⟩
  refine ⟨_, rfl, _, rfl, _, _, rfl, a, r, _, rfl, rfl, O.st, G, _, rfl, ifB (fun h1 => ?_) fun h1 => ?_⟩
  · have h1 : ¬ ns.getD 0 0 ≤ full r.m := by simpa using h1
    exact iteT (fin1 (K := K) (r := r) O (by unfold doAnswer; rw [if_pos (.inl h1)]) q)
  · have h1p : ns.getD 0 0 ≤ full r.m := by simpa using h1
    refine ⟨_, rfl, _, _, rfl, rfl, _, rfl, ifD (fun h0 => ?_) fun h0 => ?_⟩
    · exact fin1 (K := K) (r := r) O (by unfold doAnswer; rw [if_pos (.inr h0)]) q
    · have h1 : ¬ (¬ ns.getD 0 0 ≤ full r.m ∨ 2 < ns.getD 1 0) := by rintro (z | z); exact z h1p; exact h0 z
      refine ⟨_, rfl, _, rfl, a, r, rfl, O.st, _, rfl, ifD (fun h2 => ?_) fun h2 => ?_⟩
      · exact fin1 (K := K) (r := r) O (by unfold doAnswer; rw [if_neg h1, if_pos h2]) q
      · refine ⟨_, rfl, a, CS, dx, _, _, rfl, S.ob, T.c_State.cl, T.c_State.no _ (by decide), rfl, g, _, rfl, .inl (SqL.of S.gi), _, _, rfl, rfl, _, rfl, ifD (fun h3 => ?_) fun h3 => ?_⟩
        · rw [al] at h3
          exact fin1 (K := K) (r := r) O (by unfold doAnswer; rw [if_neg h1, if_neg h2, if_pos h3]) q
        · rw [al] at h3
          have Gm := G.more (a := ns.getD 1 0) h1p (by omega) h3
          refine ⟨_, rfl, _, rfl, _, rfl, a, r, rfl, O.st, G, fun H1 s1 => ⟨_, rfl, _, _, _, rfl, a, r, _, _, rfl, rfl, rfl, O.st.same s1, ?_⟩⟩
          have S1 := S.same s1
          refine ⟨_, rfl, a, CS, dx, _, _, rfl, S1.ob, T.c_State.cl, T.c_State.no _ (by decide), rfl, .inl ⟨rfl, _, SqL.of S1.gi⟩, _, rfl, _, rfl, (by show 2 ≤ sizeLine; decide), fun tp htp => ?_⟩
          have sm := same_new (o := .tup [vn (ns.getD 0 0), vn (ns.getD 1 0)]) (Same.refl H1) htp
          have S2 := S1.same sm
          refine ⟨g, _, _, rfl, rfl, S2.gi, by rw [al]; exact Nat.lt_of_not_le (fun z => h3 (Nat.le_trans (by decide) z)), ?_⟩
          have ⟨O3, S3⟩ := ((O.same s1).same sm).push (y := (ns.getD 0 0, ns.getD 1 0)) S2 o3 upd_same
          refine ⟨_, rfl, _, rfl, _, _, rfl, rfl, _, rfl, ifD (fun h4 => ?_) fun h4 => ?_⟩
          · refine ⟨_, rfl, _, rfl, _, rfl, a, _, rfl, O3.st, Gm, fun H4 s4 => ⟨_, rfl, _, rfl, Gm.now_lt, ?_⟩⟩
            exact fin3 (O3.same s4) (by unfold doAnswer; rw [if_neg h1, if_neg h2, if_neg h3, if_pos h4]; rfl) q
          · refine ⟨_, rfl, _, rfl, _, rfl, a, _, rfl, O3.st, Gm, fun H4 s4 => ⟨_, rfl, _, rfl, Gm.now_lt, ?_⟩⟩
            exact fin3 (O3.same s4) (by unfold doAnswer; rw [if_neg h1, if_neg h2, if_neg h3, if_neg h4]; rfl) q
theorem cut_drop {xs : List V} {n : Nat} : cutV xs (some (n : Int)) none = xs.drop n := by
  unfold cutV
  have e1 : HT.sIx xs.length xs.length none = xs.length := rfl
  have e2 : HT.sIx xs.length 0 (some (n : Int)) = min n xs.length := by
    show (if (n : Int) < 0 then ((n : Int) + (xs.length : Int)).toNat else min ((n : Int)).toNat xs.length) = min n xs.length
    rw [if_neg (by omega), Int.toNat_natCast]
  rw [e1, e2]
  have e3 : (xs.drop (min n xs.length)).length = xs.length - min n xs.length := List.length_drop
  rw [← e3, List.take_length]
  by_cases h : n ≤ xs.length
  · rw [Nat.min_eq_left h]
  · rw [Nat.min_eq_right (by omega), List.drop_of_length_le (Nat.le_refl _), List.drop_of_length_le (by omega)]
theorem Tups.app {H : Hp} : ∀ {as bs : List Addr} {l m : List (Nat × Nat)}, Tups H as l → Tups H bs m → Tups H (as ++ bs) (l ++ m)
  | [], _, [], _, _, h => h
  | a :: as, _, x :: l, _, h, k => ⟨h.1, Tups.app h.2 k⟩
  | [], _, _ :: _, _, h, _ => h.elim
  | _ :: _, _, [], _, h, _ => h.elim
theorem Tups.tk {H : Hp} : ∀ {n : Nat} {as : List Addr} {l : List (Nat × Nat)}, Tups H as l → Tups H (as.take n) (l.take n)
  | 0, as, l, _ => trivial
  | n + 1, [], [], _ => trivial
  | n + 1, a :: as, x :: l, h => ⟨h.1, Tups.tk (n := n) h.2⟩
  | _ + 1, [], _ :: _, h => h.elim
  | _ + 1, _ :: _, [], h => h.elim
theorem Tups.dr {H : Hp} : ∀ {n : Nat} {as : List Addr} {l : List (Nat × Nat)}, Tups H as l → Tups H (as.drop n) (l.drop n)
  | 0, as, l, h => h
  | n + 1, [], [], _ => trivial
  | n + 1, a :: as, x :: l, h => Tups.dr (n := n) h.2
  | _ + 1, [], _ :: _, h => h.elim
  | _ + 1, _ :: _, [], h => h.elim
theorem ok_strike (T : Txt K mg CS CH) : Ok P w K mg base 2 "strike" ["state", "numbers"] (sp2 (pChg K CS doStrike fun ns => ns.length = 1)) := by
  refine ok2 T.f_strike sc_strike (fun _ _ _ _ _ _ _ _ => rfl) fun f cdv A outer s H a b Q E hr h => ?_
  obtain ⟨H0, a, l, r, ns, rfl, rfl, O, G, hl, hn, q⟩ := h
  have O2 := O
  obtain ⟨s0, hs0, dx, g, k, as, d, ds, S, o3⟩ := O2
  have hl1 := s0.seq hl
  have al : (as.map V.ref).length = r.given.length := by rw [List.length_map, S.tu.len]
  refine ⟨_, (pss_cons (ps_set (i := 2) sc_strike.nd rfl (Or.inl rfl) (pe_ix ix_list (pv 1) (pn 0) (fun _ _ => rfl)))
      (pss_cons (ps_if (pt_val (pcall (ok_none_laid T) hr (pa_cons (pv 0) pa_nil)))
      (pss_one (ps_ret (pe_lst (pa_cons (pgi T.g_NOTHING) pa_nil))))
      pss_nil)
      (pss_cons (ps_if (pt_cmpR on_ge (pv 2) (pe_callB call_len_seq rfl T.no_len PySem.boot_len (pa_cons (pe_fld (pv 0) rfl) pa_nil)) (nomark _))
      (pss_one (ps_ret (pe_lst (pa_cons (pgi T.g_NO_SUCH) pa_nil))))
      pss_nil)
      (pss_cons (ps_fld (pv 0) (pe_op op_cat (pe_slice sl_list (pe_fld (pv 0) rfl) po_none (po_some (pv 2))) (pe_slice sl_list (pe_fld (pv 0) rfl) (po_some (pe_op on_add (pv 2) (pn 1))) po_none)) rfl)
      (pss_one (ps_ret (pe_lst (pa_cons (pe_callB call_len_seq rfl T.no_len PySem.boot_len (pa_cons (pe_fld (pv 0) rfl) pa_nil)) pa_nil)))))))), ?_⟩
  refine ⟨_, rfl, l, _, _, _, rfl, rfl, hl1, at1 hn, ?_⟩
  refine ⟨_, rfl, _, rfl, a, r, rfl, O.st, _, rfl, ifD (fun h2 => ?_) fun h2 => ?_⟩
  · exact fin1 (K := K) (r := r) O (by unfold doStrike; rw [if_pos h2]) q
  · refine ⟨_, rfl, _, rfl, a, CS, dx, _, _, rfl, S.ob, T.c_State.cl, T.c_State.no _ (by decide), rfl, g, _, rfl, .inl (SqL.of S.gi), _, _, rfl, rfl, _, rfl, ifD (fun h3 => ?_) fun h3 => ?_⟩
    · rw [al] at h3
      exact fin1 (K := K) (r := r) O (by unfold doStrike; rw [if_neg h2, if_pos h3]) q
    · rw [al] at h3
      have gl := G.gl
      refine ⟨_, rfl, a, CS, dx, _, _, rfl, S.ob, T.c_State.cl, T.c_State.no _ (by decide), rfl, _, rfl, _, rfl, g, _, rfl, SqL.of S.gi, fun g1 hg1 => ?_⟩
      rw [cut_take (by rw [al]; omega), ← List.map_take]
      have sm1 := same_new (o := .lst ((as.take (ns.getD 0 0)).map V.ref)) (Same.refl H) hg1
      have S1 := S.same sm1
      refine ⟨_, rfl, a, CS, dx, _, _, rfl, S1.ob, T.c_State.cl, T.c_State.no _ (by decide), rfl, _, rfl, _, _, rfl, rfl, _, rfl, g, _, rfl, SqL.of S1.gi, fun g2 hg2 => ?_⟩
      rw [cut_drop, ← List.map_drop]
      have sm2 := same_new (o := .lst ((as.drop (ns.getD 0 0 + 1)).map V.ref)) (Same.refl _) hg2
      have S2 := S1.same sm2
      refine ⟨g1, g2, _, _, rfl, rfl, sm2 _ _ upd_same, upd_same, ?_, fun g3 hg3 => ?_⟩
      · rw [← List.length_append, ← List.map_append, List.length_map, List.length_append, List.length_take, List.length_drop, S.tu.len]
        have : sizeLine = 16777216 := rfl
        omega
      · rw [← List.map_append]
        have sm3 := same_new (o := .lst ((as.take (ns.getD 0 0) ++ as.drop (ns.getD 0 0 + 1)).map V.ref)) (Same.refl _) hg3
        have S3 := S2.same sm3
        refine ⟨_, rfl, a, CS, dx, _, rfl, S3.ob, T.c_State.cl, T.c_State.no _ (by decide), (by show 7 < 1000; decide), ?_⟩
        have ee : r.given.eraseIdx (ns.getD 0 0) = r.given.take (ns.getD 0 0) ++ r.given.drop (ns.getD 0 0 + 1) := List.eraseIdx_eq_take_drop_succ _ _
        have O2' := (O.same sm1).same sm2
        have ⟨O6, S6⟩ := (O2'.same sm3).putG (r' := { r with given := r.given.eraseIdx (ns.getD 0 0) }) (as' := as.take (ns.getD 0 0) ++ as.drop (ns.getD 0 0 + 1)) (fs := putF "given" (.ref g3) (sf r g k d)) S3 (o3.newG O2'.1 hg3 S2.st S2.en) rfl upd_same
          (by show Tups _ _ (r.given.eraseIdx (ns.getD 0 0)); rw [ee]; exact Tups.app S3.tu.tk S3.tu.dr) rfl rfl
        refine ⟨_, rfl, a, CS, dx, _, _, rfl, S6.ob, T.c_State.cl, T.c_State.no _ (by decide), rfl, g3, _, rfl, .inl (SqL.of S6.gi), ?_⟩
        have e7 : ((as.take (ns.getD 0 0) ++ as.drop (ns.getD 0 0 + 1)).map V.ref).length = (r.given.eraseIdx (ns.getD 0 0)).length := by
          rw [List.length_map]
          exact S6.tu.len
        rw [e7]
        exact fin1 (K := K) (r := r) O6 (by unfold doStrike; rw [if_neg h2, if_neg h3]) q
end
end DY
namespace DY
open PySem PySem.Spec PyProof.Rows L2 DX DM
open Krb7 (full)
def pushR (r : Rec) (p : Nat) : Rec := more r p (rw_ r (now r) p)
def doPress (r : Rec) (ns : List Nat) : List Int × Rec :=
  if ¬ ns.getD 0 0 ≤ full r.m then ([-22], r) else if r.laid = 0 then ([-6], r) else match rowF r (ns.getD 0 0) 1 with
    | none => ([-33], r)
    | some l => if 8 < r.given.length + l.length then ([-28], r) else ((l.length : Int) :: l.map (fun x : Nat => (x : Int)), l.foldl pushR r)
theorem ixN_nat {n i : Nat} (h : i < n) : ixN n (i : Int) = some i := by
  unfold ixN
  rw [if_pos (by omega), if_pos (by omega), Int.toNat_natCast]
theorem Tups.put {H : Hp} {q : Addr} {y : Nat × Nat} (hq : H q = some (.tup [vn y.1, vn y.2])) : ∀ {i : Nat} {as : List Addr} {l : List (Nat × Nat)}, Tups H as l → Tups H (as.set i q) (l.set i y)
  | _, [], [], _ => trivial
  | 0, a :: as, x :: l, h => ⟨hq, h.2⟩
  | i + 1, a :: as, x :: l, h => ⟨h.1, Tups.put hq (i := i) h.2⟩
  | _, [], _ :: _, h => h.elim
  | _, _ :: _, [], h => h.elim
theorem rowF_le {r : Rec} {t a : Nat} {l : List Nat} (ht : t ≤ full r.m) (h : rowF r t a = some l) : (∀ p ∈ l, p ≤ full r.m) ∧ l.length ≤ 2 := by
  unfold rowF at h
  split at h
  · cases h
    exact ⟨fun p hp => by have e : p = t := by simpa using hp
                          subst e; exact ht, by show 1 ≤ 2; decide⟩
  · obtain ⟨q, hq, e⟩ := Option.map_eq_some_iff.mp h
    have m := List.mem_range.mp (List.mem_of_find?_eq_some hq)
    subst e
    refine ⟨fun p hp => ?_, by show 2 ≤ 2; decide⟩
    have e : p = q ∨ p = t := by simpa using hp
    rcases e with e | e
    · subst e; omega
    · subst e; exact ht
section
variable {P : Program} {w : World} {K : PySem.W.Frag} {mg : Str → Option Value} {base : Heap} {CS CH : Addr}
theorem ok_amend (T : Txt K mg CS CH) : Ok P w K mg base 2 "amend" ["state", "numbers"] (sp2 (pChg K CS doAmend fun ns => ns.length = 2)) := by
  refine ok2 T.f_amend sc_amend (fun _ _ _ _ _ _ _ _ => rfl) fun f cdv A outer s H a b Q E hr h => ?_
  obtain ⟨H0, a, l, r, ns, rfl, rfl, O, G, hl, hn, q⟩ := h
  have O2 := O
  obtain ⟨s0, hs0, dx, g, k, as, d, ds, S, o3⟩ := O2
  have hl1 := s0.seq hl
  have al : (as.map V.ref).length = r.given.length := by rw [List.length_map, S.tu.len]
  refine ⟨_, (pss_cons (ps_set (i := 2) sc_amend.nd rfl (Or.inl rfl) (pe_ix ix_list (pv 1) (pn 0) (fun _ _ => rfl)))
      (pss_cons (ps_set (i := 3) sc_amend.nd rfl (Or.inl rfl) (pe_ix ix_list (pv 1) (pn 1) (fun _ _ => rfl)))
      (pss_cons (ps_if (pt_val (pcall (ok_none_laid T) hr (pa_cons (pv 0) pa_nil)))
      (pss_one (ps_ret (pe_lst (pa_cons (pgi T.g_NOTHING) pa_nil))))
      pss_nil)
      (pss_cons (ps_if (pt_cmpR on_ge (pv 2) (pe_callB call_len_seq rfl T.no_len PySem.boot_len (pa_cons (pe_fld (pv 0) rfl) pa_nil)) (nomark _))
      (pss_one (ps_ret (pe_lst (pa_cons (pgi T.g_NO_SUCH) pa_nil))))
      pss_nil)
      (pss_cons (ps_if (pt_cmpR on_gt (pv 3) (pgn T.g_DOUBTED) (nomark _))
      (pss_one (ps_ret (pe_lst (pa_cons (pgi T.g_WRONG) pa_nil))))
      pss_nil)
      (pss_cons (ps_set (i := 4) sc_amend.nd rfl (Or.inl rfl) (pe_ix ix_list (pe_fld (pv 0) rfl) (pv 2) (fun _ _ => rfl)))
      (pss_cons (ps_asg (pe_tup (pa_cons (pe_ix ix_tup (pv 4) (pn 0) (fun _ _ => rfl)) (pa_cons (pv 3) pa_nil))) (pg_sub (pe_fld (pv 0) rfl) (pv 2) set_list))
      (pss_one (ps_ret (pe_lst (pa_cons (pe_ix ix_tup (pv 4) (pn 1) (fun _ _ => rfl)) pa_nil))))))))))), ?_⟩
  refine ⟨_, rfl, l, _, _, _, rfl, rfl, hl1, (at2 hn).1, _, rfl, l, _, _, _, rfl, rfl, hl1, (at2 hn).2, ?_⟩
  refine ⟨_, rfl, _, rfl, a, r, rfl, O.st, _, rfl, ifD (fun h2 => ?_) fun h2 => ?_⟩
  · exact fin1 (K := K) (r := r) O (by unfold doAmend; rw [if_pos h2]) q
  · refine ⟨_, rfl, _, rfl, a, CS, dx, _, _, rfl, S.ob, T.c_State.cl, T.c_State.no _ (by decide), rfl, g, _, rfl, .inl (SqL.of S.gi), _, _, rfl, rfl, _, rfl, ifD (fun h3 => ?_) fun h3 => ?_⟩
    · rw [al] at h3
      exact fin1 (K := K) (r := r) O (by unfold doAmend; rw [if_neg h2, if_pos h3]) q
    · rw [al] at h3
      refine ⟨_, rfl, _, _, rfl, rfl, _, rfl, ifD (fun h4 => ?_) fun h4 => ?_⟩
      · exact fin1 (K := K) (r := r) O (by unfold doAmend; rw [if_neg h2, if_neg h3, if_pos h4]) q
      · obtain ⟨c, hc, hH, hgi⟩ := tup_at S (show ns.getD 0 0 < r.given.length by omega)
        refine ⟨_, rfl, a, CS, dx, _, _, rfl, S.ob, T.c_State.cl, T.c_State.no _ (by decide), rfl, _, rfl, g, _, _, V.ref c, rfl, rfl, SqL.of S.gi, atI_nat (by rw [List.getElem?_map, hc]; all_goals rfl), ?_⟩
        refine ⟨_, rfl, c, _, _, _, rfl, rfl, SqT.of hH, atI_nat (j := 0) rfl, _, rfl, (by show 2 ≤ sizeLine; decide), fun tp htp => ?_⟩
        have sm := same_new (o := .tup [vn (gv r (ns.getD 0 0)).1, vn (ns.getD 1 0)]) (Same.refl H) htp
        have S1 := S.same sm
        refine ⟨_, rfl, a, CS, dx, _, _, rfl, S1.ob, T.c_State.cl, T.c_State.no _ (by decide), rfl, _, rfl, g, _, _, ns.getD 0 0, rfl, rfl, S1.gi, ixN_nat (by rw [al]; omega), ?_⟩
        have em : (as.map V.ref).set (ns.getD 0 0) (V.ref tp) = (as.set (ns.getD 0 0) tp).map V.ref := by rw [List.map_set]
        rw [em]
        have nt : ∀ b xs, (upd H tp (.tup [vn (gv r (ns.getD 0 0)).1, vn (ns.getD 1 0)])) b = some (.tup xs) → b ≠ g := fun b xs q => ne_of q S1.gi (by intro z; cases z)
        have O1 := O.same sm
        have S3 : SAt CS (upd (upd H tp (.tup [vn (gv r (ns.getD 0 0)).1, vn (ns.getD 1 0)])) g (.lst ((as.set (ns.getD 0 0) tp).map V.ref))) a { r with given := r.given.set (ns.getD 0 0) ((gv r (ns.getD 0 0)).1, ns.getD 1 0) } dx g k (as.set (ns.getD 0 0) tp) d ds := by
          refine ⟨?_, upd_same, ?_, ?_, ?_, ?_⟩
          · rw [upd_ne (ne_of S1.ob S1.gi (by intro z; cases z))]; exact S1.ob
          · exact Tups.put (by rw [upd_ne (nt _ _ upd_same)]; exact upd_same) (S1.tu.keep fun b xs e => by rw [upd_ne (nt _ _ e)]; exact e)
          · rw [upd_ne o3.gk.symm]; exact S1.st
          · rw [upd_ne o3.gd.symm]; exact S1.en
          · exact S1.te.keep fun b xs e => by rw [upd_ne (nt _ _ e)]; exact e
        have O3 : OwnAt CS H0 _ a _ := ⟨fun b o e => by rw [upd_ne (ne_of_none e o3.g0)]; exact O1.1 _ _ e, O1.2.1, dx, g, k, _, d, ds, S3, o3⟩
        refine ⟨_, rfl, c, _, _, _, rfl, rfl, SqT.of (by rw [upd_ne (nt _ _ (sm _ _ hH))]; exact sm _ _ hH), atI_nat (j := 1) rfl, ?_⟩
        exact fin1 (K := K) (r := r) O3 (by unfold doAmend; rw [if_neg h2, if_neg h3, if_neg h4]) q
theorem ok_press (T : Txt K mg CS CH) : Ok P w K mg base 7 "press" ["state", "numbers"] (sp2 (pChg K CS doPress fun ns => ns.length = 1)) := by
  refine ok2 T.f_press sc_press (fun _ _ _ _ _ _ _ _ => rfl) fun f cdv A outer s H a b Q E hr h => ?_
  obtain ⟨H0, a, l, r, ns, rfl, rfl, O, G, hl, hn, q⟩ := h
  have O2 := O
  obtain ⟨s0, hs0, dx, g, k, as, d, ds, S, o3⟩ := O2
  have hl1 := s0.seq hl
  have al : (as.map V.ref).length = r.given.length := by rw [List.length_map, S.tu.len]
  refine ⟨_, (pss_cons (ps_set (i := 2) sc_press.nd rfl (Or.inl rfl) (pe_ix ix_list (pv 1) (pn 0) (fun _ _ => rfl)))
      (pss_cons (ps_if (pt_not (pt_val (pcall (ok_takes T) hr (pa_cons (pv 0) (pa_cons (pv 2) pa_nil)))))
      (pss_one (ps_ret (pe_lst (pa_cons (pgi T.g_WRONG) pa_nil))))
      pss_nil)
      (pss_cons (ps_if (pt_val (pcall (ok_none_laid T) hr (pa_cons (pv 0) pa_nil)))
      (pss_one (ps_ret (pe_lst (pa_cons (pgi T.g_NOTHING) pa_nil))))
      pss_nil)
      (pss_cons (ps_set (i := 3) sc_press.nd rfl (Or.inl rfl) (pcall (ok_first_row T) hr (pa_cons (pv 0) (pa_cons (pv 2) (pa_cons (pgn T.g_CONCEDED) pa_nil)))))
      (pss_cons (ps_if (pt_cmp (pc_isN (pv 3)))
      (pss_one (ps_ret (pe_lst (pa_cons (pgi T.g_CANNOT) pa_nil))))
      pss_nil)
      (pss_cons (ps_if (pt_cmpR on_gt (pe_op on_add (pe_callB call_len_seq rfl T.no_len PySem.boot_len (pa_cons (pe_fld (pv 0) rfl) pa_nil)) (pe_callB call_len_seq rfl T.no_len PySem.boot_len (pa_cons (pv 3) pa_nil))) (pgn T.g_MOST_ANSWERS) (nomark _))
      (pss_one (ps_ret (pe_lst (pa_cons (pgi T.g_TOO_MANY) pa_nil))))
      pss_nil)
      (pss_cons (ps_for PassesOwn.never rfl (pi_list (pv 3)) (pg_name (i := 4) sc_press.nd rfl (Or.inl rfl))
      (pss_one (ps_expr (pe_bm PySem.F.plainAttrs_list PySem.F.slot_list_append PySem.F.type_list_append mt_append (pe_fld (pv 0) rfl) (pa_cons (pe_tup (pa_cons (pv 4) (pa_cons (pcall (ok_right_while T) hr (pa_cons (pv 0) (pa_cons (pcall (ok_stands_now T) hr (pa_cons (pv 0) pa_nil)) (pa_cons (pv 4) pa_nil)))) pa_nil))) pa_nil)))))
      (pss_one (ps_ret (pe_op op_cat (pe_lst (pa_cons (pe_callB call_len_seq rfl T.no_len PySem.boot_len (pa_cons (pv 3) pa_nil)) pa_nil)) (pv 3))))))))))), ?_⟩
  refine ⟨_, rfl, l, _, _, _, rfl, rfl, hl1, at1 hn, ?_⟩
  refine ⟨_, rfl, _, rfl, _, _, rfl, a, r, _, rfl, rfl, O.st, G, _, rfl, ifB (fun h1 => ?_) fun h1 => ?_⟩
  · have h1 : ¬ ns.getD 0 0 ≤ full r.m := by simpa using h1
    exact fin1 (K := K) (r := r) O (by unfold doPress; rw [if_pos h1]) q
  · have h1p : ns.getD 0 0 ≤ full r.m := by simpa using h1
    have h1 : ¬ ¬ ns.getD 0 0 ≤ full r.m := fun z => z h1p
    refine ⟨_, rfl, _, rfl, a, r, rfl, O.st, _, rfl, ifD (fun h2 => ?_) fun h2 => ?_⟩
    · exact fin1 (K := K) (r := r) O (by unfold doPress; rw [if_neg h1, if_pos h2]) q
    · refine ⟨_, rfl, _, rfl, _, _, _, rfl, a, r, _, 1, rfl, rfl, rfl, O.st, G, fun e0 H1 s1 => ?_, fun lr e0 H1 fa hfa s1 hf => ?_⟩
      · refine ⟨_, rfl, _, rfl, ?_⟩
        exact iteT (fin1 (K := K) (r := r) (O.same s1) (by unfold doPress; rw [if_neg h1, if_neg h2, e0]) q)
      · obtain ⟨le1, le2⟩ := rowF_le h1p e0
        have S1 := S.same s1
        have O1 := O.same s1
        have nfa : fa ≠ g := fun e => by subst e; rw [S.gi] at hfa; cases hfa
        refine ⟨_, rfl, _, rfl, ?_⟩
        refine iteF ?_
        refine ⟨_, rfl, a, CS, dx, _, _, rfl, S1.ob, T.c_State.cl, T.c_State.no _ (by decide), rfl, g, _, rfl, .inl (SqL.of S1.gi), _, rfl, fa, _, rfl, .inl (SqL.of hf), _, _, rfl, rfl, _, _, rfl, rfl, _, rfl, ifD (fun h3 => ?_) fun h3 => ?_⟩
        · rw [al, List.length_map] at h3
          exact fin1 (K := K) (r := r) O1 (by unfold doPress; rw [if_neg h1, if_neg h2, e0]; show (if _ then _ else _) = _; rw [if_pos h3]) q
        · rw [al, List.length_map] at h3
          refine ⟨_, rfl, fa, rfl, ⟨_, SqL.of hf⟩, for_list (K := K) (a := fa) (xs := lr.map vn) (fun i σ H' => (∃ v, σ = [some (.ref a), some (.ref l), some (vn (ns.getD 0 0)), some (.ref fa), v]) ∧ OwnAt CS H0 H' a ((lr.take i).foldl pushR r) ∧ (∃ dx as ds, SAt CS H' a ((lr.take i).foldl pushR r) dx g k as d ds) ∧ H' fa = some (.lst (lr.map vn)) ∧ Good ((lr.take i).foldl pushR r) ∧ ((lr.take i).foldl pushR r).given.length = r.given.length + i ∧ ((lr.take i).foldl pushR r).m = r.m)
            ⟨⟨none, rfl⟩, O1, ⟨dx, as, ds, S1⟩, hf, G, rfl, rfl⟩ (fun i σ H' _ ⟨_, _, _, e, _⟩ => SqL.of e) ?_ ?_⟩
          · rintro i y σ H' hi ⟨⟨v, rfl⟩, O5, ⟨dx5, as5, ds5, S5⟩, hf5, G5, gl5, m5⟩
            obtain ⟨p, hp, rfl⟩ := map_at hi
            have lt : i < lr.length := (List.getElem?_eq_some_iff.mp hp).1
            have hpm : p ≤ full ((lr.take i).foldl pushR r).m := by rw [m5]; exact le1 p (List.mem_of_getElem? hp)
            have al5 : (as5.map V.ref).length = r.given.length + i := by rw [List.length_map, S5.tu.len, gl5]
            refine ⟨_, rfl, a, CS, dx5, _, _, rfl, S5.ob, T.c_State.cl, T.c_State.no _ (by decide), rfl, .inl ⟨rfl, _, SqL.of S5.gi⟩, _, rfl, _, rfl, _, rfl, _, rfl, a, _, rfl, O5.st, G5, fun H6 s6 => ⟨_, rfl, _, _, _, rfl, a, _, _, _, rfl, rfl, rfl, O5.st.same s6, (by show 2 ≤ sizeLine; decide), fun tp htp => ?_⟩⟩
            have sm := same_new (o := .tup [vn p, vn (rw_ ((lr.take i).foldl pushR r) (now ((lr.take i).foldl pushR r)) p)]) (Same.refl H6) htp
            have S6 := (S5.same s6).same sm
            refine ⟨g, _, _, rfl, rfl, S6.gi, by rw [al5]; have : sizeLine = 16777216 := rfl; omega, ?_⟩
            have ⟨O7, S7⟩ := ((O5.same s6).same sm).push (y := (p, rw_ ((lr.take i).foldl pushR r) (now ((lr.take i).foldl pushR r)) p)) S6 o3 upd_same
            have ef : (lr.take (i + 1)).foldl pushR r = pushR ((lr.take i).foldl pushR r) p := by rw [take_snoc hp, List.foldl_append]; rfl
            refine ⟨⟨_, rfl⟩, by rw [ef]; exact O7, by rw [ef]; exact ⟨dx5, _, _, S7⟩, ?_, ?_, ?_, ?_⟩
            · rw [upd_ne nfa]
              exact sm _ _ (s6 _ _ hf5)
            · rw [ef]
              exact G5.more hpm (right_le _ _ _) (by rw [gl5]; omega)
            · rw [ef]
              show (_ ++ [_]).length = _
              rw [List.length_append, gl5]
              rfl
            · rw [ef]
              exact m5
          · rintro σ H' ⟨⟨v, rfl⟩, O5, _, hf5, G5, gl5, m5⟩
            rw [List.length_map, List.take_length] at O5
            refine ⟨_, rfl, fa, _, rfl, .inl (SqL.of hf5), (by show 1 ≤ sizeLine; decide), fun p1 hp1 => ⟨_, rfl, p1, fa, _, _, rfl, rfl, upd_same, same_new (Same.refl H') hp1 _ _ hf5, ?_, fun p2 hp2 => ?_⟩⟩
            · rw [List.length_map]
              show 1 + lr.length ≤ sizeLine
              have : sizeLine = 16777216 := rfl
              omega
            · have O6 := (O5.new (o := .lst [V.int ((lr.map vn).length : Int)]) hp1)
              refine q _ p2 (O6.free hp2) ?_ ?_
              · have e9 : (doPress r ns).2 = lr.foldl pushR r := by unfold doPress; rw [if_neg h1, if_neg h2, e0]; show (if _ then _ else _ : List Int × Rec).2 = _; rw [if_neg h3]
                rw [e9]
                exact O6.new hp2
              · have e9 : (doPress r ns).1 = (lr.length : Int) :: lr.map (fun x : Nat => (x : Int)) := by unfold doPress; rw [if_neg h1, if_neg h2, e0]; show (if _ then _ else _ : List Int × Rec).1 = _; rw [if_neg h3]
                rw [upd_same, e9, List.length_map, List.map_cons, List.map_map]
                rfl
end
end DY
namespace DY
open PySem PySem.Spec PyProof.Rows L2 DX DM
open Krb7 (full)
def pAsk (K : PySem.W.Frag) (CS : Addr) (d : Rec → List Nat → List Int) (ok : List Nat → Prop) : V → V → Hp → VK → Prop := fun a b H Q => ∃ (s l : Addr) (r : Rec) (ns : List Nat), a = .ref s ∧ b = .ref l ∧ StAt CS H s r ∧ Good r ∧ SqL K H l (ns.map vn) ∧ ok ns ∧
  ∀ H' p, H p = none → Same H H' → H' p = some (.lst ((d r ns).map V.int)) → Q (.ref p) H'
def nat (l : List Nat) : List Int := l.map fun x : Nat => (x : Int)
theorem nat_v (l : List Nat) : (nat l).map V.int = l.map vn := by unfold nat; rw [List.map_map]; rfl
def lst (l : List Nat) : List Int := (l.length : Int) :: nat l
def row? : Option (List Nat) → List Int
  | none => [-33]
  | some l => lst l
def dRight (r : Rec) (ns : List Nat) : List Int := if ¬ ns.getD 0 0 ≤ full r.m then [-22] else if r.laid = 0 then [-6] else [(rw_ r (now r) (ns.getD 0 0) : Int), (Krb7.why (byW r (now r)) (ns.getD 0 0) : Int)]
def rowA (r : Rec) : Nat → List Nat → List Nat
  | _, [] => []
  | s, p :: l => rw_ r s p :: rowA r (nextW r s p) l
def rowS (r : Rec) (s : Nat) (l : List Nat) : Nat := l.foldl (nextW r) s
theorem rowA_snoc (r : Rec) : ∀ (l : List Nat) (s p : Nat), rowA r s (l ++ [p]) = rowA r s l ++ [rw_ r (rowS r s l) p]
  | [], s, p => rfl
  | x :: l, s, p => by
    show rw_ r s x :: rowA r (nextW r s x) (l ++ [p]) = rw_ r s x :: rowA r (nextW r s x) l ++ _
    rw [rowA_snoc r l]
    rfl
theorem rowA_len (r : Rec) : ∀ (l : List Nat) (s : Nat), (rowA r s l).length = l.length
  | [], _ => rfl
  | x :: l, s => by
    show (rowA r (nextW r s x) l).length + 1 = l.length + 1
    rw [rowA_len r l]
def dRow (r : Rec) (ns : List Nat) : List Int := if 8 < ns.length ∨ ¬ (ns.all fun p => decide (p ≤ full r.m)) = true then [-22] else if r.laid = 0 then [-6] else lst (rowA r (now r) ns)
def dStands (r : Rec) (_ : List Nat) : List Int := if r.laid = 0 then [-6] else [(pc 8 (now r) : Int), (now r : Int)]
def dLog (r : Rec) (ns : List Nat) : List Int := if r.laid = 0 then [-6] else if r.given.length ≤ ns.getD 0 0 then [-2] else [((gv r (ns.getD 0 0)).1 : Int), ((gv r (ns.getD 0 0)).2 : Int), if badB r (ns.getD 0 0) = true then 1 else 0]
def dTold (r : Rec) (t a : Nat) : List Int := if ¬ t ≤ full r.m then [-22] else if r.laid = 0 then [-6] else row? (rowF r t a)
theorem stay {H H1 : Hp} {c : List Int} {dr : List Int} {xs : List V} {Q : VK} (s1 : Same H H1) (e : dr = c) (ex : xs = c.map V.int) (hz : xs.length ≤ sizeLine) (q : ∀ H' p, H p = none → Same H H' → H' p = some (.lst (dr.map V.int)) → Q (.ref p) H') :
    xs.length ≤ sizeLine ∧ ∀ p, H1 p = none → Q (.ref p) (upd H1 p (.lst xs)) := by
  subst e ex
  exact ⟨hz, fun p hp => q _ p (s1.free hp) (same_new s1 hp) upd_same⟩
section
variable {P : Program} {w : World} {K : PySem.W.Frag} {mg : Str → Option Value} {base : Heap} {CS CH : Addr}
theorem ok_right (T : Txt K mg CS CH) : Ok P w K mg base 5 "right" ["state", "numbers"] (sp2 (pAsk K CS dRight fun ns => ns.length = 1)) := by
  refine ok2 T.f_right sc_right (fun _ _ _ _ _ _ _ _ => rfl) fun f cdv A outer s H a b Q E hr h => ?_
  obtain ⟨a, l, r, ns, rfl, rfl, S0, G, hl, hn, q⟩ := h
  refine ⟨_, (pss_cons (ps_set (i := 2) sc_right.nd rfl (Or.inl rfl) (pe_ix ix_list (pv 1) (pn 0) (fun _ _ => rfl)))
      (pss_cons (ps_if (pt_not (pt_val (pcall (ok_takes T) hr (pa_cons (pv 0) (pa_cons (pv 2) pa_nil)))))
      (pss_one (ps_ret (pe_lst (pa_cons (pgi T.g_WRONG) pa_nil))))
      pss_nil)
      (pss_cons (ps_if (pt_val (pcall (ok_none_laid T) hr (pa_cons (pv 0) pa_nil)))
      (pss_one (ps_ret (pe_lst (pa_cons (pgi T.g_NOTHING) pa_nil))))
      pss_nil)
      (pss_cons (ps_set (i := 3) sc_right.nd rfl (Or.inl rfl) (pcall (ok_stands_now T) hr (pa_cons (pv 0) pa_nil)))
      (pss_one (ps_ret (pe_lst (pa_cons (pcall (ok_right_while T) hr (pa_cons (pv 0) (pa_cons (pv 3) (pa_cons (pv 2) pa_nil)))) (pa_cons (pcall (ok_bearing T) hr (pa_cons (pcall (ok_answered_by T) hr (pa_cons (pv 0) (pa_cons (pv 3) pa_nil))) (pa_cons (pv 2) pa_nil))) pa_nil))))))))), ?_⟩
  refine ⟨_, rfl, l, _, _, _, rfl, rfl, hl, at1 hn, ?_⟩
  refine ⟨_, rfl, _, rfl, _, _, rfl, a, r, _, rfl, rfl, S0, G, _, rfl, ifB (fun h1 => ?_) fun h1 => ?_⟩
  · have h1 : ¬ ns.getD 0 0 ≤ full r.m := by simpa using h1
    exact stay (Same.refl H) (c := [-22]) (by unfold dRight; rw [if_pos h1]) rfl (by show 1 ≤ sizeLine; decide) q
  · have h1 : ¬ ¬ ns.getD 0 0 ≤ full r.m := by simpa using h1
    refine ⟨_, rfl, _, rfl, a, r, rfl, S0, _, rfl, ifD (fun h2 => ?_) fun h2 => ?_⟩
    · exact stay (Same.refl H) (c := [-6]) (by unfold dRight; rw [if_neg h1, if_pos h2]) rfl (by show 1 ≤ sizeLine; decide) q
    · refine ⟨_, rfl, _, rfl, a, r, rfl, S0, G, fun H1 s1 => ?_⟩
      refine ⟨_, rfl, _, rfl, _, rfl, _, _, _, rfl, a, r, _, _, rfl, rfl, rfl, S0.same s1, _, rfl, _, rfl, _, _, rfl, a, r, _, rfl, rfl, S0.same s1, _, rfl, _, _, rfl, _, _, rfl, rfl, ?_⟩
      exact stay s1 (by unfold dRight; rw [if_neg h1, if_neg h2]) rfl (by show 2 ≤ sizeLine; decide) q
theorem ok_stands_told (T : Txt K mg CS CH) : Ok P w K mg base 4 "stands_told" ["state", "numbers"] (sp2 (pAsk K CS dStands fun _ => True)) := by
  refine ok2 T.f_stands_told sc_stands_told (fun _ _ _ _ _ _ _ _ => rfl) fun f cdv A outer s H a b Q E hr h => ?_
  obtain ⟨a, l, r, ns, rfl, rfl, S0, G, hl, hn, q⟩ := h
  refine ⟨_, (pss_cons (ps_if (pt_val (pcall (ok_none_laid T) hr (pa_cons (pv 0) pa_nil)))
      (pss_one (ps_ret (pe_lst (pa_cons (pgi T.g_NOTHING) pa_nil))))
      pss_nil)
      (pss_cons (ps_set (i := 2) sc_stands_told.nd rfl (Or.inl rfl) (pcall (ok_stands_now T) hr (pa_cons (pv 0) pa_nil)))
      (pss_one (ps_ret (pe_lst (pa_cons (pcall (ok_how_many T) hr (pa_cons (pv 2) pa_nil)) (pa_cons (pv 2) pa_nil))))))), ?_⟩
  refine ⟨_, rfl, _, rfl, a, r, rfl, S0, _, rfl, ifD (fun h2 => ?_) fun h2 => ?_⟩
  · exact stay (Same.refl H) (c := [-6]) (by unfold dStands; rw [if_pos h2]) rfl (by show 1 ≤ sizeLine; decide) q
  · refine ⟨_, rfl, _, rfl, a, r, rfl, S0, G, fun H1 s1 => ?_⟩
    refine ⟨_, rfl, _, rfl, _, rfl, G.now_lt, _, rfl, ?_⟩
    exact stay s1 (by unfold dStands; rw [if_neg h2]) rfl (by show 2 ≤ sizeLine; decide) q
theorem ok_log (T : Txt K mg CS CH) : Ok P w K mg base 7 "log" ["state", "numbers"] (sp2 (pAsk K CS dLog fun ns => ns.length = 1)) := by
  refine ok2 T.f_log sc_log (fun _ _ _ _ _ _ _ _ => rfl) fun f cdv A outer s H a b Q E hr h => ?_
  obtain ⟨a, l, r, ns, rfl, rfl, S0, G, hl, hn, q⟩ := h
  have S1 := S0
  obtain ⟨dx, g, k, as, d, ds, S⟩ := S1
  have al : (as.map V.ref).length = r.given.length := by rw [List.length_map, S.tu.len]
  refine ⟨_, (pss_cons (ps_set (i := 2) sc_log.nd rfl (Or.inl rfl) (pe_ix ix_list (pv 1) (pn 0) (fun _ _ => rfl)))
      (pss_cons (ps_if (pt_val (pcall (ok_none_laid T) hr (pa_cons (pv 0) pa_nil)))
      (pss_one (ps_ret (pe_lst (pa_cons (pgi T.g_NOTHING) pa_nil))))
      pss_nil)
      (pss_cons (ps_if (pt_cmpR on_ge (pv 2) (pe_callB call_len_seq rfl T.no_len PySem.boot_len (pa_cons (pe_fld (pv 0) rfl) pa_nil)) (nomark _))
      (pss_one (ps_ret (pe_lst (pa_cons (pgi T.g_NO_SUCH) pa_nil))))
      pss_nil)
      (pss_cons (ps_set (i := 3) sc_log.nd rfl (Or.inl rfl) (pe_ix ix_list (pe_fld (pv 0) rfl) (pv 2) (fun _ _ => rfl)))
      (pss_one (ps_ret (pe_lst (pa_cons (pe_ix ix_tup (pv 3) (pn 0) (fun _ _ => rfl)) (pa_cons (pe_ix ix_tup (pv 3) (pn 1) (fun _ _ => rfl)) (pa_cons (pe_ifExp (pt_val (pcall (ok_is_bad T) hr (pa_cons (pv 0) (pa_cons (pv 2) pa_nil)))) (pn 1) (pn 0)) pa_nil)))))))))), ?_⟩
  refine ⟨_, rfl, l, _, _, _, rfl, rfl, hl, at1 hn, ?_⟩
  refine ⟨_, rfl, _, rfl, a, r, rfl, S0, _, rfl, ifD (fun h2 => ?_) fun h2 => ?_⟩
  · exact stay (Same.refl H) (c := [-6]) (by unfold dLog; rw [if_pos h2]) rfl (by show 1 ≤ sizeLine; decide) q
  · refine ⟨_, rfl, _, rfl, a, CS, dx, _, _, rfl, S.ob, T.c_State.cl, T.c_State.no _ (by decide), rfl, g, _, rfl, .inl (SqL.of S.gi), _, _, rfl, rfl, _, rfl, ifD (fun h3 => ?_) fun h3 => ?_⟩
    · rw [al] at h3
      exact stay (Same.refl H) (c := [-2]) (by unfold dLog; rw [if_neg h2, if_pos h3]) rfl (by show 1 ≤ sizeLine; decide) q
    · rw [al] at h3
      have hi : ns.getD 0 0 < r.given.length := by omega
      obtain ⟨c, hc, hH, hgi⟩ := tup_at S hi
      refine ⟨_, rfl, a, CS, dx, _, _, rfl, S.ob, T.c_State.cl, T.c_State.no _ (by decide), rfl, _, rfl, g, _, _, V.ref c, rfl, rfl, SqL.of S.gi, atI_nat (by rw [List.getElem?_map, hc]; all_goals rfl), ?_⟩
      refine ⟨_, rfl, c, _, _, _, rfl, rfl, SqT.of hH, atI_nat (j := 0) rfl, _, rfl, c, _, _, _, rfl, rfl, SqT.of hH, atI_nat (j := 1) rfl, ?_⟩
      refine ⟨_, rfl, _, rfl, _, _, rfl, a, r, _, rfl, rfl, S0, G, hi, fun H1 s1 => ⟨_, rfl, ifB (fun h4 => ?_) fun h4 => ?_⟩⟩
      · exact stay s1 (c := [((gv r (ns.getD 0 0)).1 : Int), ((gv r (ns.getD 0 0)).2 : Int), 1]) (by unfold dLog; rw [if_neg h2, if_neg h3, if_pos h4]) rfl (by show 3 ≤ sizeLine; decide) q
      · exact stay s1 (c := [((gv r (ns.getD 0 0)).1 : Int), ((gv r (ns.getD 0 0)).2 : Int), 0]) (by unfold dLog; rw [if_neg h2, if_neg h3, if_neg (by rw [h4]; exact Bool.false_ne_true)]) rfl (by show 3 ≤ sizeLine; decide) q
theorem ok_row (T : Txt K mg CS CH) : Ok P w K mg base 6 "row" ["state", "numbers"] (sp2 (pAsk K CS dRow fun ns => ns.length ≤ 65536)) := by
  refine ok2 T.f_row sc_row (fun _ _ _ _ _ _ _ _ => rfl) fun f cdv A outer s H a b Q E hr h => ?_
  obtain ⟨a, l, r, ns, rfl, rfl, S0, G, hl, hn, q⟩ := h
  have ln : (ns.map vn).length = ns.length := List.length_map _
  refine ⟨_, (pss_cons (ps_if (PW.pt (pw_or (pt_cmpR on_gt (pe_callB call_len_seq rfl T.no_len PySem.boot_len (pa_cons (pv 1) pa_nil)) (pgn T.g_MOST_IN_ROW) (nomark _)) (pw_or1 (pt_not (pt_val (pcall (ok_takes_all T) hr (pa_cons (pv 0) (pa_cons (pv 1) pa_nil))))))))
      (pss_one (ps_ret (pe_lst (pa_cons (pgi T.g_WRONG) pa_nil))))
      pss_nil)
      (pss_cons (ps_if (pt_val (pcall (ok_none_laid T) hr (pa_cons (pv 0) pa_nil)))
      (pss_one (ps_ret (pe_lst (pa_cons (pgi T.g_NOTHING) pa_nil))))
      pss_nil)
      (pss_cons (ps_set (i := 2) sc_row.nd rfl (Or.inl rfl) (pe_lst (pa_cons (pe_callB call_len_seq rfl T.no_len PySem.boot_len (pa_cons (pv 1) pa_nil)) pa_nil)))
      (pss_cons (ps_set (i := 3) sc_row.nd rfl (Or.inl rfl) (pcall (ok_stands_now T) hr (pa_cons (pv 0) pa_nil)))
      (pss_cons (ps_for PassesOwn.never rfl (pi_list (pv 1)) (pg_name (i := 4) sc_row.nd rfl (Or.inl rfl))
      (pss_cons (ps_expr (pe_bm PySem.F.plainAttrs_list PySem.F.slot_list_append PySem.F.type_list_append mt_append (pv 2) (pa_cons (pcall (ok_right_while T) hr (pa_cons (pv 0) (pa_cons (pv 3) (pa_cons (pv 4) pa_nil)))) pa_nil)))
      (pss_one (ps_set (i := 3) sc_row.nd rfl (Or.inl rfl) (pcall (ok_stands_after_right T) hr (pa_cons (pv 0) (pa_cons (pv 3) (pa_cons (pv 4) pa_nil))))))))
      (pss_one (ps_ret (pv 2)))))))), ?_⟩
  refine ⟨_, rfl, l, _, rfl, .inl hl, _, _, rfl, rfl, _, rfl, ifD (fun h1 => ?_) fun h1 => ?_⟩
  · rw [ln] at h1
    exact iteT (stay (Same.refl H) (c := [-22]) (by unfold dRow; rw [if_pos (.inl h1)]) rfl (by show 1 ≤ sizeLine; decide) q)
  · rw [ln] at h1
    refine ⟨_, rfl, _, rfl, _, _, rfl, a, l, r, ns, rfl, rfl, S0, G, hl, hn, fun H1 s1 => ⟨_, rfl, ifB (fun h2 => ?_) fun h2 => ?_⟩⟩
    · have h2 : ¬ (ns.all fun p => decide (p ≤ full r.m)) = true := by rw [Bool.not_eq_true'] at h2; rw [h2]; exact Bool.false_ne_true
      exact stay s1 (c := [-22]) (by unfold dRow; rw [if_pos (.inr h2)]) rfl (by show 1 ≤ sizeLine; decide) q
    · have h2 : ¬ (8 < ns.length ∨ ¬ (ns.all fun p => decide (p ≤ full r.m)) = true) := by
        rintro (z | z)
        · exact h1 z
        · rw [Bool.not_eq_false'] at h2
          exact z h2
      refine ⟨_, rfl, _, rfl, a, r, rfl, S0.same s1, _, rfl, ifD (fun h3 => ?_) fun h3 => ?_⟩
      · exact stay s1 (c := [-6]) (by unfold dRow; rw [if_neg h2, if_pos h3]) rfl (by show 1 ≤ sizeLine; decide) q
      · refine ⟨_, rfl, l, _, rfl, .inl (s1.seq hl), (by show 1 ≤ sizeLine; decide), fun ta hta => ?_⟩
        rw [ln]
        have s2 : Same H (upd H1 ta (.lst [vn ns.length])) := same_new s1 hta
        have ta0 : H ta = none := s1.free hta
        refine ⟨_, rfl, _, rfl, a, r, rfl, S0.same s2, G, fun H3 s3 => ?_⟩
        have hta3 := s3 _ _ (show (upd H1 ta (.lst [vn ns.length])) ta = _ from upd_same)
        have s4 := s2.trans s3
        refine ⟨_, rfl, l, rfl, ⟨_, s4.seq hl⟩, for_list (K := K) (a := l) (xs := ns.map vn) (fun i σ H' => (∃ v, σ = [some (.ref a), some (.ref l), some (.ref ta), some (vn (rowS r (now r) (ns.take i))), v]) ∧ Same H H' ∧ H' ta = some (.lst (vn ns.length :: (rowA r (now r) (ns.take i)).map vn)))
          ⟨⟨none, rfl⟩, s4, hta3⟩ (fun i σ H' _ ⟨_, e, _⟩ => e.seq hl) ?_ ?_⟩
        · rintro i y σ H' hi ⟨⟨v, rfl⟩, s5, ht5⟩
          obtain ⟨p, hp, rfl⟩ := map_at hi
          have lt : i < ns.length := (List.getElem?_eq_some_iff.mp hp).1
          refine ⟨_, rfl, .inl ⟨rfl, _, SqL.of ht5⟩, _, rfl, _, rfl, _, rfl, _, _, _, rfl, a, r, _, _, rfl, rfl, rfl, S0.same s5, ta, _, _, rfl, rfl, ht5, ?_, ?_⟩
          · rw [List.length_cons, List.length_map, rowA_len, List.length_take]
            have : sizeLine = 16777216 := rfl
            omega
          · have s6 : Same H (upd H' ta (.lst (vn ns.length :: (rowA r (now r) (ns.take i)).map vn ++ [vn (rw_ r (rowS r (now r) (ns.take i)) p)]))) := fun b o e => by
              rw [upd_ne (ne_of_none e ta0)]
              exact s5 _ _ e
            refine ⟨_, rfl, _, rfl, _, rfl, _, _, _, rfl, a, r, _, _, rfl, rfl, rfl, S0.same s6, ⟨some (vn p), ?_⟩, s6, ?_⟩
            · have e8 : rowS r (now r) (ns.take (i + 1)) = nextW r (rowS r (now r) (ns.take i)) p := by unfold rowS; rw [take_snoc hp, List.foldl_append]; rfl
              rw [e8]
              rfl
            · rw [upd_same, take_snoc hp, rowA_snoc, List.map_append]
              rfl
        · rintro σ H' ⟨⟨v, rfl⟩, s5, ht5⟩
          rw [List.length_map, List.take_length] at ht5
          refine ⟨_, rfl, q _ ta ta0 s5 ?_⟩
          have e : dRow r ns = lst (rowA r (now r) ns) := by unfold dRow; rw [if_neg h2, if_neg h3]
          rw [ht5, e]
          unfold lst
          rw [List.map_cons, nat_v, rowA_len]
theorem back_list {H H1 : Hp} {o : Option (List Nat)} {lr : List Nat} {fa : Addr} {dr : List Int} {Q : VK} (s1 : Same H H1) (hf : H1 fa = some (.lst (lr.map vn))) (hz : lr.length ≤ 65536) (e : dr = lst lr) (q : ∀ H' p, H p = none → Same H H' → H' p = some (.lst (dr.map V.int)) → Q (.ref p) H') :
    (1 : Nat) ≤ sizeLine ∧ ∀ p1, H1 p1 = none → ∃ l b xs zs, V.ref p1 = .ref l ∧ V.ref fa = .ref b ∧ (upd H1 p1 (.lst [vn (lr.map vn).length])) l = some (.lst xs) ∧ (upd H1 p1 (.lst [vn (lr.map vn).length])) b = some (.lst zs) ∧ xs.length + zs.length ≤ sizeLine ∧ ∀ p, (upd H1 p1 (.lst [vn (lr.map vn).length])) p = none → Q (.ref p) (upd (upd H1 p1 (.lst [vn (lr.map vn).length])) p (.lst (xs ++ zs))) := by
  refine ⟨by decide, fun p1 hp1 => ⟨p1, fa, _, _, rfl, rfl, upd_same, same_new (Same.refl H1) hp1 _ _ hf, ?_, fun p2 hp2 => ?_⟩⟩
  · rw [List.length_map]
    show 1 + lr.length ≤ sizeLine
    have : sizeLine = 16777216 := rfl
    omega
  · have s2 := same_new (o := .lst [vn (lr.map vn).length]) s1 hp1
    refine q _ p2 (s2.free hp2) (same_new s2 hp2) ?_
    rw [upd_same, e]
    unfold lst
    rw [List.map_cons, nat_v, List.length_map]
    rfl
def pTold (CS : Addr) : V → V → V → Hp → VK → Prop := fun a b c H Q => ∃ (s : Addr) (r : Rec) (t x : Nat), a = .ref s ∧ b = vn t ∧ c = vn x ∧ StAt CS H s r ∧ Good r ∧ ∀ H' p, H p = none → Same H H' → H' p = some (.lst ((dTold r t x).map V.int)) → Q (.ref p) H'
theorem ok_row_told (T : Txt K mg CS CH) : Ok P w K mg base 7 "row_told" ["state", "t", "wanted"] (sp3 (pTold CS)) := by
  refine ok3 T.f_row_told sc_row_told (fun _ _ _ _ _ _ _ _ _ => rfl) fun f cdv A outer s H a b c Q E hr h => ?_
  obtain ⟨a, r, t, x, rfl, rfl, rfl, S0, G, q⟩ := h
  refine ⟨_, (pss_cons (ps_if (pt_not (pt_val (pcall (ok_takes T) hr (pa_cons (pv 0) (pa_cons (pv 1) pa_nil)))))
      (pss_one (ps_ret (pe_lst (pa_cons (pgi T.g_WRONG) pa_nil))))
      pss_nil)
      (pss_cons (ps_if (pt_val (pcall (ok_none_laid T) hr (pa_cons (pv 0) pa_nil)))
      (pss_one (ps_ret (pe_lst (pa_cons (pgi T.g_NOTHING) pa_nil))))
      pss_nil)
      (pss_cons (ps_set (i := 3) sc_row_told.nd rfl (Or.inl rfl) (pcall (ok_first_row T) hr (pa_cons (pv 0) (pa_cons (pv 1) (pa_cons (pv 2) pa_nil)))))
      (pss_cons (ps_if (pt_cmp (pc_isN (pv 3)))
      (pss_one (ps_ret (pe_lst (pa_cons (pgi T.g_CANNOT) pa_nil))))
      pss_nil)
      (pss_one (ps_ret (pe_op op_cat (pe_lst (pa_cons (pe_callB call_len_seq rfl T.no_len PySem.boot_len (pa_cons (pv 3) pa_nil)) pa_nil)) (pv 3)))))))), ?_⟩
  refine ⟨_, rfl, _, rfl, _, _, rfl, a, r, _, rfl, rfl, S0, G, _, rfl, ifB (fun h1 => ?_) fun h1 => ?_⟩
  · have h1 : ¬ t ≤ full r.m := by simpa using h1
    exact stay (Same.refl H) (c := [-22]) (by unfold dTold; rw [if_pos h1]) rfl (by show 1 ≤ sizeLine; decide) q
  · have h1p : t ≤ full r.m := by simpa using h1
    have h1 : ¬ ¬ t ≤ full r.m := fun z => z h1p
    refine ⟨_, rfl, _, rfl, a, r, rfl, S0, _, rfl, ifD (fun h2 => ?_) fun h2 => ?_⟩
    · exact stay (Same.refl H) (c := [-6]) (by unfold dTold; rw [if_neg h1, if_pos h2]) rfl (by show 1 ≤ sizeLine; decide) q
    · refine ⟨_, rfl, _, rfl, _, rfl, _, _, _, rfl, a, r, _, _, rfl, rfl, rfl, S0, G, fun e0 H1 s1 => ?_, fun lr e0 H1 fa hfa s1 hf => ?_⟩
      · refine ⟨_, rfl, _, rfl, ?_⟩
        exact iteT (stay s1 (c := [-33]) (by unfold dTold; rw [if_neg h1, if_neg h2, e0]; rfl) rfl (by show 1 ≤ sizeLine; decide) q)
      · obtain ⟨_, le2⟩ := rowF_le h1p e0
        refine ⟨_, rfl, _, rfl, iteF ?_⟩
        refine ⟨_, rfl, fa, _, rfl, .inl (SqL.of hf), ?_⟩
        obtain ⟨z1, z2⟩ := back_list (o := none) (Q := Q) s1 hf (by omega) (dr := dTold r t x) (by unfold dTold; rw [if_neg h1, if_neg h2, e0]; rfl) q
        exact ⟨z1, fun p1 hp1 => ⟨_, rfl, z2 p1 hp1⟩⟩
theorem ok_concede (T : Txt K mg CS CH) : Ok P w K mg base 8 "concede" ["state", "numbers"] (sp2 (pAsk K CS (fun r ns => dTold r (ns.getD 0 0) 1) fun ns => ns.length = 1)) := by
  refine ok2 T.f_concede sc_concede (fun _ _ _ _ _ _ _ _ => rfl) fun f cdv A outer s H a b Q E hr h => ?_
  obtain ⟨a, l, r, ns, rfl, rfl, S0, G, hl, hn, q⟩ := h
  refine ⟨_, (pss_one (ps_ret (pcall (ok_row_told T) hr (pa_cons (pv 0) (pa_cons (pe_ix ix_list (pv 1) (pn 0) (fun _ _ => rfl)) (pa_cons (pgn T.g_CONCEDED) pa_nil)))))), ?_⟩
  exact ⟨_, rfl, _, rfl, l, _, _, _, rfl, rfl, hl, at1 hn, _, _, _, rfl, a, r, _, _, rfl, rfl, rfl, S0, G, q⟩
theorem ok_deny (T : Txt K mg CS CH) : Ok P w K mg base 8 "deny" ["state", "numbers"] (sp2 (pAsk K CS (fun r ns => dTold r (ns.getD 0 0) 0) fun ns => ns.length = 1)) := by
  refine ok2 T.f_deny sc_deny (fun _ _ _ _ _ _ _ _ => rfl) fun f cdv A outer s H a b Q E hr h => ?_
  obtain ⟨a, l, r, ns, rfl, rfl, S0, G, hl, hn, q⟩ := h
  refine ⟨_, (pss_one (ps_ret (pcall (ok_row_told T) hr (pa_cons (pv 0) (pa_cons (pe_ix ix_list (pv 1) (pn 0) (fun _ _ => rfl)) (pa_cons (pgn T.g_DENIED) pa_nil)))))), ?_⟩
  exact ⟨_, rfl, _, rfl, l, _, _, _, rfl, rfl, hl, at1 hn, _, _, _, rfl, a, r, _, _, rfl, rfl, rfl, S0, G, q⟩
end
end DY
namespace DY
open PySem PySem.Spec PyProof.Rows L2 DX DM
open Krb7 (full)
noncomputable def fromF (r : Rec) (t x : Nat) : Option (List Nat) := open Classical in
  if h : ∃ K, IsD r.stock.length (nxS r) (hitF r t x) (now r) K then some (wy r.stock.length (nxS r) (hitF r t x) (Classical.choose h) (now r)) else none
theorem fromF_some {r : Rec} {t x K : Nat} (h : IsD r.stock.length (nxS r) (hitF r t x) (now r) K) : fromF r t x = some (wy r.stock.length (nxS r) (hitF r t x) K (now r)) := by
  unfold fromF
  have e : ∃ K, IsD r.stock.length (nxS r) (hitF r t x) (now r) K := ⟨K, h⟩
  rw [dif_pos e, (Classical.choose_spec e).uniq h]
theorem fromF_none {r : Rec} {t x : Nat} (h : ∀ j, hit r.stock.length (nxS r) (hitF r t x) j (now r) = false) : fromF r t x = none := by
  unfold fromF
  rw [dif_neg]
  rintro ⟨K, d, _⟩
  rw [h K] at d
  cases d
theorem wy_len (n : Nat) (nx : Nat → Nat → Nat) (f : Nat → Bool) : ∀ k b, (wy n nx f k b).length ≤ k
  | 0, _ => Nat.le_refl _
  | k + 1, b => by
    unfold wy
    split
    · exact Nat.zero_le _
    · show (wy n nx f k _).length + 1 ≤ k + 1
      have := wy_len n nx f k
      exact Nat.succ_le_succ (this _)
noncomputable def dFrom (r : Rec) (ns : List Nat) : List Int := if 2 < ns.getD 0 0 ∨ ¬ ns.getD 1 0 ≤ full r.m then [-22] else if r.laid = 0 then [-6] else row? (fromF r (ns.getD 1 0) (ns.getD 0 0))
def wants : List (Nat × Nat) := [(0, 1), (1, 2), (2, 4)]
def mayG (r : Rec) (t : Nat) (l : List (Nat × Nat)) : Nat := l.foldl (fun s x => if (rowF r t x.1).isSome = true then s + x.2 else s) 0
def mayF (r : Rec) (t : Nat) : Nat := mayG r t wants
def dMay (r : Rec) (ns : List Nat) : List Int := if ¬ ns.getD 0 0 ≤ full r.m then [-22] else if r.laid = 0 then [-6] else [(mayF r (ns.getD 0 0) : Int)]
def falseL (r : Rec) : List Nat := ((List.range (full r.m + 1)).filter fun p => decide (r.known &&& p = 0)).filter fun p => canB r p
def dFalse (r : Rec) (_ : List Nat) : List Int := if r.laid = 0 then [-6] else [((falseL r).length : Int)]
theorem may_heap {H : Hp} {t0 t1 t2 tt : Addr} {x0 x1 x2 : HO} {x3 : HO} (e0 : H t0 = none) (e1 : (upd H t0 x0) t1 = none) (e2 : (upd (upd H t0 x0) t1 x1) t2 = none) (e3 : (upd (upd (upd H t0 x0) t1 x1) t2 x2) tt = none) :
    ∃ HA, HA = upd (upd (upd (upd H t0 x0) t1 x1) t2 x2) tt x3 ∧ Same H HA ∧ HA t0 = some x0 ∧ HA t1 = some x1 ∧ HA t2 = some x2 ∧ HA tt = some x3 := by
  have s0 := same_new (o := x0) (Same.refl H) e0
  have s1 := same_new (o := x1) (Same.refl _) e1
  have s2 := same_new (o := x2) (Same.refl _) e2
  have s3 := same_new (o := x3) (Same.refl _) e3
  exact ⟨_, rfl, ((s0.trans s1).trans s2).trans s3, (s1.trans (s2.trans s3)) _ _ upd_same, (s2.trans s3) _ _ upd_same, s3 _ _ upd_same, upd_same⟩
section
variable {P : Program} {w : World} {K : PySem.W.Frag} {mg : Str → Option Value} {base : Heap} {CS CH : Addr}
theorem ok_may (T : Txt K mg CS CH) : Ok P w K mg base 7 "may" ["state", "numbers"] (sp2 (pAsk K CS dMay fun ns => ns.length = 1)) := by
  refine ok2 T.f_may sc_may (fun _ _ _ _ _ _ _ _ => rfl) fun f cdv A outer s H a b Q E hr h => ?_
  obtain ⟨a, l, r, ns, rfl, rfl, S0, G, hl, hn, q⟩ := h
  refine ⟨_, (pss_cons (ps_set (i := 2) sc_may.nd rfl (Or.inl rfl) (pe_ix ix_list (pv 1) (pn 0) (fun _ _ => rfl)))
      (pss_cons (ps_if (pt_not (pt_val (pcall (ok_takes T) hr (pa_cons (pv 0) (pa_cons (pv 2) pa_nil)))))
      (pss_one (ps_ret (pe_lst (pa_cons (pgi T.g_WRONG) pa_nil))))
      pss_nil)
      (pss_cons (ps_if (pt_val (pcall (ok_none_laid T) hr (pa_cons (pv 0) pa_nil)))
      (pss_one (ps_ret (pe_lst (pa_cons (pgi T.g_NOTHING) pa_nil))))
      pss_nil)
      (pss_cons (ps_set (i := 3) sc_may.nd rfl (Or.inl rfl) (pn 0))
      (pss_cons (ps_for PassesOwn.never rfl (pi_tup (pe_tup (pa_cons (pe_tup (pa_cons (pgn T.g_DENIED) (pa_cons (pn 1) pa_nil))) (pa_cons (pe_tup (pa_cons (pgn T.g_CONCEDED) (pa_cons (pn 2) pa_nil))) (pa_cons (pe_tup (pa_cons (pgn T.g_DOUBTED) (pa_cons (pn 4) pa_nil))) pa_nil))))) (pg_tup rfl (pgs_cons (pg_name (i := 4) sc_may.nd rfl (Or.inl rfl)) (pgs_cons (pg_name (i := 5) sc_may.nd rfl (Or.inl rfl)) pgs_nil)))
      (pss_one (ps_if (pt_cmp (pc_notN (pcall (ok_first_row T) hr (pa_cons (pv 0) (pa_cons (pv 2) (pa_cons (pv 4) pa_nil))))))
      (pss_one (ps_set (i := 3) sc_may.nd rfl (Or.inl rfl) (pe_op on_add (pv 3) (pv 5))))
      pss_nil)))
      (pss_one (ps_ret (pe_lst (pa_cons (pv 3) pa_nil))))))))), ?_⟩
  refine ⟨_, rfl, l, _, _, _, rfl, rfl, hl, at1 hn, ?_⟩
  refine ⟨_, rfl, _, rfl, _, _, rfl, a, r, _, rfl, rfl, S0, G, _, rfl, ifB (fun h1 => ?_) fun h1 => ?_⟩
  · have h1 : ¬ ns.getD 0 0 ≤ full r.m := by simpa using h1
    exact stay (Same.refl H) (c := [-22]) (by unfold dMay; rw [if_pos h1]) rfl (by show 1 ≤ sizeLine; decide) q
  · have h1 : ¬ ¬ ns.getD 0 0 ≤ full r.m := by simpa using h1
    refine ⟨_, rfl, _, rfl, a, r, rfl, S0, _, rfl, ifD (fun h2 => ?_) fun h2 => ?_⟩
    · exact stay (Same.refl H) (c := [-6]) (by unfold dMay; rw [if_neg h1, if_pos h2]) rfl (by show 1 ≤ sizeLine; decide) q
    · refine ⟨(by show 2 ≤ sizeLine; decide), fun t0 e0 => ⟨(by show 2 ≤ sizeLine; decide), fun t1 e1 => ⟨(by show 2 ≤ sizeLine; decide), fun t2 e2 => ⟨(by show 3 ≤ sizeLine; decide), fun tt e3 => ?_⟩⟩⟩⟩
      obtain ⟨HA, eA, sA, k0, k1, k2, k3⟩ := may_heap e0 e1 e2 e3
      rw [← eA]
      have kk : ∀ (i : Nat) (y : V), ([V.ref t0, V.ref t1, V.ref t2] : List V)[i]? = some y → ∃ c x, y = .ref c ∧ wants[i]? = some x ∧ ∀ H', Same HA H' → H' c = some (.tup [vn x.1, vn x.2]) := by
        intro i y hi
        match i, hi with
        | 0, hi => exact ⟨t0, (0, 1), (Option.some.inj hi).symm, rfl, fun H' s => s _ _ k0⟩
        | 1, hi => exact ⟨t1, (1, 2), (Option.some.inj hi).symm, rfl, fun H' s => s _ _ k1⟩
        | 2, hi => exact ⟨t2, (2, 4), (Option.some.inj hi).symm, rfl, fun H' s => s _ _ k2⟩
        | i + 3, hi => simp at hi
      have ktt : ∀ H', Same HA H' → H' tt = some (.tup [.ref t0, .ref t1, .ref t2]) := fun H' s => s _ _ k3
      refine ⟨tt, rfl, ⟨_, SqT.of (ktt _ (Same.refl _))⟩, for_tup (K := K) (a := tt) (xs := [V.ref t0, V.ref t1, V.ref t2]) (fun i σ H' => (∃ u v, σ = [some (.ref a), some (.ref l), some (vn (ns.getD 0 0)), some (vn (mayG r (ns.getD 0 0) (wants.take i))), u, v]) ∧ Same HA H')
        ⟨⟨none, none, rfl⟩, Same.refl _⟩ (fun i σ H' _ ⟨_, e⟩ => SqT.of (ktt _ e)) ?_ ?_⟩
      · rintro i y σ H' hi ⟨⟨u, v, rfl⟩, s5⟩
        obtain ⟨c, x, rfl, hx, hc⟩ := kk i y hi
        refine ⟨c, _, rfl, SqT.of (hc _ s5), rfl, _, _, rfl, _, _, rfl, rfl, ?_⟩
        have eM : mayG r (ns.getD 0 0) (wants.take (i + 1)) = if (rowF r (ns.getD 0 0) x.1).isSome = true then mayG r (ns.getD 0 0) (wants.take i) + x.2 else mayG r (ns.getD 0 0) (wants.take i) := by
          unfold mayG
          rw [take_snoc hx, List.foldl_append]
          rfl
        refine ⟨_, rfl, _, rfl, _, rfl, _, _, _, rfl, a, r, _, _, rfl, rfl, rfl, S0.same (sA.trans s5), G, fun e0 H6 s6 => ⟨_, rfl, ?_⟩, fun lr e0 H6 fa hfa s6 hf => ⟨_, rfl, ?_⟩⟩
        · refine iteF ⟨⟨some (vn x.1), some (vn x.2), ?_⟩, s5.trans s6⟩
          rw [eM, if_neg (by rw [e0]; exact Bool.false_ne_true)]
          rfl
        · refine iteT ⟨_, rfl, _, rfl, _, _, rfl, rfl, ⟨some (vn x.1), some (vn x.2), ?_⟩, s5.trans s6⟩
          rw [eM, if_pos (by rw [e0]; rfl)]
          rfl
      · rintro σ H' ⟨⟨u, v, rfl⟩, s5⟩
        refine ⟨_, rfl, ?_⟩
        exact stay (sA.trans s5) (c := [(mayF r (ns.getD 0 0) : Int)]) (by unfold dMay; rw [if_neg h1, if_neg h2]) rfl (by show 1 ≤ sizeLine; decide) q
theorem ok_false (T : Txt K mg CS CH) : Ok P w K mg base 6 "false" ["state", "numbers"] (sp2 (pAsk K CS dFalse fun _ => True)) := by
  refine ok2 T.f_false sc_false (fun _ _ _ _ _ _ _ _ => rfl) fun f cdv A outer s H a b Q E hr h => ?_
  obtain ⟨a, l, r, ns, rfl, rfl, S0, G, hl, hn, q⟩ := h
  refine ⟨_, (pss_cons (ps_if (pt_val (pcall (ok_none_laid T) hr (pa_cons (pv 0) pa_nil)))
      (pss_one (ps_ret (pe_lst (pa_cons (pgi T.g_NOTHING) pa_nil))))
      pss_nil)
      (pss_cons (ps_setLc (i := 3) rfl sc_false.nd rfl rfl (sw_true rfl rfl rfl rfl) (pi_list (pcall (ok_all_propositions T) hr (pa_cons (pv 0) pa_nil))) (blkOk_by (own := [("p", 2)]) (by show blkC ["state", "numbers", "p", "known_false"] (defScope st_false) _ _ = true; decide +kernel)) (fun _ _ _ _ _ => (pg_name (i := 2) sc_false.nd rfl (Or.inl rfl))) (fun _ _ _ _ _ => (pts_one (pt_val (pcall (ok_so_in_none T) hr (pa_cons (pe_fldK K rfl (pv 0) rfl) (pa_cons (pv 2) pa_nil)))))) (fun _ _ _ _ _ => (pv 2)))
      (pss_one (ps_ret (pe_lst (pa_cons (pe_callB call_len_seq rfl T.no_len PySem.boot_len (pa_cons (pe_lc rfl sc_false.nd (pi_list (pv 3)) (blkOk_by (own := [("p", 2)]) (by show blkC ["state", "numbers", "p", "known_false"] (defScope st_false) _ _ = true; decide +kernel)) (fun _ _ _ _ _ => (pg_name (i := 2) sc_false.nd rfl (Or.inl rfl))) (fun _ _ _ _ _ => (pts_one (pt_val (pcall (ok_can_be_conceded T) hr (pa_cons (pv 0) (pa_cons (pv 2) pa_nil)))))) (fun _ _ _ _ _ => (pv 2))) pa_nil)) pa_nil)))))), ?_⟩
  refine ⟨_, rfl, _, rfl, a, r, rfl, S0, _, rfl, ifD (fun h2 => ?_) fun h2 => ?_⟩
  · exact stay (Same.refl H) (c := [-6]) (by unfold dFalse; rw [if_pos h2]) rfl (by show 1 ≤ sizeLine; decide) q
  · refine ⟨_, rfl, _, rfl, a, r, rfl, S0, G, fun H1 pl s1 hpl => ?_⟩
    have S1 := S0.same s1
    have f256 := full_256 G
    refine ⟨pl, rfl, ⟨_, SqL.of hpl⟩, fun D hD => lc_map (K := K) (a := pl) (l := List.range (full r.m + 1)) (v := vn) (fun p => if decide (r.known &&& p = 0) = true then some (vn p) else none) (SqL.of hpl) hD (by rw [List.length_range]; exact Nat.le_trans f256 (by decide)) ?_ ?_⟩
    · intro i p H2 hp s2 acc hacc hz N k1 k2
      obtain ⟨dx, g, k, as, d, ds, S⟩ := S1.same s2
      refine ⟨rfl, _, rfl, a, CS, dx, _, _, rfl, S.ob, T.c_State.cl, T.c_State.no _ (by decide), rfl, _, rfl, _, _, rfl, _, _, rfl, rfl, _, rfl, ifB (fun h => ?_) fun h => ?_⟩
      · exact ⟨_, rfl, acc, hacc, hz, k2 _ _ (Same.refl _) (by rw [if_pos h])⟩
      · exact k1 _ (Same.refl _) (by rw [if_neg (by rw [h]; exact Bool.false_ne_true)])
    · intro H2 s2 e
      rw [fm_if] at e
      have s12 := s1.trans s2
      have S2 := S0.same s12
      have l1 : ((List.range (full r.m + 1)).filter fun p => decide (r.known &&& p = 0)).length ≤ 256 := by
        have := List.length_filter_le (fun p => decide (r.known &&& p = 0)) (List.range (full r.m + 1))
        rw [List.length_range] at this
        omega
      refine ⟨_, rfl, D, rfl, ⟨_, SqL.of e⟩, fun D2 hD2 => lc_map (K := K) (a := D) (l := (List.range (full r.m + 1)).filter fun p => decide (r.known &&& p = 0)) (v := vn) (fun p => if canB r p = true then some (vn p) else none) (SqL.of e) hD2 (Nat.le_trans l1 (by decide)) ?_ ?_⟩
      · intro i p H3 hp s3 acc hacc hz N k1 k2
        refine ⟨rfl, _, rfl, _, rfl, _, _, rfl, a, r, p, rfl, rfl, S2.same s3, G, fun H4 s4 => ⟨_, rfl, ifB (fun h => ?_) fun h => ?_⟩⟩
        · exact ⟨_, rfl, acc, s4 _ _ hacc, hz, k2 _ _ s4 (by rw [if_pos h])⟩
        · exact k1 _ s4 (by rw [if_neg (by rw [h]; exact Bool.false_ne_true)])
      · intro H3 s3 e3
        rw [fm_if] at e3
        refine ⟨D2, _, rfl, .inl (SqL.of e3), ?_⟩
        rw [List.length_map]
        exact stay (s12.trans s3) (c := [((falseL r).length : Int)]) (by unfold dFalse; rw [if_neg h2]) rfl (by show 1 ≤ sizeLine; decide) q
theorem ok_from_stock (T : Txt K mg CS CH) : Ok P w K mg base 8 "from_stock" ["state", "numbers"] (sp2 (pAsk K CS dFrom fun ns => ns.length = 2)) := by
  refine ok2 T.f_from_stock sc_from_stock (fun _ _ _ _ _ _ _ _ => rfl) fun f cdv A outer s H a b Q E hr h => ?_
  obtain ⟨a, l, r, ns, rfl, rfl, S0, G, hl, hn, q⟩ := h
  refine ⟨_, (pss_cons (ps_set (i := 2) sc_from_stock.nd rfl (Or.inl rfl) (pe_ix ix_list (pv 1) (pn 0) (fun _ _ => rfl)))
      (pss_cons (ps_set (i := 3) sc_from_stock.nd rfl (Or.inl rfl) (pe_ix ix_list (pv 1) (pn 1) (fun _ _ => rfl)))
      (pss_cons (ps_if (PW.pt (pw_or (pt_cmpR on_gt (pv 2) (pgn T.g_DOUBTED) (nomark _)) (pw_or1 (pt_not (pt_val (pcall (ok_takes T) hr (pa_cons (pv 0) (pa_cons (pv 3) pa_nil))))))))
      (pss_one (ps_ret (pe_lst (pa_cons (pgi T.g_WRONG) pa_nil))))
      pss_nil)
      (pss_cons (ps_if (pt_val (pcall (ok_none_laid T) hr (pa_cons (pv 0) pa_nil)))
      (pss_one (ps_ret (pe_lst (pa_cons (pgi T.g_NOTHING) pa_nil))))
      pss_nil)
      (pss_cons (ps_set (i := 4) sc_from_stock.nd rfl (Or.inl rfl) (pcall (ok_first_stock_row T) hr (pa_cons (pv 0) (pa_cons (pv 3) (pa_cons (pv 2) pa_nil)))))
      (pss_cons (ps_if (pt_cmp (pc_isN (pv 4)))
      (pss_one (ps_ret (pe_lst (pa_cons (pgi T.g_CANNOT) pa_nil))))
      pss_nil)
      (pss_one (ps_ret (pe_op op_cat (pe_lst (pa_cons (pe_callB call_len_seq rfl T.no_len PySem.boot_len (pa_cons (pv 4) pa_nil)) pa_nil)) (pv 4)))))))))), ?_⟩
  refine ⟨_, rfl, l, _, _, _, rfl, rfl, hl, (at2 hn).1, _, rfl, l, _, _, _, rfl, rfl, hl, (at2 hn).2, ?_⟩
  refine ⟨_, rfl, _, _, rfl, rfl, _, rfl, ifD (fun h0 => ?_) fun h0 => ?_⟩
  · exact iteT (stay (Same.refl H) (c := [-22]) (by unfold dFrom; rw [if_pos (.inl h0)]) rfl (by show 1 ≤ sizeLine; decide) q)
  · refine ⟨_, rfl, _, rfl, _, _, rfl, a, r, _, rfl, rfl, S0, G, _, rfl, ifB (fun h1 => ?_) fun h1 => ?_⟩
    · have h1 : ¬ ns.getD 1 0 ≤ full r.m := by simpa using h1
      exact stay (Same.refl H) (c := [-22]) (by unfold dFrom; rw [if_pos (.inr h1)]) rfl (by show 1 ≤ sizeLine; decide) q
    · have h1p : ns.getD 1 0 ≤ full r.m := by simpa using h1
      have h1 : ¬ (2 < ns.getD 0 0 ∨ ¬ ns.getD 1 0 ≤ full r.m) := by rintro (z | z); exact h0 z; exact z h1p
      refine ⟨_, rfl, _, rfl, a, r, rfl, S0, _, rfl, ifD (fun h2 => ?_) fun h2 => ?_⟩
      · exact stay (Same.refl H) (c := [-6]) (by unfold dFrom; rw [if_neg h1, if_pos h2]) rfl (by show 1 ≤ sizeLine; decide) q
      · refine ⟨_, rfl, _, rfl, _, rfl, _, _, _, rfl, a, r, _, _, rfl, rfl, rfl, S0, G, fun e0 H1 s1 => ?_, fun D hD hz0 H1 fa s1 hf => ?_⟩
        · refine ⟨_, rfl, _, rfl, ?_⟩
          exact iteT (stay s1 (c := [-33]) (by unfold dFrom; rw [if_neg h1, if_neg h2, fromF_none e0]; rfl) rfl (by show 1 ≤ sizeLine; decide) q)
        · refine ⟨_, rfl, _, rfl, iteF ?_⟩
          refine ⟨_, rfl, fa, _, rfl, .inl (SqL.of hf), ?_⟩
          have hz : (wy r.stock.length (nxS r) (hitF r (ns.getD 1 0) (ns.getD 0 0)) D (now r)).length ≤ 65536 := by omega
          obtain ⟨z1, z2⟩ := back_list (o := none) (Q := Q) s1 hf hz (dr := dFrom r ns) (by unfold dFrom; rw [if_neg h1, if_neg h2, fromF_some hD]; rfl) q
          exact ⟨z1, fun p1 hp1 => ⟨_, rfl, z2 p1 hp1⟩⟩
end
end DY
namespace DY
open PySem PySem.Spec PyProof.Rows L2 DX DM
open Krb7 (full)
def MeK (K : PySem.W.Frag) (C : Addr) (m qual : Str) (st : Stmt) : Prop := ∃ f fd, Fun K m qual st f fd ∧ PySem.W.findIn K (.ref C) m = some (some (.ref f)) ∧ PySem.W.isFn K (.ref f) = true
section
variable {P : Program} {w : World} {K : PySem.W.Frag} {mg : Str → Option Value} {base : Heap} {C : Addr} {m qual : Str} {st : Stmt} {N : List Str} {k : Nat}
theorem okm_of {ps : List Str} {sp : Sp} (c : Cls K C) (h : MeK K C m qual st) (S : FnScope N ps (defScope st)) (len : ∀ vs H Q E, sp vs H Q E → vs.length = ps.length)
    (hb : ∀ (kV doc pm : Value) (an : Option Addr) (cdv ct : Value) (us : List Value), us.length = ps.length → bindArgs (PySem.W.fnOf m qual (defArgs st) (defBody st) (defScope st) .none kV doc pm an cdv ct) ⟨us, []⟩ = pure (ps.zip us))
    (hbody : ∀ (f : Addr) (cdv : Value) (A : Around) (outer : List Env) (s : Shared) (H : Hp) (vs : List V) (Q : VK) (E : XK), Room k (A.deeper (envOfC qual (defScope st) s.heap.objs.size f cdv)) → sp vs H Q E →
      ∃ t, PSs (cxOf CX0 P w K mg base N qual (defScope st) f cdv A outer s H E).nox (defBody st) t ∧ t { nx := fun _ H' => Q .non H', rt := Q } (start N vs) H) : OkM P w K mg base C (k + 1) m ps sp := by
  obtain ⟨f, fd, F, h1, h2⟩ := h
  exact ⟨c, f, fd, F.ok S len (hbody f), ⟨h1, h2, F.kp⟩, F.binds hb⟩
theorem okm1 {p1 : Str} {p : V → Hp → VK → Prop} (c : Cls K C) (h : MeK K C m qual st) (S : FnScope N [p1] (defScope st))
    (hb : ∀ (kV doc pm : Value) (an : Option Addr) (cdv ct u1 : Value), bindArgs (PySem.W.fnOf m qual (defArgs st) (defBody st) (defScope st) .none kV doc pm an cdv ct) ⟨[u1], []⟩ = pure ([p1].zip [u1]))
    (hbody : ∀ (f : Addr) (cdv : Value) (A : Around) (outer : List Env) (s : Shared) (H : Hp) (a : V) (Q : VK) (E : XK), Room k (A.deeper (envOfC qual (defScope st) s.heap.objs.size f cdv)) → p a H Q →
      ∃ t, PSs (cxOf CX0 P w K mg base N qual (defScope st) f cdv A outer s H E).nox (defBody st) t ∧ t { nx := fun _ H' => Q .non H', rt := Q } (start N [a]) H) : OkM P w K mg base C (k + 1) m [p1] (sp1 p) := by
  refine okm_of c h S ?_ ?_ ?_
  · rintro vs H Q E ⟨a, rfl, _⟩
    rfl
  · intro kV doc pm an cdv ct us hl
    match us, hl with
    | [u1], _ => exact hb kV doc pm an cdv ct u1
  · rintro f cdv A outer s H vs Q E hr ⟨a, rfl, q⟩
    exact hbody f cdv A outer s H a Q E hr q
theorem okm3 {p1 p2 p3 : Str} {p : V → V → V → Hp → VK → Prop} (c : Cls K C) (h : MeK K C m qual st) (S : FnScope N [p1, p2, p3] (defScope st))
    (hb : ∀ (kV doc pm : Value) (an : Option Addr) (cdv ct u1 u2 u3 : Value), bindArgs (PySem.W.fnOf m qual (defArgs st) (defBody st) (defScope st) .none kV doc pm an cdv ct) ⟨[u1, u2, u3], []⟩ = pure ([p1, p2, p3].zip [u1, u2, u3]))
    (hbody : ∀ (f : Addr) (cdv : Value) (A : Around) (outer : List Env) (s : Shared) (H : Hp) (a b c : V) (Q : VK) (E : XK), Room k (A.deeper (envOfC qual (defScope st) s.heap.objs.size f cdv)) → p a b c H Q →
      ∃ t, PSs (cxOf CX0 P w K mg base N qual (defScope st) f cdv A outer s H E).nox (defBody st) t ∧ t { nx := fun _ H' => Q .non H', rt := Q } (start N [a, b, c]) H) : OkM P w K mg base C (k + 1) m [p1, p2, p3] (sp3 p) := by
  refine okm_of c h S ?_ ?_ ?_
  · rintro vs H Q E ⟨a, b, c, rfl, _⟩
    rfl
  · intro kV doc pm an cdv ct us hl
    match us, hl with
    | [u1, u2, u3], _ => exact hb kV doc pm an cdv ct u1 u2 u3
  · rintro f cdv A outer s H vs Q E hr ⟨a, b, c, rfl, q⟩
    exact hbody f cdv A outer s H a b c Q E hr q
theorem oki_of {x : Str} {ps : List Str} {sp : Sp} {vals : List Str} {ms : List (Str × Str × Stmt)} (c : ClsOk K mg x C vals ms) (h : OkM P w K mg base C k "__init__" ps sp) : OkI P w K mg base x C k ps sp := by
  obtain ⟨_, f, fd, F, M, B⟩ := h
  exact ⟨c.mg, f, fd, F, ⟨c.makes, M.at_, M.fn, c.kp⟩, B⟩
end
def newRec (m k : Nat) : Rec := ⟨m, k, 0, 0, [], [], []⟩
def pInit (CS : Addr) : V → V → V → Hp → VK → Prop := fun a b c H Q => ∃ (p dx : Addr) (m k : Nat), a = .ref p ∧ b = vn m ∧ c = vn k ∧ H p = some (.ins CS dx []) ∧
  ∀ (H' : Hp) (g q d : Addr), SAt CS H' p (newRec m k) dx g q [] d [] → Own3 H g q d → (∀ b o, H b = some o → b ≠ p → H' b = some o) → Q .non H'
theorem Own3.low {H H' : Hp} {g k d : Addr} (o : Own3 H' g k d) (h : ∀ b, H' b = none → H b = none) : Own3 H g k d := ⟨o.gk, o.gd, o.kd, h _ o.g0, h _ o.k0, h _ o.d0⟩
theorem low_made {H : Hp} {x dx C : Addr} (hx : H x = none) (hdx : H dx = none) : ∀ b, (upd (upd H dx (.own x)) x (.ins C dx [])) b = none → H b = none := fun b hb => by
  by_cases z : b = x
  · subst z; exact hx
  · rw [upd_ne z] at hb
    by_cases z2 : b = dx
    · subst z2; exact hdx
    · rw [upd_ne z2] at hb; exact hb
section
variable {P : Program} {w : World} {K : PySem.W.Frag} {mg : Str → Option Value} {base : Heap} {CS CH : Addr}
theorem om_State_init (T : Txt K mg CS CH) : OkM P w K mg base CS 1 "__init__" ["self", "letters", "known"] (sp3 (pInit CS)) := by
  refine okm3 T.c_State.cl (T.c_State.me ("__init__", "State.__init__", st_State_init) (by simp)) sc_State_init (fun _ _ _ _ _ _ _ _ _ => rfl) fun f cdv A outer s H a b c Q E hr h => ?_
  obtain ⟨p, dx, m, k, rfl, rfl, rfl, hp, q⟩ := h
  refine ⟨_, (pss_cons (ps_fld (pv 0) (pv 1) rfl)
      (pss_cons (ps_fld (pv 0) (pv 2) rfl)
      (pss_cons (ps_fld (pv 0) (pn 0) rfl)
      (pss_cons (ps_fld (pv 0) (pn 0) rfl)
      (pss_cons (ps_fld (pv 0) (pe_lst pa_nil) rfl)
      (pss_cons (ps_fld (pv 0) (pe_lst pa_nil) rfl)
      (pss_one (ps_fld (pv 0) (pe_lst pa_nil) rfl)))))))), ?_⟩
  have no := fun f hf => T.c_State.no f hf
  refine ⟨_, rfl, _, rfl, p, CS, dx, _, rfl, hp, T.c_State.cl, no _ (by decide), (by show 0 < 1000; decide), ?_⟩
  refine ⟨_, rfl, _, rfl, p, CS, dx, _, rfl, upd_same, T.c_State.cl, no _ (by decide), (by show 1 < 1000; decide), ?_⟩
  refine ⟨_, rfl, p, CS, dx, _, rfl, upd_same, T.c_State.cl, no _ (by decide), (by show 2 < 1000; decide), ?_⟩
  refine ⟨_, rfl, p, CS, dx, _, rfl, upd_same, T.c_State.cl, no _ (by decide), (by show 3 < 1000; decide), ?_⟩
  rw [upd_upd, upd_upd, upd_upd]
  refine ⟨(by show 0 ≤ sizeLine; decide), fun g hg => ?_⟩
  have npg : p ≠ g := ne_of_none upd_same hg
  have hg0 : H g = none := by rw [upd_ne npg.symm] at hg; exact hg
  refine ⟨_, rfl, p, CS, dx, _, rfl, (by rw [upd_ne npg]; exact upd_same), T.c_State.cl, no _ (by decide), (by show 4 < 1000; decide), ?_⟩
  refine ⟨(by show 0 ≤ sizeLine; decide), fun q2 hq => ?_⟩
  have npq : p ≠ q2 := ne_of_none upd_same hq
  have hq1 := hq
  rw [upd_ne npq.symm] at hq1
  have ngq : g ≠ q2 := ne_of_none upd_same hq1
  have hq0 : H q2 = none := by rw [upd_ne ngq.symm, upd_ne npq.symm] at hq1; exact hq1
  refine ⟨_, rfl, p, CS, dx, _, rfl, (by rw [upd_ne npq]; exact upd_same), T.c_State.cl, no _ (by decide), (by show 5 < 1000; decide), ?_⟩
  refine ⟨(by show 0 ≤ sizeLine; decide), fun d hd => ?_⟩
  have npd : p ≠ d := ne_of_none upd_same hd
  have hd1 := hd
  rw [upd_ne npd.symm] at hd1
  have nqd : q2 ≠ d := ne_of_none upd_same hd1
  have hd2 := hd1
  rw [upd_ne nqd.symm, upd_ne npd.symm] at hd2
  have ngd : g ≠ d := ne_of_none upd_same hd2
  have hd0 : H d = none := by rw [upd_ne ngd.symm, upd_ne npd.symm] at hd2; exact hd2
  refine ⟨_, rfl, p, CS, dx, _, rfl, (by rw [upd_ne npd]; exact upd_same), T.c_State.cl, no _ (by decide), (by show 6 < 1000; decide), ?_⟩
  refine q _ g q2 d ⟨?_, ?_, trivial, ?_, ?_, trivial⟩ ⟨ngq, ngd, nqd, hg0, hq0, hd0⟩ (fun b o e n => ?_)
  · rw [upd_same]; rfl
  · rw [upd_ne npg.symm, upd_ne ngd, upd_ne npg.symm, upd_ne ngq, upd_ne npg.symm, upd_same]; rfl
  · rw [upd_ne npq.symm, upd_ne nqd, upd_ne npq.symm, upd_same]; rfl
  · rw [upd_ne npd.symm, upd_same]; rfl
  · rw [upd_ne n, upd_ne (ne_of_none e hd0), upd_ne n, upd_ne (ne_of_none e hq0), upd_ne n, upd_ne (ne_of_none e hg0), upd_ne n]
    exact e
theorem oi_State (T : Txt K mg CS CH) : OkI P w K mg base "State" CS 1 ["self", "letters", "known"] (sp3 (pInit CS)) := oki_of T.c_State (om_State_init T)
def pTwin (CS : Addr) : V → Hp → VK → Prop := fun a H Q => ∃ (s : Addr) (r : Rec), a = .ref s ∧ StAt CS H s r ∧ ∀ (H' : Hp) (p : Addr), OwnAt CS H H' p r → Q (.ref p) H'
theorem om_twin (T : Txt K mg CS CH) : OkM P w K mg base CS 3 "twin" ["self"] (sp1 (pTwin CS)) := by
  refine okm1 T.c_State.cl (T.c_State.me ("twin", "State.twin", st_State_twin) (by simp)) sc_State_twin (fun _ _ _ _ _ _ _ => rfl) fun f cdv A outer s H a Q E hr h => ?_
  obtain ⟨a, r, rfl, ⟨dx, g, k, as, d, ds, S⟩, q⟩ := h
  have no := fun f hf => T.c_State.no f hf
  refine ⟨_, (pss_cons (ps_set (i := 1) sc_State_twin.nd rfl (Or.inl rfl) (pmake (oi_State T) hr (pa_cons (pe_fld (pv 0) rfl) (pa_cons (pe_fld (pv 0) rfl) pa_nil))))
      (pss_cons (ps_fld (pv 1) (pe_fld (pv 0) rfl) rfl)
      (pss_cons (ps_fld (pv 1) (pe_fld (pv 0) rfl) rfl)
      (pss_cons (ps_fld (pv 1) (pe_callTy call_list_of rfl T.no_list (by decide +kernel) (pa_cons (pe_fld (pv 0) rfl) pa_nil)) rfl)
      (pss_cons (ps_fld (pv 1) (pe_callTy call_list_of rfl T.no_list (by decide +kernel) (pa_cons (pe_fld (pv 0) rfl) pa_nil)) rfl)
      (pss_cons (ps_fld (pv 1) (pe_callTy call_list_of rfl T.no_list (by decide +kernel) (pa_cons (pe_fld (pv 0) rfl) pa_nil)) rfl)
      (pss_one (ps_ret (pv 1))))))))), ?_⟩
  refine ⟨_, rfl, a, CS, dx, _, _, rfl, S.ob, T.c_State.cl, no _ (by decide), rfl, _, rfl, a, CS, dx, _, _, rfl, S.ob, T.c_State.cl, no _ (by decide), rfl, fun x dx2 hx hdx ne => ?_⟩
  refine ⟨_, _, _, rfl, x, dx2, r.m, r.known, rfl, rfl, rfl, upd_same, fun H1 g1 q1 d1 S1 o1 k1 => ⟨rfl, ?_⟩⟩
  have s1 : Same H H1 := Same.made hx hdx k1
  have o1 : Own3 H g1 q1 d1 := o1.low (low_made hx hdx)
  have O1 : OwnAt CS H H1 x (newRec r.m r.known) := ⟨s1, hx, dx2, g1, q1, [], d1, [], S1, o1⟩
  have Sa := S.same s1
  refine ⟨_, rfl, a, CS, dx, _, _, rfl, Sa.ob, T.c_State.cl, no _ (by decide), rfl, _, rfl, x, CS, dx2, _, rfl, S1.ob, T.c_State.cl, no _ (by decide), (by show 7 < 1000; decide), ?_⟩
  have ⟨O2, S2⟩ := O1.put0 (r' := { newRec r.m r.known with rule := r.rule }) (fs := putF "rule" (vn r.rule) (sf (newRec r.m r.known) g1 q1 d1)) S1 o1 rfl rfl rfl rfl
  have Sb := S.same O2.1
  refine ⟨_, rfl, a, CS, dx, _, _, rfl, Sb.ob, T.c_State.cl, no _ (by decide), rfl, _, rfl, x, CS, dx2, _, rfl, S2.ob, T.c_State.cl, no _ (by decide), (by show 7 < 1000; decide), ?_⟩
  have ⟨O3, S3⟩ := O2.put0 (r' := { newRec r.m r.known with rule := r.rule, laid := r.laid }) (fs := putF "laid" (vn r.laid) (sf { newRec r.m r.known with rule := r.rule } g1 q1 d1)) S2 o1 rfl rfl rfl rfl
  have Sc := S.same O3.1
  refine ⟨_, rfl, a, CS, dx, _, _, rfl, Sc.ob, T.c_State.cl, no _ (by decide), rfl, g, _, rfl, .inl (SqL.of Sc.gi), fun g2 hg2 => ?_⟩
  have sm := same_new (o := .lst (as.map V.ref)) (Same.refl _) hg2
  have S4 := S3.same sm
  have Sd := Sc.same sm
  have o2 := o1.newG O3.1 hg2 S3.st S3.en
  refine ⟨_, rfl, x, CS, dx2, _, rfl, S4.ob, T.c_State.cl, no _ (by decide), (by show 7 < 1000; decide), ?_⟩
  have ⟨O5, S5⟩ := (O3.same sm).putG (r' := { newRec r.m r.known with rule := r.rule, laid := r.laid, given := r.given }) (as' := as) (fs := putF "given" (.ref g2) (sf { newRec r.m r.known with rule := r.rule, laid := r.laid } g1 q1 d1)) S4 o2 rfl upd_same Sd.tu rfl rfl
  have Se := S.same O5.1
  refine ⟨_, rfl, a, CS, dx, _, _, rfl, Se.ob, T.c_State.cl, no _ (by decide), rfl, k, _, rfl, .inl (SqL.of Se.st), fun k2 hk2 => ?_⟩
  have sm2 := same_new (o := .lst (r.stock.map vn)) (Same.refl _) hk2
  have S6 := S5.same sm2
  have o3 : Own3 H g2 k2 d1 := ⟨ne_of_none S5.gi hk2, o2.gd, (ne_of_none S5.en hk2).symm, o2.g0, O5.free hk2, o2.d0⟩
  refine ⟨_, rfl, x, CS, dx2, _, rfl, S6.ob, T.c_State.cl, no _ (by decide), (by show 7 < 1000; decide), ?_⟩
  have ⟨O7, S7⟩ := (O5.same sm2).put (r' := { newRec r.m r.known with rule := r.rule, laid := r.laid, given := r.given, stock := r.stock }) (fs := putF "stock" (.ref k2) (sf { newRec r.m r.known with rule := r.rule, laid := r.laid, given := r.given } g2 q1 d1)) S6 g2 k2 d1 as [] rfl o3 S6.gi S6.tu upd_same S6.en S6.te
  have Sf := S.same O7.1
  refine ⟨_, rfl, a, CS, dx, _, _, rfl, Sf.ob, T.c_State.cl, no _ (by decide), rfl, d, _, rfl, .inl (SqL.of Sf.en), fun d2 hd2 => ?_⟩
  have sm3 := same_new (o := .lst (ds.map V.ref)) (Same.refl _) hd2
  have S8 := S7.same sm3
  have Sg := Sf.same sm3
  have o4 : Own3 H g2 k2 d2 := ⟨o3.gk, ne_of_none S7.gi hd2, ne_of_none S7.st hd2, o3.g0, o3.k0, O7.free hd2⟩
  refine ⟨_, rfl, x, CS, dx2, _, rfl, S8.ob, T.c_State.cl, no _ (by decide), (by show 7 < 1000; decide), ?_⟩
  have ⟨O9, S9⟩ := (O7.same sm3).put (r' := r) (fs := putF "ended" (.ref d2) (sf { newRec r.m r.known with rule := r.rule, laid := r.laid, given := r.given, stock := r.stock } g2 k2 d1)) S8 g2 k2 d2 as ds rfl o4 S8.gi S8.tu S8.st upd_same Sg.te
  exact ⟨_, rfl, q _ x O9⟩
end
end DY
namespace DY
open PySem PySem.Spec PyProof.Rows L2 DX DM
open Krb7 (full)
theorem bads_nil {r : Rec} : bads r = [] ↔ ∀ i, i < r.given.length → badB r i = false := by
  unfold bads
  rw [List.filter_eq_nil_iff]
  constructor
  · intro h i hi
    have := h i (List.mem_range.mpr hi)
    simpa using this
  · intro h i hi
    rw [h i (List.mem_range.mp hi)]
    exact Bool.false_ne_true
def allB (r : Rec) : Bool := decide (bads r = [])
theorem stb_mono (r : Rec) {i j : Nat} (h : i ≤ j) : stb r j ≤ stb r i := by
  unfold stb
  have e : r.given.take j = r.given.take i ++ (r.given.drop i).take (j - i) := by
    have := List.take_add (l := r.given) (i := i) (j := j - i)
    rw [show i + (j - i) = j by omega] at this
    exact this
  rw [e]
  show Krb7.stands r.m r.laid (r.given.take i ++ _) ≤ _
  have e2 : ∀ l1 l2, Krb7.stands r.m r.laid (l1 ++ l2) = Krb7.stands r.m (Krb7.stands r.m r.laid l1) l2 := fun l1 l2 => by unfold Krb7.stands; rw [List.foldl_append]
  rw [e2]
  exact stands_le _ _ _
def aL (r : Rec) (p : Nat) : Nat := Krb7.right r.known r.laid p
def clB (r : Rec) (p q : Nat) : Bool := decide (aL r p = 1) && (decide (aL r q = 1) && decide (aL r (p &&& q) = 0))
def cc (r : Rec) : List Nat := (List.range (full r.m + 1)).filter fun p => decide (aL r p = 1)
def cpl (r : Rec) (p : Nat) (l : List Nat) : Nat := (l.filter fun q => decide (aL r (p &&& q) = 0)).length
def cnt (r : Rec) : Nat → Nat
  | 0 => 0
  | i + 1 => cnt r i + cpl r ((cc r).getD i 0) ((cc r).drop (i + 1))
section
variable {P : Program} {w : World} {K : PySem.W.Frag} {mg : Str → Option Value} {base : Heap} {CS CH : Addr}
def pAllRight (CS : Addr) : V → Hp → VK → Prop := fun a H Q => ∃ (s : Addr) (r : Rec), a = .ref s ∧ StAt CS H s r ∧ Good r ∧ Q (.bl (allB r)) H
theorem ok_all_is_right (T : Txt K mg CS CH) : Ok P w K mg base 5 "all_is_right" ["state"] (sp1 (pAllRight CS)) := by
  refine ok1 T.f_all_is_right sc_all_is_right (fun _ _ _ _ _ _ _ => rfl) fun f cdv A outer s H a Q E hr h => ?_
  obtain ⟨a, r, rfl, S0, G, q⟩ := h
  have S1 := S0
  obtain ⟨dx, g, k, as, d, ds, S⟩ := S1
  have al := S.tu.len
  refine ⟨_, (pss_cons (ps_set (i := 1) sc_all_is_right.nd rfl (Or.inl rfl) (pe_fld (pv 0) rfl))
      (pss_cons (ps_for PassesOwn.never rfl (pi_list (pe_fld (pv 0) rfl)) (pg_tup rfl (pgs_cons (pg_name (i := 2) sc_all_is_right.nd rfl (Or.inl rfl)) (pgs_cons (pg_name (i := 3) sc_all_is_right.nd rfl (Or.inl rfl)) pgs_nil)))
      (pss_cons (ps_if (pt_cmpR on_ne (pv 3) (pcall (ok_right_while T) hr (pa_cons (pv 0) (pa_cons (pv 1) (pa_cons (pv 2) pa_nil)))) (nomark _))
      (pss_one (ps_ret pe_bl))
      pss_nil)
      (pss_one (ps_set (i := 1) sc_all_is_right.nd rfl (Or.inl rfl) (pcall (ok_narrowed T) hr (pa_cons (pv 1) (pa_cons (pv 2) (pa_cons (pv 3) pa_nil))))))))
      (pss_one (ps_ret pe_bl)))), ?_⟩
  refine ⟨_, rfl, a, CS, dx, _, _, rfl, S.ob, T.c_State.cl, T.c_State.no _ (by decide), rfl, ?_⟩
  refine ⟨_, rfl, a, CS, dx, _, _, rfl, S.ob, T.c_State.cl, T.c_State.no _ (by decide), rfl, g, rfl, ⟨_, SqL.of S.gi⟩, for_list (K := K) (a := g) (xs := as.map V.ref) (fun i σ H' => H' = H ∧ (∃ v w, σ = [some (.ref a), some (vn (stb r i)), v, w]) ∧ ∀ j, j < i → badB r j = false)
    ⟨rfl, ⟨none, none, rfl⟩, fun j hj => absurd hj (Nat.not_lt_zero j)⟩ (fun i σ H' _ ⟨e, _⟩ => by subst e; exact SqL.of S.gi) ?_ ?_⟩
  · rintro i y σ H' hi ⟨rfl, ⟨v, w, rfl⟩, hno⟩
    obtain ⟨c, hc, rfl⟩ := map_at hi
    obtain ⟨x, hx, hH⟩ := S.tu.at_ hc
    have lt : i < r.given.length := (List.getElem?_eq_some_iff.mp hx).1
    have eg : gv r i = x := by
      unfold gv
      rw [List.getD_eq_getElem?_getD, hx]
      rfl
    have eb : badB r i = !decide (x.2 = rw_ r (stb r i) x.1) := by unfold badB; rw [eg]
    refine ⟨c, _, rfl, SqT.of hH, rfl, _, _, rfl, _, _, rfl, rfl, ?_⟩
    refine ⟨_, rfl, _, rfl, _, rfl, _, rfl, _, _, _, rfl, a, r, _, _, rfl, rfl, rfl, S0, _, _, rfl, rfl, _, rfl, ifB (fun hb => ?_) fun hb => ?_⟩
    · have e : allB r = false := decide_eq_false fun z => by
        have := bads_nil.mp z i lt
        rw [eb, hb] at this
        cases this
      rw [e] at q
      exact q
    · refine ⟨_, rfl, _, rfl, _, rfl, _, _, _, rfl, _, _, _, rfl, rfl, rfl, rfl, ⟨some (vn x.1), some (vn x.2), ?_⟩, fun j hj => ?_⟩
      · rw [stb_succ G hx]
        rfl
      · by_cases z : j = i
        · subst z; rw [eb]; exact hb
        · exact hno j (by omega)
  · rintro σ H' ⟨rfl, ⟨v, w, rfl⟩, hno⟩
    rw [List.length_map, al] at hno
    have e : allB r = true := decide_eq_true (bads_nil.mpr hno)
    rw [e] at q
    exact q
def pCaughtAt (CS : Addr) : V → Hp → VK → Prop := fun a H Q => ∃ (s : Addr) (r : Rec), a = .ref s ∧ StAt CS H s r ∧ Good r ∧ now r = 0 ∧ ∀ n H', n ≤ r.given.length → stb r n = 0 → (∀ j, j < n → ¬ stb r j = 0) → Same H H' → Q (vn n) H'
theorem ok_caught_behind (T : Txt K mg CS CH) : Ok P w K mg base 3 "caught_behind" ["state"] (sp1 (pCaughtAt CS)) := by
  refine ok1 T.f_caught_behind sc_caught_behind (fun _ _ _ _ _ _ _ => rfl) fun f cdv A outer s H a Q E hr h => ?_
  obtain ⟨a, r, rfl, S0, G, h0, q⟩ := h
  refine ⟨_, (pss_cons (ps_set (i := 1) sc_caught_behind.nd rfl (Or.inl rfl) (pn 0))
      (pss_cons (ps_while PassesOwn.never (pt_cmpR on_gt (pcall (ok_stands_behind T) hr (pa_cons (pv 0) (pa_cons (pv 1) pa_nil))) (pn 0) (nomark _))
      (pss_one (ps_set (i := 1) sc_caught_behind.nd rfl (Or.inl rfl) (pe_op on_add (pv 1) (pn 1)))))
      (pss_one (ps_ret (pv 1))))), ?_⟩
  refine while_by (fun σ H' => ∃ n : Nat, σ = [some (.ref a), some (vn n)] ∧ n ≤ r.given.length ∧ (∀ j, j < n → ¬ stb r j = 0) ∧ Same H H') (fun σ _ => r.given.length - msr σ 1)
    ⟨0, rfl, Nat.zero_le _, fun j hj => absurd hj (Nat.not_lt_zero j), Same.refl _⟩ ?_ ?_
  · rintro σ H' ⟨n, rfl, hn, hno, s1⟩
    refine ⟨_, rfl, _, rfl, _, _, rfl, a, r, n, rfl, rfl, S0.same s1, G, hn, fun H2 s2 => ⟨_, _, rfl, rfl, _, rfl, ifD (fun h => ?_) fun h => ?_⟩⟩
    · have ne : n ≠ r.given.length := fun z => by
        subst z
        rw [stb_all, h0] at h
        omega
      refine ⟨_, rfl, _, _, rfl, rfl, ⟨n + 1, rfl, by omega, fun j hj => ?_, s1.trans s2⟩, ?_⟩
      · by_cases z : j = n
        · subst z; omega
        · exact hno j (by omega)
      · show r.given.length - ((n + 1 : Nat) : Int).toNat < r.given.length - ((n : Nat) : Int).toNat
        simp only [Int.toNat_natCast]
        omega
    · exact ⟨_, rfl, q n _ hn (by omega) hno (s1.trans s2)⟩
  · rintro σ H' Q1 Q2 hq ⟨v1, e1, v2, e2, a0, b0, e3, a1, r1, n1, e4, e5, S1, G1, hn, k⟩
    refine ⟨v1, e1, v2, e2, a0, b0, e3, a1, r1, n1, e4, e5, S1, G1, hn, fun H2 s2 => ?_⟩
    obtain ⟨x1, x2, z1, z2, bb, z3, z4⟩ := k H2 s2
    exact ⟨x1, x2, z1, z2, bb, z3, hq _ _ z4⟩
def pMended (CS : Addr) : V → Hp → VK → Prop := fun a H Q => ∃ (s : Addr) (r : Rec), a = .ref s ∧ StAt CS H s r ∧ Good r ∧ ∀ H' l, Same H H' → H' l = some (.lst ((rowA r r.laid (r.given.map (·.1))).map vn)) → Q (.ref l) H'
theorem ok_mended_answers (T : Txt K mg CS CH) : Ok P w K mg base 6 "mended_answers" ["state"] (sp1 (pMended CS)) := by
  refine ok1 T.f_mended_answers sc_mended_answers (fun _ _ _ _ _ _ _ => rfl) fun f cdv A outer s H a Q E hr h => ?_
  obtain ⟨a, r, rfl, S0, G, q⟩ := h
  have S1 := S0
  obtain ⟨dx, g, k, as, d, ds, S⟩ := S1
  have al := S.tu.len
  have gl := G.gl
  refine ⟨_, (pss_cons (ps_set (i := 1) sc_mended_answers.nd rfl (Or.inl rfl) (pe_lst pa_nil))
      (pss_cons (ps_set (i := 2) sc_mended_answers.nd rfl (Or.inl rfl) (pe_fld (pv 0) rfl))
      (pss_cons (ps_for PassesOwn.never rfl (pi_list (pe_fld (pv 0) rfl)) (pg_tup rfl (pgs_cons (pg_name (i := 3) sc_mended_answers.nd rfl (Or.inl rfl)) (pgs_cons (pg_name (i := 4) sc_mended_answers.nd rfl (Or.inl rfl)) pgs_nil)))
      (pss_cons (ps_expr (pe_bm PySem.F.plainAttrs_list PySem.F.slot_list_append PySem.F.type_list_append mt_append (pv 1) (pa_cons (pcall (ok_right_while T) hr (pa_cons (pv 0) (pa_cons (pv 2) (pa_cons (pv 3) pa_nil)))) pa_nil)))
      (pss_one (ps_set (i := 2) sc_mended_answers.nd rfl (Or.inl rfl) (pcall (ok_stands_after_right T) hr (pa_cons (pv 0) (pa_cons (pv 2) (pa_cons (pv 3) pa_nil))))))))
      (pss_one (ps_ret (pv 1)))))), ?_⟩
  refine ⟨(by show 0 ≤ sizeLine; decide), fun ma hma => ?_⟩
  have s1 : Same H (upd H ma (.lst [])) := same_new (Same.refl H) hma
  have S1 := S.same s1
  refine ⟨_, rfl, a, CS, dx, _, _, rfl, S1.ob, T.c_State.cl, T.c_State.no _ (by decide), rfl, ?_⟩
  refine ⟨_, rfl, a, CS, dx, _, _, rfl, S1.ob, T.c_State.cl, T.c_State.no _ (by decide), rfl, g, rfl, ⟨_, SqL.of S1.gi⟩, for_list (K := K) (a := g) (xs := as.map V.ref) (fun i σ H' => (∃ v w, σ = [some (.ref a), some (.ref ma), some (vn (rowS r r.laid ((r.given.map (·.1)).take i))), v, w]) ∧ Same H H' ∧ H' ma = some (.lst ((rowA r r.laid ((r.given.map (·.1)).take i)).map vn)))
    ⟨⟨none, none, rfl⟩, s1, upd_same⟩ (fun i σ H' _ ⟨_, e, _⟩ => SqL.of (e _ _ S.gi)) ?_ ?_⟩
  · rintro i y σ H' hi ⟨⟨v, w, rfl⟩, s5, ht5⟩
    obtain ⟨c, hc, rfl⟩ := map_at hi
    obtain ⟨x, hx, hH⟩ := S.tu.at_ hc
    have lt : i < r.given.length := (List.getElem?_eq_some_iff.mp hx).1
    have hp : (r.given.map (·.1))[i]? = some x.1 := by rw [List.getElem?_map, hx]; rfl
    refine ⟨c, _, rfl, SqT.of (s5 _ _ hH), rfl, _, _, rfl, _, _, rfl, rfl, ?_⟩
    refine ⟨_, rfl, .inl ⟨rfl, _, SqL.of ht5⟩, _, rfl, _, rfl, _, rfl, _, _, _, rfl, a, r, _, _, rfl, rfl, rfl, S0.same s5, ma, _, _, rfl, rfl, ht5, ?_, ?_⟩
    · rw [List.length_map, rowA_len, List.length_take, List.length_map]
      have : sizeLine = 16777216 := rfl
      omega
    · have s6 : Same H (upd H' ma (.lst ((rowA r r.laid ((r.given.map (·.1)).take i)).map vn ++ [vn (rw_ r (rowS r r.laid ((r.given.map (·.1)).take i)) x.1)]))) := fun b o e => by
        rw [upd_ne (ne_of_none e hma)]
        exact s5 _ _ e
      refine ⟨_, rfl, _, rfl, _, rfl, _, _, _, rfl, a, r, _, _, rfl, rfl, rfl, S0.same s6, ⟨some (vn x.1), some (vn x.2), ?_⟩, s6, ?_⟩
      · have e8 : rowS r r.laid ((r.given.map (·.1)).take (i + 1)) = nextW r (rowS r r.laid ((r.given.map (·.1)).take i)) x.1 := by unfold rowS; rw [take_snoc hp, List.foldl_append]; rfl
        rw [e8]
        rfl
      · rw [upd_same, take_snoc hp, rowA_snoc, List.map_append]
        rfl
  · rintro σ H' ⟨⟨v, w, rfl⟩, s5, ht5⟩
    rw [List.length_map, al, List.take_of_length_le (by rw [List.length_map]; exact Nat.le_refl _)] at ht5
    exact ⟨_, rfl, q _ ma s5 ht5⟩
def pByLaid (CS : Addr) : V → V → Hp → VK → Prop := fun a b H Q => ∃ (s : Addr) (r : Rec) (p : Nat), a = .ref s ∧ b = vn p ∧ StAt CS H s r ∧ Q (vn (aL r p)) H
theorem ok_answer_by_laid (T : Txt K mg CS CH) : Ok P w K mg base 4 "answer_by_laid" ["state", "p"] (sp2 (pByLaid CS)) := by
  refine ok2 T.f_answer_by_laid sc_answer_by_laid (fun _ _ _ _ _ _ _ _ => rfl) fun f cdv A outer s H a b Q E hr h => ?_
  obtain ⟨a, r, p, rfl, rfl, ⟨dx, g, k, as, d, ds, S⟩, q⟩ := h
  refine ⟨_, (pss_one (ps_ret (pcall (ok_right_by T) hr (pa_cons (pe_fld (pv 0) rfl) (pa_cons (pe_fld (pv 0) rfl) (pa_cons (pv 1) pa_nil)))))), ?_⟩
  exact ⟨_, rfl, a, CS, dx, _, _, rfl, S.ob, T.c_State.cl, T.c_State.no _ (by decide), rfl, _, rfl, a, CS, dx, _, _, rfl, S.ob, T.c_State.cl, T.c_State.no _ (by decide), rfl, _, rfl, _, _, _, rfl, _, _, _, rfl, rfl, rfl, q⟩
def pClash (CS : Addr) : V → V → V → Hp → VK → Prop := fun a b c H Q => ∃ (s : Addr) (r : Rec) (x y : Nat), a = .ref s ∧ b = vn x ∧ c = vn y ∧ StAt CS H s r ∧ Q (.bl (clB r x y)) H
theorem ok_do_clash (T : Txt K mg CS CH) : Ok P w K mg base 5 "do_clash" ["state", "p", "q"] (sp3 (pClash CS)) := by
  refine ok3 T.f_do_clash sc_do_clash (fun _ _ _ _ _ _ _ _ _ => rfl) fun f cdv A outer s H a b c Q E hr h => ?_
  obtain ⟨a, r, x, y, rfl, rfl, rfl, S0, q⟩ := h
  unfold clB at q
  refine ⟨_, (pss_cons (ps_if (PW.pt (pw_or (pt_cmpR on_ne (pcall (ok_answer_by_laid T) hr (pa_cons (pv 0) (pa_cons (pv 1) pa_nil))) (pgn T.g_CONCEDED) (nomark _)) (pw_or1 (pt_cmpR on_ne (pcall (ok_answer_by_laid T) hr (pa_cons (pv 0) (pa_cons (pv 2) pa_nil))) (pgn T.g_CONCEDED) (nomark _)))))
      (pss_one (ps_ret pe_bl))
      pss_nil)
      (pss_one (ps_ret (pe_cmpR on_eq (pcall (ok_answer_by_laid T) hr (pa_cons (pv 0) (pa_cons (pe_op on_and (pv 1) (pv 2)) pa_nil))) (pgn T.g_DENIED) (nomark _))))), ?_⟩
  refine ⟨_, rfl, _, rfl, _, _, rfl, a, r, _, rfl, rfl, S0, _, _, rfl, rfl, _, rfl, ifB (fun h1 => ?_) fun h1 => ?_⟩
  · have h1 : ¬ aL r x = 1 := by simpa using h1
    rw [decide_eq_false h1, Bool.false_and] at q
    exact iteT q
  · have h1 : aL r x = 1 := by simpa using h1
    rw [decide_eq_true h1, Bool.true_and] at q
    refine ⟨_, rfl, _, rfl, _, _, rfl, a, r, _, rfl, rfl, S0, _, _, rfl, rfl, _, rfl, ifB (fun h2 => ?_) fun h2 => ?_⟩
    · have h2 : ¬ aL r y = 1 := by simpa using h2
      rw [decide_eq_false h2, Bool.false_and] at q
      exact q
    · have h2 : aL r y = 1 := by simpa using h2
      rw [decide_eq_true h2, Bool.true_and] at q
      exact ⟨_, rfl, _, rfl, _, rfl, _, _, rfl, rfl, _, _, rfl, a, r, _, rfl, rfl, S0, _, _, rfl, rfl, q⟩
def pPairs (CS : Addr) : V → Hp → VK → Prop := fun a H Q => ∃ (s : Addr) (r : Rec), a = .ref s ∧ StAt CS H s r ∧ Good r ∧ ∀ H', Same H H' → Q (vn (cnt r (cc r).length)) H'
theorem ok_clashing_pairs (T : Txt K mg CS CH) : Ok P w K mg base 5 "clashing_pairs" ["state"] (sp1 (pPairs CS)) := by
  refine ok1 T.f_clashing_pairs sc_clashing_pairs (fun _ _ _ _ _ _ _ => rfl) fun f cdv A outer s H a Q E hr h => ?_
  obtain ⟨a, r, rfl, S0, G, q⟩ := h
  have f256 := full_256 G
  refine ⟨_, (pss_cons (ps_set (i := 1) sc_clashing_pairs.nd rfl (Or.inl rfl) (pn 0))
      (pss_cons (ps_setLc (i := 3) rfl sc_clashing_pairs.nd rfl rfl (sw_true rfl rfl rfl rfl) (pi_list (pcall (ok_all_propositions T) hr (pa_cons (pv 0) pa_nil))) (blkOk_by (own := [("p", 2)]) (by show blkC ["state", "found", "p", "conceded", "i", "q"] (defScope st_clashing_pairs) _ _ = true; decide +kernel)) (fun _ _ _ _ _ => (pg_name (i := 2) sc_clashing_pairs.nd rfl (Or.inl rfl))) (fun _ _ _ _ _ => (pts_one (pt_cmpR on_eq (pcall (ok_answer_by_laid T) hr (pa_cons (pv 0) (pa_cons (pv 2) pa_nil))) (pgn T.g_CONCEDED) (nomark _)))) (fun _ _ _ _ _ => (pv 2)))
      (pss_cons (ps_for PassesOwn.never rfl (pi_enum rfl T.no_enumerate (pa_cons (pv 3) pa_nil)) (pg_tup rfl (pgs_cons (pg_name (i := 4) sc_clashing_pairs.nd rfl (Or.inl rfl)) (pgs_cons (pg_name (i := 2) sc_clashing_pairs.nd rfl (Or.inl rfl)) pgs_nil)))
      (pss_one (ps_for PassesOwn.never rfl (pi_list (pe_slice sl_list (pv 3) (po_some (pe_op on_add (pv 4) (pn 1))) po_none)) (pg_name (i := 5) sc_clashing_pairs.nd rfl (Or.inl rfl))
      (pss_one (ps_if (pt_cmpR on_eq (pcall (ok_answer_by_laid T) hr (pa_cons (pv 0) (pa_cons (pe_op on_and (pv 2) (pv 5)) pa_nil))) (pgn T.g_DENIED) (nomark _))
      (pss_one (ps_set (i := 1) sc_clashing_pairs.nd rfl (Or.inl rfl) (pe_op on_add (pv 1) (pn 1))))
      pss_nil)))))
      (pss_one (ps_ret (pv 1)))))), ?_⟩
  refine ⟨_, rfl, _, rfl, a, r, rfl, S0, G, fun H1 pl s1 hpl => ?_⟩
  have S1 := S0.same s1
  refine ⟨pl, rfl, ⟨_, SqL.of hpl⟩, fun D hD => lc_map (K := K) (a := pl) (l := List.range (full r.m + 1)) (v := vn) (fun p => if decide (aL r p = 1) = true then some (vn p) else none) (SqL.of hpl) hD (by rw [List.length_range]; exact Nat.le_trans f256 (by decide)) ?_ ?_⟩
  · intro i p H2 hp s2 acc hacc hz N k1 k2
    refine ⟨rfl, _, rfl, _, rfl, _, _, rfl, a, r, p, rfl, rfl, S1.same s2, _, _, rfl, rfl, _, rfl, ifB (fun h => ?_) fun h => ?_⟩
    · exact ⟨_, rfl, acc, hacc, hz, k2 _ _ (Same.refl _) (by rw [if_pos h])⟩
    · exact k1 _ (Same.refl _) (by rw [if_neg (by rw [h]; exact Bool.false_ne_true)])
  · intro H2 s2 e
    rw [fm_if] at e
    have e : H2 D = some (.lst ((cc r).map vn)) := e
    have s12 := s1.trans s2
    refine ⟨_, rfl, D, _, rfl, SqL.of e, for_enum (K := K) (a := D) (xs := (cc r).map vn) (fun i σ H' => (∃ u2 u4 u5, σ = [some (.ref a), some (vn (cnt r i)), u2, some (.ref D), u4, u5]) ∧ Same H2 H')
      ⟨⟨none, none, none, rfl⟩, Same.refl _⟩ (fun i σ H' _ ⟨_, z⟩ => SqL.of (z _ _ e)) ?_ ?_⟩
    · rintro i y σ H' T5 hi ⟨⟨u2, u4, u5, rfl⟩, s3⟩ hT
      obtain ⟨p, hp, rfl⟩ := map_at hi
      have gp : (cc r).getD i 0 = p := by rw [List.getD_eq_getElem?_getD, hp]; rfl
      have s4 : Same H2 (upd H' T5 (.tup [vn i, vn p])) := same_new s3 hT
      refine ⟨T5, _, rfl, SqT.of upd_same, rfl, _, _, rfl, _, _, rfl, rfl, ?_⟩
      refine ⟨_, rfl, _, rfl, _, _, rfl, rfl, _, rfl, D, _, rfl, SqL.of (s4 _ _ e), fun l2 hl2 => ?_⟩
      rw [cut_drop, ← List.map_drop]
      obtain ⟨H6, eH, s5, hl6⟩ : ∃ H6, H6 = upd (upd H' T5 (.tup [vn i, vn p])) l2 (.lst (((cc r).drop (i + 1)).map vn)) ∧ Same H2 H6 ∧ H6 l2 = some (.lst (((cc r).drop (i + 1)).map vn)) := ⟨_, rfl, same_new s4 hl2, upd_same⟩
      rw [← eH]
      refine ⟨l2, rfl, ⟨_, SqL.of hl6⟩, for_list (K := K) (a := l2) (xs := ((cc r).drop (i + 1)).map vn) (fun j σ H' => H' = H6 ∧ ∃ u5, σ = [some (.ref a), some (vn (cnt r i + cpl r p (((cc r).drop (i + 1)).take j))), some (vn p), some (.ref D), some (vn i), u5])
        ⟨rfl, _, rfl⟩ (fun j σ H' _ ⟨z, _⟩ => by rw [z]; exact SqL.of hl6) ?_ ?_⟩
      · rintro j y σ H7 hj ⟨rfl, u5, rfl⟩
        obtain ⟨x, hx, rfl⟩ := map_at hj
        have ec : cpl r p (((cc r).drop (i + 1)).take (j + 1)) = cpl r p (((cc r).drop (i + 1)).take j) + if decide (aL r (p &&& x) = 0) = true then 1 else 0 := by
          unfold cpl
          rw [take_snoc hx, List.filter_append, List.length_append, List.filter_cons]
          split <;> rfl
        refine ⟨_, rfl, _, rfl, _, rfl, _, _, rfl, rfl, _, _, rfl, a, r, _, rfl, rfl, S0.same (s12.trans s5), _, _, rfl, rfl, _, rfl, ifB (fun h => ?_) fun h => ?_⟩
        · refine ⟨_, rfl, _, _, rfl, rfl, rfl, some (vn x), ?_⟩
          rw [ec, if_pos h, ← Nat.add_assoc]
          rfl
        · refine ⟨rfl, some (vn x), ?_⟩
          rw [ec, if_neg (by rw [h]; exact Bool.false_ne_true)]
          rfl
      · rintro σ H7 ⟨rfl, u5, rfl⟩
        refine ⟨⟨some (vn p), some (vn i), u5, ?_⟩, s5⟩
        rw [List.length_map, List.take_length]
        show _ = [_, some (vn (cnt r i + cpl r ((cc r).getD i 0) ((cc r).drop (i + 1)))), _, _, _, _]
        rw [gp]
    · rintro σ H' ⟨⟨u2, u4, u5, rfl⟩, s3⟩
      rw [List.length_map]
      exact ⟨_, rfl, q _ (s12.trans s3)⟩
end
end DY
namespace DY
open PySem PySem.Spec PyProof.Rows L2 DX DM
open Krb7 (full)
def oth (r : Rec) : Rec := { r with rule := 1 - r.rule }
theorem Good.oth {r : Rec} (G : Good r) : Good (oth r) := ⟨G.m1, G.m3, G.k, G.k0, by show 1 - r.rule ≤ 1; omega, G.la, G.gi, G.gl, G.st, G.sl, G.el⟩
def rul0 (r : Rec) : Rec := { r with rule := 0 }
theorem Good.rul0 {r : Rec} (G : Good r) : Good (rul0 r) := ⟨G.m1, G.m3, G.k, G.k0, by show 0 ≤ 1; omega, G.la, G.gi, G.gl, G.st, G.sl, G.el⟩
def pos (r : Rec) : List Nat := (List.range (full r.m)).map fun p => p + 1
theorem pos_drop (r : Rec) : (List.range (full r.m + 1)).drop 1 = pos r := by
  unfold pos
  rw [List.range_succ_eq_map]
  rfl
theorem pos_at {r : Rec} {i p : Nat} (h : (pos r)[i]? = some p) : 1 ≤ p ∧ p ≤ full r.m := by
  unfold pos at h
  rw [List.getElem?_map] at h
  cases e : (List.range (full r.m))[i]? with
  | none => rw [e] at h; cases h
  | some x =>
    rw [e] at h
    have e2 : x + 1 = p := Option.some.inj h
    have := List.mem_range.mp (List.mem_of_getElem? e)
    omega
def inL (r : Rec) (p : Nat) : Rec := { r with laid := p }
def inK (r : Rec) (p : Nat) : Rec := { r with known := p }
theorem Good.inL {r : Rec} (G : Good r) {p : Nat} (h2 : p ≤ full r.m) : Good (inL r p) := ⟨G.m1, G.m3, G.k, G.k0, G.ru, h2, G.gi, G.gl, G.st, G.sl, G.el⟩
theorem Good.inK {r : Rec} (G : Good r) {p : Nat} (h1 : 1 ≤ p) (h2 : p ≤ full r.m) : Good (inK r p) := ⟨G.m1, G.m3, h2, by show p ≠ 0; omega, G.ru, G.la, G.gi, G.gl, G.st, G.sl, G.el⟩
def lds (r : Rec) : List Nat := (pos r).filter fun p => allB (inL r p)
def kns (r : Rec) : List Nat := (pos r).filter fun p => allB (inK r p)
theorem SAt.wrL {CS : Addr} {H : Hp} {s : Addr} {r : Rec} {dx g k d fa : Addr} {as ds : List Addr} {xs ys : List V} (S : SAt CS H s r dx g k as d ds) (h : H fa = some (.lst xs)) (n1 : g ≠ fa) (n2 : k ≠ fa) (n3 : d ≠ fa) : SAt CS (upd H fa (.lst ys)) s r dx g k as d ds := by
  have nt : ∀ b xs, H b = some (.tup xs) → b ≠ fa := fun b xs q => ne_of q h (by intro z; cases z)
  refine ⟨?_, ?_, S.tu.keep fun b xs e => by rw [upd_ne (nt _ _ e)]; exact e, ?_, ?_, S.te.keep fun b xs e => by rw [upd_ne (nt _ _ e)]; exact e⟩
  · rw [upd_ne (ne_of S.ob h (by intro z; cases z))]; exact S.ob
  · rw [upd_ne n1]; exact S.gi
  · rw [upd_ne n2]; exact S.st
  · rw [upd_ne n3]; exact S.en
section
variable {P : Program} {w : World} {K : PySem.W.Frag} {mg : Str → Option Value} {base : Heap} {CS CH : Addr}
def pOther (CS : Addr) : V → Hp → VK → Prop := fun a H Q => ∃ (s : Addr) (r : Rec), a = .ref s ∧ StAt CS H s r ∧ Good r ∧ ∀ H' l, Same H H' → H' l = some (.lst ((bads (oth r)).map vn)) → Q (.ref l) H'
theorem ok_bad_by_other_rule (T : Txt K mg CS CH) : Ok P w K mg base 8 "bad_by_other_rule" ["state"] (sp1 (pOther CS)) := by
  refine ok1 T.f_bad_by_other_rule sc_bad_by_other_rule (fun _ _ _ _ _ _ _ => rfl) fun f cdv A outer s H a Q E hr h => ?_
  obtain ⟨a, r, rfl, S0, G, q⟩ := h
  have S1 := S0
  obtain ⟨dx, g, k, as, d, ds, S⟩ := S1
  refine ⟨_, (pss_cons (ps_set (i := 1) sc_bad_by_other_rule.nd rfl (Or.inl rfl) (pmeth0 (om_twin T) hr (pv 0)))
      (pss_cons (ps_fld (pv 1) (pe_op on_sub (pn 1) (pe_fld (pv 0) rfl)) rfl)
      (pss_one (ps_ret (pcall (ok_bad_answers T) hr (pa_cons (pv 1) pa_nil)))))), ?_⟩
  refine ⟨_, rfl, a, dx, _, rfl, S.ob, rfl, _, rfl, a, r, rfl, S0, fun H1 p O1 => ?_⟩
  have Sa := S.same O1.1
  have O2 := O1
  obtain ⟨s1, hp0, dx2, g2, k2, as2, d2, ds2, S2, o3⟩ := O2
  refine ⟨_, rfl, a, CS, dx, _, _, rfl, Sa.ob, T.c_State.cl, T.c_State.no _ (by decide), rfl, _, _, rfl, rfl, G.ru, _, rfl, p, CS, dx2, _, rfl, S2.ob, T.c_State.cl, T.c_State.no _ (by decide), (by show 7 < 1000; decide), ?_⟩
  have ⟨O3, S3⟩ := O1.put0 (r' := oth r) (fs := putF "rule" (vn (1 - r.rule)) (sf r g2 k2 d2)) S2 o3 rfl rfl rfl rfl
  exact ⟨_, rfl, _, rfl, p, oth r, rfl, O3.st, G.oth, fun H4 l s4 hl => q _ l (O3.1.trans s4) hl⟩
def pReached (CS : Addr) : V → Hp → VK → Prop := fun a H Q => ∃ (s : Addr) (r : Rec), a = .ref s ∧ StAt CS H s r ∧ Good r ∧ ∀ H' R, Same H H' → Bf (rul0 r) R.length R → Q (vn R.length) H'
theorem ok_reached_by_rule_0 (T : Txt K mg CS CH) : Ok P w K mg base 7 "reached_by_rule_0" ["state"] (sp1 (pReached CS)) := by
  refine ok1 T.f_reached_by_rule_0 sc_reached_by_rule_0 (fun _ _ _ _ _ _ _ => rfl) fun f cdv A outer s H a Q E hr h => ?_
  obtain ⟨a, r, rfl, S0, G, q⟩ := h
  have S1 := S0
  obtain ⟨dx, g, k, as, d, ds, S⟩ := S1
  refine ⟨_, (pss_cons (ps_set (i := 1) sc_reached_by_rule_0.nd rfl (Or.inl rfl) (pmeth0 (om_twin T) hr (pv 0)))
      (pss_cons (ps_fld (pv 1) (pn 0) rfl)
      (pss_one (ps_ret (pe_callB call_lenD rfl T.no_len PySem.boot_len (pa_cons (pcall (ok_stock_rows T) hr (pa_cons (pv 1) pa_nil)) pa_nil)))))), ?_⟩
  refine ⟨_, rfl, a, dx, _, rfl, S.ob, rfl, _, rfl, a, r, rfl, S0, fun H1 p O1 => ?_⟩
  have O2 := O1
  obtain ⟨s1, hp0, dx2, g2, k2, as2, d2, ds2, S2, o3⟩ := O2
  refine ⟨_, rfl, p, CS, dx2, _, rfl, S2.ob, T.c_State.cl, T.c_State.no _ (by decide), (by show 7 < 1000; decide), ?_⟩
  have ⟨O3, S3⟩ := O1.put0 (r' := rul0 r) (fs := putF "rule" (vn 0) (sf r g2 k2 d2)) S2 o3 rfl rfl rfl rfl
  refine ⟨_, rfl, _, rfl, p, rul0 r, rfl, O3.st, G.rul0, fun H4 da ws R s4 hd0 hd wys B => ⟨da, _, rfl, hd, ?_⟩⟩
  rw [kvR_len wys.len]
  exact q _ R (O3.1.trans s4) B
def pIfLaid (CS : Addr) : V → Hp → VK → Prop := fun a H Q => ∃ (s : Addr) (r : Rec), a = .ref s ∧ StAt CS H s r ∧ Good r ∧ ∀ H' l, Same H H' → H' l = some (.lst ((lds r).map vn)) → Q (.ref l) H'
theorem ok_right_if_laid (T : Txt K mg CS CH) : Ok P w K mg base 6 "right_if_laid" ["state"] (sp1 (pIfLaid CS)) := by
  refine ok1 T.f_right_if_laid sc_right_if_laid (fun _ _ _ _ _ _ _ => rfl) fun f cdv A outer s H a Q E hr h => ?_
  obtain ⟨a, r, rfl, S0, G, q⟩ := h
  have S1 := S0
  obtain ⟨dx, g, k, as, d, ds, S⟩ := S1
  have f256 := full_256 G
  refine ⟨_, (pss_cons (ps_set (i := 1) sc_right_if_laid.nd rfl (Or.inl rfl) (pmeth0 (om_twin T) hr (pv 0)))
      (pss_cons (ps_set (i := 2) sc_right_if_laid.nd rfl (Or.inl rfl) (pe_lst pa_nil))
      (pss_cons (ps_for PassesOwn.never rfl (pi_list (pe_slice sl_list (pcall (ok_all_propositions T) hr (pa_cons (pv 0) pa_nil)) (po_some (pn 1)) po_none)) (pg_name (i := 3) sc_right_if_laid.nd rfl (Or.inl rfl))
      (pss_cons (ps_fld (pv 1) (pv 3) rfl)
      (pss_one (ps_if (pt_val (pcall (ok_all_is_right T) hr (pa_cons (pv 1) pa_nil)))
      (pss_one (ps_expr (pe_bm PySem.F.plainAttrs_list PySem.F.slot_list_append PySem.F.type_list_append mt_append (pv 2) (pa_cons (pv 3) pa_nil))))
      pss_nil))))
      (pss_one (ps_ret (pv 2)))))), ?_⟩
  refine ⟨_, rfl, a, dx, _, rfl, S.ob, rfl, _, rfl, a, r, rfl, S0, fun H1 p O1 => ?_⟩
  have O2 := O1
  obtain ⟨s1, hp0, dx2, g2, k2, as2, d2, ds2, S2, o3⟩ := O2
  refine ⟨(by show 0 ≤ sizeLine; decide), fun fa hfa => ?_⟩
  have sm := same_new (o := .lst []) (Same.refl H1) hfa
  have hfa0 : H fa = none := s1.free hfa
  have n1 : g2 ≠ fa := ne_of_none S2.gi hfa
  have n2 : k2 ≠ fa := ne_of_none S2.st hfa
  have n3 : d2 ≠ fa := ne_of_none S2.en hfa
  have s2 : Same H (upd H1 fa (.lst [])) := s1.trans sm
  refine ⟨_, rfl, _, rfl, a, r, rfl, S0.same s2, G, fun H3 l1 s3 hl1 => ?_⟩
  refine ⟨_, rfl, l1, _, rfl, SqL.of hl1, fun l2 hl2 => ?_⟩
  have ecut : cutV ((List.range (full r.m + 1)).map vn) (some ((1 : Nat) : Int)) none = (pos r).map vn := by rw [cut_drop, ← List.map_drop, pos_drop]
  obtain ⟨H4, e4, s4, hl4⟩ : ∃ H4, H4 = upd H3 l2 (.lst (cutV ((List.range (full r.m + 1)).map vn) (some ((1 : Nat) : Int)) none)) ∧ Same H3 H4 ∧ H4 l2 = some (.lst ((pos r).map vn)) := ⟨_, rfl, same_new (Same.refl _) hl2, by rw [upd_same, ecut]⟩
  rw [← e4]
  have s34 := (sm.trans s3).trans s4
  have hf4 : H4 fa = some (.lst []) := s4 _ _ (s3 _ _ upd_same)
  have n4 : l2 ≠ fa := (ne_of_none (s3 _ _ (upd_same (H := H1) (a := fa) (o := .lst []))) hl2).symm
  refine ⟨l2, rfl, ⟨_, SqL.of hl4⟩, for_list (K := K) (a := l2) (xs := (pos r).map vn) (fun i σ H' => (∃ v, σ = [some (.ref a), some (.ref p), some (.ref fa), v]) ∧ Same H H' ∧ (∃ x, SAt CS H' p (inL r x) dx2 g2 k2 as2 d2 ds2) ∧ H' fa = some (.lst ((((pos r).take i).filter fun x => allB (inL r x)).map vn)) ∧ H' l2 = some (.lst ((pos r).map vn)))
    ⟨⟨none, rfl⟩, s1.trans s34, ⟨r.laid, S2.same s34⟩, hf4, hl4⟩ (fun i σ H' _ ⟨_, _, _, _, e⟩ => SqL.of e) ?_ ?_⟩
  · rintro i y σ H' hi ⟨⟨v, rfl⟩, s5, ⟨x, S5⟩, hf5, hl5⟩
    obtain ⟨z, hz, rfl⟩ := map_at hi
    obtain ⟨z1, z2⟩ := pos_at hz
    have Gz : Good (inL r z) := G.inL z2
    have npf : p ≠ fa := ne_of S5.ob hf5 (by intro z; cases z)
    have npl : p ≠ l2 := ne_of S5.ob hl5 (by intro z; cases z)
    have lenf : ((((pos r).take i).filter fun x => allB (inL r x)).map vn).length < sizeLine := by
      rw [List.length_map]
      have h1 := List.length_filter_le (fun x => allB (inL r x)) ((pos r).take i)
      rw [List.length_take] at h1
      have h2 : (pos r).length = full r.m := by unfold pos; rw [List.length_map, List.length_range]
      have : sizeLine = 16777216 := rfl
      omega
    refine ⟨_, rfl, _, rfl, p, CS, dx2, _, rfl, S5.ob, T.c_State.cl, T.c_State.no _ (by decide), (by show 7 < 1000; decide), ?_⟩
    have S6 := S5.put (r' := inL r z) (fs := putF "laid" (vn z) (sf (inL r x) g2 k2 d2)) g2 k2 d2 as2 ds2 rfl S5.gi S5.tu S5.st S5.en S5.te
    have s6 : Same H (upd H' p (.ins CS dx2 (putF "laid" (vn z) (sf (inL r x) g2 k2 d2)))) := fun b o e => by
      rw [upd_ne (ne_of_none e hp0)]
      exact s5 _ _ e
    have hf6 : (upd H' p (.ins CS dx2 (putF "laid" (vn z) (sf (inL r x) g2 k2 d2)))) fa = some (.lst ((((pos r).take i).filter fun x => allB (inL r x)).map vn)) := by rw [upd_ne npf.symm]; exact hf5
    have hl6 : (upd H' p (.ins CS dx2 (putF "laid" (vn z) (sf (inL r x) g2 k2 d2)))) l2 = some (.lst ((pos r).map vn)) := by rw [upd_ne npl.symm]; exact hl5
    refine ⟨_, rfl, _, rfl, p, inL r z, rfl, ⟨dx2, g2, k2, as2, d2, ds2, S6⟩, Gz, _, rfl, ifB (fun h => ?_) fun h => ?_⟩
    · refine ⟨_, rfl, .inl ⟨rfl, _, SqL.of hf6⟩, _, rfl, fa, _, _, rfl, rfl, hf6, lenf, ⟨_, rfl⟩, ?_, ⟨z, S6.wrL hf6 n1 n2 n3⟩, ?_, ?_⟩
      · intro b o e
        rw [upd_ne (ne_of_none e hfa0)]
        exact s6 _ _ e
      · rw [upd_same, take_snoc hz, List.filter_append, List.map_append, List.filter_cons, if_pos h]
        rfl
      · rw [upd_ne n4]
        exact hl6
    · refine ⟨⟨_, rfl⟩, s6, ⟨z, S6⟩, ?_, hl6⟩
      rw [hf6, take_snoc hz, List.filter_append, List.filter_cons, if_neg (by rw [h]; exact Bool.false_ne_true), List.filter_nil, List.append_nil]
  · rintro σ H' ⟨⟨v, rfl⟩, s5, _, hf5, _⟩
    rw [List.length_map, List.take_length] at hf5
    exact ⟨_, rfl, q _ fa s5 hf5⟩
def pIfKnown (CS : Addr) : V → Hp → VK → Prop := fun a H Q => ∃ (s : Addr) (r : Rec), a = .ref s ∧ StAt CS H s r ∧ Good r ∧ ∀ H' l, Same H H' → H' l = some (.lst ((kns r).map vn)) → Q (.ref l) H'
theorem ok_right_if_known (T : Txt K mg CS CH) : Ok P w K mg base 6 "right_if_known" ["state"] (sp1 (pIfKnown CS)) := by
  refine ok1 T.f_right_if_known sc_right_if_known (fun _ _ _ _ _ _ _ => rfl) fun f cdv A outer s H a Q E hr h => ?_
  obtain ⟨a, r, rfl, S0, G, q⟩ := h
  have S1 := S0
  obtain ⟨dx, g, k, as, d, ds, S⟩ := S1
  have f256 := full_256 G
  refine ⟨_, (pss_cons (ps_set (i := 1) sc_right_if_known.nd rfl (Or.inl rfl) (pmeth0 (om_twin T) hr (pv 0)))
      (pss_cons (ps_set (i := 2) sc_right_if_known.nd rfl (Or.inl rfl) (pe_lst pa_nil))
      (pss_cons (ps_for PassesOwn.never rfl (pi_list (pe_slice sl_list (pcall (ok_all_propositions T) hr (pa_cons (pv 0) pa_nil)) (po_some (pn 1)) po_none)) (pg_name (i := 3) sc_right_if_known.nd rfl (Or.inl rfl))
      (pss_cons (ps_fld (pv 1) (pv 3) rfl)
      (pss_one (ps_if (pt_val (pcall (ok_all_is_right T) hr (pa_cons (pv 1) pa_nil)))
      (pss_one (ps_expr (pe_bm PySem.F.plainAttrs_list PySem.F.slot_list_append PySem.F.type_list_append mt_append (pv 2) (pa_cons (pv 3) pa_nil))))
      pss_nil))))
      (pss_one (ps_ret (pv 2)))))), ?_⟩
  refine ⟨_, rfl, a, dx, _, rfl, S.ob, rfl, _, rfl, a, r, rfl, S0, fun H1 p O1 => ?_⟩
  have O2 := O1
  obtain ⟨s1, hp0, dx2, g2, k2, as2, d2, ds2, S2, o3⟩ := O2
  refine ⟨(by show 0 ≤ sizeLine; decide), fun fa hfa => ?_⟩
  have sm := same_new (o := .lst []) (Same.refl H1) hfa
  have hfa0 : H fa = none := s1.free hfa
  have n1 : g2 ≠ fa := ne_of_none S2.gi hfa
  have n2 : k2 ≠ fa := ne_of_none S2.st hfa
  have n3 : d2 ≠ fa := ne_of_none S2.en hfa
  have s2 : Same H (upd H1 fa (.lst [])) := s1.trans sm
  refine ⟨_, rfl, _, rfl, a, r, rfl, S0.same s2, G, fun H3 l1 s3 hl1 => ?_⟩
  refine ⟨_, rfl, l1, _, rfl, SqL.of hl1, fun l2 hl2 => ?_⟩
  have ecut : cutV ((List.range (full r.m + 1)).map vn) (some ((1 : Nat) : Int)) none = (pos r).map vn := by rw [cut_drop, ← List.map_drop, pos_drop]
  obtain ⟨H4, e4, s4, hl4⟩ : ∃ H4, H4 = upd H3 l2 (.lst (cutV ((List.range (full r.m + 1)).map vn) (some ((1 : Nat) : Int)) none)) ∧ Same H3 H4 ∧ H4 l2 = some (.lst ((pos r).map vn)) := ⟨_, rfl, same_new (Same.refl _) hl2, by rw [upd_same, ecut]⟩
  rw [← e4]
  have s34 := (sm.trans s3).trans s4
  have hf4 : H4 fa = some (.lst []) := s4 _ _ (s3 _ _ upd_same)
  have n4 : l2 ≠ fa := (ne_of_none (s3 _ _ (upd_same (H := H1) (a := fa) (o := .lst []))) hl2).symm
  refine ⟨l2, rfl, ⟨_, SqL.of hl4⟩, for_list (K := K) (a := l2) (xs := (pos r).map vn) (fun i σ H' => (∃ v, σ = [some (.ref a), some (.ref p), some (.ref fa), v]) ∧ Same H H' ∧ (∃ x, SAt CS H' p (inK r x) dx2 g2 k2 as2 d2 ds2) ∧ H' fa = some (.lst ((((pos r).take i).filter fun x => allB (inK r x)).map vn)) ∧ H' l2 = some (.lst ((pos r).map vn)))
    ⟨⟨none, rfl⟩, s1.trans s34, ⟨r.known, S2.same s34⟩, hf4, hl4⟩ (fun i σ H' _ ⟨_, _, _, _, e⟩ => SqL.of e) ?_ ?_⟩
  · rintro i y σ H' hi ⟨⟨v, rfl⟩, s5, ⟨x, S5⟩, hf5, hl5⟩
    obtain ⟨z, hz, rfl⟩ := map_at hi
    obtain ⟨z1, z2⟩ := pos_at hz
    have Gz : Good (inK r z) := G.inK z1 z2
    have npf : p ≠ fa := ne_of S5.ob hf5 (by intro z; cases z)
    have npl : p ≠ l2 := ne_of S5.ob hl5 (by intro z; cases z)
    have lenf : ((((pos r).take i).filter fun x => allB (inK r x)).map vn).length < sizeLine := by
      rw [List.length_map]
      have h1 := List.length_filter_le (fun x => allB (inK r x)) ((pos r).take i)
      rw [List.length_take] at h1
      have h2 : (pos r).length = full r.m := by unfold pos; rw [List.length_map, List.length_range]
      have : sizeLine = 16777216 := rfl
      omega
    refine ⟨_, rfl, _, rfl, p, CS, dx2, _, rfl, S5.ob, T.c_State.cl, T.c_State.no _ (by decide), (by show 7 < 1000; decide), ?_⟩
    have S6 := S5.put (r' := inK r z) (fs := putF "known" (vn z) (sf (inK r x) g2 k2 d2)) g2 k2 d2 as2 ds2 rfl S5.gi S5.tu S5.st S5.en S5.te
    have s6 : Same H (upd H' p (.ins CS dx2 (putF "known" (vn z) (sf (inK r x) g2 k2 d2)))) := fun b o e => by
      rw [upd_ne (ne_of_none e hp0)]
      exact s5 _ _ e
    have hf6 : (upd H' p (.ins CS dx2 (putF "known" (vn z) (sf (inK r x) g2 k2 d2)))) fa = some (.lst ((((pos r).take i).filter fun x => allB (inK r x)).map vn)) := by rw [upd_ne npf.symm]; exact hf5
    have hl6 : (upd H' p (.ins CS dx2 (putF "known" (vn z) (sf (inK r x) g2 k2 d2)))) l2 = some (.lst ((pos r).map vn)) := by rw [upd_ne npl.symm]; exact hl5
    refine ⟨_, rfl, _, rfl, p, inK r z, rfl, ⟨dx2, g2, k2, as2, d2, ds2, S6⟩, Gz, _, rfl, ifB (fun h => ?_) fun h => ?_⟩
    · refine ⟨_, rfl, .inl ⟨rfl, _, SqL.of hf6⟩, _, rfl, fa, _, _, rfl, rfl, hf6, lenf, ⟨_, rfl⟩, ?_, ⟨z, S6.wrL hf6 n1 n2 n3⟩, ?_, ?_⟩
      · intro b o e
        rw [upd_ne (ne_of_none e hfa0)]
        exact s6 _ _ e
      · rw [upd_same, take_snoc hz, List.filter_append, List.map_append, List.filter_cons, if_pos h]
        rfl
      · rw [upd_ne n4]
        exact hl6
    · refine ⟨⟨_, rfl⟩, s6, ⟨z, S6⟩, ?_, hl6⟩
      rw [hf6, take_snoc hz, List.filter_append, List.filter_cons, if_neg (by rw [h]; exact Bool.false_ne_true), List.filter_nil, List.append_nil]
  · rintro σ H' ⟨⟨v, rfl⟩, s5, _, hf5, _⟩
    rw [List.length_map, List.take_length] at hf5
    exact ⟨_, rfl, q _ fa s5 hf5⟩
end
end DY
namespace DY
open PySem PySem.Spec PyProof.Rows L2 DX DM
open Krb7 (full)
def setsL : Nat → List (List Nat)
  | 0 => [[]]
  | n + 1 => setsL n ++ (setsL n).map fun l => l ++ [n]
theorem setsL_len : ∀ n, (setsL n).length = 2 ^ n
  | 0 => rfl
  | n + 1 => by
    show (setsL n ++ (setsL n).map fun l => l ++ [n]).length = _
    rw [List.length_append, List.length_map, setsL_len n, Nat.pow_succ]
    omega
theorem setsL_small : ∀ n l, l ∈ setsL n → l.length ≤ n
  | 0, l, h => by
    have e : l = [] := by simpa [setsL] using h
    subst e
    exact Nat.le_refl _
  | n + 1, l, h => by
    rcases List.mem_append.mp (show l ∈ setsL n ++ (setsL n).map fun l => l ++ [n] from h) with z | z
    · exact Nat.le_succ_of_le (setsL_small n l z)
    · obtain ⟨x, hx, e⟩ := List.mem_map.mp z
      subst e
      have := setsL_small n x hx
      rw [List.length_append]
      show x.length + 1 ≤ n + 1
      omega
def Lns (H : Hp) : List Addr → List (List Nat) → Prop
  | [], [] => True
  | a :: as, x :: l => H a = some (.lst (x.map vn)) ∧ Lns H as l
  | _, _ => False
theorem Lns.keep {H H' : Hp} : ∀ {as : List Addr} {l : List (List Nat)}, Lns H as l → (∀ a o, a ∈ as → H a = some o → H' a = some o) → Lns H' as l
  | [], [], _, _ => trivial
  | a :: as, x :: l, h, e => ⟨e _ _ (by simp) h.1, Lns.keep h.2 fun b o hb => e b o (List.mem_cons_of_mem _ hb)⟩
  | [], _ :: _, h, _ => h.elim
  | _ :: _, [], h, _ => h.elim
theorem Lns.same {H H' : Hp} {as : List Addr} {l : List (List Nat)} (h : Lns H as l) (e : Same H H') : Lns H' as l := h.keep fun a o _ q => e _ _ q
theorem Lns.at_ {H : Hp} : ∀ {as : List Addr} {l : List (List Nat)} {i : Nat} {a : Addr}, Lns H as l → as[i]? = some a → ∃ y, l[i]? = some y ∧ H a = some (.lst (y.map vn))
  | a :: as, x :: l, 0, b, h, e => by
    have e : a = b := Option.some.inj e
    subst e
    exact ⟨x, rfl, h.1⟩
  | a :: as, x :: l, i + 1, b, h, e => Lns.at_ (as := as) (l := l) (i := i) h.2 e
  | [], [], _, _, _, e => by simp at e
  | [], _ :: _, _, _, h, _ => h.elim
  | _ :: _, [], _, _, h, _ => h.elim
theorem Lns.len {H : Hp} : ∀ {as : List Addr} {l : List (List Nat)}, Lns H as l → as.length = l.length
  | [], [], _ => rfl
  | a :: as, x :: l, h => by simp [Lns.len h.2]
  | [], _ :: _, h => h.elim
  | _ :: _, [], h => h.elim
theorem Lns.app {H : Hp} : ∀ {as bs : List Addr} {l m : List (List Nat)}, Lns H as l → Lns H bs m → Lns H (as ++ bs) (l ++ m)
  | [], _, [], _, _, h => h
  | a :: as, _, x :: l, _, h, k => ⟨h.1, Lns.app h.2 k⟩
  | [], _, _ :: _, _, h, _ => h.elim
  | _ :: _, _, [], _, h, _ => h.elim
def strk (r : Rec) (s : List Nat) : Rec := { r with given := ((List.range r.given.length).filter fun i => !decide (i ∈ s)).map (gv r) }
def fwS (r : Rec) (best s : List Nat) : List Nat := if s.length < best.length then (if allB (strk r s) = true then s else best) else best
theorem fwS_y {r : Rec} {b s : List Nat} (h1 : s.length < b.length) (h2 : allB (strk r s) = true) : fwS r b s = s := by unfold fwS; rw [if_pos h1, if_pos h2]
theorem fwS_n {r : Rec} {b s : List Nat} (h1 : s.length < b.length) (h2 : allB (strk r s) = false) : fwS r b s = b := by unfold fwS; rw [if_pos h1, if_neg (by rw [h2]; exact Bool.false_ne_true)]
theorem fwS_m {r : Rec} {b s : List Nat} (h1 : ¬ s.length < b.length) : fwS r b s = b := by unfold fwS; rw [if_neg h1]
def fewest (r : Rec) : List Nat := (setsL r.given.length).foldl (fwS r) (List.range r.given.length)
theorem gv_at {r : Rec} {i : Nat} (h : i < r.given.length) : r.given[i]? = some (gv r i) := by
  unfold gv
  rw [List.getD_eq_getElem?_getD, List.getElem?_eq_getElem h]
  rfl
theorem Good.strk {r : Rec} (G : Good r) (s : List Nat) : Good (strk r s) := by
  refine ⟨G.m1, G.m3, G.k, G.k0, G.ru, G.la, fun x hx => ?_, ?_, G.st, G.sl, G.el⟩
  · obtain ⟨i, hi, e⟩ := List.mem_map.mp (show x ∈ ((List.range r.given.length).filter fun i => !decide (i ∈ s)).map (gv r) from hx)
    subst e
    exact G.gi _ (List.mem_of_getElem? (gv_at (List.mem_range.mp (List.mem_filter.mp hi).1)))
  · show (((List.range r.given.length).filter fun i => !decide (i ∈ s)).map (gv r)).length ≤ 8
    rw [List.length_map]
    have h1 := List.length_filter_le (fun i => !decide (i ∈ s)) (List.range r.given.length)
    rw [List.length_range] at h1
    have := G.gl
    omega
theorem in_nats (c : Nat) : ∀ l : List Nat, inV (vn c) (l.map vn) = decide (c ∈ l)
  | [] => by simp [inV]
  | y :: R => by
    have ih := in_nats c R
    have e : eqV (vn y) (vn c) = decide (c = y) := by
      show ((y : Int) == (c : Int)) = decide (c = y)
      by_cases q : c = y
      · subst q; simp
      · rw [decide_eq_false q]
        exact beq_eq_false_iff_ne.mpr (by omega)
    show (eqV (vn y) (vn c) || inV (vn c) (R.map vn)) = _
    rw [ih, e]
    simp only [List.mem_cons]
    rw [← Bool.decide_or]
theorem flat_nats (l : List Nat) : (l.map vn).all flatV = true := by
  rw [List.all_eq_true]
  intro v hv
  obtain ⟨y, _, e⟩ := List.mem_map.mp hv
  rw [← e]
  rfl
theorem Tups.pick {H : Hp} {as : List Addr} {r : Rec} (h : Tups H as r.given) : ∀ {l : List Nat}, (∀ i ∈ l, i < r.given.length) → Tups H (l.map fun i => as.getD i 0) (l.map (gv r))
  | [], _ => trivial
  | i :: l, hl => by
    have hi := hl i (by simp)
    refine ⟨?_, Tups.pick h fun j hj => hl j (List.mem_cons_of_mem _ hj)⟩
    have hl : i < as.length := by rw [h.len]; exact hi
    have hc : as[i]? = some as[i] := List.getElem?_eq_getElem hl
    obtain ⟨x, hx, hH⟩ := h.at_ hc
    rw [gv_at hi] at hx
    cases hx
    show H (as.getD i 0) = _
    rw [List.getD_eq_getElem?_getD, hc]
    exact hH
def SameX (p : Addr) (H H' : Hp) : Prop := ∀ b o, H b = some o → b ≠ p → H' b = some o
section
variable {P : Program} {w : World} {K : PySem.W.Frag} {mg : Str → Option Value} {base : Heap} {CS CH : Addr}
def pSets (K : PySem.W.Frag) : V → Hp → VK → Prop := fun a H Q => ∃ n : Nat, a = vn n ∧ n ≤ 8 ∧ ∀ H' l as, Same H H' → H' l = some (.lst (as.map V.ref)) → Lns H' as (setsL n) → Q (.ref l) H'
theorem ok_sets_of_answers (T : Txt K mg CS CH) : Ok P w K mg base 1 "sets_of_answers" ["many"] (sp1 (pSets K)) := by
  refine ok1 T.f_sets_of_answers sc_sets_of_answers (fun _ _ _ _ _ _ _ => rfl) fun f cdv A outer s H a Q E hr h => ?_
  obtain ⟨n, rfl, hn, q⟩ := h
  refine ⟨_, (pss_cons (ps_set (i := 1) sc_sets_of_answers.nd rfl (Or.inl rfl) (pe_lst (pa_cons (pe_lst pa_nil) pa_nil)))
      (pss_cons (ps_for PassesOwn.never rfl (pi_range1 rfl T.no_range (pa_cons (pv 0) pa_nil)) (pg_name (i := 2) sc_sets_of_answers.nd rfl (Or.inr rfl))
      (pss_one (ps_set (i := 1) sc_sets_of_answers.nd rfl (Or.inl rfl) (pe_op op_cat (pv 1) (pe_lc rfl sc_sets_of_answers.nd (pi_list (pv 1)) (blkOk_by (own := [("found", 3)]) (by show blkC ["many", "sets", "i", "found"] (defScope st_sets_of_answers) _ _ = true; decide +kernel)) (fun _ _ _ _ _ => (pg_name (i := 3) sc_sets_of_answers.nd rfl (Or.inl rfl))) (fun _ _ _ _ _ => pts_nil) (fun _ _ _ _ _ => (pe_op op_cat (pv 3) (pe_lst (pa_cons (pv 2) pa_nil)))))))))
      (pss_one (ps_ret (pv 1))))), ?_⟩
  refine ⟨(by show 0 ≤ sizeLine; decide), fun e0 he0 => ⟨(by show 1 ≤ sizeLine; decide), fun l0 hl0 => ?_⟩⟩
  have s0 : Same H (upd H e0 (.lst [])) := same_new (Same.refl H) he0
  have s1 : Same H (upd (upd H e0 (.lst [])) l0 (.lst [.ref e0])) := same_new s0 hl0
  have ne : e0 ≠ l0 := ne_of_none upd_same hl0
  refine ⟨_, rfl, (n : Int), rfl, by omega, by omega, for_range (lo := 0) (n := (n : Int).toNat) (fun i σ H' => ∃ (l : Addr) (as : List Addr) (v2 v3 : Option V), σ = [some (vn n), some (.ref l), v2, v3] ∧ Same H H' ∧ H' l = some (.lst (as.map V.ref)) ∧ Lns H' as (setsL i))
    ⟨l0, [e0], none, none, rfl, s1, upd_same, by rw [upd_ne ne]; exact upd_same, trivial⟩ ?_ ?_⟩
  · rintro i σ H' hi ⟨l, as, v2, v3, rfl, s2, hl, ln⟩
    rw [Int.toNat_natCast] at hi
    rw [Int.zero_add]
    have al := ln.len
    have a2 : as.length = 2 ^ i := by rw [al, setsL_len]
    have a3 : as.length ≤ 256 := by
      rw [a2]
      exact Nat.pow_le_pow_right (by decide) (show i ≤ 8 by omega)
    refine ⟨_, rfl, _, rfl, l, rfl, ⟨_, SqL.of hl⟩, fun D hD => lc_list (K := K) (a := l) (xs := as.map V.ref) (fun j H'' => Same H' H'' ∧ ∃ bs : List Addr, H'' D = some (.lst (bs.map V.ref)) ∧ Lns H'' bs (((setsL i).take j).map fun x => x ++ [i]) ∧ ∀ b ∈ bs, b ≠ D)
      ⟨same_new (Same.refl _) hD, [], upd_same, trivial, fun b hb => (by cases hb)⟩ (fun j H'' _ ⟨z, _⟩ => SqL.of (z _ _ hl)) ?_ ?_⟩
    · rintro j y H'' hj ⟨s3, bs, hb, lb, nb⟩
      obtain ⟨c, hc, rfl⟩ := map_at hj
      obtain ⟨x, hx, hH⟩ := ln.at_ hc
      have hxl : x.length ≤ i := setsL_small i x (List.mem_of_getElem? hx)
      have lt : j < as.length := (List.getElem?_eq_some_iff.mp hc).1
      have bl : bs.length ≤ j := by
        rw [lb.len, List.length_map, List.length_take]
        omega
      refine ⟨rfl, ?_⟩
      dsimp only [tYes]
      rw [if_pos rfl]
      refine ⟨_, rfl, _, rfl, (by show 1 ≤ sizeLine; decide), fun p1 hp1 => ?_⟩
      have hc3 := s3 _ _ hH
      refine ⟨c, p1, _, _, rfl, rfl, same_new (Same.refl _) hp1 _ _ hc3, upd_same, ?_, fun p2 hp2 => ?_⟩
      · rw [List.length_map]
        show x.length + 1 ≤ sizeLine
        have : sizeLine = 16777216 := rfl
        omega
      · have s4 := same_new (o := .lst [vn i]) (Same.refl H'') hp1
        have s5 := same_new (o := .lst (x.map vn ++ [vn i])) (Same.refl _) hp2
        have hD5 := s5 _ _ (s4 _ _ hb)
        have np : p2 ≠ D := (ne_of_none (s4 _ _ hb) hp2).symm
        refine ⟨_, hD5, ?_, ?_, bs ++ [p2], ?_, ?_, ?_⟩
        · rw [List.length_map]
          have : sizeLine = 16777216 := rfl
          omega
        · intro b o e
          rw [upd_ne (ne_of_none e hD)]
          exact s5 _ _ (s4 _ _ (s3 _ _ e))
        · rw [upd_same, List.map_append]; rfl
        · rw [take_snoc hx, List.map_append]
          refine Lns.app (lb.keep fun b o hb e => ?_) ⟨?_, trivial⟩
          · rw [upd_ne (nb b hb)]
            exact s5 _ _ (s4 _ _ e)
          · rw [upd_ne np, upd_same, List.map_append]
            rfl
        · intro b hb
          rcases List.mem_append.mp hb with z | z
          · exact nb b z
          · have e : b = p2 := by simpa using z
            subst e
            exact np
    · rintro H'' ⟨s3, bs, hb, lb, nb⟩
      rw [List.length_map, al, List.take_length] at lb
      have bl : bs.length ≤ 256 := by rw [lb.len, List.length_map, ← al]; exact a3
      refine ⟨l, D, _, _, rfl, rfl, s3 _ _ hl, hb, ?_, fun l3 hl3 => ?_⟩
      · rw [List.length_map, List.length_map]
        have : sizeLine = 16777216 := rfl
        omega
      · have s6 := same_new (o := .lst (as.map V.ref ++ bs.map V.ref)) (Same.refl _) hl3
        refine ⟨l3, as ++ bs, _, _, rfl, (s2.trans s3).trans s6, ?_, ?_⟩
        · rw [upd_same, List.map_append]
        · exact Lns.app ((ln.same s3).same s6) (lb.same s6)
  · rintro σ H' ⟨l, as, v2, v3, rfl, s2, hl, ln⟩
    rw [Int.toNat_natCast] at ln
    exact ⟨_, rfl, q _ l as s2 hl ln⟩
def pFewest (CS : Addr) : V → Hp → VK → Prop := fun a H Q => ∃ (s : Addr) (r : Rec), a = .ref s ∧ StAt CS H s r ∧ Good r ∧ ∀ H' l, Same H H' → H' l = some (.lst ((fewest r).map vn)) → Q (.ref l) H'
theorem ok_fewest_to_strike (T : Txt K mg CS CH) : Ok P w K mg base 6 "fewest_to_strike" ["state"] (sp1 (pFewest CS)) := by
  refine ok1 T.f_fewest_to_strike sc_fewest_to_strike (fun _ _ _ _ _ _ _ => rfl) fun f cdv A outer s H a Q E hr h => ?_
  obtain ⟨a, r, rfl, S0, G, q⟩ := h
  have S1 := S0
  obtain ⟨dx, g, k, as, d, ds, S⟩ := S1
  have gl := G.gl
  have al : (as.map V.ref).length = r.given.length := by rw [List.length_map, S.tu.len]
  refine ⟨_, (pss_cons (ps_set (i := 1) sc_fewest_to_strike.nd rfl (Or.inl rfl) (pmeth0 (om_twin T) hr (pv 0)))
      (pss_cons (ps_set (i := 2) sc_fewest_to_strike.nd rfl (Or.inl rfl) (pe_callTy (call_list_rng rfl) rfl T.no_list (by decide +kernel) (pa_cons (pe_callTy call_range1T rfl T.no_range (by decide +kernel) (pa_cons (pe_callB call_len_seq rfl T.no_len PySem.boot_len (pa_cons (pe_fld (pv 0) rfl) pa_nil)) pa_nil)) pa_nil)))
      (pss_cons (ps_for PassesOwn.never rfl (pi_list (pcall (ok_sets_of_answers T) hr (pa_cons (pe_callB call_len_seq rfl T.no_len PySem.boot_len (pa_cons (pe_fld (pv 0) rfl) pa_nil)) pa_nil))) (pg_name (i := 3) sc_fewest_to_strike.nd rfl (Or.inr rfl))
      (pss_one (ps_if (pt_cmpR on_lt (pe_callB call_len_seq rfl T.no_len PySem.boot_len (pa_cons (pv 3) pa_nil)) (pe_callB call_len_seq rfl T.no_len PySem.boot_len (pa_cons (pv 2) pa_nil)) (nomark _))
      (pss_cons (ps_fld (pv 1) (pe_lc rfl sc_fewest_to_strike.nd (pi_range1 rfl T.no_range (pa_cons (pe_callB call_len_seq rfl T.no_len PySem.boot_len (pa_cons (pe_fld (pv 0) rfl) pa_nil)) pa_nil)) (blkOk_by (own := [("i", 4)]) (by show blkC ["state", "tried", "fewest", "struck", "i"] (defScope st_fewest_to_strike) _ _ = true; decide +kernel)) (fun _ _ _ _ _ => (pg_name (i := 4) sc_fewest_to_strike.nd rfl (Or.inl rfl))) (fun _ _ _ _ _ => (pts_one (pt_cmpR (op_notIn_seqK K rfl) (pv 4) (pv 3) rfl))) (fun _ _ _ _ _ => (pe_ix (ix_listK K rfl) (pe_fldK K rfl (pv 0) rfl) (pv 4) (fun _ _ => rfl)))) rfl)
      (pss_one (ps_if (pt_val (pcall (ok_all_is_right T) hr (pa_cons (pv 1) pa_nil)))
      (pss_one (ps_set (i := 2) sc_fewest_to_strike.nd rfl (Or.inl rfl) (pv 3)))
      pss_nil)))
      pss_nil)))
      (pss_one (ps_ret (pv 2)))))), ?_⟩
  refine ⟨_, rfl, a, dx, _, rfl, S.ob, rfl, _, rfl, a, r, rfl, S0, fun H1 p O1 => ?_⟩
  have O2 := O1
  obtain ⟨s1, hp0, dx2, g2, k2, as2, d2, ds2, S2, o3⟩ := O2
  have Sa := S.same s1
  refine ⟨_, rfl, a, CS, dx, _, _, rfl, Sa.ob, T.c_State.cl, T.c_State.no _ (by decide), rfl, g, _, rfl, .inl (SqL.of Sa.gi), ?_⟩
  rw [al]
  refine ⟨_, rfl, fun rg hrg => ⟨rg, _, rfl, upd_same, by omega, fun f0 hf0 => ?_⟩⟩
  have s2 := same_new (o := .rng 0 (r.given.length : Int)) (Same.refl H1) hrg
  have s3 := s2.trans (same_new (o := .lst ((List.range r.given.length).map vn)) (Same.refl _) hf0)
  have Sb := Sa.same s3
  refine ⟨_, rfl, a, CS, dx, _, _, rfl, Sb.ob, T.c_State.cl, T.c_State.no _ (by decide), rfl, g, _, rfl, .inl (SqL.of Sb.gi), ?_⟩
  rw [al]
  refine ⟨_, rfl, r.given.length, rfl, gl, fun H3 ls bs s4 hls ln => ?_⟩
  have s13 := s3.trans s4
  have S3 := S2.same s13
  have Sc := S.same (s1.trans s13)
  have hpa : p ≠ a := fun e => by subst e; rw [S.ob] at hp0; cases hp0
  have hf3 : H3 f0 = some (.lst ((List.range r.given.length).map vn)) := s4 _ _ upd_same
  have nlp : ∀ b xs, H3 b = some (.lst xs) → b ≠ p := fun b xs e => ne_of e S3.ob (by intro z; cases z)
  have ntp : ∀ b xs, H3 b = some (.tup xs) → b ≠ p := fun b xs e => ne_of e S3.ob (by intro z; cases z)
  have bl := ln.len
  refine ⟨ls, rfl, ⟨_, SqL.of hls⟩, for_list (K := K) (a := ls) (xs := bs.map V.ref) (fun i σ H' => (∃ fb v3 v4, σ = [some (.ref a), some (.ref p), some (.ref fb), v3, v4] ∧ H3 fb = some (.lst ((((setsL r.given.length).take i).foldl (fwS r) (List.range r.given.length)).map vn))) ∧ SameX p H3 H' ∧ ∃ g3 as3 gl3, SAt CS H' p { r with given := gl3 } dx2 g3 k2 as3 d2 ds2)
    ⟨⟨f0, none, none, rfl, hf3⟩, fun b o e _ => e, g2, as2, r.given, S3⟩ (fun i σ H' _ ⟨_, z, _⟩ => SqL.of (z _ _ hls (nlp _ _ hls))) ?_ ?_⟩
  · rintro i y σ H' hi ⟨⟨fb, v3, v4, rfl, hfb⟩, sx, g3, as3, gl3, S5⟩
    obtain ⟨c, hc, rfl⟩ := map_at hi
    obtain ⟨x, hx, hH⟩ := ln.at_ hc
    have ef : ((setsL r.given.length).take (i + 1)).foldl (fwS r) (List.range r.given.length) = fwS r (((setsL r.given.length).take i).foldl (fwS r) (List.range r.given.length)) x := by rw [take_snoc hx, List.foldl_append]; rfl
    have hc5 := sx _ _ hH (nlp _ _ hH)
    have hfb5 := sx _ _ hfb (nlp _ _ hfb)
    refine ⟨_, rfl, c, _, rfl, .inl (SqL.of hc5), _, rfl, fb, _, rfl, .inl (SqL.of hfb5), _, _, rfl, rfl, _, rfl, ifD (fun h1 => ?_) fun h1 => ?_⟩
    · rw [List.length_map, List.length_map] at h1
      have Sd : SAt CS H' a r dx g k as d ds := ⟨sx _ _ Sc.ob hpa.symm, sx _ _ Sc.gi (nlp _ _ Sc.gi), Sc.tu.keep fun b xs e => sx _ _ e (ntp _ _ e), sx _ _ Sc.st (nlp _ _ Sc.st), sx _ _ Sc.en (nlp _ _ Sc.en), Sc.te.keep fun b xs e => sx _ _ e (ntp _ _ e)⟩
      refine ⟨_, rfl, a, CS, dx, _, _, rfl, Sd.ob, T.c_State.cl, T.c_State.no _ (by decide), rfl, g, _, rfl, .inl (SqL.of Sd.gi), ?_⟩
      rw [al]
      refine ⟨_, rfl, by omega, by omega, fun D hD => lc_mapR (fun j => if (!decide (j ∈ x)) = true then some (V.ref (as.getD j 0)) else none) hD (by rw [Int.toNat_natCast]; exact Nat.le_trans gl (by decide)) ?_ ?_⟩
      · intro j H6 hj s6 acc hacc hz N k1 k2
        rw [Int.toNat_natCast] at hj
        have Se := Sd.same s6
        have haj : as[j]? = some (as.getD j 0) := by
          rw [List.getD_eq_getElem?_getD, List.getElem?_eq_getElem (by rw [S.tu.len]; exact hj)]
          rfl
        refine ⟨rfl, _, rfl, _, rfl, c, _, rfl, .inl (SqL.of (s6 _ _ hc5)), rfl, flat_nats _, _, rfl, ?_⟩
        rw [in_nats]
        refine ifB (fun h => ?_) fun h => ?_
        · have h : (!decide (j ∈ x)) = true := h
          exact ⟨_, rfl, a, CS, dx, _, _, rfl, Se.ob, T.c_State.cl, T.c_State.no _ (by decide), rfl, _, rfl, g, _, _, V.ref (as.getD j 0), rfl, rfl, SqL.of Se.gi, atI_nat (by rw [List.getElem?_map, haj]; all_goals rfl), acc, hacc, hz, k2 _ _ (Same.refl _) (by rw [if_pos h])⟩
        · have h : (!decide (j ∈ x)) = false := h
          exact k1 _ (Same.refl _) (by rw [if_neg (by rw [h]; exact Bool.false_ne_true)])
      · intro H6 s6 e6
        rw [Int.toNat_natCast, fm_if (fun j => !decide (j ∈ x)) (fun j => V.ref (as.getD j 0))] at e6
        have e6 : H6 D = some (.lst ((((List.range r.given.length).filter fun j => !decide (j ∈ x)).map fun j => as.getD j 0).map V.ref)) := by rw [e6, List.map_map]; rfl
        have S6 := S5.same s6
        have Sf := Sd.same s6
        refine ⟨_, rfl, p, CS, dx2, _, rfl, S6.ob, T.c_State.cl, T.c_State.no _ (by decide), (by show 7 < 1000; decide), ?_⟩
        have S7 := S6.put (r' := strk r x) (fs := putF "given" (.ref D) (sf { r with given := gl3 } g3 k2 d2)) D k2 d2 (((List.range r.given.length).filter fun j => !decide (j ∈ x)).map fun j => as.getD j 0) ds2 rfl e6
          (Tups.pick Sf.tu fun j hj => List.mem_range.mp (List.mem_filter.mp hj).1) S6.st S6.en S6.te
        have sx7 : SameX p H3 (upd H6 p (.ins CS dx2 (putF "given" (.ref D) (sf { r with given := gl3 } g3 k2 d2)))) := fun b o e n => by
          rw [upd_ne n]
          exact s6 _ _ (sx _ _ e n)
        refine ⟨_, rfl, _, rfl, p, strk r x, rfl, ⟨dx2, D, k2, _, d2, ds2, S7⟩, G.strk x, _, rfl, ifB (fun h2 => ?_) fun h2 => ?_⟩
        · refine ⟨_, rfl, ⟨c, _, _, rfl, ?_⟩, sx7, D, _, _, S7⟩
          rw [ef, fwS_y h1 h2]
          exact hH
        · refine ⟨⟨fb, _, _, rfl, ?_⟩, sx7, D, _, _, S7⟩
          rw [ef, fwS_n h1 h2]
          exact hfb
    · rw [List.length_map, List.length_map] at h1
      refine ⟨⟨fb, _, _, rfl, ?_⟩, sx, g3, as3, gl3, S5⟩
      rw [ef, fwS_m h1]
      exact hfb
  · rintro σ H' ⟨⟨fb, v3, v4, rfl, hfb⟩, sx, _⟩
    rw [List.length_map, bl, List.take_length] at hfb
    refine ⟨_, rfl, q _ fb (fun b o e => sx _ _ ((s1.trans s13) _ _ e) (ne_of_none e hp0)) (sx _ _ hfb (nlp _ _ hfb))⟩
end
end DY
namespace DY
open PySem PySem.Spec PyProof.Rows L2 DX DM
open Krb7 (full)
def nth? (l : List Nat) (k : Nat) : List Int := match l[k]? with
  | none => [-33]
  | some x => [(x : Int)]
def cgt (r : Rec) : Option Nat := (List.range (r.given.length + 1)).find? fun i => stb r i == 0
def dBad (r : Rec) (_ : List Nat) : List Int := lst (bads r)
def dFirst (r : Rec) (_ : List Nat) : List Int := match bads r with
  | [] => [-33]
  | i :: _ => [(i : Int), (rgt r i : Int)]
def dCaught (r : Rec) (_ : List Nat) : List Int := match cgt r with
  | none => [-33]
  | some i => [(i : Int)]
def dMended (r : Rec) (_ : List Nat) : List Int := lst (rowA r r.laid (r.given.map (·.1)))
def dLeast (r : Rec) (_ : List Nat) : List Int := lst (fewest r)
def dLaids (r : Rec) (_ : List Nat) : List Int := [((lds r).length : Int)]
def dLaid (r : Rec) (ns : List Nat) : List Int := nth? (lds r) (ns.getD 0 0)
def dKnowns (r : Rec) (_ : List Nat) : List Int := [((kns r).length : Int)]
def dKnown (r : Rec) (ns : List Nat) : List Int := nth? (kns r) (ns.getD 0 0)
def dOther (r : Rec) (_ : List Nat) : List Int := lst (bads (oth r))
def dClash (r : Rec) (ns : List Nat) : List Int := [if clB r (ns.getD 0 0) (ns.getD 1 0) = true then 1 else 0]
def dClashes (r : Rec) (_ : List Nat) : List Int := [(cnt r (cc r).length : Int)]
def dVerdict (r : Rec) (_ : List Nat) : List Int := [(vdt r : Int)]
theorem cgt_some {r : Rec} {n : Nat} (h1 : n ≤ r.given.length) (h2 : stb r n = 0) (h3 : ∀ j, j < n → ¬ stb r j = 0) : cgt r = some n := by
  unfold cgt
  rw [List.find?_range_eq_some]
  exact ⟨by rw [h2]; rfl, List.mem_range.mpr (by omega), fun j hj => by have := h3 j hj; simpa using this⟩
theorem cgt_none {r : Rec} (h : ¬ now r = 0) : cgt r = none := by
  unfold cgt
  rw [List.find?_eq_none]
  intro i hi z
  have hi := List.mem_range.mp hi
  have z : stb r i = 0 := by simpa using z
  have := stb_mono r (show i ≤ r.given.length by omega)
  rw [stb_all] at this
  omega
theorem bads_lt {r : Rec} {i : Nat} (h : i ∈ bads r) : i < r.given.length := List.mem_range.mp (List.mem_filter.mp h).1
theorem bads_len (r : Rec) : (bads r).length ≤ r.given.length := by
  unfold bads
  have := List.length_filter_le (badB r) (List.range r.given.length)
  rwa [List.length_range] at this
theorem pos_len (r : Rec) : (pos r).length = full r.m := by unfold pos; rw [List.length_map, List.length_range]
theorem fewest_len (r : Rec) : (fewest r).length ≤ r.given.length := by
  unfold fewest
  have : ∀ (L : List (List Nat)) (b : List Nat), b.length ≤ r.given.length → (L.foldl (fwS r) b).length ≤ r.given.length := by
    intro L
    induction L with
    | nil => intro b h; exact h
    | cons x L ih =>
      intro b h
      refine ih _ ?_
      unfold fwS
      repeat' split
      all_goals omega
  exact this _ _ (by rw [List.length_range]; exact Nat.le_refl _)
section
variable {P : Program} {w : World} {K : PySem.W.Frag} {mg : Str → Option Value} {base : Heap} {CS CH : Addr}
def pCounted : V → Hp → VK → Prop := fun a H Q => ∃ (l : Addr) (ns : List Nat), a = .ref l ∧ H l = some (.lst (ns.map vn)) ∧ ns.length ≤ 65536 ∧ ∀ H' p, H p = none → Same H H' → H' p = some (.lst ((lst ns).map V.int)) → Q (.ref p) H'
theorem ok_counted (T : Txt K mg CS CH) : Ok P w K mg base 1 "counted" ["numbers"] (sp1 pCounted) := by
  refine ok1 T.f_counted sc_counted (fun _ _ _ _ _ _ _ => rfl) fun f cdv A outer s H a Q E hr h => ?_
  obtain ⟨l, ns, rfl, hl, hz, q⟩ := h
  refine ⟨_, (pss_one (ps_ret (pe_op op_cat (pe_lst (pa_cons (pe_callB call_len_seq rfl T.no_len PySem.boot_len (pa_cons (pv 0) pa_nil)) pa_nil)) (pv 0)))), ?_⟩
  refine ⟨_, rfl, l, _, rfl, .inl (SqL.of hl), ?_⟩
  obtain ⟨z1, z2⟩ := back_list (o := none) (Q := Q) (Same.refl H) hl hz (dr := lst ns) rfl q
  exact ⟨z1, fun p1 hp1 => ⟨_, rfl, z2 p1 hp1⟩⟩
def pOneOf : V → V → Hp → VK → Prop := fun a b H Q => ∃ (l : Addr) (ns : List Nat) (k : Nat), a = .ref l ∧ b = vn k ∧ H l = some (.lst (ns.map vn)) ∧ ∀ H' p, H p = none → Same H H' → H' p = some (.lst ((nth? ns k).map V.int)) → Q (.ref p) H'
theorem ok_one_of (T : Txt K mg CS CH) : Ok P w K mg base 1 "one_of" ["found", "k"] (sp2 pOneOf) := by
  refine ok2 T.f_one_of sc_one_of (fun _ _ _ _ _ _ _ _ => rfl) fun f cdv A outer s H a b Q E hr h => ?_
  obtain ⟨l, ns, k, rfl, rfl, hl, q⟩ := h
  refine ⟨_, (pss_cons (ps_if (pt_cmpR on_ge (pv 1) (pe_callB call_len_seq rfl T.no_len PySem.boot_len (pa_cons (pv 0) pa_nil)) (nomark _))
      (pss_one (ps_ret (pe_lst (pa_cons (pgi T.g_CANNOT) pa_nil))))
      pss_nil)
      (pss_one (ps_ret (pe_lst (pa_cons (pe_ix ix_list (pv 0) (pv 1) (fun _ _ => rfl)) pa_nil))))), ?_⟩
  refine ⟨_, rfl, _, rfl, l, _, rfl, .inl (SqL.of hl), _, _, rfl, rfl, _, rfl, ifD (fun h1 => ?_) fun h1 => ?_⟩
  · rw [List.length_map] at h1
    exact stay (Same.refl H) (c := [-33]) (by unfold nth?; rw [List.getElem?_eq_none h1]) rfl (by show 1 ≤ sizeLine; decide) q
  · rw [List.length_map] at h1
    have hk : ns[k]? = some (ns.getD k 0) := by rw [List.getD_eq_getElem?_getD, List.getElem?_eq_getElem (by omega)]; rfl
    refine ⟨_, rfl, _, rfl, l, _, _, vn (ns.getD k 0), rfl, rfl, SqL.of hl, atI_nat (by rw [List.getElem?_map, hk]; all_goals rfl), ?_⟩
    exact stay (Same.refl H) (c := [(ns.getD k 0 : Int)]) (by unfold nth?; rw [hk]) rfl (by show 1 ≤ sizeLine; decide) q
theorem ok_bad (T : Txt K mg CS CH) : Ok P w K mg base 8 "bad" ["state", "numbers"] (sp2 (pAsk K CS dBad fun _ => True)) := by
  refine ok2 T.f_bad sc_bad (fun _ _ _ _ _ _ _ _ => rfl) fun f cdv A outer s H a b Q E hr h => ?_
  obtain ⟨a, l, r, ns, rfl, rfl, S0, G, hl, hn, q⟩ := h
  have gl := G.gl
  have b8 := bads_len r
  refine ⟨_, (pss_one (ps_ret (pcall (ok_counted T) hr (pa_cons (pcall (ok_bad_answers T) hr (pa_cons (pv 0) pa_nil)) pa_nil)))), ?_⟩
  exact ⟨_, rfl, _, rfl, a, r, rfl, S0, G, fun H1 bl s1 hbl => ⟨_, rfl, bl, bads r, rfl, hbl, by omega, fun H2 p hp s2 h2 => q _ p (s1.free hp) (s1.trans s2) h2⟩⟩
theorem ok_first (T : Txt K mg CS CH) : Ok P w K mg base 8 "first" ["state", "numbers"] (sp2 (pAsk K CS dFirst fun _ => True)) := by
  refine ok2 T.f_first sc_first (fun _ _ _ _ _ _ _ _ => rfl) fun f cdv A outer s H a b Q E hr h => ?_
  obtain ⟨a, l, r, ns, rfl, rfl, S0, G, hl, hn, q⟩ := h
  refine ⟨_, (pss_cons (ps_set (i := 2) sc_first.nd rfl (Or.inl rfl) (pcall (ok_bad_answers T) hr (pa_cons (pv 0) pa_nil)))
      (pss_cons (ps_if (pt_cmpR on_eq (pe_callB call_len_seq rfl T.no_len PySem.boot_len (pa_cons (pv 2) pa_nil)) (pn 0) (nomark _))
      (pss_one (ps_ret (pe_lst (pa_cons (pgi T.g_CANNOT) pa_nil))))
      pss_nil)
      (pss_one (ps_ret (pe_lst (pa_cons (pe_ix ix_list (pv 2) (pn 0) (fun _ _ => rfl)) (pa_cons (pcall (ok_right_answer T) hr (pa_cons (pv 0) (pa_cons (pe_ix ix_list (pv 2) (pn 0) (fun _ _ => rfl)) pa_nil))) pa_nil))))))), ?_⟩
  refine ⟨_, rfl, _, rfl, a, r, rfl, S0, G, fun H1 bl s1 hbl => ?_⟩
  refine ⟨_, rfl, bl, _, rfl, .inl (SqL.of hbl), _, _, rfl, rfl, _, rfl, ifD (fun h1 => ?_) fun h1 => ?_⟩
  · rw [List.length_map] at h1
    have e : bads r = [] := List.eq_nil_of_length_eq_zero h1
    exact stay s1 (c := [-33]) (by unfold dFirst; rw [e]) rfl (by show 1 ≤ sizeLine; decide) q
  · rw [List.length_map] at h1
    obtain ⟨i, rest, e⟩ : ∃ i rest, bads r = i :: rest := by
      cases e : bads r with
      | nil => rw [e] at h1; exact absurd rfl h1
      | cons i rest => exact ⟨i, rest, rfl⟩
    have hi : i < r.given.length := bads_lt (by rw [e]; simp)
    have h0 : atI ((bads r).map vn) ((0 : Nat) : Int) = some (vn i) := atI_nat (by rw [e]; rfl)
    refine ⟨_, rfl, bl, _, _, _, rfl, rfl, SqL.of hbl, h0, _, rfl, _, rfl, bl, _, _, _, rfl, rfl, SqL.of hbl, h0, _, _, rfl, a, r, i, rfl, rfl, S0.same s1, G, hi, fun H2 s2 => ?_⟩
    exact stay (s1.trans s2) (c := [(i : Int), (rgt r i : Int)]) (by unfold dFirst; rw [e]) rfl (by show 2 ≤ sizeLine; decide) q
theorem ok_caught (T : Txt K mg CS CH) : Ok P w K mg base 5 "caught" ["state", "numbers"] (sp2 (pAsk K CS dCaught fun _ => True)) := by
  refine ok2 T.f_caught sc_caught (fun _ _ _ _ _ _ _ _ => rfl) fun f cdv A outer s H a b Q E hr h => ?_
  obtain ⟨a, l, r, ns, rfl, rfl, S0, G, hl, hn, q⟩ := h
  refine ⟨_, (pss_cons (ps_if (pt_not (pt_val (pcall (ok_is_caught T) hr (pa_cons (pv 0) pa_nil))))
      (pss_one (ps_ret (pe_lst (pa_cons (pgi T.g_CANNOT) pa_nil))))
      pss_nil)
      (pss_one (ps_ret (pe_lst (pa_cons (pcall (ok_caught_behind T) hr (pa_cons (pv 0) pa_nil)) pa_nil))))), ?_⟩
  refine ⟨_, rfl, _, rfl, a, r, rfl, S0, G, fun H1 s1 => ⟨_, rfl, ifB (fun h1 => ?_) fun h1 => ?_⟩⟩
  · have h1 : ¬ now r = 0 := by simpa using h1
    exact stay s1 (c := [-33]) (by unfold dCaught; rw [cgt_none h1]) rfl (by show 1 ≤ sizeLine; decide) q
  · have h1 : now r = 0 := by simpa using h1
    refine ⟨_, rfl, _, rfl, a, r, rfl, S0.same s1, G, h1, fun n H2 n1 n2 n3 s2 => ?_⟩
    exact stay (s1.trans s2) (c := [(n : Int)]) (by unfold dCaught; rw [cgt_some n1 n2 n3]) rfl (by show 1 ≤ sizeLine; decide) q
theorem ok_mended (T : Txt K mg CS CH) : Ok P w K mg base 7 "mended" ["state", "numbers"] (sp2 (pAsk K CS dMended fun _ => True)) := by
  refine ok2 T.f_mended sc_mended (fun _ _ _ _ _ _ _ _ => rfl) fun f cdv A outer s H a b Q E hr h => ?_
  obtain ⟨a, l, r, ns, rfl, rfl, S0, G, hl, hn, q⟩ := h
  have gl := G.gl
  refine ⟨_, (pss_one (ps_ret (pcall (ok_counted T) hr (pa_cons (pcall (ok_mended_answers T) hr (pa_cons (pv 0) pa_nil)) pa_nil)))), ?_⟩
  exact ⟨_, rfl, _, rfl, a, r, rfl, S0, G, fun H1 bl s1 hbl => ⟨_, rfl, bl, _, rfl, hbl, by rw [rowA_len, List.length_map]; omega, fun H2 p hp s2 h2 => q _ p (s1.free hp) (s1.trans s2) h2⟩⟩
theorem ok_least (T : Txt K mg CS CH) : Ok P w K mg base 7 "least" ["state", "numbers"] (sp2 (pAsk K CS dLeast fun _ => True)) := by
  refine ok2 T.f_least sc_least (fun _ _ _ _ _ _ _ _ => rfl) fun f cdv A outer s H a b Q E hr h => ?_
  obtain ⟨a, l, r, ns, rfl, rfl, S0, G, hl, hn, q⟩ := h
  have gl := G.gl
  have f8 := fewest_len r
  refine ⟨_, (pss_one (ps_ret (pcall (ok_counted T) hr (pa_cons (pcall (ok_fewest_to_strike T) hr (pa_cons (pv 0) pa_nil)) pa_nil)))), ?_⟩
  exact ⟨_, rfl, _, rfl, a, r, rfl, S0, G, fun H1 bl s1 hbl => ⟨_, rfl, bl, _, rfl, hbl, by omega, fun H2 p hp s2 h2 => q _ p (s1.free hp) (s1.trans s2) h2⟩⟩
theorem ok_laids (T : Txt K mg CS CH) : Ok P w K mg base 7 "laids" ["state", "numbers"] (sp2 (pAsk K CS dLaids fun _ => True)) := by
  refine ok2 T.f_laids sc_laids (fun _ _ _ _ _ _ _ _ => rfl) fun f cdv A outer s H a b Q E hr h => ?_
  obtain ⟨a, l, r, ns, rfl, rfl, S0, G, hl, hn, q⟩ := h
  refine ⟨_, (pss_one (ps_ret (pe_lst (pa_cons (pe_callB call_len_seq rfl T.no_len PySem.boot_len (pa_cons (pcall (ok_right_if_laid T) hr (pa_cons (pv 0) pa_nil)) pa_nil)) pa_nil)))), ?_⟩
  refine ⟨_, rfl, _, rfl, a, r, rfl, S0, G, fun H1 bl s1 hbl => ⟨bl, _, rfl, .inl (SqL.of hbl), ?_⟩⟩
  rw [List.length_map]
  exact stay s1 (c := [((lds r).length : Int)]) rfl rfl (by show 1 ≤ sizeLine; decide) q
theorem ok_laid (T : Txt K mg CS CH) : Ok P w K mg base 7 "laid" ["state", "numbers"] (sp2 (pAsk K CS dLaid fun ns => ns.length = 1)) := by
  refine ok2 T.f_laid sc_laid (fun _ _ _ _ _ _ _ _ => rfl) fun f cdv A outer s H a b Q E hr h => ?_
  obtain ⟨a, l, r, ns, rfl, rfl, S0, G, hl, hn, q⟩ := h
  refine ⟨_, (pss_one (ps_ret (pcall (ok_one_of T) hr (pa_cons (pcall (ok_right_if_laid T) hr (pa_cons (pv 0) pa_nil)) (pa_cons (pe_ix ix_list (pv 1) (pn 0) (fun _ _ => rfl)) pa_nil))))), ?_⟩
  exact ⟨_, rfl, _, rfl, a, r, rfl, S0, G, fun H1 bl s1 hbl => ⟨_, rfl, l, _, _, _, rfl, rfl, s1.seq hl, at1 hn, _, _, rfl, bl, _, _, rfl, rfl, hbl, fun H2 p hp s2 h2 => q _ p (s1.free hp) (s1.trans s2) h2⟩⟩
theorem ok_knowns (T : Txt K mg CS CH) : Ok P w K mg base 7 "knowns" ["state", "numbers"] (sp2 (pAsk K CS dKnowns fun _ => True)) := by
  refine ok2 T.f_knowns sc_knowns (fun _ _ _ _ _ _ _ _ => rfl) fun f cdv A outer s H a b Q E hr h => ?_
  obtain ⟨a, l, r, ns, rfl, rfl, S0, G, hl, hn, q⟩ := h
  refine ⟨_, (pss_one (ps_ret (pe_lst (pa_cons (pe_callB call_len_seq rfl T.no_len PySem.boot_len (pa_cons (pcall (ok_right_if_known T) hr (pa_cons (pv 0) pa_nil)) pa_nil)) pa_nil)))), ?_⟩
  refine ⟨_, rfl, _, rfl, a, r, rfl, S0, G, fun H1 bl s1 hbl => ⟨bl, _, rfl, .inl (SqL.of hbl), ?_⟩⟩
  rw [List.length_map]
  exact stay s1 (c := [((kns r).length : Int)]) rfl rfl (by show 1 ≤ sizeLine; decide) q
theorem ok_known (T : Txt K mg CS CH) : Ok P w K mg base 7 "known" ["state", "numbers"] (sp2 (pAsk K CS dKnown fun ns => ns.length = 1)) := by
  refine ok2 T.f_known sc_known (fun _ _ _ _ _ _ _ _ => rfl) fun f cdv A outer s H a b Q E hr h => ?_
  obtain ⟨a, l, r, ns, rfl, rfl, S0, G, hl, hn, q⟩ := h
  refine ⟨_, (pss_one (ps_ret (pcall (ok_one_of T) hr (pa_cons (pcall (ok_right_if_known T) hr (pa_cons (pv 0) pa_nil)) (pa_cons (pe_ix ix_list (pv 1) (pn 0) (fun _ _ => rfl)) pa_nil))))), ?_⟩
  exact ⟨_, rfl, _, rfl, a, r, rfl, S0, G, fun H1 bl s1 hbl => ⟨_, rfl, l, _, _, _, rfl, rfl, s1.seq hl, at1 hn, _, _, rfl, bl, _, _, rfl, rfl, hbl, fun H2 p hp s2 h2 => q _ p (s1.free hp) (s1.trans s2) h2⟩⟩
theorem ok_other (T : Txt K mg CS CH) : Ok P w K mg base 9 "other" ["state", "numbers"] (sp2 (pAsk K CS dOther fun _ => True)) := by
  refine ok2 T.f_other sc_other (fun _ _ _ _ _ _ _ _ => rfl) fun f cdv A outer s H a b Q E hr h => ?_
  obtain ⟨a, l, r, ns, rfl, rfl, S0, G, hl, hn, q⟩ := h
  have gl := G.gl
  have b8 : (bads (oth r)).length ≤ r.given.length := bads_len (oth r)
  refine ⟨_, (pss_one (ps_ret (pcall (ok_counted T) hr (pa_cons (pcall (ok_bad_by_other_rule T) hr (pa_cons (pv 0) pa_nil)) pa_nil)))), ?_⟩
  exact ⟨_, rfl, _, rfl, a, r, rfl, S0, G, fun H1 bl s1 hbl => ⟨_, rfl, bl, _, rfl, hbl, by omega, fun H2 p hp s2 h2 => q _ p (s1.free hp) (s1.trans s2) h2⟩⟩
theorem ok_clash (T : Txt K mg CS CH) : Ok P w K mg base 6 "clash" ["state", "numbers"] (sp2 (pAsk K CS dClash fun ns => ns.length = 2)) := by
  refine ok2 T.f_clash sc_clash (fun _ _ _ _ _ _ _ _ => rfl) fun f cdv A outer s H a b Q E hr h => ?_
  obtain ⟨a, l, r, ns, rfl, rfl, S0, G, hl, hn, q⟩ := h
  refine ⟨_, (pss_one (ps_ret (pe_lst (pa_cons (pe_ifExp (pt_val (pcall (ok_do_clash T) hr (pa_cons (pv 0) (pa_cons (pe_ix ix_list (pv 1) (pn 0) (fun _ _ => rfl)) (pa_cons (pe_ix ix_list (pv 1) (pn 1) (fun _ _ => rfl)) pa_nil))))) (pn 1) (pn 0)) pa_nil)))), ?_⟩
  refine ⟨_, rfl, _, rfl, l, _, _, _, rfl, rfl, hl, (at2 hn).1, _, rfl, l, _, _, _, rfl, rfl, hl, (at2 hn).2, _, _, _, rfl, a, r, _, _, rfl, rfl, rfl, S0, _, rfl, ifB (fun h1 => ?_) fun h1 => ?_⟩
  · exact stay (Same.refl H) (c := [1]) (by unfold dClash; rw [if_pos h1]) rfl (by show 1 ≤ sizeLine; decide) q
  · exact stay (Same.refl H) (c := [0]) (by unfold dClash; rw [if_neg (by rw [h1]; exact Bool.false_ne_true)]) rfl (by show 1 ≤ sizeLine; decide) q
theorem ok_clashes (T : Txt K mg CS CH) : Ok P w K mg base 6 "clashes" ["state", "numbers"] (sp2 (pAsk K CS dClashes fun _ => True)) := by
  refine ok2 T.f_clashes sc_clashes (fun _ _ _ _ _ _ _ _ => rfl) fun f cdv A outer s H a b Q E hr h => ?_
  obtain ⟨a, l, r, ns, rfl, rfl, S0, G, hl, hn, q⟩ := h
  refine ⟨_, (pss_one (ps_ret (pe_lst (pa_cons (pcall (ok_clashing_pairs T) hr (pa_cons (pv 0) pa_nil)) pa_nil)))), ?_⟩
  exact ⟨_, rfl, _, rfl, a, r, rfl, S0, G, fun H1 s1 => stay s1 (c := [(cnt r (cc r).length : Int)]) rfl rfl (by show 1 ≤ sizeLine; decide) q⟩
theorem ok_verdict (T : Txt K mg CS CH) : Ok P w K mg base 9 "verdict" ["state", "numbers"] (sp2 (pAsk K CS dVerdict fun _ => True)) := by
  refine ok2 T.f_verdict sc_verdict (fun _ _ _ _ _ _ _ _ => rfl) fun f cdv A outer s H a b Q E hr h => ?_
  obtain ⟨a, l, r, ns, rfl, rfl, S0, G, hl, hn, q⟩ := h
  refine ⟨_, (pss_one (ps_ret (pe_lst (pa_cons (pcall (ok_verdict_on T) hr (pa_cons (pv 0) pa_nil)) pa_nil)))), ?_⟩
  exact ⟨_, rfl, _, rfl, a, r, rfl, S0, G, fun H1 s1 => stay s1 (c := [(vdt r : Int)]) rfl rfl (by show 1 ≤ sizeLine; decide) q⟩
end
end DY
namespace DY
open PySem PySem.Spec PyProof.Rows L2 DX DM
open Krb7 (full)
theorem path_to {n B : Nat} {nx1 nx2 : Nat → Nat → Nat} (h : ∀ t, t ≤ B → ∀ i, nx1 t i = nx2 t i) (le : ∀ t i, nx1 t i ≤ t) : ∀ {k b s : Nat}, b ≤ B → Path n nx1 k b s → Path n nx2 k b s ∧ s ≤ b
  | 0, b, s, hb, p => by
    have p : s = b := p
    subst p
    exact ⟨rfl, Nat.le_refl _⟩
  | k + 1, b, s, hb, ⟨t, p, i, hi, e⟩ => by
    obtain ⟨q, l⟩ := path_to h le (k := k) hb p
    subst e
    exact ⟨⟨t, q, i, hi, h t (Nat.le_trans l hb) i⟩, Nat.le_trans (le t i) l⟩
def foeR (r : Rec) : Krc9.House := ⟨r.m, r.known, now r, r.stock⟩
theorem nx_foe {r : Rec} (G : Good r) {b : Nat} (hb : b ≤ full r.m) (i : Nat) : nxt (foeR r) b i = nxS (rul0 r) b i := by
  have hp : r.stock.getD i 0 ≤ full r.m := by
    rw [List.getD_eq_getElem?_getD]
    cases e : r.stock[i]? with
    | none => exact Nat.zero_le _
    | some p => exact G.st p (List.mem_of_getElem? e)
  show Krb7.behind r.m b (r.stock.getD i 0) (Krb7.right r.known b (r.stock.getD i 0)) = nrw b (r.stock.getD i 0) (Krb7.right r.known b (r.stock.getD i 0))
  exact behind_eq hb hp
theorem Bf.path {r : Rec} {k : Nat} {R : Rw} (h : Bf r k R) : ∀ y ∈ R, ∃ j, Path r.stock.length (nxS r) j (now r) y.1 := by
  induction h with
  | start =>
    intro y hy
    have e : y = (now r, []) := by simpa using hy
    subst e
    exact ⟨0, rfl⟩
  | @step k s w R h e ih =>
    obtain ⟨C, Kd⟩ := kids_of (nx := nxS r) s w R r.stock.length
    rw [Kd.eq]
    intro y hy
    rcases List.mem_append.mp hy with hy | hy
    · exact ih y hy
    · obtain ⟨i, hi, e1⟩ := Kd.of y hy
      subst e1
      obtain ⟨j, hj⟩ := ih (s, w) (List.mem_of_getElem? e)
      exact ⟨j + 1, s, hj, i, hi, rfl⟩
theorem Bf.clos {r : Rec} {k : Nat} {R : Rw} (h : Bf r k R) : now r ∈ R.map (·.1) ∧ ∀ i, i < k → ∀ y, R[i]? = some y → ∀ p, p < r.stock.length → nxS r y.1 p ∈ R.map (·.1) := by
  induction h with
  | start => exact ⟨by simp, fun i hi => absurd hi (Nat.not_lt_zero i)⟩
  | @step k s w R h e ih =>
    obtain ⟨C, Kd⟩ := kids_of (nx := nxS r) s w R r.stock.length
    have hk : k < R.length := (List.getElem?_eq_some_iff.mp e).1
    rw [Kd.eq]
    refine ⟨by rw [List.map_append]; exact List.mem_append_left _ ih.1, fun i hi y hy p hp => ?_⟩
    by_cases z : i = k
    · subst z
      rw [List.getElem?_append_left hk, e] at hy
      cases hy
      exact Kd.all p hp
    · rw [List.getElem?_append_left (by omega)] at hy
      rw [List.map_append]
      exact List.mem_append_left _ (ih.2 i (by omega) y hy p hp)
theorem bf_reach {r : Rec} (G : Good r) {R : Rw} (h : Bf (rul0 r) R.length R) : R.length = (foeR r).reach.length := by
  have hla := G.la
  have hnow : now r ≤ full r.m := Nat.le_trans (now_le r) hla
  have nd := (h.sb G.rul0).nd
  have e := reach_len (h := foeR r) (l := R.map (·.1)) (G.now_lt) hnow nd (fun x => ⟨fun hx => ?_, fun hx => ?_⟩)
  · rw [e, List.length_map]
  · obtain ⟨y, hy, e⟩ := List.mem_map.mp hx
    subst e
    obtain ⟨j, hj⟩ := h.path y hy
    exact ⟨j, (path_to (B := full r.m) (nx1 := nxS (rul0 r)) (nx2 := nxt (foeR r)) (fun t ht i => (nx_foe G ht i).symm) (fun t i => nrw_le) hnow hj).1⟩
  · obtain ⟨j, hj⟩ := hx
    have hj := (path_to (B := full r.m) (nx1 := nxt (foeR r)) (nx2 := nxS (rul0 r)) (fun t ht i => nx_foe G ht i) (fun t i => behind_le) hnow hj).1
    have all : ∀ j x, Path r.stock.length (nxS (rul0 r)) j (now r) x → x ∈ R.map (·.1) := by
      intro j
      induction j with
      | zero =>
        intro x hx
        have hx : x = now r := hx
        subst hx
        exact h.clos.1
      | succ j ih =>
        rintro x ⟨t, ht, i, hi, rfl⟩
        obtain ⟨y, hy, e⟩ := List.mem_map.mp (ih t ht)
        obtain ⟨k, hk, ek⟩ := List.mem_iff_getElem.mp hy
        have := h.clos.2 k hk y (by rw [List.getElem?_eq_getElem hk, ek]) i hi
        rw [e] at this
        exact this
    exact all j x hj
def dReach (r : Rec) (_ : List Nat) : List Int := if r.laid = 0 then [-6] else [((foeR r).reach.length : Int)]
def dLetter (r : Rec) (ns : List Nat) : List Int := if r.m ≤ ns.getD 0 0 then [-2] else [(Krb7.letter r.m (ns.getD 0 0) : Int)]
def okAll (r : Rec) (ns : List Nat) : Prop := (ns.all fun p => decide (p ≤ full r.m)) = true
instance (r : Rec) (ns : List Nat) : Decidable (okAll r ns) := inferInstanceAs (Decidable (_ = true))
def dNot (r : Rec) (ns : List Nat) : List Int := if ¬ okAll r ns then [-22] else [((full r.m - ns.getD 0 0 : Nat) : Int)]
def dBoth (r : Rec) (ns : List Nat) : List Int := if ¬ okAll r ns then [-22] else [((ns.getD 0 0 &&& ns.getD 1 0 : Nat) : Int)]
def dEither (r : Rec) (ns : List Nat) : List Int := if ¬ okAll r ns then [-22] else [((ns.getD 0 0 ||| ns.getD 1 0 : Nat) : Int)]
def dIf (r : Rec) (ns : List Nat) : List Int := if ¬ okAll r ns then [-22] else [(((full r.m - ns.getD 0 0) ||| ns.getD 1 0 : Nat) : Int)]
def dSums (r : Rec) (_ : List Nat) : List Int := [(r.ended.length : Int), (nat (r.ended.map (·.1))).sum, (nat (r.ended.map (·.2))).sum]
theorem ok1_le {r : Rec} {ns : List Nat} (h : okAll r ns) (hn : ns.length = 1) : ns.getD 0 0 ≤ full r.m := by
  match ns, hn with
  | [a], _ => exact of_decide_eq_true (List.all_eq_true.mp h a (by simp))
theorem ok2_le {r : Rec} {ns : List Nat} (h : okAll r ns) (hn : ns.length = 2) : ns.getD 0 0 ≤ full r.m := by
  match ns, hn with
  | [a, b], _ => exact of_decide_eq_true (List.all_eq_true.mp h a (by simp))
theorem Tups.zip {H : Hp} : ∀ {ds : List Addr} {l : List (Nat × Nat)}, Tups H ds l → (ds.zip l).map (fun x => V.ref x.1) = ds.map V.ref ∧ (ds.zip l).map (fun x => x.2) = l ∧ ∀ (i : Nat) (x : Addr × (Nat × Nat)), (ds.zip l)[i]? = some x → H x.1 = some (.tup [vn x.2.1, vn x.2.2])
  | [], [], _ => ⟨rfl, rfl, fun i x e => by simp at e⟩
  | a :: ds, y :: l, h => by
    obtain ⟨e1, e2, e3⟩ := Tups.zip h.2
    refine ⟨?_, ?_, fun i x e => ?_⟩
    · show V.ref a :: (ds.zip l).map _ = V.ref a :: ds.map V.ref
      rw [e1]
    · show y :: (ds.zip l).map _ = y :: l
      rw [e2]
    · cases i with
      | zero =>
        have e : (a, y) = x := Option.some.inj e
        subst e
        exact h.1
      | succ i => exact e3 i x e
  | [], _ :: _, h => h.elim
  | _ :: _, [], h => h.elim
section
variable {P : Program} {w : World} {K : PySem.W.Frag} {mg : Str → Option Value} {base : Heap} {CS CH : Addr}
theorem ok_reach (T : Txt K mg CS CH) : Ok P w K mg base 8 "reach" ["state", "numbers"] (sp2 (pAsk K CS dReach fun _ => True)) := by
  refine ok2 T.f_reach sc_reach (fun _ _ _ _ _ _ _ _ => rfl) fun f cdv A outer s H a b Q E hr h => ?_
  obtain ⟨a, l, r, ns, rfl, rfl, S0, G, hl, hn, q⟩ := h
  refine ⟨_, (pss_cons (ps_if (pt_val (pcall (ok_none_laid T) hr (pa_cons (pv 0) pa_nil)))
      (pss_one (ps_ret (pe_lst (pa_cons (pgi T.g_NOTHING) pa_nil))))
      pss_nil)
      (pss_one (ps_ret (pe_lst (pa_cons (pcall (ok_reached_by_rule_0 T) hr (pa_cons (pv 0) pa_nil)) pa_nil))))), ?_⟩
  refine ⟨_, rfl, _, rfl, a, r, rfl, S0, _, rfl, ifD (fun h2 => ?_) fun h2 => ?_⟩
  · exact stay (Same.refl H) (c := [-6]) (by unfold dReach; rw [if_pos h2]) rfl (by show 1 ≤ sizeLine; decide) q
  · refine ⟨_, rfl, _, rfl, a, r, rfl, S0, G, fun H1 R s1 B => ?_⟩
    rw [bf_reach G B]
    exact stay s1 (c := [((foeR r).reach.length : Int)]) (by unfold dReach; rw [if_neg h2]) rfl (by show 1 ≤ sizeLine; decide) q
theorem ok_letter (T : Txt K mg CS CH) : Ok P w K mg base 2 "letter" ["state", "numbers"] (sp2 (pAsk K CS dLetter fun ns => ns.length = 1)) := by
  refine ok2 T.f_letter sc_letter (fun _ _ _ _ _ _ _ _ => rfl) fun f cdv A outer s H a b Q E hr h => ?_
  obtain ⟨a, l, r, ns, rfl, rfl, S0, G, hl, hn, q⟩ := h
  have S1 := S0
  obtain ⟨dx, g, k, as, d, ds, S⟩ := S1
  refine ⟨_, (pss_cons (ps_if (pt_cmpR on_ge (pe_ix ix_list (pv 1) (pn 0) (fun _ _ => rfl)) (pe_fld (pv 0) rfl) (nomark _))
      (pss_one (ps_ret (pe_lst (pa_cons (pgi T.g_NO_SUCH) pa_nil))))
      pss_nil)
      (pss_one (ps_ret (pe_lst (pa_cons (pcall (ok_letter_is_so T) hr (pa_cons (pe_fld (pv 0) rfl) (pa_cons (pe_ix ix_list (pv 1) (pn 0) (fun _ _ => rfl)) pa_nil))) pa_nil))))), ?_⟩
  refine ⟨_, rfl, l, _, _, _, rfl, rfl, hl, at1 hn, _, rfl, a, CS, dx, _, _, rfl, S.ob, T.c_State.cl, T.c_State.no _ (by decide), rfl, _, _, rfl, rfl, _, rfl, ifD (fun h1 => ?_) fun h1 => ?_⟩
  · exact stay (Same.refl H) (c := [-2]) (by unfold dLetter; rw [if_pos h1]) rfl (by show 1 ≤ sizeLine; decide) q
  · refine ⟨_, rfl, a, CS, dx, _, _, rfl, S.ob, T.c_State.cl, T.c_State.no _ (by decide), rfl, _, rfl, l, _, _, _, rfl, rfl, hl, at1 hn, _, _, rfl, _, _, rfl, rfl, G.m1, G.m3, by omega, ?_⟩
    exact stay (Same.refl H) (c := [(Krb7.letter r.m (ns.getD 0 0) : Int)]) (by unfold dLetter; rw [if_neg h1]) rfl (by show 1 ≤ sizeLine; decide) q
theorem ok_not_of (T : Txt K mg CS CH) : Ok P w K mg base 4 "not_of" ["state", "numbers"] (sp2 (pAsk K CS dNot fun ns => ns.length = 1)) := by
  refine ok2 T.f_not_of sc_not_of (fun _ _ _ _ _ _ _ _ => rfl) fun f cdv A outer s H a b Q E hr h => ?_
  obtain ⟨a, l, r, ns, rfl, rfl, S0, G, hl, hn, q⟩ := h
  refine ⟨_, (pss_cons (ps_if (pt_not (pt_val (pcall (ok_takes_all T) hr (pa_cons (pv 0) (pa_cons (pv 1) pa_nil)))))
      (pss_one (ps_ret (pe_lst (pa_cons (pgi T.g_WRONG) pa_nil))))
      pss_nil)
      (pss_one (ps_ret (pe_lst (pa_cons (pcall (ok_not_so T) hr (pa_cons (pe_fld (pv 0) rfl) (pa_cons (pe_ix ix_list (pv 1) (pn 0) (fun _ _ => rfl)) pa_nil))) pa_nil))))), ?_⟩
  refine ⟨_, rfl, _, rfl, _, _, rfl, a, l, r, ns, rfl, rfl, S0, G, hl, by omega, fun H1 s1 => ⟨_, rfl, ifB (fun h2 => ?_) fun h2 => ?_⟩⟩
  · have h2 : ¬ okAll r ns := by unfold okAll; rw [Bool.not_eq_true'] at h2; rw [h2]; exact Bool.false_ne_true
    exact stay s1 (c := [-22]) (by unfold dNot; rw [if_pos h2]) rfl (by show 1 ≤ sizeLine; decide) q
  · have h2 : okAll r ns := by rw [Bool.not_eq_false'] at h2; exact h2
    have S1 := S0.same s1
    obtain ⟨dx, g, k, as, d, ds, S⟩ := S1
    refine ⟨_, rfl, a, CS, dx, _, _, rfl, S.ob, T.c_State.cl, T.c_State.no _ (by decide), rfl, _, rfl, l, _, _, _, rfl, rfl, s1.seq hl, at1 hn, _, _, rfl, _, _, rfl, rfl, G.m1, G.m3, ok1_le h2 hn, ?_⟩
    exact stay s1 (c := [((full r.m - ns.getD 0 0 : Nat) : Int)]) (by unfold dNot; rw [if_neg (fun z => z h2)]) rfl (by show 1 ≤ sizeLine; decide) q
theorem ok_both (T : Txt K mg CS CH) : Ok P w K mg base 4 "both" ["state", "numbers"] (sp2 (pAsk K CS dBoth fun ns => ns.length = 2)) := by
  refine ok2 T.f_both sc_both (fun _ _ _ _ _ _ _ _ => rfl) fun f cdv A outer s H a b Q E hr h => ?_
  obtain ⟨a, l, r, ns, rfl, rfl, S0, G, hl, hn, q⟩ := h
  refine ⟨_, (pss_cons (ps_if (pt_not (pt_val (pcall (ok_takes_all T) hr (pa_cons (pv 0) (pa_cons (pv 1) pa_nil)))))
      (pss_one (ps_ret (pe_lst (pa_cons (pgi T.g_WRONG) pa_nil))))
      pss_nil)
      (pss_one (ps_ret (pe_lst (pa_cons (pe_op on_and (pe_ix ix_list (pv 1) (pn 0) (fun _ _ => rfl)) (pe_ix ix_list (pv 1) (pn 1) (fun _ _ => rfl))) pa_nil))))), ?_⟩
  refine ⟨_, rfl, _, rfl, _, _, rfl, a, l, r, ns, rfl, rfl, S0, G, hl, by omega, fun H1 s1 => ⟨_, rfl, ifB (fun h2 => ?_) fun h2 => ?_⟩⟩
  · have h2 : ¬ okAll r ns := by unfold okAll; rw [Bool.not_eq_true'] at h2; rw [h2]; exact Bool.false_ne_true
    exact stay s1 (c := [-22]) (by unfold dBoth; rw [if_pos h2]) rfl (by show 1 ≤ sizeLine; decide) q
  · have h2 : okAll r ns := by rw [Bool.not_eq_false'] at h2; exact h2
    refine ⟨_, rfl, l, _, _, _, rfl, rfl, s1.seq hl, (at2 hn).1, _, rfl, l, _, _, _, rfl, rfl, s1.seq hl, (at2 hn).2, _, _, rfl, rfl, ?_⟩
    exact stay s1 (c := [((ns.getD 0 0 &&& ns.getD 1 0 : Nat) : Int)]) (by unfold dBoth; rw [if_neg (fun z => z h2)]) rfl (by show 1 ≤ sizeLine; decide) q
theorem ok_either (T : Txt K mg CS CH) : Ok P w K mg base 4 "either" ["state", "numbers"] (sp2 (pAsk K CS dEither fun ns => ns.length = 2)) := by
  refine ok2 T.f_either sc_either (fun _ _ _ _ _ _ _ _ => rfl) fun f cdv A outer s H a b Q E hr h => ?_
  obtain ⟨a, l, r, ns, rfl, rfl, S0, G, hl, hn, q⟩ := h
  refine ⟨_, (pss_cons (ps_if (pt_not (pt_val (pcall (ok_takes_all T) hr (pa_cons (pv 0) (pa_cons (pv 1) pa_nil)))))
      (pss_one (ps_ret (pe_lst (pa_cons (pgi T.g_WRONG) pa_nil))))
      pss_nil)
      (pss_one (ps_ret (pe_lst (pa_cons (pe_op on_or (pe_ix ix_list (pv 1) (pn 0) (fun _ _ => rfl)) (pe_ix ix_list (pv 1) (pn 1) (fun _ _ => rfl))) pa_nil))))), ?_⟩
  refine ⟨_, rfl, _, rfl, _, _, rfl, a, l, r, ns, rfl, rfl, S0, G, hl, by omega, fun H1 s1 => ⟨_, rfl, ifB (fun h2 => ?_) fun h2 => ?_⟩⟩
  · have h2 : ¬ okAll r ns := by unfold okAll; rw [Bool.not_eq_true'] at h2; rw [h2]; exact Bool.false_ne_true
    exact stay s1 (c := [-22]) (by unfold dEither; rw [if_pos h2]) rfl (by show 1 ≤ sizeLine; decide) q
  · have h2 : okAll r ns := by rw [Bool.not_eq_false'] at h2; exact h2
    refine ⟨_, rfl, l, _, _, _, rfl, rfl, s1.seq hl, (at2 hn).1, _, rfl, l, _, _, _, rfl, rfl, s1.seq hl, (at2 hn).2, _, _, rfl, rfl, ?_⟩
    exact stay s1 (c := [((ns.getD 0 0 ||| ns.getD 1 0 : Nat) : Int)]) (by unfold dEither; rw [if_neg (fun z => z h2)]) rfl (by show 1 ≤ sizeLine; decide) q
theorem ok_if_then (T : Txt K mg CS CH) : Ok P w K mg base 4 "if_then" ["state", "numbers"] (sp2 (pAsk K CS dIf fun ns => ns.length = 2)) := by
  refine ok2 T.f_if_then sc_if_then (fun _ _ _ _ _ _ _ _ => rfl) fun f cdv A outer s H a b Q E hr h => ?_
  obtain ⟨a, l, r, ns, rfl, rfl, S0, G, hl, hn, q⟩ := h
  refine ⟨_, (pss_cons (ps_if (pt_not (pt_val (pcall (ok_takes_all T) hr (pa_cons (pv 0) (pa_cons (pv 1) pa_nil)))))
      (pss_one (ps_ret (pe_lst (pa_cons (pgi T.g_WRONG) pa_nil))))
      pss_nil)
      (pss_one (ps_ret (pe_lst (pa_cons (pe_op on_or (pcall (ok_not_so T) hr (pa_cons (pe_fld (pv 0) rfl) (pa_cons (pe_ix ix_list (pv 1) (pn 0) (fun _ _ => rfl)) pa_nil))) (pe_ix ix_list (pv 1) (pn 1) (fun _ _ => rfl))) pa_nil))))), ?_⟩
  refine ⟨_, rfl, _, rfl, _, _, rfl, a, l, r, ns, rfl, rfl, S0, G, hl, by omega, fun H1 s1 => ⟨_, rfl, ifB (fun h2 => ?_) fun h2 => ?_⟩⟩
  · have h2 : ¬ okAll r ns := by unfold okAll; rw [Bool.not_eq_true'] at h2; rw [h2]; exact Bool.false_ne_true
    exact stay s1 (c := [-22]) (by unfold dIf; rw [if_pos h2]) rfl (by show 1 ≤ sizeLine; decide) q
  · have h2 : okAll r ns := by rw [Bool.not_eq_false'] at h2; exact h2
    have S1 := S0.same s1
    obtain ⟨dx, g, k, as, d, ds, S⟩ := S1
    refine ⟨_, rfl, a, CS, dx, _, _, rfl, S.ob, T.c_State.cl, T.c_State.no _ (by decide), rfl, _, rfl, l, _, _, _, rfl, rfl, s1.seq hl, (at2 hn).1, _, _, rfl, _, _, rfl, rfl, G.m1, G.m3, ok2_le h2 hn, _, rfl, l, _, _, _, rfl, rfl, s1.seq hl, (at2 hn).2, _, _, rfl, rfl, ?_⟩
    exact stay s1 (c := [(((full r.m - ns.getD 0 0) ||| ns.getD 1 0 : Nat) : Int)]) (by unfold dIf; rw [if_neg (fun z => z h2)]) rfl (by show 1 ≤ sizeLine; decide) q
theorem ok_sums (T : Txt K mg CS CH) : Ok P w K mg base 1 "sums" ["state", "numbers"] (sp2 (pAsk K CS dSums fun _ => True)) := by
  refine ok2 T.f_sums sc_sums (fun _ _ _ _ _ _ _ _ => rfl) fun f cdv A outer s H a b Q E hr h => ?_
  obtain ⟨a, l, r, ns, rfl, rfl, S0, G, hl, hn, q⟩ := h
  obtain ⟨dx, g, k, as, d, ds, S⟩ := S0
  have el := G.el
  obtain ⟨z1, z2, z3⟩ := S.te.zip
  have mz1 : (ds.zip r.ended).map (fun x => vn x.2.1) = (r.ended.map (·.1)).map vn := by
    have e := congrArg (fun l : List (Nat × Nat) => (l.map (·.1)).map vn) z2
    rw [← e, List.map_map, List.map_map]
    rfl
  have mz2 : (ds.zip r.ended).map (fun x => vn x.2.2) = (r.ended.map (·.2)).map vn := by
    have e := congrArg (fun l : List (Nat × Nat) => (l.map (·.2)).map vn) z2
    rw [← e, List.map_map, List.map_map]
    rfl
  have zl : (ds.zip r.ended).length = r.ended.length := by rw [← List.length_map (f := fun x => x.2), z2]
  have hz : (ds.zip r.ended).length ≤ sizeLine := by rw [zl]; exact Nat.le_trans el (by decide)
  refine ⟨_, (pss_cons (ps_set (i := 3) sc_sums.nd rfl (Or.inl rfl) (pe_callB (cr_sum rfl) rfl T.no_sum (by decide +kernel) (pa_cons (pe_lc rfl sc_sums.nd (pi_list (pe_fld (pv 0) rfl)) (blkOk_by (own := [("pair", 2)]) (by show blkC ["state", "numbers", "pair", "caught", "bad"] (defScope st_sums) _ _ = true; decide +kernel)) (fun _ _ _ _ _ => (pg_name (i := 2) sc_sums.nd rfl (Or.inl rfl))) (fun _ _ _ _ _ => pts_nil) (fun _ _ _ _ _ => (pe_ix (ix_tupK K rfl) (pv 2) (pn 0) (fun _ _ => rfl)))) pa_nil)))
      (pss_cons (ps_set (i := 4) sc_sums.nd rfl (Or.inl rfl) (pe_callB (cr_sum rfl) rfl T.no_sum (by decide +kernel) (pa_cons (pe_lc rfl sc_sums.nd (pi_list (pe_fld (pv 0) rfl)) (blkOk_by (own := [("pair", 2)]) (by show blkC ["state", "numbers", "pair", "caught", "bad"] (defScope st_sums) _ _ = true; decide +kernel)) (fun _ _ _ _ _ => (pg_name (i := 2) sc_sums.nd rfl (Or.inl rfl))) (fun _ _ _ _ _ => pts_nil) (fun _ _ _ _ _ => (pe_ix (ix_tupK K rfl) (pv 2) (pn 1) (fun _ _ => rfl)))) pa_nil)))
      (pss_one (ps_ret (pe_lst (pa_cons (pe_callB call_len_seq rfl T.no_len PySem.boot_len (pa_cons (pe_fld (pv 0) rfl) pa_nil)) (pa_cons (pv 3) (pa_cons (pv 4) pa_nil)))))))), ?_⟩
  refine ⟨_, rfl, a, CS, dx, _, _, rfl, S.ob, T.c_State.cl, T.c_State.no _ (by decide), rfl, d, rfl, ⟨_, SqL.of S.en⟩, fun D hD => lc_map (K := K) (a := d) (l := ds.zip r.ended) (v := fun x => V.ref x.1) (fun x => some (vn x.2.1)) (by rw [z1]; exact SqL.of S.en) hD hz ?_ ?_⟩
  · intro i x H1 hx s1 acc hacc hz N k1 k2
    refine ⟨rfl, ?_⟩
    dsimp only [tYes]
    rw [if_pos rfl]
    exact ⟨_, rfl, x.1, _, _, _, rfl, rfl, SqT.of (s1 _ _ (z3 i x hx)), atI_nat (j := 0) rfl, acc, hacc, hz, k2 _ _ (Same.refl _) rfl⟩
  · intro H1 s1 e1
    have e1 : H1 D = some (.lst ((nat (r.ended.map (·.1))).map V.int)) := by
      rw [e1, fm_all, nat_v, mz1]
    have S1 := S.same s1
    refine ⟨D, _, rfl, SqL.of e1, ?_⟩
    refine ⟨_, rfl, a, CS, dx, _, _, rfl, S1.ob, T.c_State.cl, T.c_State.no _ (by decide), rfl, d, rfl, ⟨_, SqL.of S1.en⟩, fun D2 hD2 => lc_map (K := K) (a := d) (l := ds.zip r.ended) (v := fun x => V.ref x.1) (fun x => some (vn x.2.2)) (by rw [z1]; exact SqL.of S1.en) hD2 hz ?_ ?_⟩
    · intro i x H2 hx s2 acc hacc hz N k1 k2
      refine ⟨rfl, ?_⟩
      dsimp only [tYes]
      rw [if_pos rfl]
      exact ⟨_, rfl, x.1, _, _, _, rfl, rfl, SqT.of (s2 _ _ (s1 _ _ (z3 i x hx))), atI_nat (j := 1) rfl, acc, hacc, hz, k2 _ _ (Same.refl _) rfl⟩
    · intro H2 s2 e2
      have e2 : H2 D2 = some (.lst ((nat (r.ended.map (·.2))).map V.int)) := by
        rw [e2, fm_all, nat_v, mz2]
      have S2 := S1.same s2
      refine ⟨D2, _, rfl, SqL.of e2, ?_⟩
      refine ⟨_, rfl, a, CS, dx, _, _, rfl, S2.ob, T.c_State.cl, T.c_State.no _ (by decide), rfl, d, _, rfl, .inl (SqL.of S2.en), _, rfl, _, rfl, ?_⟩
      rw [List.length_map, S.te.len]
      exact stay (s1.trans s2) (c := dSums r ns) rfl rfl (by show 3 ≤ sizeLine; decide) q
end
end DY
namespace DF
def sizes : List Nat := [2, 1, 1, 1, 2, 1, 1, 2, 1, 0, 0, 0, 0, 1, 0, 0, 1, 1, 1, 1, 0, 2, 0, 0, 0, 0, 0, 0, 0, 1, 0, 1, 0, 2, 0, 0, 1, 1, 2, 2, 2, 0, 0]
def mk (n : Nat) (ns : List Nat) : Kru8.Call := match n with
  | 0 => .begin_ (ns.getD 0 0) (ns.getD 1 0)
  | 1 => .rule (ns.getD 0 0)
  | 2 => .lay (ns.getD 0 0)
  | 3 => .propose (ns.getD 0 0)
  | 4 => .answers (ns.getD 0 0) (ns.getD 1 0)
  | 5 => .press (ns.getD 0 0)
  | 6 => .strike (ns.getD 0 0)
  | 7 => .amend (ns.getD 0 0) (ns.getD 1 0)
  | 8 => .learn (ns.getD 0 0)
  | 9 => .stock ns
  | 10 => .finish
  | 11 => .back
  | 12 => .again
  | 13 => .right (ns.getD 0 0)
  | 14 => .row ns
  | 15 => .stands
  | 16 => .log (ns.getD 0 0)
  | 17 => .concede (ns.getD 0 0)
  | 18 => .deny (ns.getD 0 0)
  | 19 => .may (ns.getD 0 0)
  | 20 => .false_
  | 21 => .from_ (ns.getD 0 0) (ns.getD 1 0)
  | 22 => .reach
  | 23 => .bad
  | 24 => .first
  | 25 => .caught
  | 26 => .mended
  | 27 => .least
  | 28 => .laids
  | 29 => .laid (ns.getD 0 0)
  | 30 => .knowns
  | 31 => .known (ns.getD 0 0)
  | 32 => .other
  | 33 => .clash (ns.getD 0 0) (ns.getD 1 0)
  | 34 => .clashes
  | 35 => .verdict
  | 36 => .letter (ns.getD 0 0)
  | 37 => .not_ (ns.getD 0 0)
  | 38 => .both (ns.getD 0 0) (ns.getD 1 0)
  | 39 => .either (ns.getD 0 0) (ns.getD 1 0)
  | 40 => .if_ (ns.getD 0 0) (ns.getD 1 0)
  | 41 => .sums
  | _ => .state
theorem shape_of {p : Int} {n k : Nat} (h : PyKru8.shape p = some (n, k)) : ∃ j : Nat, p = (j : Int) ∧ j ≤ 42 ∧ sizes.getD j 0 = n ∧ ((k = 0 ∧ j ≠ 9 ∧ j ≠ 14) ∨ (k = 1 ∧ (j = 9 ∨ j = 14))) := by
  unfold PyKru8.shape at h
  by_cases h0 : p = 0
  · rw [if_pos h0] at h; cases h; exact ⟨0, h0, by decide, rfl, by decide⟩
  rw [if_neg h0] at h
  by_cases h1 : p = 1
  · rw [if_pos h1] at h; cases h; exact ⟨1, h1, by decide, rfl, by decide⟩
  rw [if_neg h1] at h
  by_cases h2 : p = 2
  · rw [if_pos h2] at h; cases h; exact ⟨2, h2, by decide, rfl, by decide⟩
  rw [if_neg h2] at h
  by_cases h3 : p = 3
  · rw [if_pos h3] at h; cases h; exact ⟨3, h3, by decide, rfl, by decide⟩
  rw [if_neg h3] at h
  by_cases h4 : p = 4
  · rw [if_pos h4] at h; cases h; exact ⟨4, h4, by decide, rfl, by decide⟩
  rw [if_neg h4] at h
  by_cases h5 : p = 5
  · rw [if_pos h5] at h; cases h; exact ⟨5, h5, by decide, rfl, by decide⟩
  rw [if_neg h5] at h
  by_cases h6 : p = 6
  · rw [if_pos h6] at h; cases h; exact ⟨6, h6, by decide, rfl, by decide⟩
  rw [if_neg h6] at h
  by_cases h7 : p = 7
  · rw [if_pos h7] at h; cases h; exact ⟨7, h7, by decide, rfl, by decide⟩
  rw [if_neg h7] at h
  by_cases h8 : p = 8
  · rw [if_pos h8] at h; cases h; exact ⟨8, h8, by decide, rfl, by decide⟩
  rw [if_neg h8] at h
  by_cases h9 : p = 9
  · rw [if_pos h9] at h; cases h; exact ⟨9, h9, by decide, rfl, by decide⟩
  rw [if_neg h9] at h
  by_cases h10 : p = 10
  · rw [if_pos h10] at h; cases h; exact ⟨10, h10, by decide, rfl, by decide⟩
  rw [if_neg h10] at h
  by_cases h11 : p = 11
  · rw [if_pos h11] at h; cases h; exact ⟨11, h11, by decide, rfl, by decide⟩
  rw [if_neg h11] at h
  by_cases h12 : p = 12
  · rw [if_pos h12] at h; cases h; exact ⟨12, h12, by decide, rfl, by decide⟩
  rw [if_neg h12] at h
  by_cases h13 : p = 13
  · rw [if_pos h13] at h; cases h; exact ⟨13, h13, by decide, rfl, by decide⟩
  rw [if_neg h13] at h
  by_cases h14 : p = 14
  · rw [if_pos h14] at h; cases h; exact ⟨14, h14, by decide, rfl, by decide⟩
  rw [if_neg h14] at h
  by_cases h15 : p = 15
  · rw [if_pos h15] at h; cases h; exact ⟨15, h15, by decide, rfl, by decide⟩
  rw [if_neg h15] at h
  by_cases h16 : p = 16
  · rw [if_pos h16] at h; cases h; exact ⟨16, h16, by decide, rfl, by decide⟩
  rw [if_neg h16] at h
  by_cases h17 : p = 17
  · rw [if_pos h17] at h; cases h; exact ⟨17, h17, by decide, rfl, by decide⟩
  rw [if_neg h17] at h
  by_cases h18 : p = 18
  · rw [if_pos h18] at h; cases h; exact ⟨18, h18, by decide, rfl, by decide⟩
  rw [if_neg h18] at h
  by_cases h19 : p = 19
  · rw [if_pos h19] at h; cases h; exact ⟨19, h19, by decide, rfl, by decide⟩
  rw [if_neg h19] at h
  by_cases h20 : p = 20
  · rw [if_pos h20] at h; cases h; exact ⟨20, h20, by decide, rfl, by decide⟩
  rw [if_neg h20] at h
  by_cases h21 : p = 21
  · rw [if_pos h21] at h; cases h; exact ⟨21, h21, by decide, rfl, by decide⟩
  rw [if_neg h21] at h
  by_cases h22 : p = 22
  · rw [if_pos h22] at h; cases h; exact ⟨22, h22, by decide, rfl, by decide⟩
  rw [if_neg h22] at h
  by_cases h23 : p = 23
  · rw [if_pos h23] at h; cases h; exact ⟨23, h23, by decide, rfl, by decide⟩
  rw [if_neg h23] at h
  by_cases h24 : p = 24
  · rw [if_pos h24] at h; cases h; exact ⟨24, h24, by decide, rfl, by decide⟩
  rw [if_neg h24] at h
  by_cases h25 : p = 25
  · rw [if_pos h25] at h; cases h; exact ⟨25, h25, by decide, rfl, by decide⟩
  rw [if_neg h25] at h
  by_cases h26 : p = 26
  · rw [if_pos h26] at h; cases h; exact ⟨26, h26, by decide, rfl, by decide⟩
  rw [if_neg h26] at h
  by_cases h27 : p = 27
  · rw [if_pos h27] at h; cases h; exact ⟨27, h27, by decide, rfl, by decide⟩
  rw [if_neg h27] at h
  by_cases h28 : p = 28
  · rw [if_pos h28] at h; cases h; exact ⟨28, h28, by decide, rfl, by decide⟩
  rw [if_neg h28] at h
  by_cases h29 : p = 29
  · rw [if_pos h29] at h; cases h; exact ⟨29, h29, by decide, rfl, by decide⟩
  rw [if_neg h29] at h
  by_cases h30 : p = 30
  · rw [if_pos h30] at h; cases h; exact ⟨30, h30, by decide, rfl, by decide⟩
  rw [if_neg h30] at h
  by_cases h31 : p = 31
  · rw [if_pos h31] at h; cases h; exact ⟨31, h31, by decide, rfl, by decide⟩
  rw [if_neg h31] at h
  by_cases h32 : p = 32
  · rw [if_pos h32] at h; cases h; exact ⟨32, h32, by decide, rfl, by decide⟩
  rw [if_neg h32] at h
  by_cases h33 : p = 33
  · rw [if_pos h33] at h; cases h; exact ⟨33, h33, by decide, rfl, by decide⟩
  rw [if_neg h33] at h
  by_cases h34 : p = 34
  · rw [if_pos h34] at h; cases h; exact ⟨34, h34, by decide, rfl, by decide⟩
  rw [if_neg h34] at h
  by_cases h35 : p = 35
  · rw [if_pos h35] at h; cases h; exact ⟨35, h35, by decide, rfl, by decide⟩
  rw [if_neg h35] at h
  by_cases h36 : p = 36
  · rw [if_pos h36] at h; cases h; exact ⟨36, h36, by decide, rfl, by decide⟩
  rw [if_neg h36] at h
  by_cases h37 : p = 37
  · rw [if_pos h37] at h; cases h; exact ⟨37, h37, by decide, rfl, by decide⟩
  rw [if_neg h37] at h
  by_cases h38 : p = 38
  · rw [if_pos h38] at h; cases h; exact ⟨38, h38, by decide, rfl, by decide⟩
  rw [if_neg h38] at h
  by_cases h39 : p = 39
  · rw [if_pos h39] at h; cases h; exact ⟨39, h39, by decide, rfl, by decide⟩
  rw [if_neg h39] at h
  by_cases h40 : p = 40
  · rw [if_pos h40] at h; cases h; exact ⟨40, h40, by decide, rfl, by decide⟩
  rw [if_neg h40] at h
  by_cases h41 : p = 41
  · rw [if_pos h41] at h; cases h; exact ⟨41, h41, by decide, rfl, by decide⟩
  rw [if_neg h41] at h
  by_cases h42 : p = 42
  · rw [if_pos h42] at h; cases h; exact ⟨42, h42, by decide, rfl, by decide⟩
  rw [if_neg h42] at h
  cases h
theorem call_nums {j : Nat} {xs : List Int} (hj : j ≤ 42) (h9 : j ≠ 9) (h14 : j ≠ 14) (hl : xs.length = sizes.getD j 0) : Kru8Neutral.call (PyKru8.whole [(j : Int) :: xs]) = mk j (xs.map Int.toNat) := by
  match j, xs, hj, h9, h14, hl with
  | 0, [_, _], _, _, _, _ => rfl
  | 1, [_], _, _, _, _ => rfl
  | 2, [_], _, _, _, _ => rfl
  | 3, [_], _, _, _, _ => rfl
  | 4, [_, _], _, _, _, _ => rfl
  | 5, [_], _, _, _, _ => rfl
  | 6, [_], _, _, _, _ => rfl
  | 7, [_, _], _, _, _, _ => rfl
  | 8, [_], _, _, _, _ => rfl
  | 10, [], _, _, _, _ => rfl
  | 11, [], _, _, _, _ => rfl
  | 12, [], _, _, _, _ => rfl
  | 13, [_], _, _, _, _ => rfl
  | 15, [], _, _, _, _ => rfl
  | 16, [_], _, _, _, _ => rfl
  | 17, [_], _, _, _, _ => rfl
  | 18, [_], _, _, _, _ => rfl
  | 19, [_], _, _, _, _ => rfl
  | 20, [], _, _, _, _ => rfl
  | 21, [_, _], _, _, _, _ => rfl
  | 22, [], _, _, _, _ => rfl
  | 23, [], _, _, _, _ => rfl
  | 24, [], _, _, _, _ => rfl
  | 25, [], _, _, _, _ => rfl
  | 26, [], _, _, _, _ => rfl
  | 27, [], _, _, _, _ => rfl
  | 28, [], _, _, _, _ => rfl
  | 29, [_], _, _, _, _ => rfl
  | 30, [], _, _, _, _ => rfl
  | 31, [_], _, _, _, _ => rfl
  | 32, [], _, _, _, _ => rfl
  | 33, [_, _], _, _, _, _ => rfl
  | 34, [], _, _, _, _ => rfl
  | 35, [], _, _, _, _ => rfl
  | 36, [_], _, _, _, _ => rfl
  | 37, [_], _, _, _, _ => rfl
  | 38, [_, _], _, _, _, _ => rfl
  | 39, [_, _], _, _, _, _ => rfl
  | 40, [_, _], _, _, _, _ => rfl
  | 41, [], _, _, _, _ => rfl
  | 42, [], _, _, _, _ => rfl
  | 9, _, _, h, _, _ => exact absurd rfl h
  | 14, _, _, _, h, _ => exact absurd rfl h
  | 0, [], _, _, _, h => cases h
  | 0, [_], _, _, _, h => simp [sizes] at h
  | 0, _ :: _ :: _ :: _, _, _, _, h => simp [sizes] at h
  | 1, [], _, _, _, h => cases h
  | 1, _ :: _ :: _, _, _, _, h => simp [sizes] at h
  | 2, [], _, _, _, h => cases h
  | 2, _ :: _ :: _, _, _, _, h => simp [sizes] at h
  | 3, [], _, _, _, h => cases h
  | 3, _ :: _ :: _, _, _, _, h => simp [sizes] at h
  | 4, [], _, _, _, h => cases h
  | 4, [_], _, _, _, h => simp [sizes] at h
  | 4, _ :: _ :: _ :: _, _, _, _, h => simp [sizes] at h
  | 5, [], _, _, _, h => cases h
  | 5, _ :: _ :: _, _, _, _, h => simp [sizes] at h
  | 6, [], _, _, _, h => cases h
  | 6, _ :: _ :: _, _, _, _, h => simp [sizes] at h
  | 7, [], _, _, _, h => cases h
  | 7, [_], _, _, _, h => simp [sizes] at h
  | 7, _ :: _ :: _ :: _, _, _, _, h => simp [sizes] at h
  | 8, [], _, _, _, h => cases h
  | 8, _ :: _ :: _, _, _, _, h => simp [sizes] at h
  | 10, _ :: _, _, _, _, h => cases h
  | 11, _ :: _, _, _, _, h => cases h
  | 12, _ :: _, _, _, _, h => cases h
  | 13, [], _, _, _, h => cases h
  | 13, _ :: _ :: _, _, _, _, h => simp [sizes] at h
  | 15, _ :: _, _, _, _, h => cases h
  | 16, [], _, _, _, h => cases h
  | 16, _ :: _ :: _, _, _, _, h => simp [sizes] at h
  | 17, [], _, _, _, h => cases h
  | 17, _ :: _ :: _, _, _, _, h => simp [sizes] at h
  | 18, [], _, _, _, h => cases h
  | 18, _ :: _ :: _, _, _, _, h => simp [sizes] at h
  | 19, [], _, _, _, h => cases h
  | 19, _ :: _ :: _, _, _, _, h => simp [sizes] at h
  | 20, _ :: _, _, _, _, h => cases h
  | 21, [], _, _, _, h => cases h
  | 21, [_], _, _, _, h => simp [sizes] at h
  | 21, _ :: _ :: _ :: _, _, _, _, h => simp [sizes] at h
  | 22, _ :: _, _, _, _, h => cases h
  | 23, _ :: _, _, _, _, h => cases h
  | 24, _ :: _, _, _, _, h => cases h
  | 25, _ :: _, _, _, _, h => cases h
  | 26, _ :: _, _, _, _, h => cases h
  | 27, _ :: _, _, _, _, h => cases h
  | 28, _ :: _, _, _, _, h => cases h
  | 29, [], _, _, _, h => cases h
  | 29, _ :: _ :: _, _, _, _, h => simp [sizes] at h
  | 30, _ :: _, _, _, _, h => cases h
  | 31, [], _, _, _, h => cases h
  | 31, _ :: _ :: _, _, _, _, h => simp [sizes] at h
  | 32, _ :: _, _, _, _, h => cases h
  | 33, [], _, _, _, h => cases h
  | 33, [_], _, _, _, h => simp [sizes] at h
  | 33, _ :: _ :: _ :: _, _, _, _, h => simp [sizes] at h
  | 34, _ :: _, _, _, _, h => cases h
  | 35, _ :: _, _, _, _, h => cases h
  | 36, [], _, _, _, h => cases h
  | 36, _ :: _ :: _, _, _, _, h => simp [sizes] at h
  | 37, [], _, _, _, h => cases h
  | 37, _ :: _ :: _, _, _, _, h => simp [sizes] at h
  | 38, [], _, _, _, h => cases h
  | 38, [_], _, _, _, h => simp [sizes] at h
  | 38, _ :: _ :: _ :: _, _, _, _, h => simp [sizes] at h
  | 39, [], _, _, _, h => cases h
  | 39, [_], _, _, _, h => simp [sizes] at h
  | 39, _ :: _ :: _ :: _, _, _, _, h => simp [sizes] at h
  | 40, [], _, _, _, h => cases h
  | 40, [_], _, _, _, h => simp [sizes] at h
  | 40, _ :: _ :: _ :: _, _, _, _, h => simp [sizes] at h
  | 41, _ :: _, _, _, _, h => cases h
  | 42, _ :: _, _, _, _, h => cases h
  | n + 43, _, h, _, _, _ => omega
theorem call_list {j : Nat} {x : List Int} (h : j = 9 ∨ j = 14) : Kru8Neutral.call (PyKru8.whole [[(j : Int)], x]) = mk j (x.map Int.toNat) := by
  rcases h with rfl | rfl <;> rfl
theorem step_of {f : Nat} {p : Int} {r : List Int} {raw : List (List (List Int))} (h : PyFlat.calls PyKru8.shape f (p :: r) = some raw) :
    ∃ (g j : Nat) (c : List (List Int)) (cs : List (List (List Int))) (ns t : List Int), raw = c :: cs ∧ PyFlat.calls PyKru8.shape g t = some cs ∧ p = (j : Int) ∧ j ≤ 42 ∧ Kru8Neutral.call (PyKru8.whole c) = mk j (ns.map Int.toNat) ∧
      ((j ≠ 9 ∧ j ≠ 14 ∧ sizes.getD j 0 ≤ r.length ∧ ns = r.take (sizes.getD j 0) ∧ t = r.drop (sizes.getD j 0)) ∨
       ((j = 9 ∨ j = 14) ∧ ∃ (m : Nat) (q : List Int), r = (m : Int) :: q ∧ m ≤ q.length ∧ ns = q.take m ∧ t = q.drop m)) := by
  cases f with
  | zero => cases h
  | succ f =>
    unfold PyFlat.calls at h
    cases e : PyFlat.call PyKru8.shape (p :: r) with
    | none => rw [e] at h; cases h
    | some ct =>
      obtain ⟨c, t⟩ := ct
      rw [e] at h
      cases e2 : PyFlat.calls PyKru8.shape f t with
      | none => simp only [e2] at h; cases h
      | some cs =>
        simp only [e2] at h
        cases h
        unfold PyFlat.call at e
        cases es : PyKru8.shape p with
        | none => simp only [es] at e; cases e
        | some nk =>
          obtain ⟨n, k⟩ := nk
          simp only [es] at e
          obtain ⟨j, hp, hj, hn, hk⟩ := shape_of es
          subst hp
          by_cases hl : r.length < n
          · rw [if_pos hl] at e; cases e
          · rw [if_neg hl] at e
            rcases hk with ⟨rfl, h9, h14⟩ | ⟨rfl, hjj⟩
            · unfold PyFlat.rows at e
              cases e
              refine ⟨f, j, _, cs, r.take n, r.drop n, rfl, e2, rfl, hj, call_nums hj h9 h14 (by rw [List.length_take, hn]; omega), .inl ⟨h9, h14, by omega, by rw [hn], by rw [hn]⟩⟩
            · have hn0 : n = 0 := by rw [← hn]; rcases hjj with rfl | rfl <;> rfl
              subst hn0
              rw [List.drop_zero] at e
              unfold PyFlat.rows at e
              cases er : PyFlat.row r with
              | none => rw [er] at e; cases e
              | some xs =>
                obtain ⟨x, s⟩ := xs
                rw [er] at e
                unfold PyFlat.rows at e
                cases e
                cases r with
                | nil => cases er
                | cons m q =>
                  simp only [PyFlat.row] at er
                  by_cases hm : 0 ≤ m ∧ m.toNat ≤ q.length
                  · rw [if_pos hm] at er
                    cases er
                    exact ⟨f, j, _, cs, q.take m.toNat, q.drop m.toNat, rfl, e2, rfl, hj, call_list hjj, .inr ⟨hjj, m.toNat, q, by rw [Int.toNat_of_nonneg hm.1], hm.2, rfl, rfl⟩⟩
                  · rw [if_neg hm] at er; cases er
end DF
namespace DY
open PySem PySem.Spec PyProof.Rows L2 DX DM
open Krb7 (full)
def doFinish (r : Rec) (_ : List Nat) : List Int × Rec :=
  if r.laid = 0 then ([-6], r) else ([(vdt r : Int), (r.given.length : Int), ((bads r).length : Int)], { r with laid := 0, given := [], ended := r.ended ++ [(if now r = 0 then 1 else 0, (bads r).length)] })
def arity (n : Nat) (ns : List Nat) : Prop := (n ≠ 9 → n ≠ 14 → ns.length = DF.sizes.getD n 0) ∧ ns.length ≤ 65536
def doChange (n : Nat) : Rec → List Nat → List Int × Rec := match n with
  | 1 => doRule | 2 => doLay | 3 => doPropose | 4 => doAnswer | 5 => doPress | 6 => doStrike | 7 => doAmend | 8 => doLearn | 9 => doStock | _ => doFinish
noncomputable def dQ (n : Nat) : Rec → List Nat → List Int := match n with
  | 13 => dRight | 14 => dRow | 15 => dStands | 16 => dLog | 17 => fun r ns => dTold r (ns.getD 0 0) 1 | 18 => fun r ns => dTold r (ns.getD 0 0) 0 | 19 => dMay | 20 => dFalse | 21 => dFrom | _ => dReach
def dV (n : Nat) : Rec → List Nat → List Int := match n with
  | 23 => dBad | 24 => dFirst | 25 => dCaught | 26 => dMended | 27 => dLeast | 28 => dLaids | 29 => dLaid | 30 => dKnowns | 31 => dKnown | 32 => dOther | 33 => dClash | 34 => dClashes | _ => dVerdict
def dJudge (n : Nat) (r : Rec) (ns : List Nat) : List Int := if n = 33 ∧ ¬ okAll r ns then [-22] else if r.laid = 0 then [-6] else dV n r ns
def dR (n : Nat) : Rec → List Nat → List Int := match n with
  | 36 => dLetter | 37 => dNot | 38 => dBoth | 39 => dEither | 40 => dIf | _ => dSums
noncomputable def dAsk (n : Nat) : Rec → List Nat → List Int := if n ≤ 22 then dQ n else if n ≤ 35 then dJudge n else dR n
section
variable {P : Program} {w : World} {K : PySem.W.Frag} {mg : Str → Option Value} {base : Heap} {CS CH : Addr}
theorem ok_finish (T : Txt K mg CS CH) : Ok P w K mg base 9 "finish" ["state", "numbers"] (sp2 (pChg K CS doFinish fun _ => True)) := by
  refine ok2 T.f_finish sc_finish (fun _ _ _ _ _ _ _ _ => rfl) fun f cdv A outer s H a b Q E hr h => ?_
  obtain ⟨H0, a, l, r, ns, rfl, rfl, O, G, hl, hn, q⟩ := h
  have O2 := O
  obtain ⟨s0, hs0, dx, g, k, as, d, ds, S, o3⟩ := O2
  have el := G.el
  refine ⟨_, (pss_cons (ps_if (pt_val (pcall (ok_none_laid T) hr (pa_cons (pv 0) pa_nil)))
      (pss_one (ps_ret (pe_lst (pa_cons (pgi T.g_NOTHING) pa_nil))))
      pss_nil)
      (pss_cons (ps_set (i := 2) sc_finish.nd rfl (Or.inl rfl) (pe_callB call_len_seq rfl T.no_len PySem.boot_len (pa_cons (pcall (ok_bad_answers T) hr (pa_cons (pv 0) pa_nil)) pa_nil)))
      (pss_cons (ps_set (i := 3) sc_finish.nd rfl (Or.inl rfl) (pe_lst (pa_cons (pcall (ok_verdict_on T) hr (pa_cons (pv 0) pa_nil)) (pa_cons (pe_callB call_len_seq rfl T.no_len PySem.boot_len (pa_cons (pe_fld (pv 0) rfl) pa_nil)) (pa_cons (pv 2) pa_nil)))))
      (pss_cons (ps_expr (pe_bm PySem.F.plainAttrs_list PySem.F.slot_list_append PySem.F.type_list_append mt_append (pe_fld (pv 0) rfl) (pa_cons (pe_tup (pa_cons (pe_ifExp (pt_val (pcall (ok_is_caught T) hr (pa_cons (pv 0) pa_nil))) (pn 1) (pn 0)) (pa_cons (pv 2) pa_nil))) pa_nil)))
      (pss_cons (ps_fld (pv 0) (pn 0) rfl)
      (pss_cons (ps_fld (pv 0) (pe_lst pa_nil) rfl)
      (pss_one (ps_ret (pv 3))))))))), ?_⟩
  refine ⟨_, rfl, _, rfl, a, r, rfl, O.st, _, rfl, ifD (fun h2 => ?_) fun h2 => ?_⟩
  · exact fin1 (K := K) (r := r) O (by unfold doFinish; rw [if_pos h2]) q
  · refine ⟨_, rfl, _, rfl, a, r, rfl, O.st, G, fun H1 bl s1 hbl => ⟨bl, _, rfl, .inl (SqL.of hbl), ?_⟩⟩
    rw [List.length_map]
    have O1 := O.same s1
    refine ⟨_, rfl, _, rfl, a, r, rfl, O1.st, G, fun H2 s2 => ?_⟩
    have S2 := (S.same s1).same s2
    have O2 := O1.same s2
    refine ⟨_, rfl, a, CS, dx, _, _, rfl, S2.ob, T.c_State.cl, T.c_State.no _ (by decide), rfl, g, _, rfl, .inl (SqL.of S2.gi), _, rfl, (by show 3 ≤ sizeLine; decide), fun tl htl => ?_⟩
    rw [List.length_map, S.tu.len]
    have sm := same_new (o := .lst [vn (vdt r), vn r.given.length, vn (bads r).length]) (Same.refl H2) htl
    have O4 := O2.same sm
    have S4 := S2.same sm
    have htl4 : (upd H2 tl (.lst [vn (vdt r), vn r.given.length, vn (bads r).length])) tl = some (.lst [vn (vdt r), vn r.given.length, vn (bads r).length]) := upd_same
    have ntd : tl ≠ d := (ne_of_none S2.en htl).symm
    have nta : tl ≠ a := (ne_of_none S2.ob htl).symm
    refine ⟨_, rfl, a, CS, dx, _, _, rfl, S4.ob, T.c_State.cl, T.c_State.no _ (by decide), rfl, .inl ⟨rfl, _, SqL.of S4.en⟩, ?_⟩
    have push : ∀ (z : Nat), z = (if now r = 0 then 1 else 0) → ∀ H5, Same (upd H2 tl (.lst [vn (vdt r), vn r.given.length, vn (bads r).length])) H5 → ∀ tp, H5 tp = none →
        OwnAt CS H0 (upd (upd H5 tp (.tup [vn z, vn (bads r).length])) d (.lst (ds.map V.ref ++ [.ref tp]))) a { r with ended := r.ended ++ [(if now r = 0 then 1 else 0, (bads r).length)] } ∧
        SAt CS (upd (upd H5 tp (.tup [vn z, vn (bads r).length])) d (.lst (ds.map V.ref ++ [.ref tp]))) a { r with ended := r.ended ++ [(if now r = 0 then 1 else 0, (bads r).length)] } dx g k as d (ds ++ [tp]) ∧
        (upd (upd H5 tp (.tup [vn z, vn (bads r).length])) d (.lst (ds.map V.ref ++ [.ref tp]))) tl = some (.lst [vn (vdt r), vn r.given.length, vn (bads r).length]) := by
      intro z hz H5 s5 tp htp
      subst hz
      have sm5 := same_new (o := .tup [vn (if now r = 0 then 1 else 0), vn (bads r).length]) (Same.refl H5) htp
      have ⟨O6, S6⟩ := ((O4.same s5).same sm5).over (y := (if now r = 0 then 1 else 0, (bads r).length)) ((S4.same s5).same sm5) o3 upd_same
      exact ⟨O6, S6, by rw [upd_ne ntd]; exact sm5 _ _ (s5 _ _ htl4)⟩
    have last : ∀ H6, OwnAt CS H0 H6 a { r with ended := r.ended ++ [(if now r = 0 then 1 else 0, (bads r).length)] } → ∀ tp, SAt CS H6 a { r with ended := r.ended ++ [(if now r = 0 then 1 else 0, (bads r).length)] } dx g k as d (ds ++ [tp]) →
        H6 tl = some (.lst [vn (vdt r), vn r.given.length, vn (bads r).length]) → ∀ g2, (upd H6 a (.ins CS dx (putF "laid" (vn 0) (sf { r with ended := r.ended ++ [(if now r = 0 then 1 else 0, (bads r).length)] } g k d)))) g2 = none →
        (upd (upd H6 a (.ins CS dx (putF "laid" (vn 0) (sf { r with ended := r.ended ++ [(if now r = 0 then 1 else 0, (bads r).length)] } g k d)))) g2 (.lst [])) a = some (.ins CS dx (putF "laid" (vn 0) (sf { r with ended := r.ended ++ [(if now r = 0 then 1 else 0, (bads r).length)] } g k d))) ∧
        Q (.ref tl) (upd (upd (upd H6 a (.ins CS dx (putF "laid" (vn 0) (sf { r with ended := r.ended ++ [(if now r = 0 then 1 else 0, (bads r).length)] } g k d)))) g2 (.lst [])) a (.ins CS dx (putF "given" (.ref g2) (putF "laid" (vn 0) (sf { r with ended := r.ended ++ [(if now r = 0 then 1 else 0, (bads r).length)] } g k d))))) := by
      intro H6 O6 tp S6 htl6 g2 hg2
      have ⟨O7, S7⟩ := O6.put0 (r' := { r with laid := 0, ended := r.ended ++ [(if now r = 0 then 1 else 0, (bads r).length)] }) (fs := putF "laid" (vn 0) (sf { r with ended := r.ended ++ [(if now r = 0 then 1 else 0, (bads r).length)] } g k d)) S6 o3 rfl rfl rfl rfl
      have sm7 := same_new (o := .lst []) (Same.refl _) hg2
      have S8 := S7.same sm7
      have ⟨O9, S9⟩ := (O7.same sm7).putG (r' := { r with laid := 0, given := [], ended := r.ended ++ [(if now r = 0 then 1 else 0, (bads r).length)] }) (as' := []) (fs := putF "given" (.ref g2) (putF "laid" (vn 0) (sf { r with ended := r.ended ++ [(if now r = 0 then 1 else 0, (bads r).length)] } g k d))) S8 (o3.newG O7.1 hg2 S7.st S7.en) rfl upd_same trivial rfl rfl
      refine ⟨sm7 _ _ upd_same, q _ tl (O2.free htl) ?_ ?_⟩
      · have e : (doFinish r ns).2 = { r with laid := 0, given := [], ended := r.ended ++ [(if now r = 0 then 1 else 0, (bads r).length)] } := by unfold doFinish; rw [if_neg h2]
        rw [e]
        exact O9
      · have e : (doFinish r ns).1 = [(vdt r : Int), (r.given.length : Int), ((bads r).length : Int)] := by unfold doFinish; rw [if_neg h2]
        rw [upd_ne nta, sm7 tl (.lst [vn (vdt r), vn r.given.length, vn (bads r).length]) (by rw [upd_ne nta]; exact htl6), e]
        rfl
    have dl : ∀ H5, Same (upd H2 tl (.lst [vn (vdt r), vn r.given.length, vn (bads r).length])) H5 → H5 d = some (.lst (ds.map V.ref)) := fun H5 s5 => s5 _ _ S4.en
    have dz : (ds.map V.ref).length < sizeLine := by rw [List.length_map, S4.te.len]; exact Nat.lt_of_le_of_lt el (by decide)
    refine ⟨_, rfl, _, rfl, a, r, rfl, O4.st, G, fun H5 s5 => ⟨_, rfl, ifD (fun hz => ?_) fun hz => ?_⟩⟩
    · refine ⟨_, rfl, (by show 2 ≤ sizeLine; decide), fun tp htp => ⟨d, _, _, rfl, rfl, same_new s5 htp _ _ S4.en, dz, ?_⟩⟩
      have ⟨O6, S6, t6⟩ := push 1 (by rw [if_pos hz]) H5 s5 tp htp
      refine ⟨_, rfl, a, CS, dx, _, rfl, S6.ob, T.c_State.cl, T.c_State.no _ (by decide), (by show 7 < 1000; decide), (by show 0 ≤ sizeLine; decide), fun g2 hg2 => ?_⟩
      have z := last _ O6 tp S6 t6 g2 hg2
      exact ⟨_, rfl, a, CS, dx, _, rfl, z.1, T.c_State.cl, T.c_State.no _ (by decide), (by show 7 < 1000; decide), _, rfl, z.2⟩
    · refine ⟨_, rfl, (by show 2 ≤ sizeLine; decide), fun tp htp => ⟨d, _, _, rfl, rfl, same_new s5 htp _ _ S4.en, dz, ?_⟩⟩
      have ⟨O6, S6, t6⟩ := push 0 (by rw [if_neg hz]) H5 s5 tp htp
      refine ⟨_, rfl, a, CS, dx, _, rfl, S6.ob, T.c_State.cl, T.c_State.no _ (by decide), (by show 7 < 1000; decide), (by show 0 ≤ sizeLine; decide), fun g2 hg2 => ?_⟩
      have z := last _ O6 tp S6 t6 g2 hg2
      exact ⟨_, rfl, a, CS, dx, _, rfl, z.1, T.c_State.cl, T.c_State.no _ (by decide), (by show 7 < 1000; decide), _, rfl, z.2⟩
theorem ok_is_change (T : Txt K mg CS CH) : Ok P w K mg base 1 "is_change" ["number"] (sp1 fun a H Q => ∃ n : Nat, a = vn n ∧ n ≤ 42 ∧ Q (.bl (decide (1 ≤ n ∧ n ≤ 10))) H) := by
  refine ok1 T.f_is_change sc_is_change (fun _ _ _ _ _ _ _ => rfl) fun f cdv A outer s H a Q E hr h => ?_
  obtain ⟨n, rfl, hn, q⟩ := h
  refine ⟨_, (pss_one (ps_ret (pe_cmp (pc_kin T.d_CHANGES (pv 0))))), ?_⟩
  refine ⟨_, rfl, n, rfl, ?_⟩
  have all : ∀ n, n < 43 → (([(1, "rule"), (2, "lay"), (3, "propose"), (4, "answer_so"), (5, "press"), (6, "strike"), (7, "amend"), (8, "learn"), (9, "stock"), (10, "finish")] : List (Nat × Str)).lookup n).isSome = decide (1 ≤ n ∧ n ≤ 10) := by decide +kernel
  rw [all n (by omega)]
  exact q
def pMC (K : PySem.W.Frag) (CS : Addr) : V → V → V → Hp → VK → Prop := fun a b c H Q => ∃ n : Nat, b = vn n ∧ 1 ≤ n ∧ n ≤ 10 ∧ pChg K CS (doChange n) (arity n) a c H Q
theorem ok_make_change (T : Txt K mg CS CH) : Ok P w K mg base 10 "make_change" ["state", "number", "numbers"] (sp3 (pMC K CS)) := by
  refine ok3 T.f_make_change sc_make_change (fun _ _ _ _ _ _ _ _ _ => rfl) fun f cdv A outer s H a b c Q E hr h => ?_
  obtain ⟨n, rfl, n1, n10, H0, a, l, r, ns, rfl, rfl, O, G, hl, hn, q⟩ := h
  refine ⟨_, (pss_cons (ps_set (i := 3) sc_make_change.nd rfl (Or.inl rfl) (pe_kget T.d_CHANGES (pv 1)))
      (pss_one (ps_ret (pcallV 3 _ hr (pa_cons (pv 0) (pa_cons (pv 2) pa_nil)))))), ?_⟩
  refine ⟨_, rfl, n, ?_⟩
  have go : ∀ (x : Str) (d : Rec → List Nat → List Int × Rec) (okd : List Nat → Prop) (kk : Nat), doChange n = d → Ok P w K mg base kk x ["state", "numbers"] (sp2 (pChg K CS d okd)) → kk ≤ 9 → okd ns → ∀ f, mg x = some (.ref f) →
      OkA P w K mg base 9 f ["state", "numbers"] (sp2 (pChg K CS d okd)) ∧ sp2 (pChg K CS d okd) [.ref a, .ref l] H Q E0 := fun x d okd kk ed ok hk ho f hf => ⟨(ok.at_ hf).mono hk, _, _, rfl, H0, a, l, r, ns, rfl, rfl, O, G, hl, ho, by rw [← ed]; exact q⟩
  match n, n1, n10, hn, go with
  | 1, _, _, hn, go => exact ⟨_, rfl, rfl, fun f hf => let z := go _ _ _ _ rfl (ok_rule T) (by decide) (hn.1 (by decide) (by decide)) f hf; ⟨f, _, _, rfl, z.1, _, rfl, _, rfl, z.2⟩⟩
  | 2, _, _, hn, go => exact ⟨_, rfl, rfl, fun f hf => let z := go _ _ _ _ rfl (ok_lay T) (by decide) (hn.1 (by decide) (by decide)) f hf; ⟨f, _, _, rfl, z.1, _, rfl, _, rfl, z.2⟩⟩
  | 3, _, _, hn, go => exact ⟨_, rfl, rfl, fun f hf => let z := go _ _ _ _ rfl (ok_propose T) (by decide) (hn.1 (by decide) (by decide)) f hf; ⟨f, _, _, rfl, z.1, _, rfl, _, rfl, z.2⟩⟩
  | 4, _, _, hn, go => exact ⟨_, rfl, rfl, fun f hf => let z := go _ _ _ _ rfl (ok_answer_so T) (by decide) (hn.1 (by decide) (by decide)) f hf; ⟨f, _, _, rfl, z.1, _, rfl, _, rfl, z.2⟩⟩
  | 5, _, _, hn, go => exact ⟨_, rfl, rfl, fun f hf => let z := go _ _ _ _ rfl (ok_press T) (by decide) (hn.1 (by decide) (by decide)) f hf; ⟨f, _, _, rfl, z.1, _, rfl, _, rfl, z.2⟩⟩
  | 6, _, _, hn, go => exact ⟨_, rfl, rfl, fun f hf => let z := go _ _ _ _ rfl (ok_strike T) (by decide) (hn.1 (by decide) (by decide)) f hf; ⟨f, _, _, rfl, z.1, _, rfl, _, rfl, z.2⟩⟩
  | 7, _, _, hn, go => exact ⟨_, rfl, rfl, fun f hf => let z := go _ _ _ _ rfl (ok_amend T) (by decide) (hn.1 (by decide) (by decide)) f hf; ⟨f, _, _, rfl, z.1, _, rfl, _, rfl, z.2⟩⟩
  | 8, _, _, hn, go => exact ⟨_, rfl, rfl, fun f hf => let z := go _ _ _ _ rfl (ok_learn T) (by decide) (hn.1 (by decide) (by decide)) f hf; ⟨f, _, _, rfl, z.1, _, rfl, _, rfl, z.2⟩⟩
  | 9, _, _, hn, go => exact ⟨_, rfl, rfl, fun f hf => let z := go _ _ _ _ rfl (ok_stock T) (by decide) hn.2 f hf; ⟨f, _, _, rfl, z.1, _, rfl, _, rfl, z.2⟩⟩
  | 10, _, _, hn, go => exact ⟨_, rfl, rfl, fun f hf => let z := go _ _ _ _ rfl (ok_finish T) (by decide) trivial f hf; ⟨f, _, _, rfl, z.1, _, rfl, _, rfl, z.2⟩⟩
  | n + 11, _, n10, _, _ => omega
def pQs (K : PySem.W.Frag) (CS : Addr) : V → V → V → Hp → VK → Prop := fun a b c H Q => ∃ n : Nat, b = vn n ∧ 13 ≤ n ∧ n ≤ 22 ∧ pAsk K CS (dQ n) (arity n) a c H Q
theorem ok_ask (T : Txt K mg CS CH) : Ok P w K mg base 10 "ask" ["state", "number", "numbers"] (sp3 (pQs K CS)) := by
  refine ok3 T.f_ask sc_ask (fun _ _ _ _ _ _ _ _ _ => rfl) fun f cdv A outer s H a b c Q E hr h => ?_
  obtain ⟨n, rfl, n1, n10, a, l, r, ns, rfl, rfl, S0, G, hl, hn, q⟩ := h
  refine ⟨_, (pss_cons (ps_set (i := 3) sc_ask.nd rfl (Or.inl rfl) (pe_kget T.d_QUESTIONS (pv 1)))
      (pss_one (ps_ret (pcallV 3 _ hr (pa_cons (pv 0) (pa_cons (pv 2) pa_nil)))))), ?_⟩
  refine ⟨_, rfl, n, ?_⟩
  have go : ∀ (x : Str) (d : Rec → List Nat → List Int) (okd : List Nat → Prop) (kk : Nat), dQ n = d → Ok P w K mg base kk x ["state", "numbers"] (sp2 (pAsk K CS d okd)) → kk ≤ 9 → okd ns → ∀ f, mg x = some (.ref f) →
      OkA P w K mg base 9 f ["state", "numbers"] (sp2 (pAsk K CS d okd)) ∧ sp2 (pAsk K CS d okd) [.ref a, .ref l] H Q E0 := fun x d okd kk ed ok hk ho f hf => ⟨(ok.at_ hf).mono hk, _, _, rfl, a, l, r, ns, rfl, rfl, S0, G, hl, ho, by rw [← ed]; exact q⟩
  match n, n1, n10, hn, go with
  | 13, _, _, hn, go => exact ⟨_, rfl, rfl, fun f hf => let z := go _ _ _ _ rfl (ok_right T) (by decide) (hn.1 (by decide) (by decide)) f hf; ⟨f, _, _, rfl, z.1, _, rfl, _, rfl, z.2⟩⟩
  | 14, _, _, hn, go => exact ⟨_, rfl, rfl, fun f hf => let z := go _ _ _ _ rfl (ok_row T) (by decide) hn.2 f hf; ⟨f, _, _, rfl, z.1, _, rfl, _, rfl, z.2⟩⟩
  | 15, _, _, hn, go => exact ⟨_, rfl, rfl, fun f hf => let z := go _ _ _ _ rfl (ok_stands_told T) (by decide) trivial f hf; ⟨f, _, _, rfl, z.1, _, rfl, _, rfl, z.2⟩⟩
  | 16, _, _, hn, go => exact ⟨_, rfl, rfl, fun f hf => let z := go _ _ _ _ rfl (ok_log T) (by decide) (hn.1 (by decide) (by decide)) f hf; ⟨f, _, _, rfl, z.1, _, rfl, _, rfl, z.2⟩⟩
  | 17, _, _, hn, go => exact ⟨_, rfl, rfl, fun f hf => let z := go _ _ _ _ rfl (ok_concede T) (by decide) (hn.1 (by decide) (by decide)) f hf; ⟨f, _, _, rfl, z.1, _, rfl, _, rfl, z.2⟩⟩
  | 18, _, _, hn, go => exact ⟨_, rfl, rfl, fun f hf => let z := go _ _ _ _ rfl (ok_deny T) (by decide) (hn.1 (by decide) (by decide)) f hf; ⟨f, _, _, rfl, z.1, _, rfl, _, rfl, z.2⟩⟩
  | 19, _, _, hn, go => exact ⟨_, rfl, rfl, fun f hf => let z := go _ _ _ _ rfl (ok_may T) (by decide) (hn.1 (by decide) (by decide)) f hf; ⟨f, _, _, rfl, z.1, _, rfl, _, rfl, z.2⟩⟩
  | 20, _, _, hn, go => exact ⟨_, rfl, rfl, fun f hf => let z := go _ _ _ _ rfl (ok_false T) (by decide) trivial f hf; ⟨f, _, _, rfl, z.1, _, rfl, _, rfl, z.2⟩⟩
  | 21, _, _, hn, go => exact ⟨_, rfl, rfl, fun f hf => let z := go _ _ _ _ rfl (ok_from_stock T) (by decide) (hn.1 (by decide) (by decide)) f hf; ⟨f, _, _, rfl, z.1, _, rfl, _, rfl, z.2⟩⟩
  | 22, _, _, hn, go => exact ⟨_, rfl, rfl, fun f hf => let z := go _ _ _ _ rfl (ok_reach T) (by decide) trivial f hf; ⟨f, _, _, rfl, z.1, _, rfl, _, rfl, z.2⟩⟩
  | n + 23, _, n10, _, _ => omega
theorem ok_is_verdict (T : Txt K mg CS CH) : Ok P w K mg base 1 "is_verdict" ["number"] (sp1 fun a H Q => ∃ n : Nat, a = vn n ∧ n ≤ 42 ∧ Q (.bl (decide (23 ≤ n ∧ n ≤ 35))) H) := by
  refine ok1 T.f_is_verdict sc_is_verdict (fun _ _ _ _ _ _ _ => rfl) fun f cdv A outer s H a Q E hr h => ?_
  obtain ⟨n, rfl, hn, q⟩ := h
  refine ⟨_, (pss_one (ps_ret (pe_cmp (pc_kin T.d_VERDICTS (pv 0))))), ?_⟩
  refine ⟨_, rfl, n, rfl, ?_⟩
  have all : ∀ n, n < 43 → (([(23, "bad"), (24, "first"), (25, "caught"), (26, "mended"), (27, "least"), (28, "laids"), (29, "laid"), (30, "knowns"), (31, "known"), (32, "other"), (33, "clash"), (34, "clashes"), (35, "verdict")] : List (Nat × Str)).lookup n).isSome = decide (23 ≤ n ∧ n ≤ 35) := by decide +kernel
  rw [all n (by omega)]
  exact q
theorem ok_is_reckoned (T : Txt K mg CS CH) : Ok P w K mg base 1 "is_reckoned" ["number"] (sp1 fun a H Q => ∃ n : Nat, a = vn n ∧ n ≤ 42 ∧ Q (.bl (decide (36 ≤ n ∧ n ≤ 41))) H) := by
  refine ok1 T.f_is_reckoned sc_is_reckoned (fun _ _ _ _ _ _ _ => rfl) fun f cdv A outer s H a Q E hr h => ?_
  obtain ⟨n, rfl, hn, q⟩ := h
  refine ⟨_, (pss_one (ps_ret (pe_cmp (pc_kin T.d_RECKONED (pv 0))))), ?_⟩
  refine ⟨_, rfl, n, rfl, ?_⟩
  have all : ∀ n, n < 43 → (([(36, "letter"), (37, "not_of"), (38, "both"), (39, "either"), (40, "if_then"), (41, "sums")] : List (Nat × Str)).lookup n).isSome = decide (36 ≤ n ∧ n ≤ 41) := by decide +kernel
  rw [all n (by omega)]
  exact q
def pRk (K : PySem.W.Frag) (CS : Addr) : V → V → V → Hp → VK → Prop := fun a b c H Q => ∃ n : Nat, b = vn n ∧ 36 ≤ n ∧ n ≤ 41 ∧ pAsk K CS (dR n) (arity n) a c H Q
theorem ok_reckon (T : Txt K mg CS CH) : Ok P w K mg base 10 "reckon" ["state", "number", "numbers"] (sp3 (pRk K CS)) := by
  refine ok3 T.f_reckon sc_reckon (fun _ _ _ _ _ _ _ _ _ => rfl) fun f cdv A outer s H a b c Q E hr h => ?_
  obtain ⟨n, rfl, n1, n10, a, l, r, ns, rfl, rfl, S0, G, hl, hn, q⟩ := h
  refine ⟨_, (pss_cons (ps_set (i := 3) sc_reckon.nd rfl (Or.inl rfl) (pe_kget T.d_RECKONED (pv 1)))
      (pss_one (ps_ret (pcallV 3 _ hr (pa_cons (pv 0) (pa_cons (pv 2) pa_nil)))))), ?_⟩
  refine ⟨_, rfl, n, ?_⟩
  have go : ∀ (x : Str) (d : Rec → List Nat → List Int) (okd : List Nat → Prop) (kk : Nat), dR n = d → Ok P w K mg base kk x ["state", "numbers"] (sp2 (pAsk K CS d okd)) → kk ≤ 9 → okd ns → ∀ f, mg x = some (.ref f) →
      OkA P w K mg base 9 f ["state", "numbers"] (sp2 (pAsk K CS d okd)) ∧ sp2 (pAsk K CS d okd) [.ref a, .ref l] H Q E0 := fun x d okd kk ed ok hk ho f hf => ⟨(ok.at_ hf).mono hk, _, _, rfl, a, l, r, ns, rfl, rfl, S0, G, hl, ho, by rw [← ed]; exact q⟩
  match n, n1, n10, hn, go with
  | 36, _, _, hn, go => exact ⟨_, rfl, rfl, fun f hf => let z := go _ _ _ _ rfl (ok_letter T) (by decide) (hn.1 (by decide) (by decide)) f hf; ⟨f, _, _, rfl, z.1, _, rfl, _, rfl, z.2⟩⟩
  | 37, _, _, hn, go => exact ⟨_, rfl, rfl, fun f hf => let z := go _ _ _ _ rfl (ok_not_of T) (by decide) (hn.1 (by decide) (by decide)) f hf; ⟨f, _, _, rfl, z.1, _, rfl, _, rfl, z.2⟩⟩
  | 38, _, _, hn, go => exact ⟨_, rfl, rfl, fun f hf => let z := go _ _ _ _ rfl (ok_both T) (by decide) (hn.1 (by decide) (by decide)) f hf; ⟨f, _, _, rfl, z.1, _, rfl, _, rfl, z.2⟩⟩
  | 39, _, _, hn, go => exact ⟨_, rfl, rfl, fun f hf => let z := go _ _ _ _ rfl (ok_either T) (by decide) (hn.1 (by decide) (by decide)) f hf; ⟨f, _, _, rfl, z.1, _, rfl, _, rfl, z.2⟩⟩
  | 40, _, _, hn, go => exact ⟨_, rfl, rfl, fun f hf => let z := go _ _ _ _ rfl (ok_if_then T) (by decide) (hn.1 (by decide) (by decide)) f hf; ⟨f, _, _, rfl, z.1, _, rfl, _, rfl, z.2⟩⟩
  | 41, _, _, hn, go => exact ⟨_, rfl, rfl, fun f hf => let z := go _ _ _ _ rfl (ok_sums T) (by decide) trivial f hf; ⟨f, _, _, rfl, z.1, _, rfl, _, rfl, z.2⟩⟩
  | n + 42, _, n10, _, _ => omega
def pJudge (K : PySem.W.Frag) (CS : Addr) : V → V → V → Hp → VK → Prop := fun a b c H Q => ∃ n : Nat, b = vn n ∧ 23 ≤ n ∧ n ≤ 35 ∧ pAsk K CS (dJudge n) (arity n) a c H Q
theorem ok_judge (T : Txt K mg CS CH) : Ok P w K mg base 10 "judge" ["state", "number", "numbers"] (sp3 (pJudge K CS)) := by
  refine ok3 T.f_judge sc_judge (fun _ _ _ _ _ _ _ _ _ => rfl) fun f cdv A outer s H a b c Q E hr h => ?_
  obtain ⟨n, rfl, n1, n10, a, l, r, ns, rfl, rfl, S0, G, hl, hn, q⟩ := h
  refine ⟨_, (pss_cons (ps_if (PW.pt (pw_and (pt_cmpR on_eq (pv 1) (pgn T.g_CLASH) (nomark _)) (pw_and1 (pt_not (pt_val (pcall (ok_takes_all T) hr (pa_cons (pv 0) (pa_cons (pv 2) pa_nil))))))))
      (pss_one (ps_ret (pe_lst (pa_cons (pgi T.g_WRONG) pa_nil))))
      pss_nil)
      (pss_cons (ps_if (pt_val (pcall (ok_none_laid T) hr (pa_cons (pv 0) pa_nil)))
      (pss_one (ps_ret (pe_lst (pa_cons (pgi T.g_NOTHING) pa_nil))))
      pss_nil)
      (pss_cons (ps_set (i := 3) sc_judge.nd rfl (Or.inl rfl) (pe_kget T.d_VERDICTS (pv 1)))
      (pss_one (ps_ret (pcallV 3 _ hr (pa_cons (pv 0) (pa_cons (pv 2) pa_nil)))))))), ?_⟩
  have go : ∀ (x : Str) (d : Rec → List Nat → List Int) (okd : List Nat → Prop) (kk : Nat) (H1 : Hp), Same H H1 → dJudge n r ns = d r ns → Ok P w K mg base kk x ["state", "numbers"] (sp2 (pAsk K CS d okd)) → kk ≤ 9 → okd ns → ∀ f, mg x = some (.ref f) →
      OkA P w K mg base 9 f ["state", "numbers"] (sp2 (pAsk K CS d okd)) ∧ sp2 (pAsk K CS d okd) [.ref a, .ref l] H1 Q E0 := fun x d okd kk H1 s1 ed ok hk ho f hf => ⟨(ok.at_ hf).mono hk, _, _, rfl, a, l, r, ns, rfl, rfl, S0.same s1, G, s1.seq hl, ho, fun H' p hp s2 h2 => q _ p (s1.free hp) (s1.trans s2) (by rw [ed]; exact h2)⟩
  refine ⟨_, rfl, _, _, rfl, rfl, _, rfl, ifD (fun h33 => ?_) fun h33 => ?_⟩
  · subst h33
    refine ⟨_, rfl, _, rfl, _, _, rfl, a, l, r, ns, rfl, rfl, S0, G, hl, hn.2, fun H1 s1 => ⟨_, rfl, ifB (fun h2 => ?_) fun h2 => ?_⟩⟩
    · have h2 : ¬ okAll r ns := by unfold okAll; rw [Bool.not_eq_true'] at h2; rw [h2]; exact Bool.false_ne_true
      exact stay s1 (c := [-22]) (by unfold dJudge; rw [if_pos ⟨rfl, h2⟩]) rfl (by show 1 ≤ sizeLine; decide) q
    · have h2 : okAll r ns := by rw [Bool.not_eq_false'] at h2; exact h2
      have e0 : dJudge 33 r ns = if r.laid = 0 then [-6] else dV 33 r ns := by unfold dJudge; rw [if_neg (fun z => z.2 h2)]
      refine ⟨_, rfl, _, rfl, a, r, rfl, S0.same s1, _, rfl, ifD (fun h3 => ?_) fun h3 => ?_⟩
      · exact stay s1 (c := [-6]) (by rw [e0, if_pos h3]) rfl (by show 1 ≤ sizeLine; decide) q
      · exact ⟨_, rfl, 33, _, rfl, rfl, fun f hf => let z := go _ _ _ _ H1 s1 (by rw [e0, if_neg h3]; rfl) (ok_clash T) (by decide) (hn.1 (by decide) (by decide)) f hf; ⟨f, _, _, rfl, z.1, _, rfl, _, rfl, z.2⟩⟩
  · have e0 : dJudge n r ns = if r.laid = 0 then [-6] else dV n r ns := by unfold dJudge; rw [if_neg (fun z => h33 z.1)]
    refine iteF ⟨_, rfl, _, rfl, a, r, rfl, S0, _, rfl, ifD (fun h3 => ?_) fun h3 => ?_⟩
    · exact stay (Same.refl H) (c := [-6]) (by rw [e0, if_pos h3]) rfl (by show 1 ≤ sizeLine; decide) q
    · rw [if_neg h3] at e0
      refine ⟨_, rfl, n, ?_⟩
      match n, n1, n10, hn, go, e0, h33 with
      | 23, _, _, hn, go, e0, _ => exact ⟨_, rfl, rfl, fun f hf => let z := go _ _ _ _ H (Same.refl H) e0 (ok_bad T) (by decide) trivial f hf; ⟨f, _, _, rfl, z.1, _, rfl, _, rfl, z.2⟩⟩
      | 24, _, _, hn, go, e0, _ => exact ⟨_, rfl, rfl, fun f hf => let z := go _ _ _ _ H (Same.refl H) e0 (ok_first T) (by decide) trivial f hf; ⟨f, _, _, rfl, z.1, _, rfl, _, rfl, z.2⟩⟩
      | 25, _, _, hn, go, e0, _ => exact ⟨_, rfl, rfl, fun f hf => let z := go _ _ _ _ H (Same.refl H) e0 (ok_caught T) (by decide) trivial f hf; ⟨f, _, _, rfl, z.1, _, rfl, _, rfl, z.2⟩⟩
      | 26, _, _, hn, go, e0, _ => exact ⟨_, rfl, rfl, fun f hf => let z := go _ _ _ _ H (Same.refl H) e0 (ok_mended T) (by decide) trivial f hf; ⟨f, _, _, rfl, z.1, _, rfl, _, rfl, z.2⟩⟩
      | 27, _, _, hn, go, e0, _ => exact ⟨_, rfl, rfl, fun f hf => let z := go _ _ _ _ H (Same.refl H) e0 (ok_least T) (by decide) trivial f hf; ⟨f, _, _, rfl, z.1, _, rfl, _, rfl, z.2⟩⟩
      | 28, _, _, hn, go, e0, _ => exact ⟨_, rfl, rfl, fun f hf => let z := go _ _ _ _ H (Same.refl H) e0 (ok_laids T) (by decide) trivial f hf; ⟨f, _, _, rfl, z.1, _, rfl, _, rfl, z.2⟩⟩
      | 29, _, _, hn, go, e0, _ => exact ⟨_, rfl, rfl, fun f hf => let z := go _ _ _ _ H (Same.refl H) e0 (ok_laid T) (by decide) (hn.1 (by decide) (by decide)) f hf; ⟨f, _, _, rfl, z.1, _, rfl, _, rfl, z.2⟩⟩
      | 30, _, _, hn, go, e0, _ => exact ⟨_, rfl, rfl, fun f hf => let z := go _ _ _ _ H (Same.refl H) e0 (ok_knowns T) (by decide) trivial f hf; ⟨f, _, _, rfl, z.1, _, rfl, _, rfl, z.2⟩⟩
      | 31, _, _, hn, go, e0, _ => exact ⟨_, rfl, rfl, fun f hf => let z := go _ _ _ _ H (Same.refl H) e0 (ok_known T) (by decide) (hn.1 (by decide) (by decide)) f hf; ⟨f, _, _, rfl, z.1, _, rfl, _, rfl, z.2⟩⟩
      | 32, _, _, hn, go, e0, _ => exact ⟨_, rfl, rfl, fun f hf => let z := go _ _ _ _ H (Same.refl H) e0 (ok_other T) (by decide) trivial f hf; ⟨f, _, _, rfl, z.1, _, rfl, _, rfl, z.2⟩⟩
      | 33, _, _, _, _, _, h33 => exact absurd rfl h33
      | 34, _, _, hn, go, e0, _ => exact ⟨_, rfl, rfl, fun f hf => let z := go _ _ _ _ H (Same.refl H) e0 (ok_clashes T) (by decide) trivial f hf; ⟨f, _, _, rfl, z.1, _, rfl, _, rfl, z.2⟩⟩
      | 35, _, _, hn, go, e0, _ => exact ⟨_, rfl, rfl, fun f hf => let z := go _ _ _ _ H (Same.refl H) e0 (ok_verdict T) (by decide) trivial f hf; ⟨f, _, _, rfl, z.1, _, rfl, _, rfl, z.2⟩⟩
      | n + 36, _, n10, _, _, _, _ => omega
end
end DY
namespace DY
open L2 DX DM
open Krb7 (full)
theorem beq_dec (a b : Nat) : (a == b) = decide (a = b) := by by_cases h : a = b <;> simp [h]
def hall (r : Rec) : Kru8.Hall := ⟨r.m, r.known, r.rule, if r.laid = 0 then none else some r.laid, r.given, r.stock, r.ended.length, (r.ended.map (·.1)).sum, (r.ended.map (·.2)).sum⟩
section
variable {r : Rec} (G : Good r)
theorem hall_laid (h : ¬ r.laid = 0) : (hall r).laid = some r.laid := by show (if r.laid = 0 then none else some r.laid) = _; rw [if_neg h]
theorem hall_off : (hall r).laid.isNone = decide (r.laid = 0) := by
  show (if r.laid = 0 then none else some r.laid).isNone = _
  by_cases h : r.laid = 0
  · rw [if_pos h]; simp [h]
  · rw [if_neg h]; simp [h]
theorem hall_on (h : ¬ r.laid = 0) : (hall r).on = r.laid := by
  unfold Kru8.Hall.on
  rw [hall_laid h]
  rfl
theorem hall_base (h : ¬ r.laid = 0) : (hall r).base = now r := by
  unfold Kru8.Hall.base now
  rw [hall_on h]
  rfl
theorem hall_by (h : ¬ r.laid = 0) : (hall r).by_ = byW r (now r) := by
  unfold Kru8.Hall.by_ byW
  rw [hall_on h, hall_base h]
  rfl
theorem hall_right (h : ¬ r.laid = 0) (p : Nat) : (hall r).right p = rw_ r (now r) p := by
  unfold Kru8.Hall.right rw_
  rw [hall_by h]
  rfl
theorem find_congr {α : Type} {f g : α → Bool} : ∀ {l : List α}, (∀ x ∈ l, f x = g x) → l.find? f = l.find? g
  | [], _ => rfl
  | x :: l, h => by
    rw [List.find?_cons, List.find?_cons, h x (by simp), find_congr fun y hy => h y (List.mem_cons_of_mem _ hy)]
theorem filter_congr' {α : Type} {f g : α → Bool} : ∀ {l : List α}, (∀ x ∈ l, f x = g x) → l.filter f = l.filter g
  | [], _ => rfl
  | x :: l, h => by
    rw [List.filter_cons, List.filter_cons, h x (by simp), filter_congr' fun y hy => h y (List.mem_cons_of_mem _ hy)]
include G
theorem now_full : now r ≤ full r.m := Nat.le_trans (now_le r) G.la
theorem rw0 (h : ¬ r.rule = 1) (s p : Nat) : rw_ r s p = Krb7.right r.known s p := by unfold rw_ byW; rw [if_neg h]
theorem rw1 (h : r.rule = 1) (s p : Nat) : rw_ r s p = Krb7.right r.known r.laid p := by unfold rw_ byW; rw [if_pos h]
theorem next0 (h : ¬ r.rule = 1) {s p : Nat} (hs : s ≤ full r.m) (hp : p ≤ full r.m) (x : Krc9.House) (hm : x.m = r.m) (hk : x.known = r.known) : nextW r s p = x.next s p := by
  unfold nextW Krc9.House.next
  rw [rw0 G h, hm, hk, behind_eq hs hp]
theorem hall_row (h : ¬ r.laid = 0) (t a : Nat) : (hall r).row a t = rowF r t a := by
  unfold Kru8.Hall.row rowF
  by_cases h1 : r.rule = 1
  · have e1 : (hall r).rule = 1 := h1
    rw [if_pos e1, hall_right h]
    by_cases h2 : rw_ r (now r) t = a
    · rw [if_pos h2, if_pos h2]
    · rw [if_neg h2, if_neg h2]
      have : (List.range (full r.m + 1)).find? (fun q => rw_ r (nextW r (now r) q) t == a) = none := by
        rw [List.find?_eq_none]
        intro q _
        rw [rw1 G h1] at h2 ⊢
        simpa using h2
      rw [this]
      rfl
  · have e1 : ¬ (hall r).rule = 1 := h1
    rw [if_neg e1]
    unfold Krc9.House.row
    have eb : (hall r).foe.stands = now r := hall_base h
    have ek : (hall r).foe.known = r.known := rfl
    rw [eb, ek, rw0 G h1]
    by_cases h2 : Krb7.right r.known (now r) t = a
    · rw [if_pos h2, if_pos h2]
    · rw [if_neg h2, if_neg h2]
      congr 1
      unfold Krc9.House.ahead Krc9.House.ps
      rw [eb]
      refine (find_congr fun q hq => ?_).symm
      have hq : q < full r.m + 1 := List.mem_range.mp hq
      have hq : q ≤ full r.m := by omega
      rw [rw0 G h1, next0 G h1 (now_full G) hq (hall r).foe rfl rfl]
      rfl
theorem within_dec (k p : Nat) : Krb7.within k p = decide (k &&& p = k) := by unfold Krb7.within; exact beq_dec _ _
theorem hall_can (h : ¬ r.laid = 0) (t : Nat) : (hall r).can t = canB r t := by
  unfold Kru8.Hall.can canB
  by_cases h1 : r.rule = 1
  · have e1 : (hall r).rule = 1 := h1
    rw [if_pos e1, if_pos (.inl h1), hall_right h]
    exact beq_dec _ _
  · have e1 : ¬ (hall r).rule = 1 := h1
    rw [if_neg e1, hall_base h]
    by_cases h2 : now r = 0
    · rw [if_pos (.inr h2), rw0 G h1, h2]
      have : Krb7.right r.known 0 t = 1 := by
        unfold Krb7.right Krb7.within
        rw [Nat.zero_and]
        rfl
      rw [this]
      rfl
    · rw [if_neg (by rintro (z | z); exact h1 z; exact h2 z)]
      have e0 : (now r == 0) = false := by simpa using h2
      rw [e0, Bool.false_or]
      unfold Krc9.House.can
      rw [if_pos rfl]
      have eb : (hall r).foe.stands = now r := hall_base h
      have ek : (hall r).foe.known = r.known := rfl
      rw [eb, ek, within_dec G]
      unfold Krb7.both
      rw [Nat.and_comm r.known (now r), Bool.and_comm]
      congr 1
theorem hall_false (h : ¬ r.laid = 0) : (hall r).false_ = falseL r := by
  unfold Kru8.Hall.false_ falseL
  rw [List.filter_filter]
  refine filter_congr' fun t _ => ?_
  rw [hall_can G h, Bool.and_comm]
  congr 1
  show (Krb7.truth r.known t == 0) = _
  unfold Krb7.truth Krb7.both
  rw [within_dec G]
  by_cases h1 : r.known &&& t = r.known
  · rw [if_pos (by simpa using h1), h1]
    have := G.k0
    rw [decide_eq_false this]
    rfl
  · rw [if_neg (by simpa using h1)]
    by_cases h2 : r.known &&& t = 0
    · rw [if_pos h2, decide_eq_true h2]; rfl
    · rw [if_neg h2, decide_eq_false h2]; rfl
omit G in
theorem bne_dec (a b : Nat) : (a != b) = !decide (a = b) := by
  show (!(a == b)) = _
  rw [beq_dec]
theorem hall_bad (h : ¬ r.laid = 0) : (hall r).bad = bads r := by
  unfold Kru8.Hall.bad bads
  by_cases h1 : r.rule = 1
  · have e1 : (hall r).rule = 1 := h1
    rw [if_pos e1]
    unfold Kru7.House.badAlone Kru7.House.is Kru7.House.n
    refine filter_congr' fun i _ => ?_
    unfold badB
    rw [rw1 G h1, bne_dec]
    show (!decide ((gv r i).2 = Krb7.right r.known (hall r).on (gv r i).1)) = _
    rw [hall_on h]
  · have e1 : ¬ (hall r).rule = 1 := h1
    rw [if_neg e1]
    unfold Kru7.House.bad Kru7.House.is Kru7.House.n
    refine filter_congr' fun i _ => ?_
    unfold badB
    rw [rw0 G h1, bne_dec]
    show (!decide ((gv r i).2 = Krb7.right r.known (Krb7.stands r.m (hall r).on (r.given.take i)) (gv r i).1)) = _
    rw [hall_on h]
    rfl
theorem hall_verdict (h : ¬ r.laid = 0) : (hall r).verdict = vdt r := by
  unfold Kru8.Hall.verdict vdt
  rw [hall_bad G h, hall_base h]
end
theorem count_pc {m x : Nat} (h1 : 1 ≤ m) (h3 : m ≤ 3) (hx : x ≤ full m) : Krb7.count m x = pc 8 x := by
  have all : ∀ m, m = 1 ∨ m = 2 ∨ m = 3 → ((List.range (full m + 1)).all fun x => Krb7.count m x == pc 8 x) = true := by
    rintro m (rfl | rfl | rfl) <;> decide +kernel
  have := List.all_eq_true.mp (all m (by omega)) x (List.mem_range.mpr (by omega))
  exact eq_of_beq this
end DY
namespace DY
open L2 DX DM
open Krb7 (full)
theorem hall_may {r : Rec} (G : Good r) (h : ¬ r.laid = 0) (t : Nat) : Krc9.bits ([0, 1, 2].filter fun x => ((hall r).row x t).isSome) = mayF r t := by
  have e : (fun x => ((hall r).row x t).isSome) = fun x => (rowF r t x).isSome := by funext x; rw [hall_row G h]
  rw [e]
  unfold mayF mayG wants Krc9.bits
  simp only [List.filter_cons, List.filter_nil, List.foldl_cons, List.foldl_nil]
  cases (rowF r t 0).isSome <;> cases (rowF r t 1).isSome <;> cases (rowF r t 2).isSome <;> decide
theorem hall_push {r : Rec} (h : ¬ r.laid = 0) (p : Nat) : hall (pushR r p) = (hall r).propose p := by
  unfold Kru8.Hall.propose
  rw [hall_right h]
  rfl
theorem hall_pushes : ∀ {l : List Nat} {r : Rec}, ¬ r.laid = 0 → hall (l.foldl pushR r) = (hall r).proposes l
  | [], r, _ => rfl
  | p :: l, r, h => by
    show hall (l.foldl pushR (pushR r p)) = ((hall r).propose p).proposes l
    rw [← hall_push h, hall_pushes (l := l) (r := pushR r p) h]
theorem now_more {r : Rec} (hla : r.laid ≤ full r.m) {p a : Nat} (hp : p ≤ full r.m) : now (more r p a) = nrw (now r) p a := by
  show Krb7.stands r.m r.laid (r.given ++ [(p, a)]) = _
  rw [stands_snoc, behind_eq (Nat.le_trans (stands_le _ _ _) hla) hp]
  rfl
theorem pushes_given : ∀ {l : List Nat} {r : Rec}, r.laid ≤ full r.m → (∀ p ∈ l, p ≤ full r.m) → (l.foldl pushR r).given = r.given ++ l.zip (rowA r (now r) l)
  | [], r, _, _ => by simp
  | p :: l, r, hla, hl => by
    have ih := pushes_given (l := l) (r := pushR r p) hla (fun q hq => hl q (List.mem_cons_of_mem _ hq))
    show (l.foldl pushR (pushR r p)).given = _
    rw [ih]
    have en : now (pushR r p) = nextW r (now r) p := now_more hla (hl p (by simp))
    have ea : ∀ s, rowA (pushR r p) s l = rowA r s l := by
      have : ∀ (l : List Nat) s, rowA (pushR r p) s l = rowA r s l := by
        intro l
        induction l with
        | nil => intro s; rfl
        | cons x l ih => intro s; show rw_ r s x :: rowA (pushR r p) (nextW r s x) l = _; rw [ih]; rfl
      exact this l
    rw [en, ea]
    show (r.given ++ [(p, rw_ r (now r) p)]) ++ _ = r.given ++ ((p, rw_ r (now r) p) :: _)
    rw [List.append_assoc]
    rfl
theorem zip_snd : ∀ {l m : List Nat}, m.length = l.length → (l.zip m).map (fun x => x.2) = m
  | [], [], _ => rfl
  | x :: l, y :: m, h => by
    show y :: (l.zip m).map (fun x => x.2) = y :: m
    rw [zip_snd (by simpa using h)]
  | [], _ :: _, h => by simp at h
  | _ :: _, [], h => by simp at h
theorem hall_rowA {r : Rec} (G : Good r) (h : ¬ r.laid = 0) {l : List Nat} (hl : ∀ p ∈ l, p ≤ full r.m) : (((hall r).proposes l).said.drop (hall r).said.length).map (fun x => x.2) = rowA r (now r) l := by
  rw [← hall_pushes h]
  show ((l.foldl pushR r).given.drop r.given.length).map (fun x => x.2) = _
  rw [pushes_given G.la hl, List.drop_left, zip_snd (rowA_len r l _)]
theorem stock_le {r : Rec} (G : Good r) (i : Nat) : r.stock.getD i 0 ≤ full r.m := by
  rw [List.getD_eq_getElem?_getD]
  cases e : r.stock[i]? with
  | none => exact Nat.zero_le _
  | some p => exact G.st p (List.mem_of_getElem? e)
theorem nxt_nxS {r : Rec} (G : Good r) (h0 : ¬ r.rule = 1) {b : Nat} (hb : b ≤ full r.m) (i : Nat) : nxt (hall r).foe b i = nxS r b i := by
  show (hall r).foe.next b (r.stock.getD i 0) = nextW r b (r.stock.getD i 0)
  exact (next0 G h0 hb (stock_le G i) (hall r).foe rfl rfl).symm
theorem hit_eq {r : Rec} (G : Good r) (h0 : ¬ r.rule = 1) (f : Nat → Bool) : ∀ (k b : Nat), b ≤ full r.m → hit r.stock.length (nxt (hall r).foe) f k b = hit r.stock.length (nxS r) f k b
  | 0, _, _ => rfl
  | k + 1, b, hb => by
    have q : ∀ i, nxt (hall r).foe b i = nxS r b i := nxt_nxS G h0 hb
    have le : ∀ i, nxS r b i ≤ full r.m := fun i => Nat.le_trans nrw_le hb
    show ((List.range r.stock.length).any fun i => hit r.stock.length (nxt (hall r).foe) f k (nxt (hall r).foe b i)) = ((List.range r.stock.length).any fun i => hit r.stock.length (nxS r) f k (nxS r b i))
    congr 1
    funext i
    rw [q, hit_eq G h0 f k _ (le i)]
theorem isD_eq {r : Rec} (G : Good r) (h0 : ¬ r.rule = 1) (f : Nat → Bool) {k b : Nat} (hb : b ≤ full r.m) : IsD r.stock.length (nxt (hall r).foe) f b k ↔ IsD r.stock.length (nxS r) f b k := by
  unfold DM.IsD
  constructor
  · rintro ⟨a, c⟩
    exact ⟨by rw [← hit_eq G h0 f _ _ hb]; exact a, fun j hj => by rw [← hit_eq G h0 f _ _ hb]; exact c j hj⟩
  · rintro ⟨a, c⟩
    exact ⟨by rw [hit_eq G h0 f _ _ hb]; exact a, fun j hj => by rw [hit_eq G h0 f _ _ hb]; exact c j hj⟩
theorem wy_eq {r : Rec} (G : Good r) (h0 : ¬ r.rule = 1) (f : Nat → Bool) : ∀ (k b : Nat), b ≤ full r.m → IsD r.stock.length (nxS r) f b k → wy r.stock.length (nxt (hall r).foe) f k b = wy r.stock.length (nxS r) f k b
  | 0, _, _, _ => rfl
  | k + 1, b, hb, hD => by
    obtain ⟨i, hi, h1, h2, e1⟩ := (wayOf_wy r.stock.length (nxt (hall r).foe) f).succ k b ((isD_eq G h0 f hb).mpr hD)
    obtain ⟨j, hj, g1, g2, e2⟩ := (wayOf_wy r.stock.length (nxS r) f).succ k b hD
    have q : ∀ i, nxt (hall r).foe b i = nxS r b i := nxt_nxS G h0 hb
    have le : ∀ i, nxS r b i ≤ full r.m := fun i => Nat.le_trans nrw_le hb
    rw [q] at h1
    have h1' := (isD_eq G h0 f (le i)).mp h1
    have e : i = j := (wayOf_wy r.stock.length (nxS r) f).uniq h1' (fun j hj d => h2 j hj (by rw [q]; exact (isD_eq G h0 f (le j)).mpr d)) g1 g2
    subst e
    rw [e1, e2, q, wy_eq G h0 f k _ (le i) h1']
theorem hall_from {r : Rec} (G : Good r) (h : ¬ r.laid = 0) (t x : Nat) :
    (if (hall r).rule = 1 then (if (hall r).right t = x then some [] else none) else ((hall r).foe.soonest (fun b => Krb7.right (hall r).known b t == x) (hall r).base).map fun k => (hall r).foe.way (fun b => Krb7.right (hall r).known b t == x) k (hall r).base) = fromF r t x := by
  by_cases h1 : r.rule = 1
  · have e1 : (hall r).rule = 1 := h1
    rw [if_pos e1, hall_right h]
    have const : ∀ b, hitF r t x b = decide (rw_ r (now r) t = x) := fun b => by
      unfold hitF
      rw [rw1 G h1, rw1 G h1, beq_dec]
    by_cases h2 : rw_ r (now r) t = x
    · rw [if_pos h2, fromF_some (K := 0) (isD_zero (by rw [const]; exact decide_eq_true h2))]
      rfl
    · rw [if_neg h2]
      have no : ∀ j b, hit r.stock.length (nxS r) (hitF r t x) j b = false := by
        intro j
        induction j with
        | zero => intro b; show hitF r t x b = false; rw [const]; exact decide_eq_false h2
        | succ j ih =>
          intro b
          cases q : hit r.stock.length (nxS r) (hitF r t x) (j + 1) b with
          | false => rfl
          | true =>
            obtain ⟨i, _, z⟩ := hit_succ.mp q
            rw [ih] at z
            cases z
      rw [fromF_none (fun j => no j _)]
  · have e1 : ¬ (hall r).rule = 1 := h1
    have ef : (fun b => Krb7.right (hall r).known b t == x) = hitF r t x := by
      funext b
      unfold hitF
      rw [rw0 G h1]
      rfl
    rw [if_neg e1, ef, hall_base h]
    have lt : now r < 256 := G.now_lt
    cases e : (hall r).foe.soonest (hitF r t x) (now r) with
    | none =>
      have z := (soonest_none lt).mp e
      rw [fromF_none fun j => by rw [← hit_eq G h1 _ _ _ (now_full G)]; exact z j]
      rfl
    | some k =>
      have z : IsD r.stock.length (nxt (hall r).foe) (hitF r t x) (now r) k := (soonest_some lt).mp e
      have z2 := (isD_eq G h1 _ (now_full G)).mp z
      rw [fromF_some z2]
      show some ((hall r).foe.way (hitF r t x) k (now r)) = _
      rw [way_wy (hall r).foe (hitF r t x) k (now r) lt z]
      exact congrArg some (wy_eq G h1 _ k _ (now_full G) z2)
end DY
namespace DY
open PySem PySem.Spec PyProof.Rows L2 DX DM
open Krb7 (full)
structure Wd where
  cur : Rec
  past : List Rec
  next : List Rec
def Sts (CS : Addr) (H : Hp) : List Addr → List Rec → Prop
  | [], [] => True
  | a :: as, r :: l => StAt CS H a r ∧ Sts CS H as l
  | _, _ => False
theorem Sts.same {CS : Addr} {H H' : Hp} (e : Same H H') : ∀ {as : List Addr} {l : List Rec}, Sts CS H as l → Sts CS H' as l
  | [], [], _ => trivial
  | a :: as, x :: l, h => ⟨h.1.same e, Sts.same e h.2⟩
  | [], _ :: _, h => h.elim
  | _ :: _, [], h => h.elim
theorem Sts.len {CS : Addr} {H : Hp} : ∀ {as : List Addr} {l : List Rec}, Sts CS H as l → as.length = l.length
  | [], [], _ => rfl
  | a :: as, x :: l, h => by simp [Sts.len h.2]
  | [], _ :: _, h => h.elim
  | _ :: _, [], h => h.elim
theorem Sts.snoc {CS : Addr} {H : Hp} {q : Addr} {y : Rec} (hq : StAt CS H q y) : ∀ {as : List Addr} {l : List Rec}, Sts CS H as l → Sts CS H (as ++ [q]) (l ++ [y])
  | [], [], _ => ⟨hq, trivial⟩
  | a :: as, x :: l, h => ⟨h.1, Sts.snoc hq h.2⟩
  | [], _ :: _, h => h.elim
  | _ :: _, [], h => h.elim
theorem Sts.dr {CS : Addr} {H : Hp} : ∀ {n : Nat} {as : List Addr} {l : List Rec}, Sts CS H as l → Sts CS H (as.drop n) (l.drop n)
  | 0, as, l, h => h
  | n + 1, [], [], _ => trivial
  | n + 1, a :: as, x :: l, h => Sts.dr (n := n) h.2
  | _ + 1, [], _ :: _, h => h.elim
  | _ + 1, _ :: _, [], h => h.elim
theorem Sts.last {CS : Addr} {H : Hp} {y : Rec} : ∀ {as : List Addr} {l : List Rec}, Sts CS H as (l ++ [y]) → ∃ bs q, as = bs ++ [q] ∧ StAt CS H q y ∧ Sts CS H bs l
  | [], [], h => h.elim
  | [], _ :: _, h => h.elim
  | [a], [], h => ⟨[], a, rfl, h.1, trivial⟩
  | a :: b :: as, [], h => h.2.elim
  | a :: as, x :: l, h => by
    obtain ⟨bs, q, e, h1, h2⟩ := Sts.last (as := as) (l := l) (y := y) h.2
    exact ⟨a :: bs, q, by rw [e]; rfl, h1, h.1, h2⟩
def hf (nv : V) (e u : Addr) : List (Str × V) := [("now", nv), ("earlier", .ref e), ("undone", .ref u)]
def Holds (CS : Addr) (H : Hp) (nv : V) (es us : List Addr) : Option Wd → Prop
  | none => nv = .non ∧ es = [] ∧ us = []
  | some w => ∃ c, nv = .ref c ∧ StAt CS H c w.cur ∧ Sts CS H es w.past.reverse ∧ Sts CS H us w.next.reverse
theorem Holds.same {CS : Addr} {H H' : Hp} {nv : V} {es us : List Addr} {o : Option Wd} (e : Same H H') (h : Holds CS H nv es us o) : Holds CS H' nv es us o := by
  cases o with
  | none => exact h
  | some w =>
    obtain ⟨c, h1, h2, h3, h4⟩ := h
    exact ⟨c, h1, h2.same e, h3.same e, h4.same e⟩
structure HW (CS CH : Addr) (H0 HS H : Hp) (a : Addr) (o : Option Wd) (dx e u : Addr) (nv : V) (es us : List Addr) : Prop where
  sH : Same H0 H
  dj : ∀ b xs, H0 b = some (.lst xs) → HS b = none
  a00 : H0 a = none
  e00 : H0 e = none
  u00 : H0 u = none
  s1 : Same HS H
  a0 : HS a = none
  e0 : HS e = none
  u0 : HS u = none
  ne : e ≠ u
  ob : H a = some (.ins CH dx (hf nv e u))
  ea : H e = some (.lst (es.map V.ref))
  un : H u = some (.lst (us.map V.ref))
  ho : Holds CS HS nv es us o
def HOwn (CS CH : Addr) (H0 H : Hp) (a : Addr) (o : Option Wd) : Prop := ∃ HS dx e u nv es us, HW CS CH H0 HS H a o dx e u nv es us
theorem HW.mono {CS CH : Addr} {H0 HS H H' : Hp} {a : Addr} {o : Option Wd} {dx e u : Addr} {nv : V} {es us : List Addr} (h : HW CS CH H0 HS H a o dx e u nv es us) (s : Same H H') : HW CS CH H0 HS H' a o dx e u nv es us :=
  ⟨h.sH.trans s, h.dj, h.a00, h.e00, h.u00, h.s1.trans s, h.a0, h.e0, h.u0, h.ne, s _ _ h.ob, s _ _ h.ea, s _ _ h.un, h.ho⟩
theorem HOwn.mono {CS CH : Addr} {H0 H H' : Hp} {a : Addr} {o : Option Wd} (h : HOwn CS CH H0 H a o) (s : Same H H') : HOwn CS CH H0 H' a o := let ⟨HS, dx, e, u, nv, es, us, h⟩ := h; ⟨HS, dx, e, u, nv, es, us, h.mono s⟩
theorem HOwn.same {CS CH : Addr} {H0 H : Hp} {a : Addr} {o : Option Wd} (h : HOwn CS CH H0 H a o) : Same H0 H := let ⟨_, _, _, _, _, _, _, h⟩ := h; h.sH
theorem HW.nae {CS CH : Addr} {H0 HS H : Hp} {a : Addr} {o : Option Wd} {dx e u : Addr} {nv : V} {es us : List Addr} (h : HW CS CH H0 HS H a o dx e u nv es us) : a ≠ e ∧ a ≠ u := ⟨ne_of h.ob h.ea (by intro z; cases z), ne_of h.ob h.un (by intro z; cases z)⟩
theorem HW.wr {CS CH : Addr} {H0 HS H : Hp} {a : Addr} {o : Option Wd} {dx e u : Addr} {nv : V} {es us : List Addr} (h : HW CS CH H0 HS H a o dx e u nv es us) {t : Addr} {v : HO} (ht : HS t = none) (n1 : t ≠ a) (n2 : t ≠ e) (n3 : t ≠ u) : HW CS CH (upd H0 t v) HS (upd H t v) a o dx e u nv es us := by
  refine ⟨fun b x q => ?_, fun b xs q => ?_, ?_, ?_, ?_, fun b x q => ?_, h.a0, h.e0, h.u0, h.ne, ?_, ?_, ?_, h.ho⟩
  · by_cases z : b = t
    · subst z; rw [upd_same] at q ⊢; exact q
    · rw [upd_ne z] at q ⊢; exact h.sH _ _ q
  · by_cases z : b = t
    · subst z; exact ht
    · rw [upd_ne z] at q; exact h.dj _ _ q
  · rw [upd_ne n1.symm]; exact h.a00
  · rw [upd_ne n2.symm]; exact h.e00
  · rw [upd_ne n3.symm]; exact h.u00
  · rw [upd_ne (ne_of_none q ht)]; exact h.s1 _ _ q
  · rw [upd_ne n1.symm]; exact h.ob
  · rw [upd_ne n2.symm]; exact h.ea
  · rw [upd_ne n3.symm]; exact h.un
theorem HOwn.new {CS CH : Addr} {H0 H : Hp} {a t : Addr} {o : Option Wd} {v : HO} (h : HOwn CS CH H0 H a o) (ht : H t = none) : HOwn CS CH (upd H0 t v) (upd H t v) a o := by
  obtain ⟨HS, dx, e, u, nv, es, us, W⟩ := h
  exact ⟨HS, dx, e, u, nv, es, us, W.wr (W.s1.free ht) (ne_of_none W.ob ht).symm (ne_of_none W.ea ht).symm (ne_of_none W.un ht).symm⟩
theorem HOwn.put {CS CH : Addr} {H0 H : Hp} {a t : Addr} {o : Option Wd} {v : HO} {xs : List V} (h : HOwn CS CH H0 H a o) (ht : H0 t = some (.lst xs)) : HOwn CS CH (upd H0 t v) (upd H t v) a o := by
  obtain ⟨HS, dx, e, u, nv, es, us, W⟩ := h
  exact ⟨HS, dx, e, u, nv, es, us, W.wr (W.dj _ _ ht) (ne_of_none ht W.a00) (ne_of_none ht W.e00) (ne_of_none ht W.u00)⟩
def Wd.back (w : Wd) : Wd × List Int := match w.past with
  | [] => (w, [-6])
  | x :: r => (⟨x, r, w.cur :: w.next⟩, [(r.length : Int)])
def Wd.again (w : Wd) : Wd × List Int := match w.next with
  | [] => (w, [-6])
  | x :: r => (⟨x, (w.cur :: w.past).take 20, r⟩, [(r.length : Int)])
section
variable {P : Program} {w : World} {K : PySem.W.Frag} {mg : Str → Option Value} {base : Heap} {CS CH : Addr}
def pHall (CS CH : Addr) (pre : Wd → Prop) (d : Wd → Wd × List Int) : V → Hp → VK → Prop := fun a H Q => ∃ (H0 : Hp) (s : Addr) (w : Wd), a = .ref s ∧ HOwn CS CH H0 H s (some w) ∧ pre w ∧
  ∀ H' p, H0 p = none → HOwn CS CH H0 H' s (some (d w).1) → H' p = some (.lst ((d w).2.map V.int)) → Q (.ref p) H'
theorem om_back (T : Txt K mg CS CH) : OkM P w K mg base CH 1 "back" ["self"] (sp1 (pHall CS CH (fun w => w.past.length ≤ 20 ∧ w.next.length ≤ 20) Wd.back)) := by
  refine okm1 T.c_Hall.cl (T.c_Hall.me ("back", "Hall.back", st_Hall_back) (by simp)) sc_Hall_back (fun _ _ _ _ _ _ _ => rfl) fun f cdv A outer s H a Q E hr h => ?_
  obtain ⟨H0, a, wd, rfl, ⟨HS, dx, e, u, nv, es, us, W⟩, ⟨b1, b2⟩, q⟩ := h
  obtain ⟨cur, past, next⟩ := wd
  obtain ⟨c, rfl, hc, he, hu⟩ := W.ho
  obtain ⟨nae, nau⟩ := W.nae
  have no := fun f hf => T.c_Hall.no f hf
  have el := he.len
  have ul := hu.len
  rw [List.length_reverse] at el ul
  refine ⟨_, (pss_cons (ps_if (pt_cmpR on_eq (pe_callB call_len_seq rfl T.no_len PySem.boot_len (pa_cons (pe_fld (pv 0) rfl) pa_nil)) (pn 0) (nomark _))
      (pss_one (ps_ret (pe_lst (pa_cons (pgi T.g_NOTHING) pa_nil))))
      pss_nil)
      (pss_cons (ps_expr (pe_bm PySem.F.plainAttrs_list PySem.F.slot_list_append PySem.F.type_list_append mt_append (pe_fld (pv 0) rfl) (pa_cons (pe_fld (pv 0) rfl) pa_nil)))
      (pss_cons (ps_fld (pv 0) (pe_bm0 PySem.F.plainAttrs_list PySem.F.slot_list_pop PySem.F.type_list_pop mt_pop (pe_fld (pv 0) rfl)) rfl)
      (pss_one (ps_ret (pe_lst (pa_cons (pe_callB call_len_seq rfl T.no_len PySem.boot_len (pa_cons (pe_fld (pv 0) rfl) pa_nil)) pa_nil))))))), ?_⟩
  refine ⟨_, rfl, a, CH, dx, _, _, rfl, W.ob, T.c_Hall.cl, no _ (by decide), rfl, e, _, rfl, .inl (SqL.of W.ea), _, _, rfl, rfl, _, rfl, ifD (fun h1 => ?_) fun h1 => ?_⟩
  · rw [List.length_map] at h1
    have ep : past = [] := List.eq_nil_of_length_eq_zero (by rw [← el]; exact h1)
    subst ep
    exact ⟨(by show 1 ≤ sizeLine; decide), fun p hp => q _ p (W.sH.free hp) ⟨HS, dx, e, u, _, es, us, W.mono (same_new (Same.refl H) hp)⟩ upd_same⟩
  · rw [List.length_map] at h1
    cases past with
    | nil => exact absurd el h1
    | cons x past =>
      have he2 : Sts CS HS es (past.reverse ++ [x]) := by rw [← List.reverse_cons]; exact he
      obtain ⟨bs, cx, rfl, hx, hbs⟩ := he2.last
      refine ⟨_, rfl, a, CH, dx, _, _, rfl, W.ob, T.c_Hall.cl, no _ (by decide), rfl, .inl ⟨rfl, _, SqL.of W.un⟩, _, rfl, a, CH, dx, _, _, rfl, W.ob, T.c_Hall.cl, no _ (by decide), rfl, u, _, _, rfl, rfl, W.un, ?_, ?_⟩
      · rw [List.length_map, ul]
        exact Nat.lt_of_le_of_lt b2 (by decide)
      · have em : us.map V.ref ++ [V.ref c] = (us ++ [c]).map V.ref := by rw [List.map_append]; rfl
        rw [em]
        have ob1 : (upd H u (.lst ((us ++ [c]).map V.ref))) a = some (.ins CH dx (hf (.ref c) e u)) := by rw [upd_ne nau]; exact W.ob
        have ea1 : (upd H u (.lst ((us ++ [c]).map V.ref))) e = some (.lst ((bs ++ [cx]).map V.ref)) := by rw [upd_ne W.ne]; exact W.ea
        refine ⟨_, rfl, a, CH, dx, _, _, rfl, ob1, T.c_Hall.cl, no _ (by decide), rfl, .inl ⟨rfl, _, SqL.of ea1⟩, e, _, V.ref cx, rfl, rfl, ea1, ?_, ?_⟩
        · rw [List.length_map, List.length_append, List.getElem?_map]
          show ((bs ++ [cx])[bs.length + 1 - 1]?).map V.ref = _
          rw [Nat.add_sub_cancel, List.getElem?_append_right (Nat.le_refl _), Nat.sub_self]
          rfl
        · have ed : ((bs ++ [cx]).map V.ref).dropLast = bs.map V.ref := by rw [List.map_append]; exact List.dropLast_concat
          rw [ed]
          have ob2 : (upd (upd H u (.lst ((us ++ [c]).map V.ref))) e (.lst (bs.map V.ref))) a = some (.ins CH dx (hf (.ref c) e u)) := by rw [upd_ne nae]; exact ob1
          refine ⟨_, rfl, a, CH, dx, _, rfl, ob2, T.c_Hall.cl, no _ (by decide), (by show 3 < 1000; decide), ?_⟩
          have nea := nae.symm
          have nua := nau.symm
          have W2 : HW CS CH H0 HS (upd (upd (upd H u (.lst ((us ++ [c]).map V.ref))) e (.lst (bs.map V.ref))) a (.ins CH dx (putF "now" (.ref cx) (hf (.ref c) e u)))) a (some ⟨x, past, cur :: next⟩) dx e u (.ref cx) bs (us ++ [c]) := by
            refine ⟨fun b o hb => ?_, W.dj, W.a00, W.e00, W.u00, fun b o hb => ?_, W.a0, W.e0, W.u0, W.ne, upd_same, ?_, ?_, cx, rfl, hx, hbs, ?_⟩
            · rw [upd_ne (ne_of_none hb W.a00), upd_ne (ne_of_none hb W.e00), upd_ne (ne_of_none hb W.u00)]
              exact W.sH _ _ hb
            · rw [upd_ne (ne_of_none hb W.a0), upd_ne (ne_of_none hb W.e0), upd_ne (ne_of_none hb W.u0)]
              exact W.s1 _ _ hb
            · rw [upd_ne nea, upd_same]
            · rw [upd_ne nua, upd_ne W.ne.symm, upd_same]
            · show Sts CS HS (us ++ [c]) (cur :: next).reverse
              rw [List.reverse_cons]
              exact hu.snoc hc
          refine ⟨_, rfl, a, CH, dx, _, _, rfl, W2.ob, T.c_Hall.cl, no _ (by decide), rfl, e, _, rfl, .inl (SqL.of W2.ea), ?_⟩
          rw [List.length_map, hbs.len, List.length_reverse]
          exact ⟨(by show 1 ≤ sizeLine; decide), fun p hp => q _ p (W2.sH.free hp) ⟨HS, dx, e, u, _, _, _, W2.mono (same_new (Same.refl _) hp)⟩ upd_same⟩
end
end DY
namespace DY
open PySem PySem.Spec PyProof.Rows L2 DX DM
open Krb7 (full)
def Wd.chg (w : Wd) (o : List Int × Rec) : Wd × List Int := if 0 ≤ o.1.headD 0 then (⟨o.2, (w.cur :: w.past).take 20, []⟩, o.1) else (w, o.1)
theorem out_ne (n : Nat) (r : Rec) (ns : List Nat) : ∃ c l, (doChange n r ns).1 = c :: l := by
  unfold doChange
  split
  · unfold doRule; repeat' split
    all_goals exact ⟨_, _, rfl⟩
  · unfold doLay; repeat' split
    all_goals exact ⟨_, _, rfl⟩
  · unfold doPropose; repeat' split
    all_goals exact ⟨_, _, rfl⟩
  · unfold doAnswer; repeat' split
    all_goals exact ⟨_, _, rfl⟩
  · unfold doPress; repeat' split
    all_goals exact ⟨_, _, rfl⟩
  · unfold doStrike; repeat' split
    all_goals exact ⟨_, _, rfl⟩
  · unfold doAmend; repeat' split
    all_goals exact ⟨_, _, rfl⟩
  · unfold doLearn; repeat' split
    all_goals exact ⟨_, _, rfl⟩
  · unfold doStock; repeat' split
    all_goals exact ⟨_, _, rfl⟩
  · unfold doFinish; repeat' split
    all_goals exact ⟨_, _, rfl⟩
theorem cut_last {xs : List V} : cutV xs (some (-((20 : Nat) : Int))) none = xs.drop (xs.length - 20) := by
  unfold cutV
  have e1 : HT.sIx xs.length xs.length none = xs.length := rfl
  have e2 : HT.sIx xs.length 0 (some (-((20 : Nat) : Int))) = xs.length - 20 := by
    show (if (-((20 : Nat) : Int)) < 0 then (-((20 : Nat) : Int) + (xs.length : Int)).toNat else min (-((20 : Nat) : Int)).toNat xs.length) = _
    rw [if_pos (by decide)]
    omega
  rw [e1, e2]
  have e3 : (xs.drop (xs.length - 20)).length = xs.length - (xs.length - 20) := List.length_drop
  rw [← e3, List.take_length]
def newS (H HS Hc : Hp) : Hp := fun b => match Hc b with
  | some (.tup xs) => some (.tup xs)
  | o => match H b with
    | none => o
    | some _ => HS b
section
variable {H HS Hc : Hp}
theorem newS_old {b : Addr} {o : HO} (hb : H b = some o) (hc : Hc b = some o) (nt : ∀ xs, o ≠ .tup xs) : newS H HS Hc b = HS b := by
  unfold newS
  rw [hc]
  cases o with
  | tup xs => exact absurd rfl (nt xs)
  | _ => simp only [hb]
theorem newS_new {b : Addr} (hb : H b = none) : newS H HS Hc b = Hc b := by
  unfold newS
  cases e : Hc b with
  | none => simp only [hb]
  | some o =>
    cases o with
    | tup xs => rfl
    | _ => simp only [hb]
theorem newS_tup {b : Addr} {xs : List V} (hb : Hc b = some (.tup xs)) : newS H HS Hc b = some (.tup xs) := by unfold newS; rw [hb]
theorem newS_same (s1 : Same HS H) (s2 : Same H Hc) : Same HS (newS H HS Hc) := fun b o hb => by
  have h1 := s1 _ _ hb
  have h2 := s2 _ _ h1
  by_cases t : ∃ xs, o = .tup xs
  · obtain ⟨xs, rfl⟩ := t
    exact newS_tup h2
  · rw [newS_old h1 h2 fun xs z => t ⟨xs, z⟩]
    exact hb
theorem newS_in (s1 : Same HS H) (s2 : Same H Hc) {b : Addr} {o : HO} (h : newS H HS Hc b = some o) : Hc b = some o := by
  cases e : H b with
  | none => rw [newS_new e] at h; exact h
  | some v =>
    have h2 := s2 _ _ e
    by_cases t : ∃ xs, v = .tup xs
    · obtain ⟨xs, rfl⟩ := t
      rw [newS_tup h2] at h
      rw [h2]
      exact h
    · rw [newS_old e h2 fun xs z => t ⟨xs, z⟩] at h
      exact s2 _ _ (s1 _ _ h)
theorem newS_ins {b C dx : Addr} {fs : List (Str × V)} (hb : H b = some (.ins C dx fs)) (s2 : Same H Hc) (h0 : HS b = none) : newS H HS Hc b = none := by rw [newS_old hb (s2 _ _ hb) (by intro xs z; cases z)]; exact h0
theorem newS_lst {b : Addr} {xs : List V} (hb : H b = some (.lst xs)) (s2 : Same H Hc) (h0 : HS b = none) : newS H HS Hc b = none := by rw [newS_old hb (s2 _ _ hb) (by intro xs z; cases z)]; exact h0
theorem newS_no {b : Addr} (hb : Hc b = none) (s1 : Same HS H) (s2 : Same H Hc) : newS H HS Hc b = none := by rw [newS_new (s2.free hb)]; exact hb
theorem newS_own {CS p : Addr} {r : Rec} (O : OwnAt CS H Hc p r) : StAt CS (newS H HS Hc) p r := by
  obtain ⟨s0, hp, dx, g, k, as, d, ds, S, o3⟩ := O
  exact ⟨dx, g, k, as, d, ds, by rw [newS_new hp]; exact S.ob, by rw [newS_new o3.g0]; exact S.gi, S.tu.keep fun b xs e => newS_tup e, by rw [newS_new o3.k0]; exact S.st, by rw [newS_new o3.d0]; exact S.en, S.te.keep fun b xs e => newS_tup e⟩
end
section
variable {P : Program} {w : World} {K : PySem.W.Frag} {mg : Str → Option Value} {base : Heap} {CS CH : Addr}
theorem om_again (T : Txt K mg CS CH) : OkM P w K mg base CH 1 "again" ["self"] (sp1 (pHall CS CH (fun w => w.past.length + w.next.length ≤ 20) Wd.again)) := by
  refine okm1 T.c_Hall.cl (T.c_Hall.me ("again", "Hall.again", st_Hall_again) (by simp)) sc_Hall_again (fun _ _ _ _ _ _ _ => rfl) fun f cdv A outer s H a Q E hr h => ?_
  obtain ⟨H0, a, wd, rfl, ⟨HS, dx, e, u, nv, es, us, W⟩, b1, q⟩ := h
  obtain ⟨cur, past, next⟩ := wd
  obtain ⟨c, rfl, hc, he, hu⟩ := W.ho
  obtain ⟨nae, nau⟩ := W.nae
  have no := fun f hf => T.c_Hall.no f hf
  have el := he.len
  have ul := hu.len
  rw [List.length_reverse] at el ul
  refine ⟨_, (pss_cons (ps_if (pt_cmpR on_eq (pe_callB call_len_seq rfl T.no_len PySem.boot_len (pa_cons (pe_fld (pv 0) rfl) pa_nil)) (pn 0) (nomark _))
      (pss_one (ps_ret (pe_lst (pa_cons (pgi T.g_NOTHING) pa_nil))))
      pss_nil)
      (pss_cons (ps_expr (pe_bm PySem.F.plainAttrs_list PySem.F.slot_list_append PySem.F.type_list_append mt_append (pe_fld (pv 0) rfl) (pa_cons (pe_fld (pv 0) rfl) pa_nil)))
      (pss_cons (ps_fld (pv 0) (pe_bm0 PySem.F.plainAttrs_list PySem.F.slot_list_pop PySem.F.type_list_pop mt_pop (pe_fld (pv 0) rfl)) rfl)
      (pss_one (ps_ret (pe_lst (pa_cons (pe_callB call_len_seq rfl T.no_len PySem.boot_len (pa_cons (pe_fld (pv 0) rfl) pa_nil)) pa_nil))))))), ?_⟩
  refine ⟨_, rfl, a, CH, dx, _, _, rfl, W.ob, T.c_Hall.cl, no _ (by decide), rfl, u, _, rfl, .inl (SqL.of W.un), _, _, rfl, rfl, _, rfl, ifD (fun h1 => ?_) fun h1 => ?_⟩
  · rw [List.length_map] at h1
    have ep : next = [] := List.eq_nil_of_length_eq_zero (by rw [← ul]; exact h1)
    subst ep
    exact ⟨(by show 1 ≤ sizeLine; decide), fun p hp => q _ p (W.sH.free hp) ⟨HS, dx, e, u, _, es, us, W.mono (same_new (Same.refl H) hp)⟩ upd_same⟩
  · rw [List.length_map] at h1
    cases next with
    | nil => exact absurd ul h1
    | cons x next =>
      have b2 : past.length + (next.length + 1) ≤ 20 := b1
      have hu2 : Sts CS HS us (next.reverse ++ [x]) := by rw [← List.reverse_cons]; exact hu
      obtain ⟨bs, cx, rfl, hx, hbs⟩ := hu2.last
      refine ⟨_, rfl, a, CH, dx, _, _, rfl, W.ob, T.c_Hall.cl, no _ (by decide), rfl, .inl ⟨rfl, _, SqL.of W.ea⟩, _, rfl, a, CH, dx, _, _, rfl, W.ob, T.c_Hall.cl, no _ (by decide), rfl, e, _, _, rfl, rfl, W.ea, ?_, ?_⟩
      · rw [List.length_map, el]
        exact Nat.lt_of_le_of_lt (show past.length ≤ 20 by omega) (by decide)
      · have em : es.map V.ref ++ [V.ref c] = (es ++ [c]).map V.ref := by rw [List.map_append]; rfl
        rw [em]
        have ob1 : (upd H e (.lst ((es ++ [c]).map V.ref))) a = some (.ins CH dx (hf (.ref c) e u)) := by rw [upd_ne nae]; exact W.ob
        have un1 : (upd H e (.lst ((es ++ [c]).map V.ref))) u = some (.lst ((bs ++ [cx]).map V.ref)) := by rw [upd_ne W.ne.symm]; exact W.un
        refine ⟨_, rfl, a, CH, dx, _, _, rfl, ob1, T.c_Hall.cl, no _ (by decide), rfl, .inl ⟨rfl, _, SqL.of un1⟩, u, _, V.ref cx, rfl, rfl, un1, ?_, ?_⟩
        · rw [List.length_map, List.length_append, List.getElem?_map]
          show ((bs ++ [cx])[bs.length + 1 - 1]?).map V.ref = _
          rw [Nat.add_sub_cancel, List.getElem?_append_right (Nat.le_refl _), Nat.sub_self]
          rfl
        · have ed : ((bs ++ [cx]).map V.ref).dropLast = bs.map V.ref := by rw [List.map_append]; exact List.dropLast_concat
          rw [ed]
          have ob2 : (upd (upd H e (.lst ((es ++ [c]).map V.ref))) u (.lst (bs.map V.ref))) a = some (.ins CH dx (hf (.ref c) e u)) := by rw [upd_ne nau]; exact ob1
          refine ⟨_, rfl, a, CH, dx, _, rfl, ob2, T.c_Hall.cl, no _ (by decide), (by show 3 < 1000; decide), ?_⟩
          have nea := nae.symm
          have nua := nau.symm
          have W2 : HW CS CH H0 HS (upd (upd (upd H e (.lst ((es ++ [c]).map V.ref))) u (.lst (bs.map V.ref))) a (.ins CH dx (putF "now" (.ref cx) (hf (.ref c) e u)))) a (some ⟨x, (cur :: past).take 20, next⟩) dx e u (.ref cx) (es ++ [c]) bs := by
            refine ⟨fun b o hb => ?_, W.dj, W.a00, W.e00, W.u00, fun b o hb => ?_, W.a0, W.e0, W.u0, W.ne, upd_same, ?_, ?_, cx, rfl, hx, ?_, hbs⟩
            · rw [upd_ne (ne_of_none hb W.a00), upd_ne (ne_of_none hb W.u00), upd_ne (ne_of_none hb W.e00)]
              exact W.sH _ _ hb
            · rw [upd_ne (ne_of_none hb W.a0), upd_ne (ne_of_none hb W.u0), upd_ne (ne_of_none hb W.e0)]
              exact W.s1 _ _ hb
            · rw [upd_ne nea, upd_ne W.ne, upd_same]
            · rw [upd_ne nua, upd_same]
            · show Sts CS HS (es ++ [c]) ((cur :: past).take 20).reverse
              rw [List.take_of_length_le (by show past.length + 1 ≤ 20; omega), List.reverse_cons]
              exact he.snoc hc
          refine ⟨_, rfl, a, CH, dx, _, _, rfl, W2.ob, T.c_Hall.cl, no _ (by decide), rfl, u, _, rfl, .inl (SqL.of W2.un), ?_⟩
          rw [List.length_map, hbs.len, List.length_reverse]
          exact ⟨(by show 1 ≤ sizeLine; decide), fun p hp => q _ p (W2.sH.free hp) ⟨HS, dx, e, u, _, _, _, W2.mono (same_new (Same.refl _) hp)⟩ upd_same⟩
def pHChange (K : PySem.W.Frag) (CS CH : Addr) : V → V → V → Hp → VK → Prop := fun a b c H Q => ∃ (H0 : Hp) (s l : Addr) (w : Wd) (n : Nat) (ns : List Nat), a = .ref s ∧ b = vn n ∧ c = .ref l ∧ 1 ≤ n ∧ n ≤ 10 ∧ arity n ns ∧ HOwn CS CH H0 H s (some w) ∧ Good w.cur ∧ w.past.length ≤ 20 ∧ SqL K H0 l (ns.map vn) ∧
  ∀ H' p, H0 p = none → HOwn CS CH H0 H' s (some (w.chg (doChange n w.cur ns)).1) → H' p = some (.lst ((w.chg (doChange n w.cur ns)).2.map V.int)) → Q (.ref p) H'
theorem om_change (T : Txt K mg CS CH) : OkM P w K mg base CH 11 "change" ["self", "number", "numbers"] (sp3 (pHChange K CS CH)) := by
  refine okm3 T.c_Hall.cl (T.c_Hall.me ("change", "Hall.change", st_Hall_change) (by simp)) sc_Hall_change (fun _ _ _ _ _ _ _ _ _ => rfl) fun f cdv A outer s H a b c Q E hr h => ?_
  obtain ⟨H0, a, l, wd, n, ns, rfl, rfl, rfl, n1, n10, ar, ⟨HS, dx, e, u, nv, es, us, W⟩, G, b1, hl, q⟩ := h
  obtain ⟨cur, past, next⟩ := wd
  obtain ⟨c, rfl, hc, he, hu⟩ := W.ho
  obtain ⟨nae, nau⟩ := W.nae
  have no := fun f hf => T.c_Hall.no f hf
  have el := he.len
  rw [List.length_reverse] at el
  have hcH := hc.same W.s1
  have hcH2 := hcH
  obtain ⟨dxc, gc, kc, asc, dc, dsc, Sc⟩ := hcH2
  refine ⟨_, (pss_cons (ps_set (i := 3) sc_Hall_change.nd rfl (Or.inl rfl) (pmeth0 (om_twin T) hr (pe_fld (pv 0) rfl)))
      (pss_cons (ps_set (i := 4) sc_Hall_change.nd rfl (Or.inl rfl) (pcall (ok_make_change T) hr (pa_cons (pv 3) (pa_cons (pv 1) (pa_cons (pv 2) pa_nil)))))
      (pss_cons (ps_if (pt_cmpR op_ge (pe_ix ix_list (pv 4) (pn 0) (fun _ _ => rfl)) pe_int (nomark _))
      (pss_cons (ps_expr (pe_bm PySem.F.plainAttrs_list PySem.F.slot_list_append PySem.F.type_list_append mt_append (pe_fld (pv 0) rfl) (pa_cons (pe_fld (pv 0) rfl) pa_nil)))
      (pss_cons (ps_fld (pv 0) (pe_slice sl_list (pe_fld (pv 0) rfl) (po_some (pe_un un_neg (pgn T.g_MOST_TAKEN_BACK))) po_none) rfl)
      (pss_cons (ps_fld (pv 0) (pe_lst pa_nil) rfl)
      (pss_one (ps_fld (pv 0) (pv 3) rfl)))))
      pss_nil)
      (pss_one (ps_ret (pv 4)))))), ?_⟩
  refine ⟨_, rfl, a, CH, dx, _, _, rfl, W.ob, T.c_Hall.cl, no _ (by decide), rfl, c, dxc, _, rfl, Sc.ob, rfl, _, rfl, c, cur, rfl, hcH, fun H1 p O1 => ?_⟩
  refine ⟨_, rfl, _, rfl, _, rfl, _, _, _, rfl, n, rfl, n1, n10, H, p, l, cur, ns, rfl, rfl, O1, G, W.sH.seq hl, ar, fun H2 tl htl O2 htl2 => ?_⟩
  obtain ⟨co, rest, eo⟩ := out_ne n cur ns
  have h0tl : H0 tl = none := W.sH.free htl
  have s12 : Same H H2 := O2.1
  have ob2 := s12 _ _ W.ob
  have ea2 := s12 _ _ W.ea
  have un2 := s12 _ _ W.un
  refine ⟨_, rfl, tl, _, _, V.int co, rfl, rfl, SqL.of htl2, (by rw [eo]; exact atI_nat (j := 0) rfl), _, _, rfl, rfl, _, rfl, ifD (fun hge => ?_) fun hge => ?_⟩
  · -- self.earlier.append(self.now)
    have ec : Wd.chg ⟨cur, past, next⟩ (doChange n cur ns) = (⟨(doChange n cur ns).2, (cur :: past).take 20, []⟩, (doChange n cur ns).1) := by unfold Wd.chg; rw [if_pos (by rw [eo]; exact hge)]
    rw [ec] at q
    refine ⟨_, rfl, a, CH, dx, _, _, rfl, ob2, T.c_Hall.cl, no _ (by decide), rfl, .inl ⟨rfl, _, SqL.of ea2⟩, _, rfl, a, CH, dx, _, _, rfl, ob2, T.c_Hall.cl, no _ (by decide), rfl, e, _, _, rfl, rfl, ea2, ?_, ?_⟩
    · rw [List.length_map, el]
      exact Nat.lt_of_le_of_lt b1 (by decide)
    · have em : es.map V.ref ++ [V.ref c] = (es ++ [c]).map V.ref := by rw [List.map_append]; rfl
      rw [em]
      have ob3 : (upd H2 e (.lst ((es ++ [c]).map V.ref))) a = some (.ins CH dx (hf (.ref c) e u)) := by rw [upd_ne nae]; exact ob2
      have ea3 : (upd H2 e (.lst ((es ++ [c]).map V.ref))) e = some (.lst ((es ++ [c]).map V.ref)) := upd_same
      refine ⟨_, rfl, a, CH, dx, _, _, rfl, ob3, T.c_Hall.cl, no _ (by decide), rfl, _, rfl, _, rfl, e, _, rfl, SqL.of ea3, fun e2 he2 => ?_⟩
      rw [cut_last, ← List.map_drop, List.length_map]
      have ne2 : e ≠ e2 := ne_of_none ea3 he2
      have na2 : a ≠ e2 := ne_of_none ob3 he2
      have h2e2 : H2 e2 = none := by rw [upd_ne ne2.symm] at he2; exact he2
      refine ⟨_, rfl, a, CH, dx, _, rfl, (by rw [upd_ne na2]; exact ob3), T.c_Hall.cl, no _ (by decide), (by show 3 < 1000; decide), ?_⟩
      refine ⟨(by show 0 ≤ sizeLine; decide), fun u2 hu2 => ?_⟩
      have na3 : a ≠ u2 := ne_of_none upd_same hu2
      have hu3 := hu2
      rw [upd_ne na3.symm] at hu3
      have n23 : e2 ≠ u2 := ne_of_none upd_same hu3
      rw [upd_ne n23.symm] at hu3
      have nu3 : e ≠ u2 := ne_of_none ea3 hu3
      have h2u2 : H2 u2 = none := by rw [upd_ne nu3.symm] at hu3; exact hu3
      refine ⟨_, rfl, a, CH, dx, _, rfl, (by rw [upd_ne na3]; exact upd_same), T.c_Hall.cl, no _ (by decide), (by show 3 < 1000; decide), ?_⟩
      refine ⟨_, rfl, _, rfl, a, CH, dx, _, rfl, upd_same, T.c_Hall.cl, no _ (by decide), (by show 3 < 1000; decide), ?_⟩
      rw [upd_upd]
      refine ⟨_, rfl, ?_⟩
      have keep : ∀ b v, H2 b = some v → b ≠ a → b ≠ e → (upd (upd (upd (upd (upd H2 e (.lst ((es ++ [c]).map V.ref))) e2 (.lst (((es ++ [c]).drop ((es ++ [c]).length - 20)).map V.ref))) a (.ins CH dx (putF "earlier" (.ref e2) (hf (.ref c) e u)))) u2 (.lst [])) a (.ins CH dx (putF "now" (.ref p) (putF "undone" (.ref u2) (putF "earlier" (.ref e2) (hf (.ref c) e u)))))) b = some v := fun b v hb n1 n2 => by
        rw [upd_ne n1, upd_ne (ne_of_none hb h2u2), upd_ne n1, upd_ne (ne_of_none hb h2e2), upd_ne n2]
        exact hb
      have stp : StAt CS (newS H HS H2) p (doChange n cur ns).2 := newS_own O2
      have sHS := newS_same W.s1 s12
      refine q _ tl h0tl ⟨newS H HS H2, dx, e2, u2, .ref p, (es ++ [c]).drop ((es ++ [c]).length - 20), [], fun b v hb => ?_, fun b xs hb => newS_lst (W.sH _ _ hb) s12 (W.dj _ _ hb), W.a00, W.sH.free (s12.free h2e2), W.sH.free (s12.free h2u2), fun b v hb => ?_, newS_ins W.ob s12 W.a0, newS_no h2e2 W.s1 s12, newS_no h2u2 W.s1 s12, n23, upd_same, ?_, ?_, p, rfl, stp, ?_, trivial⟩ ?_
      · exact keep b v (s12 _ _ (W.sH _ _ hb)) (ne_of_none hb W.a00) (ne_of_none hb W.e00)
      · exact keep b v (newS_in W.s1 s12 hb) (fun z => by subst z; rw [newS_ins W.ob s12 W.a0] at hb; cases hb) (fun z => by subst z; rw [newS_lst W.ea s12 W.e0] at hb; cases hb)
      · rw [upd_ne na2.symm, upd_ne n23, upd_ne na2.symm, upd_same]
      · rw [upd_ne na3.symm, upd_same]; rfl
      · show Sts CS _ _ ((cur :: past).take 20).reverse
        have z := (he.snoc hc).same sHS
        have z2 := z.dr (n := (es ++ [c]).length - 20)
        have e9 : ((cur :: past).take 20).reverse = (past.reverse ++ [cur]).drop ((es ++ [c]).length - 20) := by
          rw [← List.reverse_cons, List.length_append, el]
          show _ = (cur :: past).reverse.drop (past.length + 1 - 20)
          rw [List.drop_reverse]
          show _ = ((cur :: past).take (past.length + 1 - (past.length + 1 - 20))).reverse
          by_cases z : past.length + 1 ≤ 20
          · rw [List.take_of_length_le (show (cur :: past).length ≤ 20 from z), List.take_of_length_le (show (cur :: past).length ≤ _ by show past.length + 1 ≤ _; omega)]
          · rw [show past.length + 1 - (past.length + 1 - 20) = 20 by omega]
        rw [e9]
        exact z2
      · exact keep tl _ htl2 (ne_of_none W.ob htl).symm (ne_of_none W.ea htl).symm
  · have ec : Wd.chg ⟨cur, past, next⟩ (doChange n cur ns) = (⟨cur, past, next⟩, (doChange n cur ns).1) := by unfold Wd.chg; rw [if_neg (by rw [eo]; exact hge)]
    rw [ec] at q
    exact ⟨_, rfl, q _ tl h0tl ⟨HS, dx, e, u, _, _, _, W.mono s12⟩ htl2⟩
end
end DY
namespace DY
open PySem PySem.Spec PyProof.Rows L2 DX DM
open Krb7 (full)
def CallOk (j : Nat) (ns : List Nat) : Prop := j ≤ 42 ∧ (j ≠ 9 → j ≠ 14 → ns.length = DF.sizes.getD j 0) ∧ ns.length ≤ 65536
def pCall (K : PySem.W.Frag) (CS CH : Addr) (inv : Nat → Option Wd → Prop) (step : Option Wd → Nat → List Nat → Option Wd × List Int) : V → V → V → Hp → VK → Prop := fun a b c H Q => ∃ (H0 : Hp) (s l : Addr) (o : Option Wd) (n : Nat) (ns : List Nat), a = .ref s ∧ b = vn n ∧ c = .ref l ∧ CallOk n ns ∧ HOwn CS CH H0 H s o ∧ (∃ k, k < 11600 ∧ inv k o) ∧ SqL K H0 l (ns.map vn) ∧
  ∀ H' p, H0 p = none → HOwn CS CH H0 H' s (step o n ns).1 → H' p = some (.lst ((step o n ns).2.map V.int)) → Q (.ref p) H'
def pHInit (CH : Addr) : V → Hp → VK → Prop := fun a H Q => ∃ (p dx : Addr), a = .ref p ∧ H p = some (.ins CH dx []) ∧
  ∀ (H' : Hp) (e u : Addr), H' p = some (.ins CH dx (hf .non e u)) → H' e = some (.lst []) → H' u = some (.lst []) → e ≠ u → H e = none → H u = none → (∀ b o, H b = some o → b ≠ p → H' b = some o) → Q .non H'
section
variable {P : Program} {w : World} {K : PySem.W.Frag} {mg : Str → Option Value} {base : Heap} {CS CH : Addr}
theorem om_Hall_init (T : Txt K mg CS CH) : OkM P w K mg base CH 1 "__init__" ["self"] (sp1 (pHInit CH)) := by
  refine okm1 T.c_Hall.cl (T.c_Hall.me ("__init__", "Hall.__init__", st_Hall_init) (by simp)) sc_Hall_init (fun _ _ _ _ _ _ _ => rfl) fun f cdv A outer s H a Q E hr h => ?_
  obtain ⟨p, dx, rfl, hp, q⟩ := h
  have no := fun f hf => T.c_Hall.no f hf
  refine ⟨_, (pss_cons (ps_fld (pv 0) pe_non rfl)
      (pss_cons (ps_fld (pv 0) (pe_lst pa_nil) rfl)
      (pss_one (ps_fld (pv 0) (pe_lst pa_nil) rfl)))), ?_⟩
  refine ⟨_, rfl, p, CH, dx, _, rfl, hp, T.c_Hall.cl, no _ (by decide), (by show 0 < 1000; decide), ?_⟩
  refine ⟨(by show 0 ≤ sizeLine; decide), fun e he => ?_⟩
  have npe : p ≠ e := ne_of_none upd_same he
  have he0 : H e = none := by rw [upd_ne npe.symm] at he; exact he
  refine ⟨_, rfl, p, CH, dx, _, rfl, (by rw [upd_ne npe]; exact upd_same), T.c_Hall.cl, no _ (by decide), (by show 1 < 1000; decide), ?_⟩
  refine ⟨(by show 0 ≤ sizeLine; decide), fun u hu => ?_⟩
  have npu : p ≠ u := ne_of_none upd_same hu
  have hu1 := hu
  rw [upd_ne npu.symm] at hu1
  have neu : e ≠ u := ne_of_none upd_same hu1
  have hu0 : H u = none := by rw [upd_ne neu.symm, upd_ne npu.symm] at hu1; exact hu1
  refine ⟨_, rfl, p, CH, dx, _, rfl, (by rw [upd_ne npu]; exact upd_same), T.c_Hall.cl, no _ (by decide), (by show 2 < 1000; decide), ?_⟩
  refine q _ e u ?_ ?_ ?_ neu he0 hu0 (fun b o hb n => ?_)
  · rw [upd_same]; rfl
  · rw [upd_ne npe.symm, upd_ne neu, upd_ne npe.symm, upd_same]
  · rw [upd_ne npu.symm, upd_same]
  · rw [upd_ne n, upd_ne (ne_of_none hb hu0), upd_ne n, upd_ne (ne_of_none hb he0), upd_ne n]
    exact hb
theorem oi_Hall (T : Txt K mg CS CH) : OkI P w K mg base "Hall" CH 1 ["self"] (sp1 (pHInit CH)) := oki_of T.c_Hall (om_Hall_init T)
def toI (l : List Nat) : List Int := l.map fun n : Nat => (n : Int)
theorem toI_nat (l : List Nat) : (toI l).map Int.toNat = l := by
  unfold toI
  rw [List.map_map]
  have : (Int.toNat ∘ fun n : Nat => (n : Int)) = id := by funext n; rfl
  rw [this, List.map_id]
theorem size_at {j : Nat} (h : j ≤ 42) : atI (DF.sizes.map vn) (j : Int) = some (vn (DF.sizes.getD j 0)) := by
  have all : ∀ j, j < 43 → DF.sizes[j]? = some (DF.sizes.getD j 0) := by decide +kernel
  exact atI_nat (by rw [List.getElem?_map, all j (by omega)]; rfl)
theorem cut_mid {xs : List V} {i n : Nat} (h : i + n ≤ xs.length) : cutV xs (some (i : Int)) (some ((i + n : Nat) : Int)) = (xs.drop i).take n := by
  unfold cutV
  have e1 : HT.sIx xs.length 0 (some (i : Int)) = i := by
    show (if (i : Int) < 0 then ((i : Int) + (xs.length : Int)).toNat else min ((i : Int)).toNat xs.length) = i
    rw [if_neg (by omega), Int.toNat_natCast]
    omega
  have e2 : HT.sIx xs.length xs.length (some ((i + n : Nat) : Int)) = i + n := by
    show (if ((i + n : Nat) : Int) < 0 then (((i + n : Nat) : Int) + (xs.length : Int)).toNat else min (((i + n : Nat) : Int)).toNat xs.length) = i + n
    rw [if_neg (by omega), Int.toNat_natCast]
    omega
  rw [e1, e2, Nat.add_sub_cancel_left]
structure Line (inv : Nat → Option Wd → Prop) (absO : Option Wd → Kru8.Abs) (all : List Nat) (k : Nat) (o : Option Wd) (acc : List Int) : Prop where
  le : k ≤ all.length
  inv : inv k o
  due : ∃ f raw, PyFlat.calls PyKru8.shape f ((toI all).drop k) = some raw ∧ acc ++ PyFlat.told (PyFlat.played Kru8Neutral.step (absO o) (raw.map PyKru8.whole)) = PyKru8.answers (toI all)
end
section
variable {P : Program} {w : World} {K : PySem.W.Frag} {mg : Str → Option Value} {base : Heap} {CS CH : Addr}
variable {inv : Nat → Option Wd → Prop} {step : Option Wd → Nat → List Nat → Option Wd × List Int} {absO : Option Wd → Kru8.Abs}
def pAns (K : PySem.W.Frag) : V → Hp → VK → Prop := fun a H Q => ∃ (l : Addr) (all : List Nat), a = .ref l ∧ SqL K H l (all.map vn) ∧ all.length ≤ 11600 ∧ (∃ raw, PyFlat.calls PyKru8.shape all.length (toI all) = some raw) ∧ (PyKru8.answers (toI all)).length ≤ 10000000 ∧
  ∀ H' p, H' p = some (.lst ((PyKru8.answers (toI all)).map V.int)) → Q (.ref p) H'
theorem toI_drop (l : List Nat) (k : Nat) : (toI l).drop k = toI (l.drop k) := by unfold toI; rw [List.map_drop]
theorem line_step {all : List Nat} {k j : Nat} {o : Option Wd} {acc : List Int} {r : List Nat}
    (hstep : ∀ k k' o n ns, inv k o → CallOk n ns → k < k' → k' ≤ 11600 → (Kru8.act (absO o) (DF.mk n ns)).1 = absO (step o n ns).1 ∧ Kru8Neutral.told (Kru8.act (absO o) (DF.mk n ns)).2 = (step o n ns).2 ∧ inv k' (step o n ns).1)
    (L : Line inv absO all k o acc) (hr : all.drop k = j :: r) (hl : all.length ≤ 11600) :
    j ≤ 42 ∧ ∃ (ns t : List Nat) (k' : Nat), CallOk j ns ∧ Line inv absO all k' (step o j ns).1 (acc ++ (((step o j ns).2.length : Int) :: (step o j ns).2)) ∧ k < k' ∧
      ((j ≠ 9 ∧ j ≠ 14 ∧ ns = (all.drop (k + 1)).take (DF.sizes.getD j 0) ∧ k + 1 + DF.sizes.getD j 0 ≤ all.length ∧ k' = k + 1 + DF.sizes.getD j 0) ∨
       ((j = 9 ∨ j = 14) ∧ ∃ m q, r = m :: q ∧ ns = (all.drop (k + 2)).take m ∧ k + 2 + m ≤ all.length ∧ k' = k + 2 + m)) := by
  obtain ⟨f, raw, h1, h2⟩ := L.due
  rw [toI_drop, hr] at h1
  have lr : (all.drop k).length = r.length + 1 := by rw [hr]; rfl
  rw [List.length_drop] at lr
  have d1 : all.drop (k + 1) = r := by rw [← List.drop_drop, hr]; rfl
  obtain ⟨g, j', c, cs, ns, t, e1, e2, e3, e4, e5, e6⟩ := DF.step_of (p := (j : Int)) (r := toI r) h1
  have ej : j' = j := by omega
  subst ej e1
  have fin : ∀ (ns0 : List Nat) (k' : Nat), ns = toI ns0 → t = (toI all).drop k' → k < k' → k' ≤ all.length → CallOk j' ns0 → Line inv absO all k' (step o j' ns0).1 (acc ++ (((step o j' ns0).2.length : Int) :: (step o j' ns0).2)) := by
    intro ns0 k' en et kk ek ok
    have hs := hstep k k' o j' ns0 L.inv ok kk (by omega)
    refine ⟨ek, hs.2.2, g, cs, by rw [← et]; exact e2, ?_⟩
    rw [← h2, List.map_cons]
    have em : Kru8Neutral.call (PyKru8.whole c) = DF.mk j' ns0 := by rw [e5, en, toI_nat]
    have st : Kru8Neutral.step (absO o) (PyKru8.whole c) = (absO (step o j' ns0).1, (step o j' ns0).2) := by
      unfold Kru8Neutral.step
      rw [em]
      exact Prod.ext hs.1 hs.2.1
    show _ = acc ++ PyFlat.told ((Kru8Neutral.step (absO o) (PyKru8.whole c)).2 :: PyFlat.played Kru8Neutral.step (Kru8Neutral.step (absO o) (PyKru8.whole c)).1 (cs.map PyKru8.whole))
    rw [st]
    unfold PyFlat.told
    rw [List.flatMap_cons, List.append_assoc]
  refine ⟨e4, ?_⟩
  rcases e6 with ⟨h9, h14, sz, en, et⟩ | ⟨hj, m, q, er, hm, en, et⟩
  · have sz' : DF.sizes.getD j' 0 ≤ r.length := by unfold toI at sz; rw [List.length_map] at sz; exact sz
    have en' : ns = toI (r.take (DF.sizes.getD j' 0)) := by rw [en]; unfold toI; rw [List.map_take]
    have ok : CallOk j' (r.take (DF.sizes.getD j' 0)) := ⟨e4, fun _ _ => by rw [List.length_take]; omega, by rw [List.length_take]; omega⟩
    refine ⟨r.take (DF.sizes.getD j' 0), r.drop (DF.sizes.getD j' 0), k + 1 + DF.sizes.getD j' 0, ok, fin _ _ en' ?_ (by omega) (by omega) ok, by omega, .inl ⟨h9, h14, by rw [d1], by omega, rfl⟩⟩
    rw [et, toI_drop, toI_drop, ← List.drop_drop, d1]
  · cases r with
    | nil => cases er
    | cons m0 q0 =>
      have er : ((m0 : Int) :: toI q0) = (m : Int) :: q := er
      have em : m = m0 := by have := (List.cons.inj er).1; omega
      have eq : q = toI q0 := (List.cons.inj er).2.symm
      subst em eq
      have d2 : all.drop (k + 2) = q0 := by rw [show k + 2 = k + 1 + 1 from rfl, ← List.drop_drop, d1]; rfl
      have hm' : m ≤ q0.length := by unfold toI at hm; rw [List.length_map] at hm; exact hm
      have lq : (m :: q0).length = q0.length + 1 := rfl
      have en' : ns = toI (q0.take m) := by rw [en]; unfold toI; rw [List.map_take]
      have ok : CallOk j' (q0.take m) := ⟨e4, fun a b => by rcases hj with z | z; exact absurd z a; exact absurd z b, by rw [List.length_take]; omega⟩
      refine ⟨q0.take m, q0.drop m, k + 2 + m, ok, fin _ _ en' ?_ (by omega) (by omega) ok, by omega, .inr ⟨hj, m, q0, rfl, by rw [d2], by omega, rfl⟩⟩
      rw [et, toI_drop, toI_drop, ← List.drop_drop, d2]
theorem fn1 {x : Str} {st : Stmt} {N : List Str} {k : Nat} {p1 : Str} {p : V → Hp → VK → Prop} {f : Addr} {fd : FuncData} (F : Fun K x x st f fd) (S : FnScope N [p1] (defScope st))
    (hbody : ∀ (cdv : Value) (A : Around) (outer : List Env) (s : Shared) (H : Hp) (a : V) (Q : VK) (E : XK), Room k (A.deeper (envOfC x (defScope st) s.heap.objs.size f cdv)) → p a H Q →
      ∃ t, PSs (cxOf CX0 P w K mg base N x (defScope st) f cdv A outer s H E).nox (defBody st) t ∧ t { nx := fun _ H' => Q .non H', rt := Q } (start N [a]) H) : FnOk P w K mg base CX0 (k + 1) f fd [p1] (sp1 p) := by
  refine F.ok S ?_ ?_
  · rintro vs H Q E ⟨a, rfl, _⟩
    rfl
  · rintro cdv A outer s H vs Q E hr ⟨a, rfl, q⟩
    exact hbody cdv A outer s H a Q E hr q
theorem fn_answers {kc : Nat} {fa : Addr} {fd : FuncData} (T : Txt K mg CS CH) (F : Fun K "answers" "answers" st_answers fa fd) (hcall : OkM P w K mg base CH kc "call" ["self", "number", "numbers"] (sp3 (pCall K CS CH inv step))) (hk : 2 ≤ kc)
    (hstep : ∀ k k' o n ns, inv k o → CallOk n ns → k < k' → k' ≤ 11600 → (Kru8.act (absO o) (DF.mk n ns)).1 = absO (step o n ns).1 ∧ Kru8Neutral.told (Kru8.act (absO o) (DF.mk n ns)).2 = (step o n ns).2 ∧ inv k' (step o n ns).1)
    (h0 : inv 0 none) (a0 : absO none = none) : FnOk P w K mg base CX0 (kc + 1) fa fd ["calls"] (sp1 (pAns K)) := by
  have om_call := fun (_ : Txt K mg CS CH) => hcall
  refine fn1 F sc_answers fun cdv A outer s H a Q E hr h => ?_
  obtain ⟨l, all, rfl, hl, ln, ⟨raw, hraw⟩, short, q⟩ := h
  refine ⟨_, (pss_cons (ps_set (i := 1) sc_answers.nd rfl (Or.inl rfl) (pmake0 (oi_Hall T) hr))
      (pss_cons (ps_set (i := 2) sc_answers.nd rfl (Or.inl rfl) (pe_lst pa_nil))
      (pss_cons (ps_set (i := 3) sc_answers.nd rfl (Or.inl rfl) (pn 0))
      (pss_cons (ps_while PassesOwn.never (pt_cmpR on_lt (pv 3) (pe_callB call_len_seq rfl T.no_len PySem.boot_len (pa_cons (pv 0) pa_nil)) (nomark _))
      (pss_cons (ps_set (i := 4) sc_answers.nd rfl (Or.inl rfl) (pe_ix ix_list (pv 0) (pv 3) (fun _ _ => rfl)))
      (pss_cons (ps_set (i := 5) sc_answers.nd rfl (Or.inl rfl) (pe_op on_add (pv 3) (pn 1)))
      (pss_cons (ps_set (i := 6) sc_answers.nd rfl (Or.inl rfl) (pe_ix ix_tup (pgt T.t_SIZES) (pv 4) (fun _ _ => rfl)))
      (pss_cons (ps_if (PW.pt (pw_or (pt_cmpR on_eq (pv 4) (pgn T.g_STOCK) (nomark _)) (pw_or1 (pt_cmpR on_eq (pv 4) (pgn T.g_ROW) (nomark _)))))
      (pss_cons (ps_set (i := 6) sc_answers.nd rfl (Or.inl rfl) (pe_ix ix_list (pv 0) (pv 5) (fun _ _ => rfl)))
      (pss_one (ps_set (i := 5) sc_answers.nd rfl (Or.inl rfl) (pe_op on_add (pv 5) (pn 1)))))
      pss_nil)
      (pss_cons (ps_set (i := 7) sc_answers.nd rfl (Or.inl rfl) (pmeth (om_call T) hr (pv 1) (pa_cons (pv 4) (pa_cons (pe_slice sl_list (pv 0) (po_some (pv 5)) (po_some (pe_op on_add (pv 5) (pv 6)))) pa_nil))))
      (pss_cons (ps_expr (pe_bm PySem.F.plainAttrs_list PySem.F.slot_list_append PySem.F.type_list_append mt_append (pv 2) (pa_cons (pe_callB call_len_seq rfl T.no_len PySem.boot_len (pa_cons (pv 7) pa_nil)) pa_nil)))
      (pss_cons (ps_expr (pe_bm PySem.F.plainAttrs_list PySem.F.slot_list_extend PySem.F.type_list_extend mt_extend (pv 2) (pa_cons (pv 7) pa_nil)))
      (pss_one (ps_set (i := 3) sc_answers.nd rfl (Or.inl rfl) (pe_op on_add (pv 5) (pv 6))))))))))))
      (pss_one (ps_ret (pv 2))))))), ?_⟩
  refine fun x dx hx hdx ne => ⟨_, rfl, x, dx, rfl, upd_same, fun H1 e u hob hea hun neu he hu k1 => ⟨rfl, ?_⟩⟩
  have s1 : Same H H1 := Same.made hx hdx k1
  have low : ∀ b, (upd (upd H dx (.own x)) x (.ins CH dx [])) b = none → H b = none := fun b hb => by
    by_cases z : b = x
    · subst z; exact hx
    · rw [upd_ne z] at hb
      by_cases z2 : b = dx
      · subst z2; exact hdx
      · rw [upd_ne z2] at hb; exact hb
  have O0 : HOwn CS CH H H1 x none := ⟨fun _ => none, dx, e, u, .non, [], [], s1, fun _ _ _ => rfl, hx, low e he, low u hu, fun b o z => (by cases z), rfl, rfl, rfl, neu, hob, hea, hun, rfl, rfl, rfl⟩
  refine ⟨(by show 0 ≤ sizeLine; decide), fun ta hta => ?_⟩
  have hta00 : H ta = none := s1.free hta
  have L0 : Line inv absO all 0 none [] := ⟨Nat.zero_le _, h0, all.length, raw, hraw, by
    rw [a0, List.nil_append]
    unfold PyKru8.answers PyKru8.calls
    have e9 : (toI all).length = all.length := List.length_map _
    rw [e9, hraw]
    rfl⟩
  refine while_by (fun σ H' => ∃ (k : Nat) (o : Option Wd) (acc : List Int) (H0 : Hp) (v4 v5 v6 v7 : Option V), σ = [some (.ref l), some (.ref x), some (.ref ta), some (vn k), v4, v5, v6, v7] ∧ HOwn CS CH H0 H' x o ∧ H0 ta = some (.lst (acc.map V.int)) ∧ Same H H0 ∧ Line inv absO all k o acc) (fun σ _ => all.length - msr σ 3)
    ⟨0, none, [], _, none, none, none, none, rfl, O0.new hta, upd_same, same_new (Same.refl H) hta00, L0⟩ ?_ ?_
  · rintro σ H' ⟨k, o, acc, H0, v4, v5, v6, v7, rfl, O, hta0, s0, L⟩
    have hH' : SqL K H' l (all.map vn) := (s0.trans O.same).seq hl
    refine ⟨_, rfl, _, rfl, l, _, rfl, .inl hH', _, _, rfl, rfl, _, rfl, ifD (fun hk1 => ?_) fun hk1 => ?_⟩
    · rw [List.length_map] at hk1
      obtain ⟨j, r, hr0⟩ : ∃ j r, all.drop k = j :: r := by
        cases e9 : all.drop k with
        | nil => have := congrArg List.length e9; rw [List.length_drop] at this; simp at this; omega
        | cons j r => exact ⟨j, r, rfl⟩
      obtain ⟨j42, ns, t, k', hok, L', hkk, alt⟩ := line_step hstep L hr0 ln
      have aj : all[k]? = some j := by
        have z : (all.drop k)[0]? = some j := by rw [hr0]; rfl
        rw [List.getElem?_drop] at z
        exact z
      refine ⟨_, rfl, _, rfl, l, _, _, vn j, rfl, rfl, hH', atI_nat (by rw [List.getElem?_map, aj]; all_goals rfl), ?_⟩
      refine ⟨_, rfl, _, _, rfl, rfl, ?_⟩
      refine fun tz htz => ⟨_, rfl, tz, _, _, _, rfl, rfl, htz _, size_at j42, ?_⟩
      refine ⟨_, rfl, _, _, rfl, rfl, _, rfl, ifD (fun h9 => ?_) fun h9 => ?_⟩
      · rcases alt with ⟨z, _⟩ | ⟨_, m, q0, er, hns, hle, hk'⟩
        · exact absurd h9 z
        · have am : all[k + 1]? = some m := by
            have z : (all.drop k)[1]? = some m := by rw [hr0, er]; rfl
            rw [List.getElem?_drop] at z
            exact z
          refine iteT ⟨_, rfl, _, rfl, l, _, _, vn m, rfl, rfl, hH', atI_nat (by rw [List.getElem?_map, am]; all_goals rfl), _, rfl, _, _, rfl, rfl, ?_⟩
          have lh5 : SqL K H' l (all.map vn) := hH'
          obtain ⟨HS, dxh, eh, uh, nvh, esh, ush, W⟩ := O
          refine ⟨_, rfl, x, dxh, _, rfl, W.ob, rfl, _, rfl, _, rfl, _, rfl, _, rfl, _, rfl, _, rfl, _, _, rfl, rfl, _, rfl, l, _, rfl, lh5, fun sl hsl => ?_⟩
          rw [cut_mid (by rw [List.length_map]; exact hle), ← List.map_drop, ← List.map_take, ← hns]
          have O1 : HOwn CS CH (upd H0 sl (.lst (ns.map vn))) (upd H' sl (.lst (ns.map vn))) x o := HOwn.new ⟨HS, dxh, eh, uh, nvh, esh, ush, W⟩ hsl
          have nts : ta ≠ sl := ne_of_none (W.sH _ _ hta0) hsl
          refine ⟨_, _, _, rfl, upd H0 sl (.lst (ns.map vn)), x, sl, o, j, ns, rfl, rfl, rfl, hok, O1, ⟨k, by omega, L.inv⟩, SqL.of upd_same, fun H3 p hp O3 hp3 => ?_⟩
          have hta1 : (upd H0 sl (.lst (ns.map vn))) ta = some (.lst (acc.map V.int)) := by rw [upd_ne nts]; exact hta0
          have hta3 := O3.same _ _ hta1
          have npt : p ≠ ta := (ne_of_none hta1 hp).symm
          have total : acc.length + (1 + (step o j ns).2.length) ≤ 10000000 := by
            obtain ⟨f2, raw2, _, h2⟩ := L'.due
            have := congrArg List.length h2
            rw [List.length_append, List.length_append, List.length_cons] at this
            omega
          refine ⟨_, rfl, .inl ⟨rfl, _, SqL.of hta3⟩, _, rfl, p, _, rfl, .inl (SqL.of hp3), ta, _, _, rfl, rfl, hta3, (by rw [List.length_map]; have : sizeLine = 16777216 := rfl; omega), ?_⟩
          rw [List.length_map]
          have O4 := O3.put (v := .lst (acc.map V.int ++ [V.int ((step o j ns).2.length : Int)])) hta1
          have hta4 : (upd H3 ta (.lst (acc.map V.int ++ [V.int ((step o j ns).2.length : Int)]))) ta = some (.lst (acc.map V.int ++ [V.int ((step o j ns).2.length : Int)])) := upd_same
          have hp4 : (upd H3 ta (.lst (acc.map V.int ++ [V.int ((step o j ns).2.length : Int)]))) p = some (.lst ((step o j ns).2.map V.int)) := by rw [upd_ne npt]; exact hp3
          refine ⟨_, rfl, .inl ⟨rfl, _, SqL.of hta4⟩, _, rfl, ta, p, _, _, rfl, rfl, hta4, hp4, (by rw [List.length_append, List.length_map, List.length_map]; show acc.length + 1 + _ ≤ _; have : sizeLine = 16777216 := rfl; omega), ?_⟩
          have O5 := O4.put (v := .lst (acc.map V.int ++ [V.int ((step o j ns).2.length : Int)] ++ (step o j ns).2.map V.int)) (upd_same)
          refine ⟨_, rfl, _, rfl, _, _, rfl, rfl, ⟨k', _, _, _, _, _, _, _, by rw [hk']; rfl, O5, ?_, ?_, L'⟩, ?_⟩
          · rw [upd_same, List.map_append, List.map_cons]
            simp
          · intro b v hb
            have nb1 : b ≠ ta := ne_of_none hb hta00
            have nb2 : b ≠ sl := ne_of_none (W.sH _ _ (s0 _ _ hb)) hsl
            rw [upd_ne nb1, upd_ne nb1, upd_ne nb2]
            exact s0 _ _ hb
          · show all.length - ((k + 2 + m : Nat) : Int).toNat < all.length - ((k : Nat) : Int).toNat
            simp only [Int.toNat_natCast]
            omega
      · refine ⟨_, rfl, _, _, rfl, rfl, _, rfl, ifD (fun h14 => ?_) fun h14 => ?_⟩
        · rcases alt with ⟨_, z, _⟩ | ⟨_, m, q0, er, hns, hle, hk'⟩
          · exact absurd h14 z
          · have am : all[k + 1]? = some m := by
              have z : (all.drop k)[1]? = some m := by rw [hr0, er]; rfl
              rw [List.getElem?_drop] at z
              exact z
            refine ⟨_, rfl, _, rfl, l, _, _, vn m, rfl, rfl, hH', atI_nat (by rw [List.getElem?_map, am]; all_goals rfl), _, rfl, _, _, rfl, rfl, ?_⟩
            have lh5 : SqL K H' l (all.map vn) := hH'
            obtain ⟨HS, dxh, eh, uh, nvh, esh, ush, W⟩ := O
            refine ⟨_, rfl, x, dxh, _, rfl, W.ob, rfl, _, rfl, _, rfl, _, rfl, _, rfl, _, rfl, _, rfl, _, _, rfl, rfl, _, rfl, l, _, rfl, lh5, fun sl hsl => ?_⟩
            rw [cut_mid (by rw [List.length_map]; exact hle), ← List.map_drop, ← List.map_take, ← hns]
            have O1 : HOwn CS CH (upd H0 sl (.lst (ns.map vn))) (upd H' sl (.lst (ns.map vn))) x o := HOwn.new ⟨HS, dxh, eh, uh, nvh, esh, ush, W⟩ hsl
            have nts : ta ≠ sl := ne_of_none (W.sH _ _ hta0) hsl
            refine ⟨_, _, _, rfl, upd H0 sl (.lst (ns.map vn)), x, sl, o, j, ns, rfl, rfl, rfl, hok, O1, ⟨k, by omega, L.inv⟩, SqL.of upd_same, fun H3 p hp O3 hp3 => ?_⟩
            have hta1 : (upd H0 sl (.lst (ns.map vn))) ta = some (.lst (acc.map V.int)) := by rw [upd_ne nts]; exact hta0
            have hta3 := O3.same _ _ hta1
            have npt : p ≠ ta := (ne_of_none hta1 hp).symm
            have total : acc.length + (1 + (step o j ns).2.length) ≤ 10000000 := by
              obtain ⟨f2, raw2, _, h2⟩ := L'.due
              have := congrArg List.length h2
              rw [List.length_append, List.length_append, List.length_cons] at this
              omega
            refine ⟨_, rfl, .inl ⟨rfl, _, SqL.of hta3⟩, _, rfl, p, _, rfl, .inl (SqL.of hp3), ta, _, _, rfl, rfl, hta3, (by rw [List.length_map]; have : sizeLine = 16777216 := rfl; omega), ?_⟩
            rw [List.length_map]
            have O4 := O3.put (v := .lst (acc.map V.int ++ [V.int ((step o j ns).2.length : Int)])) hta1
            have hta4 : (upd H3 ta (.lst (acc.map V.int ++ [V.int ((step o j ns).2.length : Int)]))) ta = some (.lst (acc.map V.int ++ [V.int ((step o j ns).2.length : Int)])) := upd_same
            have hp4 : (upd H3 ta (.lst (acc.map V.int ++ [V.int ((step o j ns).2.length : Int)]))) p = some (.lst ((step o j ns).2.map V.int)) := by rw [upd_ne npt]; exact hp3
            refine ⟨_, rfl, .inl ⟨rfl, _, SqL.of hta4⟩, _, rfl, ta, p, _, _, rfl, rfl, hta4, hp4, (by rw [List.length_append, List.length_map, List.length_map]; show acc.length + 1 + _ ≤ _; have : sizeLine = 16777216 := rfl; omega), ?_⟩
            have O5 := O4.put (v := .lst (acc.map V.int ++ [V.int ((step o j ns).2.length : Int)] ++ (step o j ns).2.map V.int)) (upd_same)
            refine ⟨_, rfl, _, rfl, _, _, rfl, rfl, ⟨k', _, _, _, _, _, _, _, by rw [hk']; rfl, O5, ?_, ?_, L'⟩, ?_⟩
            · rw [upd_same, List.map_append, List.map_cons]
              simp
            · intro b v hb
              have nb1 : b ≠ ta := ne_of_none hb hta00
              have nb2 : b ≠ sl := ne_of_none (W.sH _ _ (s0 _ _ hb)) hsl
              rw [upd_ne nb1, upd_ne nb1, upd_ne nb2]
              exact s0 _ _ hb
            · show all.length - ((k + 2 + m : Nat) : Int).toNat < all.length - ((k : Nat) : Int).toNat
              simp only [Int.toNat_natCast]
              omega
        · rcases alt with ⟨_, _, hns, hle, hk'⟩ | ⟨z, _⟩
          · skip
            have lh5 : SqL K H' l (all.map vn) := hH'
            obtain ⟨HS, dxh, eh, uh, nvh, esh, ush, W⟩ := O
            refine ⟨_, rfl, x, dxh, _, rfl, W.ob, rfl, _, rfl, _, rfl, _, rfl, _, rfl, _, rfl, _, rfl, _, _, rfl, rfl, _, rfl, l, _, rfl, lh5, fun sl hsl => ?_⟩
            rw [cut_mid (by rw [List.length_map]; exact hle), ← List.map_drop, ← List.map_take, ← hns]
            have O1 : HOwn CS CH (upd H0 sl (.lst (ns.map vn))) (upd H' sl (.lst (ns.map vn))) x o := HOwn.new ⟨HS, dxh, eh, uh, nvh, esh, ush, W⟩ hsl
            have nts : ta ≠ sl := ne_of_none (W.sH _ _ hta0) hsl
            refine ⟨_, _, _, rfl, upd H0 sl (.lst (ns.map vn)), x, sl, o, j, ns, rfl, rfl, rfl, hok, O1, ⟨k, by omega, L.inv⟩, SqL.of upd_same, fun H3 p hp O3 hp3 => ?_⟩
            have hta1 : (upd H0 sl (.lst (ns.map vn))) ta = some (.lst (acc.map V.int)) := by rw [upd_ne nts]; exact hta0
            have hta3 := O3.same _ _ hta1
            have npt : p ≠ ta := (ne_of_none hta1 hp).symm
            have total : acc.length + (1 + (step o j ns).2.length) ≤ 10000000 := by
              obtain ⟨f2, raw2, _, h2⟩ := L'.due
              have := congrArg List.length h2
              rw [List.length_append, List.length_append, List.length_cons] at this
              omega
            refine ⟨_, rfl, .inl ⟨rfl, _, SqL.of hta3⟩, _, rfl, p, _, rfl, .inl (SqL.of hp3), ta, _, _, rfl, rfl, hta3, (by rw [List.length_map]; have : sizeLine = 16777216 := rfl; omega), ?_⟩
            rw [List.length_map]
            have O4 := O3.put (v := .lst (acc.map V.int ++ [V.int ((step o j ns).2.length : Int)])) hta1
            have hta4 : (upd H3 ta (.lst (acc.map V.int ++ [V.int ((step o j ns).2.length : Int)]))) ta = some (.lst (acc.map V.int ++ [V.int ((step o j ns).2.length : Int)])) := upd_same
            have hp4 : (upd H3 ta (.lst (acc.map V.int ++ [V.int ((step o j ns).2.length : Int)]))) p = some (.lst ((step o j ns).2.map V.int)) := by rw [upd_ne npt]; exact hp3
            refine ⟨_, rfl, .inl ⟨rfl, _, SqL.of hta4⟩, _, rfl, ta, p, _, _, rfl, rfl, hta4, hp4, (by rw [List.length_append, List.length_map, List.length_map]; show acc.length + 1 + _ ≤ _; have : sizeLine = 16777216 := rfl; omega), ?_⟩
            have O5 := O4.put (v := .lst (acc.map V.int ++ [V.int ((step o j ns).2.length : Int)] ++ (step o j ns).2.map V.int)) (upd_same)
            refine ⟨_, rfl, _, rfl, _, _, rfl, rfl, ⟨k', _, _, _, _, _, _, _, by rw [hk']; rfl, O5, ?_, ?_, L'⟩, ?_⟩
            · rw [upd_same, List.map_append, List.map_cons]
              simp
            · intro b v hb
              have nb1 : b ≠ ta := ne_of_none hb hta00
              have nb2 : b ≠ sl := ne_of_none (W.sH _ _ (s0 _ _ hb)) hsl
              rw [upd_ne nb1, upd_ne nb1, upd_ne nb2]
              exact s0 _ _ hb
            · show all.length - ((k + 1 + DF.sizes.getD j 0 : Nat) : Int).toNat < all.length - ((k : Nat) : Int).toNat
              simp only [Int.toNat_natCast]
              omega
          · exact (z.elim h9 h14).elim
    · rw [List.length_map] at hk1
      have ek : k = all.length := by have := L.le; omega
      obtain ⟨f2, raw2, h1, h2⟩ := L.due
      rw [ek, show (toI all).drop all.length = [] from List.drop_of_length_le (by unfold toI; rw [List.length_map]; exact Nat.le_refl _)] at h1
      have e9 : raw2 = [] := by
        cases f2 <;> (unfold PyFlat.calls at h1; cases h1; rfl)
      subst e9
      have e10 : acc = PyKru8.answers (toI all) := by rw [← h2]; simp [PyFlat.played, PyFlat.told]
      refine ⟨_, rfl, q _ ta ?_⟩
      rw [← e10]
      exact O.same _ _ hta0
  · rintro σ H' Q1 Q2 hq ⟨v1, e1, v2, e2, p, ys, e3, hs, a1, b1, e4, e5, k, e6, q6⟩
    exact ⟨v1, e1, v2, e2, p, ys, e3, hs, a1, b1, e4, e5, k, e6, hq _ _ q6⟩
end
end DY
namespace DY
open PySem PySem.Spec PyProof.Rows L2 DX DM
open Krb7 (full)
def beginW (o : Option Wd) (m k : Nat) : Option Wd × List Int := if m < 1 ∨ 3 < m then (o, [-22]) else if ¬ k ≤ full m ∨ k = 0 then (o, [-22]) else (some ⟨newRec m k, [], []⟩, [0])
def dState (w : Wd) : List Int := nat ([w.cur.m, w.cur.known, w.cur.rule, w.cur.laid, w.cur.given.length, w.past.length, w.next.length] ++ w.cur.stock)
noncomputable def stepW (o : Option Wd) (n : Nat) (ns : List Nat) : Option Wd × List Int :=
  if n = 0 then beginW o (ns.getD 0 0) (ns.getD 1 0) else match o with
    | none => (none, [-11])
    | some w => if n = 11 then (some w.back.1, w.back.2) else if n = 12 then (some w.again.1, w.again.2) else if n = 42 then (some w, dState w) else if 1 ≤ n ∧ n ≤ 10 then (some (w.chg (doChange n w.cur ns)).1, (w.chg (doChange n w.cur ns)).2) else (some w, dAsk n w.cur ns)
structure WOk (k : Nat) (w : Wd) : Prop where
  cur : Good w.cur
  fl : w.cur.ended.length ≤ k
  len : w.past.length + w.next.length ≤ 20
  past : ∀ r ∈ w.past, Good r ∧ r.ended.length ≤ k
  next : ∀ r ∈ w.next, Good r ∧ r.ended.length ≤ k
def invW (k : Nat) : Option Wd → Prop
  | none => True
  | some w => WOk k w
theorem arity_of {n : Nat} {ns : List Nat} (h : CallOk n ns) : arity n ns := h.2
section
variable {P : Program} {w : World} {K : PySem.W.Frag} {mg : Str → Option Value} {base : Heap} {CS CH : Addr}
def pBegin (CS CH : Addr) : V → V → V → Hp → VK → Prop := fun a b c H Q => ∃ (H0 : Hp) (s : Addr) (o : Option Wd) (m k : Nat), a = .ref s ∧ b = vn m ∧ c = vn k ∧ HOwn CS CH H0 H s o ∧
  ∀ H' p, H0 p = none → HOwn CS CH H0 H' s (beginW o m k).1 → H' p = some (.lst ((beginW o m k).2.map V.int)) → Q (.ref p) H'
theorem om_begin (T : Txt K mg CS CH) : OkM P w K mg base CH 3 "begin" ["self", "letters", "known"] (sp3 (pBegin CS CH)) := by
  refine okm3 T.c_Hall.cl (T.c_Hall.me ("begin", "Hall.begin", st_Hall_begin) (by simp)) sc_Hall_begin (fun _ _ _ _ _ _ _ _ _ => rfl) fun f cdv A outer s H a b c Q E hr h => ?_
  obtain ⟨H0, a, o, m, k, rfl, rfl, rfl, ⟨HS, dx, e, u, nv, es, us, W⟩, q⟩ := h
  obtain ⟨nae, nau⟩ := W.nae
  have no := fun f hf => T.c_Hall.no f hf
  have bad : beginW o m k = (o, [-22]) → ([V.int (-22)].length ≤ sizeLine ∧ ∀ p, H p = none → Q (.ref p) (upd H p (.lst [V.int (-22)]))) := fun eb => by
    rw [eb] at q
    exact ⟨(by show 1 ≤ sizeLine; decide), fun p hp => q _ p (W.sH.free hp) ⟨HS, dx, e, u, nv, es, us, W.mono (same_new (Same.refl H) hp)⟩ upd_same⟩
  refine ⟨_, (pss_cons (ps_if (PW.pt (pw_or (pt_cmpR on_lt (pv 1) (pn 1) (nomark _)) (pw_or1 (pt_cmpR on_gt (pv 1) (pgn T.g_MOST_LETTERS) (nomark _)))))
      (pss_one (ps_ret (pe_lst (pa_cons (pgi T.g_WRONG) pa_nil))))
      pss_nil)
      (pss_cons (ps_if (PW.pt (pw_or (pt_not (pt_val (pcall (ok_is_proposition T) hr (pa_cons (pv 1) (pa_cons (pv 2) pa_nil))))) (pw_or1 (pt_cmpR on_eq (pv 2) (pn 0) (nomark _)))))
      (pss_one (ps_ret (pe_lst (pa_cons (pgi T.g_WRONG) pa_nil))))
      pss_nil)
      (pss_cons (ps_fld (pv 0) (pmake (oi_State T) hr (pa_cons (pv 1) (pa_cons (pv 2) pa_nil))) rfl)
      (pss_cons (ps_fld (pv 0) (pe_lst pa_nil) rfl)
      (pss_cons (ps_fld (pv 0) (pe_lst pa_nil) rfl)
      (pss_one (ps_ret (pe_lst (pa_cons (pn 0) pa_nil))))))))), ?_⟩
  refine ⟨_, rfl, _, _, rfl, rfl, _, rfl, ifD (fun h1 => ?_) fun h1 => ?_⟩
  · exact iteT (bad (by unfold beginW; rw [if_pos (.inl h1)]))
  · refine ⟨_, rfl, _, _, rfl, rfl, _, rfl, ifD (fun h2 => ?_) fun h2 => ?_⟩
    · exact bad (by unfold beginW; rw [if_pos (.inr h2)])
    · have h12 : ¬ (m < 1 ∨ 3 < m) := by rintro (z | z); exact h1 z; exact h2 z
      refine ⟨_, rfl, _, rfl, _, _, rfl, m, k, rfl, rfl, by omega, by omega, _, rfl, ifB (fun h3 => ?_) fun h3 => ?_⟩
      · have h3 : ¬ k ≤ full m := by simpa using h3
        exact iteT (bad (by unfold beginW; rw [if_neg h12, if_pos (.inl h3)]))
      · have h3 : k ≤ full m := by simpa using h3
        refine ⟨_, rfl, _, _, rfl, rfl, _, rfl, ifD (fun h4 => ?_) fun h4 => ?_⟩
        · exact bad (by unfold beginW; rw [if_neg h12, if_pos (.inr h4)])
        · have eb : beginW o m k = (some ⟨newRec m k, [], []⟩, [0]) := by unfold beginW; rw [if_neg h12, if_neg (by rintro (z | z); exact z h3; exact h4 z)]
          rw [eb] at q
          refine ⟨_, rfl, _, rfl, fun x dx2 hx hdx ne => ⟨_, _, _, rfl, x, dx2, m, k, rfl, rfl, rfl, upd_same, fun H1 g1 q1 d1 S1 o1 k1 => ⟨rfl, ?_⟩⟩⟩
          have s1 : Same H H1 := Same.made hx hdx k1
          have O1 : OwnAt CS H H1 x (newRec m k) := ⟨s1, hx, dx2, g1, q1, [], d1, [], S1, o1.low (low_made hx hdx)⟩
          have ob1 := s1 _ _ W.ob
          refine ⟨_, rfl, a, CH, dx, _, rfl, ob1, T.c_Hall.cl, no _ (by decide), (by show 3 < 1000; decide), ?_⟩
          refine ⟨(by show 0 ≤ sizeLine; decide), fun e2 he2 => ?_⟩
          have na2 : a ≠ e2 := ne_of_none upd_same he2
          have h1e2 : H1 e2 = none := by rw [upd_ne na2.symm] at he2; exact he2
          refine ⟨_, rfl, a, CH, dx, _, rfl, (by rw [upd_ne na2]; exact upd_same), T.c_Hall.cl, no _ (by decide), (by show 3 < 1000; decide), ?_⟩
          refine ⟨(by show 0 ≤ sizeLine; decide), fun u2 hu2 => ?_⟩
          have na3 : a ≠ u2 := ne_of_none upd_same hu2
          have hu3 := hu2
          rw [upd_ne na3.symm] at hu3
          have n23 : e2 ≠ u2 := ne_of_none upd_same hu3
          have h1u2 : H1 u2 = none := by rw [upd_ne n23.symm, upd_ne na3.symm] at hu3; exact hu3
          refine ⟨_, rfl, a, CH, dx, _, rfl, (by rw [upd_ne na3]; exact upd_same), T.c_Hall.cl, no _ (by decide), (by show 3 < 1000; decide), ?_⟩
          have keep : ∀ b v, H1 b = some v → b ≠ a → (upd (upd (upd (upd (upd H1 a (.ins CH dx (putF "now" (.ref x) (hf nv e u)))) e2 (.lst [])) a (.ins CH dx (putF "earlier" (.ref e2) (putF "now" (.ref x) (hf nv e u))))) u2 (.lst [])) a (.ins CH dx (putF "undone" (.ref u2) (putF "earlier" (.ref e2) (putF "now" (.ref x) (hf nv e u)))))) b = some v := fun b v hb n1 => by
            rw [upd_ne n1, upd_ne (ne_of_none hb h1u2), upd_ne n1, upd_ne (ne_of_none hb h1e2), upd_ne n1]
            exact hb
          have W2 : HW CS CH H0 (newS H HS H1) (upd (upd (upd (upd (upd H1 a (.ins CH dx (putF "now" (.ref x) (hf nv e u)))) e2 (.lst [])) a (.ins CH dx (putF "earlier" (.ref e2) (putF "now" (.ref x) (hf nv e u))))) u2 (.lst [])) a (.ins CH dx (putF "undone" (.ref u2) (putF "earlier" (.ref e2) (putF "now" (.ref x) (hf nv e u)))))) a (some ⟨newRec m k, [], []⟩) dx e2 u2 (.ref x) [] [] := by
            refine ⟨fun b v hb => keep b v (s1 _ _ (W.sH _ _ hb)) (ne_of_none hb W.a00), fun b xs hb => newS_lst (W.sH _ _ hb) s1 (W.dj _ _ hb), W.a00, W.sH.free (s1.free h1e2), W.sH.free (s1.free h1u2), fun b v hb => ?_, newS_ins W.ob s1 W.a0, newS_no h1e2 W.s1 s1, newS_no h1u2 W.s1 s1, n23, upd_same, ?_, ?_, x, rfl, newS_own O1, trivial, trivial⟩
            · exact keep b v (newS_in W.s1 s1 hb) (fun z => by subst z; rw [newS_ins W.ob s1 W.a0] at hb; cases hb)
            · rw [upd_ne na2.symm, upd_ne n23, upd_ne na2.symm, upd_same]; rfl
            · rw [upd_ne na3.symm, upd_same]; rfl
          exact ⟨(by show 1 ≤ sizeLine; decide), fun p hp => q _ p (W2.sH.free hp) ⟨_, _, _, _, _, _, _, W2.mono (same_new (Same.refl _) hp)⟩ upd_same⟩
theorem om_told_state (T : Txt K mg CS CH) : OkM P w K mg base CH 1 "told_state" ["self"] (sp1 (pHall CS CH (fun w => Good w.cur) fun w => (w, dState w))) := by
  refine okm1 T.c_Hall.cl (T.c_Hall.me ("told_state", "Hall.told_state", st_Hall_told_state) (by simp)) sc_Hall_told_state (fun _ _ _ _ _ _ _ => rfl) fun f cdv A outer s H a Q E hr h => ?_
  obtain ⟨H0, a, wd, rfl, ⟨HS, dx, e, u, nv, es, us, W⟩, G, q⟩ := h
  obtain ⟨cur, past, next⟩ := wd
  obtain ⟨c, rfl, hc, he, hu⟩ := W.ho
  have no := fun f hf => T.c_Hall.no f hf
  have el := he.len
  have ul := hu.len
  rw [List.length_reverse] at el ul
  have G : Good cur := G
  have sl := G.sl
  obtain ⟨dxc, gc, kc, asc, dc, dsc, Sc⟩ := hc.same W.s1
  refine ⟨_, (pss_cons (ps_set (i := 1) sc_Hall_told_state.nd rfl (Or.inl rfl) (pe_fld (pv 0) rfl))
      (pss_cons (ps_set (i := 2) sc_Hall_told_state.nd rfl (Or.inl rfl) (pe_lst (pa_cons (pe_fld (pv 1) rfl) (pa_cons (pe_fld (pv 1) rfl) (pa_cons (pe_fld (pv 1) rfl) (pa_cons (pe_fld (pv 1) rfl) (pa_cons (pe_callB call_len_seq rfl T.no_len PySem.boot_len (pa_cons (pe_fld (pv 1) rfl) pa_nil)) (pa_cons (pe_callB call_len_seq rfl T.no_len PySem.boot_len (pa_cons (pe_fld (pv 0) rfl) pa_nil)) (pa_cons (pe_callB call_len_seq rfl T.no_len PySem.boot_len (pa_cons (pe_fld (pv 0) rfl) pa_nil)) pa_nil)))))))))
      (pss_one (ps_ret (pe_op op_cat (pv 2) (pe_fld (pv 1) rfl)))))), ?_⟩
  refine ⟨_, rfl, a, CH, dx, _, _, rfl, W.ob, T.c_Hall.cl, no _ (by decide), rfl, ?_⟩
  refine ⟨_, rfl, c, CS, dxc, _, _, rfl, Sc.ob, T.c_State.cl, T.c_State.no _ (by decide), rfl, _, rfl, c, CS, dxc, _, _, rfl, Sc.ob, T.c_State.cl, T.c_State.no _ (by decide), rfl, _, rfl, c, CS, dxc, _, _, rfl, Sc.ob, T.c_State.cl, T.c_State.no _ (by decide), rfl, _, rfl, c, CS, dxc, _, _, rfl, Sc.ob, T.c_State.cl, T.c_State.no _ (by decide), rfl,
    _, rfl, c, CS, dxc, _, _, rfl, Sc.ob, T.c_State.cl, T.c_State.no _ (by decide), rfl, gc, _, rfl, .inl (SqL.of Sc.gi), _, rfl, a, CH, dx, _, _, rfl, W.ob, T.c_Hall.cl, no _ (by decide), rfl, e, _, rfl, .inl (SqL.of W.ea), _, rfl, a, CH, dx, _, _, rfl, W.ob, T.c_Hall.cl, no _ (by decide), rfl, u, _, rfl, .inl (SqL.of W.un), (by show 7 ≤ sizeLine; decide), fun tl htl => ?_⟩
  rw [List.length_map, List.length_map, List.length_map, Sc.tu.len, el, ul]
  have sm := same_new (o := .lst [vn cur.m, vn cur.known, vn cur.rule, vn cur.laid, vn cur.given.length, vn past.length, vn next.length]) (Same.refl H) htl
  have Sd := Sc.same sm
  refine ⟨_, rfl, _, rfl, c, CS, dxc, _, _, rfl, Sd.ob, T.c_State.cl, T.c_State.no _ (by decide), rfl, tl, kc, _, _, rfl, rfl, upd_same, Sd.st, ?_, fun p2 hp2 => ?_⟩
  · rw [List.length_map]
    show 7 + cur.stock.length ≤ sizeLine
    have : sizeLine = 16777216 := rfl
    omega
  · have sm2 := sm.trans (same_new (o := .lst ([vn cur.m, vn cur.known, vn cur.rule, vn cur.laid, vn cur.given.length, vn past.length, vn next.length] ++ cur.stock.map vn)) (Same.refl _) hp2)
    refine q _ p2 (W.sH.free (sm.free hp2)) ⟨HS, dx, e, u, _, es, us, W.mono sm2⟩ ?_
    rw [upd_same]
    show some (HO.lst _) = some (HO.lst ((dState ⟨cur, past, next⟩).map V.int))
    unfold dState
    rw [nat_v, List.map_append]
    rfl
theorem om_call (T : Txt K mg CS CH) : OkM P w K mg base CH 12 "call" ["self", "number", "numbers"] (sp3 (pCall K CS CH invW stepW)) := by
  refine okm3 T.c_Hall.cl (T.c_Hall.me ("call", "Hall.call", st_Hall_call) (by simp)) sc_Hall_call (fun _ _ _ _ _ _ _ _ _ => rfl) fun f cdv A outer s H a b c Q E hr h => ?_
  obtain ⟨H0, a, l, o, n, ns, rfl, rfl, rfl, hok, O, ⟨kk, hkk, hin⟩, hl, q⟩ := h
  have hn := hok.1
  have ar := arity_of hok
  have O2 := O
  obtain ⟨HS, dx, e, u, nv, es, us, W⟩ := O2
  have no := fun f hf => T.c_Hall.no f hf
  have hlH := W.sH.seq hl
  refine ⟨_, (pss_cons (ps_if (pt_cmpR on_eq (pv 1) (pgn T.g_BEGIN) (nomark _))
      (pss_one (ps_ret (pmeth (om_begin T) hr (pv 0) (pa_cons (pe_ix ix_list (pv 2) (pn 0) (fun _ _ => rfl)) (pa_cons (pe_ix ix_list (pv 2) (pn 1) (fun _ _ => rfl)) pa_nil)))))
      pss_nil)
      (pss_cons (ps_if (pt_cmp (pc_isN (pe_fld (pv 0) rfl)))
      (pss_one (ps_ret (pe_lst (pa_cons (pgi T.g_NOT_BEGUN) pa_nil))))
      pss_nil)
      (pss_cons (ps_if (pt_cmpR on_eq (pv 1) (pgn T.g_BACK) (nomark _))
      (pss_one (ps_ret (pmeth0 (om_back T) hr (pv 0))))
      pss_nil)
      (pss_cons (ps_if (pt_cmpR on_eq (pv 1) (pgn T.g_AGAIN) (nomark _))
      (pss_one (ps_ret (pmeth0 (om_again T) hr (pv 0))))
      pss_nil)
      (pss_cons (ps_if (pt_cmpR on_eq (pv 1) (pgn T.g_STATE) (nomark _))
      (pss_one (ps_ret (pmeth0 (om_told_state T) hr (pv 0))))
      pss_nil)
      (pss_cons (ps_if (pt_val (pcall (ok_is_change T) hr (pa_cons (pv 1) pa_nil)))
      (pss_one (ps_ret (pmeth (om_change T) hr (pv 0) (pa_cons (pv 1) (pa_cons (pv 2) pa_nil)))))
      pss_nil)
      (pss_cons (ps_if (pt_val (pcall (ok_is_verdict T) hr (pa_cons (pv 1) pa_nil)))
      (pss_one (ps_ret (pcall (ok_judge T) hr (pa_cons (pe_fld (pv 0) rfl) (pa_cons (pv 1) (pa_cons (pv 2) pa_nil))))))
      pss_nil)
      (pss_cons (ps_if (pt_val (pcall (ok_is_reckoned T) hr (pa_cons (pv 1) pa_nil)))
      (pss_one (ps_ret (pcall (ok_reckon T) hr (pa_cons (pe_fld (pv 0) rfl) (pa_cons (pv 1) (pa_cons (pv 2) pa_nil))))))
      pss_nil)
      (pss_one (ps_ret (pcall (ok_ask T) hr (pa_cons (pe_fld (pv 0) rfl) (pa_cons (pv 1) (pa_cons (pv 2) pa_nil)))))))))))))), ?_⟩
  refine ⟨_, rfl, _, _, rfl, rfl, _, rfl, ifD (fun h0 => ?_) fun h0 => ?_⟩
  · subst h0
    have a2 := at2 (show ns.length = 2 from ar.1 (by decide) (by decide))
    exact ⟨_, rfl, a, dx, _, rfl, W.ob, rfl, _, rfl, l, _, _, _, rfl, rfl, hlH, a2.1, _, rfl, l, _, _, _, rfl, rfl, hlH, a2.2, _, _, _, rfl, H0, a, o, _, _, rfl, rfl, rfl, O, q⟩
  · refine ⟨_, rfl, a, CH, dx, _, _, rfl, W.ob, T.c_Hall.cl, no _ (by decide), rfl, _, rfl, ?_⟩
    cases o with
    | none =>
      obtain ⟨rfl, _, _⟩ := W.ho
      have eb : stepW none n ns = (none, [-11]) := by unfold stepW; rw [if_neg h0]
      rw [eb] at q
      exact iteT ⟨(by show 1 ≤ sizeLine; decide), fun p hp => q _ p (W.sH.free hp) (O.mono (same_new (Same.refl H) hp)) upd_same⟩
    | some wd =>
      obtain ⟨c, rfl, hc, he, hu⟩ := W.ho
      have hin : WOk kk wd := hin
      refine iteF ?_
      have e0 : stepW (some wd) n ns = if n = 11 then (some wd.back.1, wd.back.2) else if n = 12 then (some wd.again.1, wd.again.2) else if n = 42 then (some wd, dState wd) else if 1 ≤ n ∧ n ≤ 10 then (some (wd.chg (doChange n wd.cur ns)).1, (wd.chg (doChange n wd.cur ns)).2) else (some wd, dAsk n wd.cur ns) := by unfold stepW; rw [if_neg h0]
      have len := hin.len
      refine ⟨_, rfl, _, _, rfl, rfl, _, rfl, ifD (fun h11 => ?_) fun h11 => ?_⟩
      · rw [if_pos h11] at e0
        rw [e0] at q
        exact ⟨_, rfl, a, dx, _, rfl, W.ob, rfl, _, rfl, H0, a, wd, rfl, O, ⟨by omega, by omega⟩, q⟩
      · rw [if_neg h11] at e0
        refine ⟨_, rfl, _, _, rfl, rfl, _, rfl, ifD (fun h12 => ?_) fun h12 => ?_⟩
        · rw [if_pos h12] at e0
          rw [e0] at q
          exact ⟨_, rfl, a, dx, _, rfl, W.ob, rfl, _, rfl, H0, a, wd, rfl, O, len, q⟩
        · rw [if_neg h12] at e0
          refine ⟨_, rfl, _, _, rfl, rfl, _, rfl, ifD (fun h42 => ?_) fun h42 => ?_⟩
          · rw [if_pos h42] at e0
            rw [e0] at q
            exact ⟨_, rfl, a, dx, _, rfl, W.ob, rfl, _, rfl, H0, a, wd, rfl, O, hin.cur, q⟩
          · rw [if_neg h42] at e0
            refine ⟨_, rfl, _, rfl, n, rfl, hn, _, rfl, ifD (fun hc1 => ?_) fun hc1 => ?_⟩
            · rw [if_pos hc1] at e0
              rw [e0] at q
              exact ⟨_, rfl, a, dx, _, rfl, W.ob, rfl, _, rfl, _, rfl, _, _, _, rfl, H0, a, l, wd, n, ns, rfl, rfl, rfl, hc1.1, hc1.2, ar, O, hin.cur, by omega, hl, q⟩
            · rw [if_neg hc1] at e0
              rw [e0] at q
              have fin : ∀ H' p, H p = none → Same H H' → H' p = some (.lst ((dAsk n wd.cur ns).map V.int)) → Q (.ref p) H' := fun H' p hp s5 hp5 => q _ p (W.sH.free hp) (O.mono s5) hp5
              refine ⟨_, rfl, _, rfl, n, rfl, hn, _, rfl, ifD (fun hv => ?_) fun hv => ?_⟩
              · have ea : dAsk n = dJudge n := by unfold dAsk; rw [if_neg (by omega), if_pos hv.2]
                rw [ea] at fin
                exact ⟨_, rfl, a, CH, dx, _, _, rfl, W.ob, T.c_Hall.cl, no _ (by decide), rfl, _, rfl, _, rfl, _, _, _, rfl, n, rfl, hv.1, hv.2, c, l, wd.cur, ns, rfl, rfl, hc.same W.s1, hin.cur, hlH, ar, fin⟩
              · refine ⟨_, rfl, _, rfl, n, rfl, hn, _, rfl, ifD (fun hk => ?_) fun hk => ?_⟩
                · have ea : dAsk n = dR n := by unfold dAsk; rw [if_neg (by omega), if_neg (by omega)]
                  rw [ea] at fin
                  exact ⟨_, rfl, a, CH, dx, _, _, rfl, W.ob, T.c_Hall.cl, no _ (by decide), rfl, _, rfl, _, rfl, _, _, _, rfl, n, rfl, hk.1, hk.2, c, l, wd.cur, ns, rfl, rfl, hc.same W.s1, hin.cur, hlH, ar, fin⟩
                · have ea : dAsk n = dQ n := by unfold dAsk; rw [if_pos (by omega)]
                  rw [ea] at fin
                  exact ⟨_, rfl, a, CH, dx, _, _, rfl, W.ob, T.c_Hall.cl, no _ (by decide), rfl, _, rfl, _, rfl, _, _, _, rfl, n, rfl, by omega, by omega, c, l, wd.cur, ns, rfl, rfl, hc.same W.s1, hin.cur, hlH, ar, fin⟩
end
end DY
namespace DY
open L2 DX DM
open Krb7 (full)
def Wd.abs (w : Wd) : Kru8.World := ⟨hall w.cur, w.past.map hall, w.next.map hall⟩
def told (a : Krb7.Ans) : List Int := Kru8Neutral.told a
def Eqv (z : Kru8.World × Krb7.Ans) (y : Wd × List Int) : Prop := z.1 = y.1.abs ∧ told z.2 = y.2
theorem eqv_no {w : Wd} {n : Int} {r : Rec} (hn : n < 0) : Eqv (w.abs, Kru8.say n) (w.chg ([n], r)) := by
  unfold Wd.chg
  rw [if_neg (show ¬ 0 ≤ ([n] : List Int).headD 0 by show ¬ 0 ≤ n; omega)]
  exact ⟨rfl, rfl⟩
theorem eqv_to {w : Wd} {r : Rec} {a : Krb7.Ans} {o : List Int} {h : Kru8.Hall} (ho : told a = o) (hn : 0 ≤ a.num) (hh : h = hall r) : Eqv (w.abs.to h a) (w.chg (o, r)) := by
  subst ho hh
  unfold Wd.chg
  rw [if_pos (show 0 ≤ (told a).headD 0 from hn)]
  refine ⟨?_, rfl⟩
  show (⟨hall r, (hall w.cur :: w.past.map hall).take 20, []⟩ : Kru8.World) = ⟨hall r, ((w.cur :: w.past).take 20).map hall, [].map hall⟩
  rw [List.map_take]
  rfl
theorem ok_dec (r : Rec) (p : Nat) : (!(hall r).ok p) = decide (¬ p ≤ full r.m) := by
  show (!decide (p ≤ full r.m)) = _
  by_cases h : p ≤ full r.m <;> simp [h]
section
variable {w : Wd} (G : Good w.cur)
theorem does_rule (n : Nat) : Eqv (w.abs.does (.rule n)) (w.chg (doRule w.cur [n])) := by
  show Eqv (if 1 < n then (w.abs, Kru8.say (-22)) else if (hall w.cur).laid.isNone = true then w.abs.to { hall w.cur with rule := n } (Kru8.say (hall w.cur).rule) else (w.abs, Kru8.say (-16))) _
  rw [hall_off]
  unfold doRule
  show Eqv _ (w.chg (if 1 < n then ([-22], w.cur) else if ¬ w.cur.laid = 0 then ([-16], w.cur) else ([(w.cur.rule : Int)], { w.cur with rule := n })))
  by_cases h1 : 1 < n
  · rw [if_pos h1, if_pos h1]; exact eqv_no (by decide)
  · rw [if_neg h1, if_neg h1]
    by_cases h2 : w.cur.laid = 0
    · rw [if_pos (decide_eq_true h2), if_neg (fun z => z h2)]
      exact eqv_to rfl (Int.natCast_nonneg _) rfl
    · rw [if_neg (by rw [decide_eq_false h2]; exact Bool.false_ne_true), if_pos h2]; exact eqv_no (by decide)
theorem does_lay (p : Nat) : Eqv (w.abs.does (.lay p)) (w.chg (doLay w.cur [p])) := by
  show Eqv (if (!(hall w.cur).ok p) = true then (w.abs, Kru8.say (-22)) else if (hall w.cur).laid.isNone = false then (w.abs, Kru8.say (-17)) else if p = 0 then (w.abs, Kru8.say (-33)) else w.abs.to { hall w.cur with laid := some p, said := [] } (Kru8.say (Krb7.truth w.cur.known p))) _
  rw [hall_off, ok_dec]
  unfold doLay
  show Eqv _ (w.chg (if ¬ p ≤ full w.cur.m then ([-22], w.cur) else if ¬ w.cur.laid = 0 then ([-17], w.cur) else if p = 0 then ([-33], w.cur) else ([(Krb7.truth w.cur.known p : Int)], { w.cur with laid := p, given := [] })))
  by_cases h1 : ¬ p ≤ full w.cur.m
  · rw [if_pos (decide_eq_true h1), if_pos h1]; exact eqv_no (by decide)
  · rw [if_neg (by rw [decide_eq_false h1]; exact Bool.false_ne_true), if_neg h1]
    by_cases h2 : w.cur.laid = 0
    · rw [if_neg (by rw [decide_eq_true h2]; decide), if_neg (show ¬ ¬ w.cur.laid = 0 from fun z => z h2)]
      by_cases h3 : p = 0
      · rw [if_pos h3, if_pos h3]; exact eqv_no (by decide)
      · rw [if_neg h3, if_neg h3]
        refine eqv_to rfl (Int.natCast_nonneg _) ?_
        show _ = (⟨_, _, _, if p = 0 then none else some p, _, _, _, _, _⟩ : Kru8.Hall)
        rw [if_neg h3]
        rfl
    · rw [if_pos (decide_eq_false h2), if_pos h2]; exact eqv_no (by decide)
theorem hall_more {r : Rec} (h : ¬ r.laid = 0) (p a : Nat) : hall (more r p a) = { hall r with said := (hall r).said ++ [(p, a)] } := rfl
include G
theorem does_propose (p : Nat) : Eqv (w.abs.does (.propose p)) (w.chg (doPropose w.cur [p])) := by
  show Eqv (if (!(hall w.cur).ok p) = true then (w.abs, Kru8.say (-22)) else if (hall w.cur).laid.isNone = true then (w.abs, Kru8.say (-6)) else if decide (8 ≤ w.cur.given.length) = true then (w.abs, Kru8.say (-28)) else
    w.abs.to ((hall w.cur).propose p) { num := (hall w.cur).right p, nums := Kru8.ints [Krb7.why (hall w.cur).by_ p, Krb7.count w.cur.m ((hall w.cur).propose p).base] }) _
  rw [hall_off, ok_dec]
  unfold doPropose
  show Eqv _ (w.chg (if ¬ p ≤ full w.cur.m then ([-22], w.cur) else if w.cur.laid = 0 then ([-6], w.cur) else if 8 ≤ w.cur.given.length then ([-28], w.cur) else
    ([(rw_ w.cur (now w.cur) p : Int), (Krb7.why (byW w.cur (now w.cur)) p : Int), (pc 8 (now (more w.cur p (rw_ w.cur (now w.cur) p))) : Int)], more w.cur p (rw_ w.cur (now w.cur) p))))
  by_cases h1 : ¬ p ≤ full w.cur.m
  · rw [if_pos (decide_eq_true h1), if_pos h1]; exact eqv_no (by decide)
  · rw [if_neg (by rw [decide_eq_false h1]; exact Bool.false_ne_true), if_neg h1]
    by_cases h2 : w.cur.laid = 0
    · rw [if_pos (decide_eq_true h2), if_pos h2]; exact eqv_no (by decide)
    · rw [if_neg (by rw [decide_eq_false h2]; exact Bool.false_ne_true), if_neg h2]
      by_cases h3 : 8 ≤ w.cur.given.length
      · rw [if_pos (decide_eq_true h3), if_pos h3]; exact eqv_no (by decide)
      · rw [if_neg (by rw [decide_eq_false h3]; exact Bool.false_ne_true), if_neg h3]
        have hp : p ≤ full w.cur.m := Classical.not_not.mp h1
        have Gm := G.more (a := rw_ w.cur (now w.cur) p) hp (right_le _ _ _) h3
        rw [← hall_push h2, hall_by h2, hall_right h2]
        refine eqv_to ?_ (Int.natCast_nonneg _) rfl
        show [(rw_ w.cur (now w.cur) p : Int), (Krb7.why (byW w.cur (now w.cur)) p : Int), (Krb7.count w.cur.m (hall (pushR w.cur p)).base : Int)] = _
        rw [hall_base (r := pushR w.cur p) h2, count_pc G.m1 G.m3 (show now (pushR w.cur p) ≤ full w.cur.m from now_full Gm)]
        rfl
theorem does_answers (p a : Nat) : Eqv (w.abs.does (.answers p a)) (w.chg (doAnswer w.cur [p, a])) := by
  show Eqv (if (!(hall w.cur).ok p || decide (2 < a)) = true then (w.abs, Kru8.say (-22)) else if (hall w.cur).laid.isNone = true then (w.abs, Kru8.say (-6)) else if decide (8 ≤ w.cur.given.length) = true then (w.abs, Kru8.say (-28)) else
    w.abs.to (hall (more w.cur p a)) { num := if a = (hall w.cur).right p then 1 else 0, nums := Kru8.ints [(hall w.cur).right p, Krb7.count w.cur.m (hall (more w.cur p a)).base] }) _
  rw [hall_off, ok_dec]
  unfold doAnswer
  show Eqv _ (w.chg (if ¬ p ≤ full w.cur.m ∨ 2 < a then ([-22], w.cur) else if w.cur.laid = 0 then ([-6], w.cur) else if 8 ≤ w.cur.given.length then ([-28], w.cur) else
    ([if a = rw_ w.cur (now w.cur) p then 1 else 0, (rw_ w.cur (now w.cur) p : Int), (pc 8 (now (more w.cur p a)) : Int)], more w.cur p a)))
  by_cases h1 : ¬ p ≤ full w.cur.m ∨ 2 < a
  · rw [if_pos (by rw [Bool.or_eq_true, decide_eq_true_eq, decide_eq_true_eq]; exact h1), if_pos h1]; exact eqv_no (by decide)
  · rw [if_neg (by rw [Bool.or_eq_true, decide_eq_true_eq, decide_eq_true_eq]; exact h1), if_neg h1]
    by_cases h2 : w.cur.laid = 0
    · rw [if_pos (decide_eq_true h2), if_pos h2]; exact eqv_no (by decide)
    · rw [if_neg (by rw [decide_eq_false h2]; exact Bool.false_ne_true), if_neg h2]
      by_cases h3 : 8 ≤ w.cur.given.length
      · rw [if_pos (decide_eq_true h3), if_pos h3]; exact eqv_no (by decide)
      · rw [if_neg (by rw [decide_eq_false h3]; exact Bool.false_ne_true), if_neg h3]
        have hp : p ≤ full w.cur.m := Classical.byContradiction fun z => h1 (.inl z)
        have ha : a ≤ 2 := Nat.le_of_not_lt fun z => h1 (.inr z)
        have Gm := G.more hp ha h3
        rw [hall_right h2, hall_base (r := more w.cur p a) h2, count_pc G.m1 G.m3 (show now (more w.cur p a) ≤ full w.cur.m from now_full Gm)]
        refine eqv_to rfl ?_ rfl
        show (0 : Int) ≤ if _ then 1 else 0
        split <;> decide
theorem does_press (t : Nat) : Eqv (w.abs.does (.press t)) (w.chg (doPress w.cur [t])) := by
  show Eqv (if (!(hall w.cur).ok t) = true then (w.abs, Kru8.say (-22)) else if (hall w.cur).laid.isNone = true then (w.abs, Kru8.say (-6)) else (match (hall w.cur).row 1 t with
      | none => (w.abs, Kru8.say (-33))
      | some l => if 8 < w.cur.given.length + l.length then (w.abs, Kru8.say (-28)) else w.abs.to ((hall w.cur).proposes l) (Kru8.list l))) _
  rw [hall_off, ok_dec]
  unfold doPress
  show Eqv _ (w.chg (if ¬ t ≤ full w.cur.m then ([-22], w.cur) else if w.cur.laid = 0 then ([-6], w.cur) else match rowF w.cur t 1 with
    | none => ([-33], w.cur)
    | some l => if 8 < w.cur.given.length + l.length then ([-28], w.cur) else ((l.length : Int) :: l.map (fun x : Nat => (x : Int)), l.foldl pushR w.cur)))
  by_cases h1 : ¬ t ≤ full w.cur.m
  · rw [if_pos (decide_eq_true h1), if_pos h1]; exact eqv_no (by decide)
  · rw [if_neg (by rw [decide_eq_false h1]; exact Bool.false_ne_true), if_neg h1]
    by_cases h2 : w.cur.laid = 0
    · rw [if_pos (decide_eq_true h2), if_pos h2]; exact eqv_no (by decide)
    · rw [if_neg (by rw [decide_eq_false h2]; exact Bool.false_ne_true), if_neg h2, hall_row G h2]
      cases rowF w.cur t 1 with
      | none => exact eqv_no (by decide)
      | some l =>
        show Eqv (if 8 < w.cur.given.length + l.length then (w.abs, Kru8.say (-28)) else w.abs.to ((hall w.cur).proposes l) (Kru8.list l)) (w.chg (if 8 < w.cur.given.length + l.length then ([-28], w.cur) else ((l.length : Int) :: l.map (fun x : Nat => (x : Int)), l.foldl pushR w.cur)))
        by_cases h3 : 8 < w.cur.given.length + l.length
        · rw [if_pos h3, if_pos h3]; exact eqv_no (by decide)
        · rw [if_neg h3, if_neg h3]
          exact eqv_to rfl (Int.natCast_nonneg _) (hall_pushes h2).symm
omit G in
theorem does_strike (i : Nat) : Eqv (w.abs.does (.strike i)) (w.chg (doStrike w.cur [i])) := by
  show Eqv (if (hall w.cur).laid.isNone = true then (w.abs, Kru8.say (-6)) else if decide (w.cur.given.length ≤ i) = true then (w.abs, Kru8.say (-2)) else w.abs.to { hall w.cur with said := w.cur.given.eraseIdx i } (Kru8.say (w.cur.given.eraseIdx i).length)) _
  rw [hall_off]
  unfold doStrike
  show Eqv _ (w.chg (if w.cur.laid = 0 then ([-6], w.cur) else if w.cur.given.length ≤ i then ([-2], w.cur) else ([((w.cur.given.eraseIdx i).length : Int)], { w.cur with given := w.cur.given.eraseIdx i })))
  by_cases h2 : w.cur.laid = 0
  · rw [if_pos (decide_eq_true h2), if_pos h2]; exact eqv_no (by decide)
  · rw [if_neg (by rw [decide_eq_false h2]; exact Bool.false_ne_true), if_neg h2]
    by_cases h3 : w.cur.given.length ≤ i
    · rw [if_pos (decide_eq_true h3), if_pos h3]; exact eqv_no (by decide)
    · rw [if_neg (by rw [decide_eq_false h3]; exact Bool.false_ne_true), if_neg h3]
      exact eqv_to rfl (Int.natCast_nonneg _) rfl
omit G in
theorem does_amend (i a : Nat) : Eqv (w.abs.does (.amend i a)) (w.chg (doAmend w.cur [i, a])) := by
  show Eqv (if (hall w.cur).laid.isNone = true then (w.abs, Kru8.say (-6)) else if decide (w.cur.given.length ≤ i) = true then (w.abs, Kru8.say (-2)) else if 2 < a then (w.abs, Kru8.say (-22)) else w.abs.to { hall w.cur with said := w.cur.given.set i ((gv w.cur i).1, a) } (Kru8.say (gv w.cur i).2)) _
  rw [hall_off]
  unfold doAmend
  show Eqv _ (w.chg (if w.cur.laid = 0 then ([-6], w.cur) else if w.cur.given.length ≤ i then ([-2], w.cur) else if 2 < a then ([-22], w.cur) else ([((gv w.cur i).2 : Int)], { w.cur with given := w.cur.given.set i ((gv w.cur i).1, a) })))
  by_cases h2 : w.cur.laid = 0
  · rw [if_pos (decide_eq_true h2), if_pos h2]; exact eqv_no (by decide)
  · rw [if_neg (by rw [decide_eq_false h2]; exact Bool.false_ne_true), if_neg h2]
    by_cases h3 : w.cur.given.length ≤ i
    · rw [if_pos (decide_eq_true h3), if_pos h3]; exact eqv_no (by decide)
    · rw [if_neg (by rw [decide_eq_false h3]; exact Bool.false_ne_true), if_neg h3]
      by_cases h4 : 2 < a
      · rw [if_pos h4, if_pos h4]; exact eqv_no (by decide)
      · rw [if_neg h4, if_neg h4]
        exact eqv_to rfl (Int.natCast_nonneg _) rfl
theorem does_learn (k : Nat) : Eqv (w.abs.does (.learn k)) (w.chg (doLearn w.cur [k])) := by
  show Eqv (if (!(hall w.cur).ok k) = true then (w.abs, Kru8.say (-22)) else if w.cur.known &&& k = 0 then (w.abs, Kru8.say (-33)) else w.abs.to { hall w.cur with known := w.cur.known &&& k } (Kru8.say (Krb7.count w.cur.m (w.cur.known &&& k)))) _
  rw [ok_dec]
  unfold doLearn
  show Eqv _ (w.chg (if ¬ k ≤ full w.cur.m then ([-22], w.cur) else if w.cur.known &&& k = 0 then ([-33], w.cur) else ([(pc 8 (w.cur.known &&& k) : Int)], { w.cur with known := w.cur.known &&& k })))
  by_cases h1 : ¬ k ≤ full w.cur.m
  · rw [if_pos (decide_eq_true h1), if_pos h1]; exact eqv_no (by decide)
  · rw [if_neg (by rw [decide_eq_false h1]; exact Bool.false_ne_true), if_neg h1]
    by_cases h2 : w.cur.known &&& k = 0
    · rw [if_pos h2, if_pos h2]; exact eqv_no (by decide)
    · rw [if_neg h2, if_neg h2, count_pc G.m1 G.m3 (and_le_full G.k)]
      exact eqv_to rfl (Int.natCast_nonneg _) rfl
omit G in
theorem any_all (r : Rec) (l : List Nat) : (l.any fun p => !(hall r).ok p) = !(l.all fun p => decide (p ≤ full r.m)) := by
  induction l with
  | nil => rfl
  | cons x l ih =>
    rw [List.any_cons, List.all_cons, ih, Bool.not_and]
    rfl
omit G in
theorem does_stock (l : List Nat) : Eqv (w.abs.does (.stock l)) (w.chg (doStock w.cur l)) := by
  show Eqv (if (decide (6 < l.length) || l.any fun p => !(hall w.cur).ok p) = true then (w.abs, Kru8.say (-22)) else w.abs.to { hall w.cur with stock := l } (Kru8.say l.length)) _
  rw [any_all]
  unfold doStock
  by_cases h1 : 6 < l.length ∨ ¬ (l.all fun p => decide (p ≤ full w.cur.m)) = true
  · rw [if_pos (by rw [Bool.or_eq_true, decide_eq_true_eq]; rcases h1 with z | z; exact .inl z; right; rw [Bool.not_eq_true'] ; exact Bool.eq_false_iff.mpr z), if_pos h1]; exact eqv_no (by decide)
  · rw [if_neg (by rw [Bool.or_eq_true, decide_eq_true_eq]; rintro (z | z); exact h1 (.inl z); rw [Bool.not_eq_true'] at z; exact h1 (.inr (by rw [z]; exact Bool.false_ne_true))), if_neg h1]
    exact eqv_to rfl (Int.natCast_nonneg _) rfl
end
end DY
namespace DY
open L2 DX DM
open Krb7 (full)
def Askd (w : Wd) (z : Kru8.World × Krb7.Ans) (o : List Int) : Prop := z.1 = w.abs ∧ told z.2 = o
theorem ints_nat (l : List Nat) : Kru8.ints l = nat l := rfl
theorem told_list (l : List Nat) : told (Kru8.list l) = lst l := rfl
theorem told_row (o : Option (List Nat)) : told (Kru8.row? o) = row? o := by cases o <;> rfl
section
variable {w : Wd} (G : Good w.cur)
theorem ask_one {p : Nat} {f : Krb7.Ans} {o : List Int} (h : ¬ w.cur.laid = 0 → p ≤ full w.cur.m → told f = o) :
    Askd w (w.abs, if (!(hall w.cur).ok p) = true then Kru8.say (-22) else if (hall w.cur).laid.isNone = true then Kru8.say (-6) else f) (if ¬ p ≤ full w.cur.m then [-22] else if w.cur.laid = 0 then [-6] else o) := by
  rw [hall_off, ok_dec]
  refine ⟨rfl, ?_⟩
  by_cases h1 : ¬ p ≤ full w.cur.m
  · rw [if_pos (decide_eq_true h1), if_pos h1]; rfl
  · rw [if_neg (by rw [decide_eq_false h1]; exact Bool.false_ne_true), if_neg h1]
    by_cases h2 : w.cur.laid = 0
    · rw [if_pos (decide_eq_true h2), if_pos h2]; rfl
    · rw [if_neg (by rw [decide_eq_false h2]; exact Bool.false_ne_true), if_neg h2]
      exact h h2 (Classical.not_not.mp h1)
theorem ask_any {f : Krb7.Ans} {o : List Int} (h : ¬ w.cur.laid = 0 → told f = o) :
    Askd w (w.abs, if (hall w.cur).laid.isNone = true then Kru8.say (-6) else f) (if w.cur.laid = 0 then [-6] else o) := by
  rw [hall_off]
  refine ⟨rfl, ?_⟩
  by_cases h2 : w.cur.laid = 0
  · rw [if_pos (decide_eq_true h2), if_pos h2]; rfl
  · rw [if_neg (by rw [decide_eq_false h2]; exact Bool.false_ne_true), if_neg h2]
    exact h h2
include G
theorem does_right (p : Nat) : Askd w (w.abs.does (.right p)) (dRight w.cur [p]) := ask_one (f := { num := (hall w.cur).right p, nums := Kru8.ints [Krb7.why (hall w.cur).by_ p] }) fun h2 _ => by
  rw [hall_right h2, hall_by h2]
  rfl
theorem does_stands : Askd w (w.abs.does .stands) (dStands w.cur []) := ask_any (f := { num := Krb7.count w.cur.m (hall w.cur).base, nums := Kru8.ints [(hall w.cur).base] }) fun h2 => by
  rw [hall_base h2, count_pc G.m1 G.m3 (now_full G)]
  rfl
theorem does_concede (t : Nat) : Askd w (w.abs.does (.concede t)) (dTold w.cur t 1) := ask_one (f := Kru8.row? ((hall w.cur).row 1 t)) fun h2 _ => by rw [hall_row G h2, told_row]
theorem does_deny (t : Nat) : Askd w (w.abs.does (.deny t)) (dTold w.cur t 0) := ask_one (f := Kru8.row? ((hall w.cur).row 0 t)) fun h2 _ => by rw [hall_row G h2, told_row]
theorem does_may (t : Nat) : Askd w (w.abs.does (.may t)) (dMay w.cur [t]) := ask_one (f := Kru8.say (Krc9.bits ([0, 1, 2].filter fun x => ((hall w.cur).row x t).isSome))) fun h2 _ => by
  rw [hall_may G h2]
  rfl
theorem does_false : Askd w (w.abs.does .false_) (dFalse w.cur []) := ask_any (f := Kru8.say (hall w.cur).false_.length) fun h2 => by
  rw [hall_false G h2]
  rfl
theorem does_row (l : List Nat) : Askd w (w.abs.does (.row l)) (dRow w.cur l) := by
  show Askd w (w.abs, if (decide (8 < l.length) || l.any fun p => !(hall w.cur).ok p) = true then Kru8.say (-22) else if (hall w.cur).laid.isNone = true then Kru8.say (-6) else Kru8.list ((((hall w.cur).proposes l).said.drop (hall w.cur).said.length).map fun x => x.2)) _
  rw [any_all, hall_off]
  unfold dRow
  refine ⟨rfl, ?_⟩
  by_cases h1 : 8 < l.length ∨ ¬ (l.all fun p => decide (p ≤ full w.cur.m)) = true
  · rw [if_pos (by rw [Bool.or_eq_true, decide_eq_true_eq]; rcases h1 with z | z; exact .inl z; right; rw [Bool.not_eq_true'] ; exact Bool.eq_false_iff.mpr z), if_pos h1]; rfl
  · rw [if_neg (by rw [Bool.or_eq_true, decide_eq_true_eq]; rintro (z | z); exact h1 (.inl z); rw [Bool.not_eq_true'] at z; exact h1 (.inr (by rw [z]; exact Bool.false_ne_true))), if_neg h1]
    by_cases h2 : w.cur.laid = 0
    · rw [if_pos (decide_eq_true h2), if_pos h2]; rfl
    · rw [if_neg (by rw [decide_eq_false h2]; exact Bool.false_ne_true), if_neg h2, hall_rowA G h2]
      · rfl
      · intro p hp
        have z : (l.all fun p => decide (p ≤ full w.cur.m)) = true := Classical.byContradiction fun z => h1 (.inr z)
        exact of_decide_eq_true (List.all_eq_true.mp z p hp)
theorem does_log (i : Nat) : Askd w (w.abs.does (.log i)) (dLog w.cur [i]) := by
  show Askd w (w.abs, if (hall w.cur).laid.isNone = true then Kru8.say (-6) else if decide (w.cur.given.length ≤ i) = true then Kru8.say (-2) else { num := (gv w.cur i).1, nums := Kru8.ints [(gv w.cur i).2, if (hall w.cur).bad.contains i then 1 else 0] }) _
  unfold dLog
  rw [hall_off]
  refine ⟨rfl, ?_⟩
  show told _ = (if w.cur.laid = 0 then [-6] else if w.cur.given.length ≤ i then [-2] else [((gv w.cur i).1 : Int), ((gv w.cur i).2 : Int), if badB w.cur i = true then 1 else 0])
  by_cases h2 : w.cur.laid = 0
  · rw [if_pos (decide_eq_true h2), if_pos h2]; rfl
  · rw [if_neg (by rw [decide_eq_false h2]; exact Bool.false_ne_true), if_neg h2]
    by_cases h3 : w.cur.given.length ≤ i
    · rw [if_pos (decide_eq_true h3), if_pos h3]; rfl
    · rw [if_neg (by rw [decide_eq_false h3]; exact Bool.false_ne_true), if_neg h3, hall_bad G h2]
      have e : (bads w.cur).contains i = badB w.cur i := by
        unfold bads
        cases q : badB w.cur i with
        | true => simp [q]; omega
        | false => simp [q]
      rw [e]
      cases badB w.cur i <;> rfl
theorem does_from (x t : Nat) : Askd w (w.abs.does (.from_ x t)) (dFrom w.cur [x, t]) := by
  show Askd w (w.abs, if (!(hall w.cur).ok t || decide (2 < x)) = true then Kru8.say (-22) else if (hall w.cur).laid.isNone = true then Kru8.say (-6) else match (if (hall w.cur).rule = 1 then (if (hall w.cur).right t = x then some [] else none) else ((hall w.cur).foe.soonest (fun b => Krb7.right (hall w.cur).known b t == x) (hall w.cur).base).map fun k => (hall w.cur).foe.way (fun b => Krb7.right (hall w.cur).known b t == x) k (hall w.cur).base) with
      | none => Kru8.say (-33)
      | some l => Kru8.list l) _
  unfold dFrom
  rw [hall_off, ok_dec]
  refine ⟨rfl, ?_⟩
  show told _ = (if 2 < x ∨ ¬ t ≤ full w.cur.m then [-22] else if w.cur.laid = 0 then [-6] else row? (fromF w.cur t x))
  by_cases h1 : 2 < x ∨ ¬ t ≤ full w.cur.m
  · rw [if_pos (by rw [Bool.or_eq_true, decide_eq_true_eq, decide_eq_true_eq]; exact h1.symm), if_pos h1]; rfl
  · rw [if_neg (by rw [Bool.or_eq_true, decide_eq_true_eq, decide_eq_true_eq]; exact fun z => h1 z.symm), if_neg h1]
    by_cases h2 : w.cur.laid = 0
    · rw [if_pos (decide_eq_true h2), if_pos h2]; rfl
    · rw [if_neg (by rw [decide_eq_false h2]; exact Bool.false_ne_true), if_neg h2, hall_from G h2]
      cases fromF w.cur t x <;> rfl
end
theorem does_back {w : Wd} : Eqv (w.abs.does .back) w.back := by
  obtain ⟨c, p, n⟩ := w
  cases p with
  | nil => exact ⟨rfl, rfl⟩
  | cons x r =>
    refine ⟨rfl, ?_⟩
    show [((r.map hall).length : Int)] = [(r.length : Int)]
    rw [List.length_map]
theorem does_again {w : Wd} : Eqv (w.abs.does .again) w.again := by
  obtain ⟨c, p, n⟩ := w
  cases n with
  | nil => exact ⟨rfl, rfl⟩
  | cons x r =>
    refine ⟨?_, ?_⟩
    · show (⟨hall x, (hall c :: p.map hall).take 20, r.map hall⟩ : Kru8.World) = ⟨hall x, ((c :: p).take 20).map hall, r.map hall⟩
      rw [List.map_take]
      rfl
    · show [((r.map hall).length : Int)] = [(r.length : Int)]
      rw [List.length_map]
end DY
namespace DY
open L2 DX DM
open Krb7 (full)
theorem good_rule {r : Rec} (G : Good r) (ns : List Nat) : Good (doRule r ns).2 := by
  unfold doRule
  split
  · exact G
  · split
    · exact G
    · exact ⟨G.m1, G.m3, G.k, G.k0, by show ns.getD 0 0 ≤ 1; omega, G.la, G.gi, G.gl, G.st, G.sl, G.el⟩
theorem good_lay {r : Rec} (G : Good r) (ns : List Nat) : Good (doLay r ns).2 := by
  unfold doLay
  split
  · exact G
  · rename_i h
    split
    · exact G
    · split
      · exact G
      · exact ⟨G.m1, G.m3, G.k, G.k0, G.ru, Classical.not_not.mp h, fun x hx => (by cases hx), Nat.zero_le _, G.st, G.sl, G.el⟩
theorem good_propose {r : Rec} (G : Good r) (ns : List Nat) : Good (doPropose r ns).2 := by
  unfold doPropose
  split
  · exact G
  · rename_i h
    split
    · exact G
    · split
      · exact G
      · rename_i h3
        exact G.more (Classical.not_not.mp h) (right_le _ _ _) h3
theorem good_answer {r : Rec} (G : Good r) (ns : List Nat) : Good (doAnswer r ns).2 := by
  unfold doAnswer
  split
  · exact G
  · rename_i h
    split
    · exact G
    · split
      · exact G
      · rename_i h3
        exact G.more (Classical.byContradiction fun z => h (.inl z)) (Nat.le_of_not_lt fun z => h (.inr z)) h3
theorem good_pushes : ∀ {l : List Nat} {r : Rec}, Good r → (∀ p ∈ l, p ≤ full r.m) → r.given.length + l.length ≤ 8 → Good (l.foldl pushR r)
  | [], r, G, _, _ => G
  | p :: l, r, G, hl, hn => by
    have hn : r.given.length + (l.length + 1) ≤ 8 := hn
    have G1 : Good (pushR r p) := G.more (hl p (by simp)) (right_le _ _ _) (by omega)
    refine good_pushes (l := l) G1 (fun q hq => hl q (List.mem_cons_of_mem _ hq)) ?_
    show (r.given ++ [_]).length + l.length ≤ 8
    rw [List.length_append]
    show r.given.length + 1 + l.length ≤ 8
    omega
theorem good_press {r : Rec} (G : Good r) (ns : List Nat) : Good (doPress r ns).2 := by
  unfold doPress
  split
  · exact G
  · rename_i h
    split
    · exact G
    · cases e : rowF r (ns.getD 0 0) 1 with
      | none => exact G
      | some l =>
        show Good (if 8 < r.given.length + l.length then _ else _ : List Int × Rec).2
        split
        · exact G
        · rename_i h3
          exact good_pushes G (rowF_le (Classical.not_not.mp h) e).1 (by omega)
theorem good_strike {r : Rec} (G : Good r) (ns : List Nat) : Good (doStrike r ns).2 := by
  unfold doStrike
  split
  · exact G
  · split
    · exact G
    · exact ⟨G.m1, G.m3, G.k, G.k0, G.ru, G.la, fun x hx => G.gi x (List.mem_of_mem_eraseIdx hx), Nat.le_trans (List.length_eraseIdx_le _ _) G.gl, G.st, G.sl, G.el⟩
theorem good_amend {r : Rec} (G : Good r) (ns : List Nat) : Good (doAmend r ns).2 := by
  unfold doAmend
  split
  · exact G
  · split
    · exact G
    · rename_i h2
      split
      · exact G
      · rename_i h3
        refine ⟨G.m1, G.m3, G.k, G.k0, G.ru, G.la, fun x hx => ?_, by show (r.given.set _ _).length ≤ 8; rw [List.length_set]; exact G.gl, G.st, G.sl, G.el⟩
        rcases List.mem_or_eq_of_mem_set hx with z | z
        · exact G.gi x z
        · subst z
          have hi : ns.getD 0 0 < r.given.length := by omega
          have e : r.given[ns.getD 0 0]? = some (gv r (ns.getD 0 0)) := by
            unfold gv
            generalize ns.getD 0 0 = i at hi
            rw [List.getD_eq_getElem?_getD, List.getElem?_eq_getElem hi]
            rfl
          exact ⟨(G.gi _ (List.mem_of_getElem? e)).1, by show ns.getD 1 0 ≤ 2; omega⟩
theorem good_learn {r : Rec} (G : Good r) (ns : List Nat) : Good (doLearn r ns).2 := by
  unfold doLearn
  split
  · exact G
  · split
    · exact G
    · rename_i h
      exact ⟨G.m1, G.m3, and_le_full G.k, h, G.ru, G.la, G.gi, G.gl, G.st, G.sl, G.el⟩
theorem good_stock {r : Rec} (G : Good r) (ns : List Nat) : Good (doStock r ns).2 := by
  unfold doStock
  split
  · exact G
  · rename_i h
    have z : (ns.all fun p => decide (p ≤ full r.m)) = true := Classical.byContradiction fun z => h (.inr z)
    exact ⟨G.m1, G.m3, G.k, G.k0, G.ru, G.la, G.gi, G.gl, fun p hp => of_decide_eq_true (List.all_eq_true.mp z p hp), Nat.le_of_not_lt fun z => h (.inl z), G.el⟩
theorem good_finish {r : Rec} (G : Good r) (hl : r.ended.length < 11600) (ns : List Nat) : Good (doFinish r ns).2 := by
  unfold doFinish
  split
  · exact G
  · exact ⟨G.m1, G.m3, G.k, G.k0, G.ru, Nat.zero_le _, fun x hx => (by cases hx), Nat.zero_le _, G.st, G.sl, by show (r.ended ++ [_]).length ≤ 11600; rw [List.length_append]; show r.ended.length + 1 ≤ 11600; omega⟩
theorem good_change {r : Rec} (G : Good r) (hl : r.ended.length < 11600) (n : Nat) (ns : List Nat) : Good (doChange n r ns).2 := by
  unfold doChange
  split
  · exact good_rule G ns
  · exact good_lay G ns
  · exact good_propose G ns
  · exact good_answer G ns
  · exact good_press G ns
  · exact good_strike G ns
  · exact good_amend G ns
  · exact good_learn G ns
  · exact good_stock G ns
  · exact good_finish G hl ns
theorem ended_pushes : ∀ {l : List Nat} {r : Rec}, (l.foldl pushR r).ended = r.ended
  | [], r => rfl
  | p :: l, r => ended_pushes (l := l) (r := pushR r p)
theorem ended_change (r : Rec) (n : Nat) (ns : List Nat) : (doChange n r ns).2.ended.length ≤ r.ended.length + 1 := by
  have le : ∀ {x : Rec}, x.ended = r.ended → x.ended.length ≤ r.ended.length + 1 := fun {x} e => by rw [e]; omega
  unfold doChange
  split
  · unfold doRule; repeat' split
    all_goals exact le rfl
  · unfold doLay; repeat' split
    all_goals exact le rfl
  · unfold doPropose; repeat' split
    all_goals exact le rfl
  · unfold doAnswer; repeat' split
    all_goals exact le rfl
  · unfold doPress; repeat' split
    all_goals first | exact le rfl | exact le ended_pushes
  · unfold doStrike; repeat' split
    all_goals exact le rfl
  · unfold doAmend; repeat' split
    all_goals exact le rfl
  · unfold doLearn; repeat' split
    all_goals exact le rfl
  · unfold doStock; repeat' split
    all_goals exact le rfl
  · unfold doFinish; split
    · exact le rfl
    · show (r.ended ++ [_]).length ≤ _
      rw [List.length_append]
      exact Nat.le_refl _
theorem good_new {m k : Nat} (h1 : ¬ (m < 1 ∨ 3 < m)) (h2 : ¬ (¬ k ≤ full m ∨ k = 0)) : Good (newRec m k) :=
  ⟨by show 1 ≤ m; omega, by show m ≤ 3; omega, Classical.byContradiction fun z => h2 (.inl z), fun z => h2 (.inr z), Nat.zero_le _, Nat.zero_le _, fun x hx => (by cases hx), Nat.zero_le _, fun p hp => (by cases hp), Nat.zero_le _, Nat.zero_le _⟩
def absO : Option Wd → Kru8.Abs
  | none => none
  | some w => some w.abs
theorem WOk.up {k k' : Nat} {w : Wd} (O : WOk k w) (h : k ≤ k') : WOk k' w := ⟨O.cur, Nat.le_trans O.fl h, O.len, fun r hr => ⟨(O.past r hr).1, Nat.le_trans (O.past r hr).2 h⟩, fun r hr => ⟨(O.next r hr).1, Nat.le_trans (O.next r hr).2 h⟩⟩
theorem chg_ok {k k' : Nat} {w : Wd} (O : WOk k w) {n : Nat} (ns : List Nat) (h : k < k') (h2 : k' ≤ 11600) : WOk k' (w.chg (doChange n w.cur ns)).1 := by
  have fl := O.fl
  unfold Wd.chg
  split
  · refine ⟨good_change O.cur (by omega) n ns, ?_, ?_, fun r hr => ?_, fun r hr => (by cases hr)⟩
    · have := ended_change w.cur n ns
      show (doChange n w.cur ns).2.ended.length ≤ k'
      omega
    · show ((w.cur :: w.past).take 20).length + 0 ≤ 20
      rw [List.length_take]
      omega
    · rcases List.mem_cons.mp (List.mem_of_mem_take hr) with z | z
      · subst z; exact ⟨O.cur, by omega⟩
      · exact ⟨(O.past r z).1, by have := (O.past r z).2; omega⟩
  · exact O.up (by omega)
theorem back_ok {k : Nat} {w : Wd} (O : WOk k w) : WOk k w.back.1 := by
  obtain ⟨c, p, n⟩ := w
  cases p with
  | nil => exact O
  | cons x r =>
    have len : (x :: r).length + n.length ≤ 20 := O.len
    have hx := O.past x (by simp)
    refine ⟨hx.1, hx.2, ?_, fun y hy => O.past y (List.mem_cons_of_mem _ hy), fun y hy => ?_⟩
    · show r.length + (n.length + 1) ≤ 20
      rw [List.length_cons] at len
      omega
    · rcases List.mem_cons.mp hy with z | z
      · subst z; exact ⟨O.cur, O.fl⟩
      · exact O.next y z
theorem again_ok {k : Nat} {w : Wd} (O : WOk k w) : WOk k w.again.1 := by
  obtain ⟨c, p, n⟩ := w
  cases n with
  | nil => exact O
  | cons x r =>
    have len : p.length + (x :: r).length ≤ 20 := O.len
    rw [List.length_cons] at len
    have hx := O.next x (by simp)
    refine ⟨hx.1, hx.2, ?_, fun y hy => ?_, fun y hy => O.next y (List.mem_cons_of_mem _ hy)⟩
    · show ((c :: p).take 20).length + r.length ≤ 20
      rw [List.length_take, List.length_cons]
      omega
    · rcases List.mem_cons.mp (List.mem_of_mem_take hy) with z | z
      · subst z; exact ⟨O.cur, O.fl⟩
      · exact O.past y z
theorem act_begin (o : Option Wd) (m k : Nat) : (Kru8.act (absO o) (.begin_ m k)).1 = absO (beginW o m k).1 ∧ told (Kru8.act (absO o) (.begin_ m k)).2 = (beginW o m k).2 := by
  show (if m = 0 ∨ Krb7.mostLetters < m ∨ k = 0 ∨ full m < k then (absO o, Kru8.say (-22)) else (some ⟨⟨m, k, 0, none, [], [], 0, 0, 0⟩, [], []⟩, Kru8.say 0) : Kru8.Abs × Krb7.Ans).1 = _ ∧ told (if m = 0 ∨ Krb7.mostLetters < m ∨ k = 0 ∨ full m < k then (absO o, Kru8.say (-22)) else (some ⟨⟨m, k, 0, none, [], [], 0, 0, 0⟩, [], []⟩, Kru8.say 0) : Kru8.Abs × Krb7.Ans).2 = _
  unfold beginW
  have e3 : Krb7.mostLetters = 3 := rfl
  by_cases h1 : m < 1 ∨ 3 < m
  · rw [if_pos (by rw [e3]; omega), if_pos h1]; exact ⟨rfl, rfl⟩
  · rw [if_neg h1]
    by_cases h2 : ¬ k ≤ full m ∨ k = 0
    · rw [if_pos (by rw [e3]; omega), if_pos h2]; exact ⟨rfl, rfl⟩
    · rw [if_neg (by rw [e3]; omega), if_neg h2]; exact ⟨rfl, rfl⟩
end DY
namespace DY
open L2 DX DM
open Krb7 (full)
def bitsOf (n b : Nat) : List Nat := (List.range n).filter fun i => Kru7.has b i
theorem has_lt {n b : Nat} (h : b < 2 ^ n) : Kru7.has b n = false := by
  unfold Kru7.has
  rw [Nat.div_eq_of_lt h]
  rfl
theorem has_add {n b i : Nat} (hi : i < n) : Kru7.has (2 ^ n + b) i = Kru7.has b i := by
  unfold Kru7.has
  have e : 2 ^ n = 2 ^ i * (2 * 2 ^ (n - i - 1)) := by
    have : n = i + (1 + (n - i - 1)) := by omega
    rw [← Nat.pow_succ', ← Nat.pow_add]
    congr 1
    omega
  rw [e, Nat.mul_add_div (Nat.pos_of_ne_zero (by exact Nat.ne_of_gt (Nat.two_pow_pos i))), Nat.add_mod, Nat.mul_mod_right, Nat.zero_add, Nat.mod_mod]
theorem has_top {n b : Nat} (h : b < 2 ^ n) : Kru7.has (2 ^ n + b) n = true := by
  unfold Kru7.has
  rw [Nat.add_div_left _ (Nat.two_pow_pos n), Nat.div_eq_of_lt h]
  rfl
theorem fcongr {α : Type} {f g : α → Bool} : ∀ {l : List α}, (∀ x ∈ l, f x = g x) → l.filter f = l.filter g
  | [], _ => rfl
  | x :: l, h => by
    rw [List.filter_cons, List.filter_cons, h x (by simp), fcongr fun y hy => h y (List.mem_cons_of_mem _ hy)]
theorem ftrue (l : List Nat) : l.filter (fun _ => true) = l := List.filter_eq_self.mpr fun _ _ => rfl
theorem setsL_bits : ∀ n, setsL n = (List.range (2 ^ n)).map (bitsOf n)
  | 0 => rfl
  | n + 1 => by
    show setsL n ++ (setsL n).map (fun l => l ++ [n]) = _
    rw [setsL_bits n, Nat.pow_succ, Nat.mul_two, List.range_add, List.map_append, List.map_map, List.map_map]
    have e1 : (List.range (2 ^ n)).map (bitsOf (n + 1)) = (List.range (2 ^ n)).map (bitsOf n) := by
      refine List.map_congr_left fun b hb => ?_
      unfold bitsOf
      rw [List.range_succ, List.filter_append, List.filter_cons, has_lt (List.mem_range.mp hb)]
      simp
    have e2 : (List.range (2 ^ n)).map (bitsOf (n + 1) ∘ fun x => 2 ^ n + x) = (List.range (2 ^ n)).map ((fun l => l ++ [n]) ∘ bitsOf n) := by
      refine List.map_congr_left fun b hb => ?_
      show bitsOf (n + 1) (2 ^ n + b) = bitsOf n b ++ [n]
      unfold bitsOf
      rw [List.range_succ, List.filter_append, List.filter_cons, has_top (List.mem_range.mp hb), List.filter_nil, if_pos rfl]
      congr 1
      exact fcongr fun i hi => has_add (List.mem_range.mp hi)
    rw [e1, e2]
theorem mem_setsL (p : Nat → Bool) : ∀ n, (List.range n).filter p ∈ setsL n
  | 0 => by simp [setsL]
  | n + 1 => by
    have ih := mem_setsL p n
    show _ ∈ setsL n ++ (setsL n).map fun l => l ++ [n]
    rw [List.range_succ, List.filter_append]
    cases h : p n with
    | false =>
      have e : [n].filter p = [] := by simp [h]
      rw [e, List.append_nil]
      exact List.mem_append_left _ ih
    | true =>
      have e : [n].filter p = [n] := by simp [h]
      rw [e]
      exact List.mem_append_right _ (List.mem_map.mpr ⟨_, ih, rfl⟩)
theorem setsL_own {n : Nat} {s : List Nat} (h : s ∈ setsL n) : s = (List.range n).filter fun i => decide (i ∈ s) := by
  rw [setsL_bits] at h
  obtain ⟨b, _, e⟩ := List.mem_map.mp h
  subst e
  unfold bitsOf
  refine fcongr fun i hi => ?_
  cases q : Kru7.has b i with
  | true => exact (decide_eq_true (List.mem_filter.mpr ⟨hi, q⟩)).symm
  | false =>
    refine (decide_eq_false fun z => ?_).symm
    have := (List.mem_filter.mp z).2
    rw [q] at this
    cases this
theorem filter_same {p q : Nat → Bool} : ∀ {l : List Nat}, (∀ x ∈ l, p x = true → q x = true) → (l.filter q).length ≤ (l.filter p).length → l.filter p = l.filter q
  | [], _, _ => rfl
  | x :: l, h, hl => by
    have mono : ∀ l : List Nat, (∀ x ∈ l, p x = true → q x = true) → (l.filter p).length ≤ (l.filter q).length := by
      intro l
      induction l with
      | nil => intro _; exact Nat.le_refl _
      | cons y l ih =>
        intro h
        have i := ih fun z hz => h z (List.mem_cons_of_mem _ hz)
        rw [List.filter_cons, List.filter_cons]
        cases e : p y with
        | true => rw [h y (by simp) e]; simp; exact i
        | false =>
          cases e2 : q y with
          | true => simp; omega
          | false => simp; exact i
    have hr := fun y hy => h y (List.mem_cons_of_mem x hy)
    have m := mono l hr
    rw [List.filter_cons, List.filter_cons] at hl ⊢
    cases e : p x with
    | true =>
      rw [h x (by simp) e, e] at hl
      rw [h x (by simp) e]
      simp at hl ⊢
      exact filter_same hr hl
    | false =>
      cases e2 : q x with
      | true => rw [e, e2] at hl; simp at hl; omega
      | false =>
        rw [e, e2] at hl
        simp at hl ⊢
        exact filter_same hr hl
theorem few_min (r : Rec) : ∀ (L : List (List Nat)) (b : List Nat), allB (strk r b) = true → allB (strk r (L.foldl (fwS r) b)) = true ∧ (L.foldl (fwS r) b = b ∨ L.foldl (fwS r) b ∈ L) ∧ (L.foldl (fwS r) b).length ≤ b.length ∧ ∀ s ∈ L, allB (strk r s) = true → (L.foldl (fwS r) b).length ≤ s.length
  | [], b, h => ⟨h, .inl rfl, Nat.le_refl _, fun s hs => (by cases hs)⟩
  | x :: L, b, h => by
    have hb : allB (strk r (fwS r b x)) = true ∧ (fwS r b x = b ∨ fwS r b x = x) ∧ (fwS r b x).length ≤ b.length ∧ (allB (strk r x) = true → (fwS r b x).length ≤ x.length) := by
      by_cases h1 : x.length < b.length
      · cases h2 : allB (strk r x) with
        | true => rw [fwS_y h1 h2]; exact ⟨h2, .inr rfl, Nat.le_of_lt h1, fun _ => Nat.le_refl _⟩
        | false => rw [fwS_n h1 h2]; exact ⟨h, .inl rfl, Nat.le_refl _, fun z => (by cases z)⟩
      · rw [fwS_m h1]; exact ⟨h, .inl rfl, Nat.le_refl _, fun _ => by omega⟩
    obtain ⟨i1, i2, i3, i4⟩ := few_min r L (fwS r b x) hb.1
    refine ⟨i1, ?_, Nat.le_trans i3 hb.2.2.1, fun s hs hp => ?_⟩
    · rcases i2 with z | z
      · rcases hb.2.1 with y | y
        · left; show L.foldl (fwS r) (fwS r b x) = b; rw [z, y]
        · right; show L.foldl (fwS r) (fwS r b x) ∈ x :: L; rw [z, y]; simp
      · right; exact List.mem_cons_of_mem _ z
    · rcases List.mem_cons.mp hs with z | z
      · subst z; exact Nat.le_trans i3 (hb.2.2.2 hp)
      · exact i4 s z hp
theorem strk_all (r : Rec) : (strk r (List.range r.given.length)).given = [] := by
  show ((List.range r.given.length).filter fun i => !decide (i ∈ List.range r.given.length)).map (gv r) = []
  rw [List.filter_eq_nil_iff.mpr]
  · rfl
  · intro i hi
    rw [decide_eq_true hi]
    exact Bool.false_ne_true
theorem right_all (r : Rec) : allB (strk r (List.range r.given.length)) = true := by
  refine decide_eq_true (bads_nil.mpr fun i hi => ?_)
  rw [strk_all] at hi
  exact absurd hi (Nat.not_lt_zero i)
theorem strk1 {r : Rec} (h1 : r.rule = 1) (s : List Nat) : allB (strk r s) = true ↔ ∀ i, i < r.given.length → ¬ i ∈ s → badB r i = false := by
  have hb : ∀ (x : Rec), x.rule = 1 → ∀ i, badB x i = !decide ((gv x i).2 = Krb7.right x.known x.laid (gv x i).1) := fun x hx i => by
    unfold badB rw_ byW
    rw [if_pos hx]
  have hg : ∀ i, i < (strk r s).given.length → ∃ j, j ∈ (List.range r.given.length).filter (fun i => !decide (i ∈ s)) ∧ gv (strk r s) i = gv r j := by
    intro i hi
    have hm := List.mem_of_getElem? (gv_at hi)
    obtain ⟨j, hj, e⟩ := List.mem_map.mp (show gv (strk r s) i ∈ ((List.range r.given.length).filter fun i => !decide (i ∈ s)).map (gv r) from hm)
    exact ⟨j, hj, e.symm⟩
  constructor
  · intro h i hi hs
    have h := bads_nil.mp (of_decide_eq_true h)
    have hm : gv r i ∈ (strk r s).given := List.mem_map.mpr ⟨i, List.mem_filter.mpr ⟨List.mem_range.mpr hi, by rw [decide_eq_false hs]; rfl⟩, rfl⟩
    obtain ⟨k, hk, e⟩ := List.mem_iff_getElem.mp hm
    have z := h k hk
    rw [hb (strk r s) h1] at z
    have e2 : gv (strk r s) k = gv r i := by
      have q := gv_at hk
      rw [List.getElem?_eq_getElem hk, e] at q
      exact (Option.some.inj q).symm
    rw [e2] at z
    rw [hb r h1]
    exact z
  · intro h
    refine decide_eq_true (bads_nil.mpr fun i hi => ?_)
    obtain ⟨j, hj, e⟩ := hg i hi
    obtain ⟨hj1, hj2⟩ := List.mem_filter.mp hj
    have z := h j (List.mem_range.mp hj1) (by simpa using hj2)
    rw [hb r h1] at z
    rw [hb (strk r s) h1, e]
    exact z
theorem few_rule1 {r : Rec} (h1 : r.rule = 1) : fewest r = bads r := by
  obtain ⟨i1, i2, i3, i4⟩ := few_min r (setsL r.given.length) (List.range r.given.length) (right_all r)
  have hin : (setsL r.given.length).foldl (fwS r) (List.range r.given.length) ∈ setsL r.given.length := by
    rcases i2 with z | z
    · rw [z]
      have := mem_setsL (fun _ => true) r.given.length
      rwa [ftrue] at this
    · exact z
  have pb : allB (strk r (bads r)) = true := (strk1 h1 _).mpr fun i hi hs => by
    cases q : badB r i with
    | false => rfl
    | true => exact absurd (List.mem_filter.mpr ⟨List.mem_range.mpr hi, q⟩) hs
  have lb := i4 (bads r) (mem_setsL (badB r) _) pb
  have sub := (strk1 h1 _).mp i1
  unfold fewest
  generalize (setsL r.given.length).foldl (fwS r) (List.range r.given.length) = res at *
  have own := setsL_own hin
  rw [own] at lb
  rw [own]
  unfold bads at lb ⊢
  refine (filter_same (fun i hi hp => ?_) lb).symm
  refine decide_eq_true ?_
  apply Classical.byContradiction
  intro z
  have := sub i (List.mem_range.mp hi) z
  rw [hp] at this
  cases this
def lstep (n : Nat) (x : Option Nat) (b : Nat) : Option Nat := match x with
  | none => some b
  | some y => if Kru7.size n b < Kru7.size n y then some b else some y
theorem full_len {n : Nat} {p : Nat → Bool} (h : ¬ ((List.range n).filter p).length < n) : (List.range n).filter p = List.range n := by
  have e : (List.range n).filter (fun _ => true) = List.range n := ftrue _
  have := filter_same (p := p) (q := fun _ => true) (l := List.range n) (fun _ _ _ => rfl) (by rw [e, List.length_range]; omega)
  rw [this, e]
theorem few_fold (r : Rec) (P : Nat → Bool) (hP : ∀ b, P b = allB (strk r (bitsOf r.given.length b))) : ∀ (L : List Nat) (x : Option Nat) (b : List Nat), (x = none → b = List.range r.given.length) → (∀ y, x = some y → b = bitsOf r.given.length y) →
    ((L.filter P).foldl (lstep r.given.length) x = none → (L.map (bitsOf r.given.length)).foldl (fwS r) b = List.range r.given.length) ∧ ∀ y, (L.filter P).foldl (lstep r.given.length) x = some y → (L.map (bitsOf r.given.length)).foldl (fwS r) b = bitsOf r.given.length y
  | [], x, b, h1, h2 => ⟨h1, h2⟩
  | z :: L, x, b, h1, h2 => by
    rw [List.map_cons, List.foldl_cons, List.filter_cons]
    cases q : P z with
    | false =>
      rw [if_neg Bool.false_ne_true]
      have e : fwS r b (bitsOf r.given.length z) = b := by
        by_cases hl : (bitsOf r.given.length z).length < b.length
        · exact fwS_n hl (by rw [← hP]; exact q)
        · exact fwS_m hl
      rw [e]
      exact few_fold r P hP L x b h1 h2
    | true =>
      rw [if_pos rfl, List.foldl_cons]
      have pz : allB (strk r (bitsOf r.given.length z)) = true := by rw [← hP]; exact q
      refine few_fold r P hP L _ _ ?_ ?_
      · intro e
        cases x with
        | none => cases e
        | some y =>
          unfold lstep at e
          dsimp only at e
          split at e <;> cases e
      · intro y e
        cases x with
        | none =>
          have e : z = y := Option.some.inj e
          subst e
          have hb := h1 rfl
          subst hb
          by_cases hl : (bitsOf r.given.length z).length < (List.range r.given.length).length
          · exact fwS_y hl pz
          · rw [fwS_m hl]
            rw [List.length_range] at hl
            exact (full_len hl).symm
        | some y0 =>
          have hb := h2 y0 rfl
          subst hb
          have e : (if Kru7.size r.given.length z < Kru7.size r.given.length y0 then some z else some y0) = some y := e
          by_cases hl : (bitsOf r.given.length z).length < (bitsOf r.given.length y0).length
          · rw [if_pos (show Kru7.size r.given.length z < Kru7.size r.given.length y0 from hl)] at e
            have e := Option.some.inj e
            subst e
            exact fwS_y hl pz
          · rw [if_neg (show ¬ Kru7.size r.given.length z < Kru7.size r.given.length y0 from hl)] at e
            have e := Option.some.inj e
            subst e
            exact fwS_m hl
theorem lstep_some (n : Nat) : ∀ (L : List Nat) (x : Option Nat), (L ≠ [] ∨ x ≠ none) → ∃ y, L.foldl (lstep n) x = some y
  | [], x, h => by
    cases x with
    | none => rcases h with z | z <;> exact absurd rfl z
    | some y => exact ⟨y, rfl⟩
  | z :: L, x, _ => by
    refine lstep_some n L (lstep n x z) (.inr ?_)
    unfold lstep
    cases x with
    | none => intro e; cases e
    | some y =>
      dsimp only
      split <;> (intro e; cases e)
theorem few_rule0 (r : Rec) (P : Nat → Bool) (hP : ∀ b, P b = allB (strk r (bitsOf r.given.length b))) :
    fewest r = bitsOf r.given.length ((((List.range (2 ^ r.given.length)).filter P).foldl (lstep r.given.length) none).getD 0) := by
  have ne : (List.range (2 ^ r.given.length)).filter P ≠ [] := by
    have hm := mem_setsL (fun _ => true) r.given.length
    rw [ftrue, setsL_bits] at hm
    obtain ⟨b, hb, e⟩ := List.mem_map.mp hm
    intro z
    have : b ∈ (List.range (2 ^ r.given.length)).filter P := List.mem_filter.mpr ⟨hb, by rw [hP, e]; exact right_all r⟩
    rw [z] at this
    cases this
  obtain ⟨y, hy⟩ := lstep_some r.given.length _ none (.inl ne)
  have z := (few_fold r P hP (List.range (2 ^ r.given.length)) none (List.range r.given.length) (fun _ => rfl) (fun y e => (by cases e))).2 y hy
  unfold fewest
  rw [setsL_bits, z, hy]
  rfl
end DY
namespace DY
open L2 DX DM
open Krb7 (full)
theorem sum_nat : ∀ l : List Nat, (nat l).sum = ((l.sum : Nat) : Int)
  | [] => rfl
  | x :: l => by
    show (x : Int) + (nat l).sum = ((x + l.sum : Nat) : Int)
    rw [sum_nat l, Int.natCast_add]
section
variable {r : Rec} (G : Good r)
theorem hall_foe (h : ¬ r.laid = 0) : (hall r).foe = foeR r := by
  unfold Kru8.Hall.foe foeR
  rw [hall_base h]
  rfl
theorem paper_laid (h : ¬ r.laid = 0) : (hall r).paper = ⟨r.m, r.known, r.laid, r.given⟩ := by
  unfold Kru8.Hall.paper
  rw [hall_on h]
  rfl
theorem hall_caught (h : ¬ r.laid = 0) : (hall r).paper.caught = cgt r := by
  rw [paper_laid h]
  rfl
include G
theorem hall_first (h : ¬ r.laid = 0) (i : Nat) : (if (hall r).rule = 1 then Krb7.right (hall r).known (hall r).on ((hall r).paper.at_ i).1 else (hall r).paper.rightAt i) = rgt r i := by
  unfold rgt
  by_cases h1 : r.rule = 1
  · rw [if_pos (show (hall r).rule = 1 from h1), rw1 G h1, hall_on h]
    rfl
  · rw [if_neg (show ¬ (hall r).rule = 1 from h1), rw0 G h1, paper_laid h]
    rfl
theorem rowA_one (h1 : r.rule = 1) : ∀ (l : List Nat) (s : Nat), rowA r s l = l.map fun p => Krb7.right r.known r.laid p
  | [], _ => rfl
  | p :: l, s => by
    show rw_ r s p :: rowA r (nextW r s p) l = _ :: l.map _
    rw [rw1 G h1, rowA_one h1 l]
theorem rowA_zero (h1 : ¬ r.rule = 1) : ∀ (l : List Nat) (s : Nat), s ≤ full r.m → (∀ p ∈ l, p ≤ full r.m) → (Krb7.answers r.m r.known s l).1 = rowA r s l
  | [], _, _, _ => rfl
  | p :: l, s, hs, hl => by
    have hp := hl p (by simp)
    have e : Krb7.behind r.m s p (Krb7.right r.known s p) = nextW r s p := by
      unfold nextW
      rw [rw0 G h1, behind_eq hs hp]
    have ih := rowA_zero h1 l (nextW r s p) (Nat.le_trans nrw_le hs) (fun q hq => hl q (List.mem_cons_of_mem _ hq))
    show Krb7.right r.known s p :: (Krb7.answers r.m r.known (Krb7.behind r.m s p (Krb7.right r.known s p)) l).1 = rw_ r s p :: rowA r (nextW r s p) l
    rw [e, ih, rw0 G h1]
theorem hall_mended (h : ¬ r.laid = 0) : (hall r).mended = rowA r r.laid (r.given.map (·.1)) := by
  unfold Kru8.Hall.mended
  by_cases h1 : r.rule = 1
  · rw [if_pos (show (hall r).rule = 1 from h1), rowA_one G h1, hall_on h, List.map_map]
    rfl
  · rw [if_neg (show ¬ (hall r).rule = 1 from h1), paper_laid h]
    refine rowA_zero G h1 _ _ G.la fun p hp => ?_
    obtain ⟨x, hx, e⟩ := List.mem_map.mp hp
    subst e
    exact (G.gi x hx).1
theorem hall_struck (h : ¬ r.laid = 0) (h1 : ¬ r.rule = 1) (b : Nat) : ((hall r).paper.struck b).good = allB (strk r (bitsOf r.given.length b)) := by
  have e : (hall r).paper.struck b = (hall (strk r (bitsOf r.given.length b))).paper := by
    rw [paper_laid h, paper_laid (r := strk r (bitsOf r.given.length b)) h]
    show (⟨r.m, r.known, r.laid, ((List.range r.given.length).filter fun i => !(Kru7.has b i)).map fun i => gv r i⟩ : Kru7.House) = ⟨r.m, r.known, r.laid, ((List.range r.given.length).filter fun i => !decide (i ∈ bitsOf r.given.length b)).map (gv r)⟩
    congr 2
    refine fcongr fun i hi => ?_
    congr 1
    cases q : Kru7.has b i with
    | true => exact (decide_eq_true (List.mem_filter.mpr ⟨hi, q⟩)).symm
    | false =>
      refine (decide_eq_false fun z => ?_).symm
      have := (List.mem_filter.mp z).2
      rw [q] at this
      cases this
  rw [e]
  have hb := hall_bad (G.strk (bitsOf r.given.length b)) h
  unfold Kru8.Hall.bad at hb
  rw [if_neg (show ¬ (hall (strk r (bitsOf r.given.length b))).rule = 1 from h1)] at hb
  unfold Kru7.House.good allB
  rw [hb]
  cases bads (strk r (bitsOf r.given.length b)) <;> rfl
theorem hall_least (h : ¬ r.laid = 0) : (hall r).least = fewest r := by
  unfold Kru8.Hall.least
  by_cases h1 : r.rule = 1
  · rw [if_pos (show (hall r).rule = 1 from h1), hall_bad G h, few_rule1 h1]
  · rw [if_neg (show ¬ (hall r).rule = 1 from h1), few_rule0 r (fun b => ((hall r).paper.struck b).good) (fun b => hall_struck G h h1 b)]
    rfl
theorem hall_laids (h : ¬ r.laid = 0) : (hall r).laids = lds r := by
  unfold Kru8.Hall.laids lds
  show (pos r).filter _ = _
  refine fcongr fun b hb => ?_
  obtain ⟨i, hi, e⟩ := List.mem_iff_getElem.mp hb
  obtain ⟨b1, b2⟩ := pos_at (r := r) (i := i) (p := b) (by rw [List.getElem?_eq_getElem hi, e])
  have e0 : ¬ (inL r b).laid = 0 := by show ¬ b = 0; omega
  have eh : ({ hall r with laid := some b } : Kru8.Hall) = hall (inL r b) := by
    show (⟨_, _, _, some b, _, _, _, _, _⟩ : Kru8.Hall) = ⟨_, _, _, if b = 0 then none else some b, _, _, _, _, _⟩
    rw [if_neg (by omega)]
    rfl
  unfold allB
  refine decide_eq_decide.mpr ?_
  rw [eh, hall_bad (G.inL b2) e0]
theorem hall_knowns (h : ¬ r.laid = 0) : (hall r).knowns = kns r := by
  unfold Kru8.Hall.knowns kns
  show (pos r).filter _ = _
  refine fcongr fun b hb => ?_
  obtain ⟨i, hi, e⟩ := List.mem_iff_getElem.mp hb
  obtain ⟨b1, b2⟩ := pos_at (r := r) (i := i) (p := b) (by rw [List.getElem?_eq_getElem hi, e])
  have eh : ({ hall r with known := b } : Kru8.Hall) = hall (inK r b) := rfl
  unfold allB
  refine decide_eq_decide.mpr ?_
  rw [eh, hall_bad (G.inK b1 b2) h]
theorem hall_other (h : ¬ r.laid = 0) : Kru8.Hall.bad { hall r with rule := 1 - (hall r).rule } = bads (oth r) := hall_bad G.oth h
omit G in
theorem hall_clash (h : ¬ r.laid = 0) (p q : Nat) : (hall r).two.clash p q = clB r p q := by
  unfold Krb8.House.clash clB Krb8.House.alone aL Kru8.Hall.two
  rw [hall_on h, beq_dec, beq_dec, beq_dec]
  rfl
end
theorem cnt_take (r : Rec) (c : List Nat) (hc : c = cc r) (f : Nat → Nat → Bool) (hf : ∀ p q, f p q = decide (aL r (p &&& q) = 0)) : ∀ i, i ≤ c.length → ((c.take i).flatMap fun p => (c.filter fun q => decide (p < q) && f p q).map fun q => (p, q)).length = cnt r i
  | 0, _ => rfl
  | i + 1, hi => by
    have hx : c[i]? = some (c.getD i 0) := by rw [List.getD_eq_getElem?_getD, List.getElem?_eq_getElem (by omega)]; rfl
    have ih := cnt_take r c hc f hf i (by omega)
    rw [take_snoc hx, List.flatMap_append, List.length_append, ih]
    show cnt r i + _ = cnt r i + cpl r ((cc r).getD i 0) ((cc r).drop (i + 1))
    congr 1
    rw [List.flatMap_cons, List.flatMap_nil, List.append_nil, List.length_map, ← hc]
    unfold cpl
    congr 1
    have srt : c.Pairwise (· < ·) := by rw [hc]; unfold cc; exact List.Pairwise.filter _ List.pairwise_lt_range
    have cut : c = c.take i ++ c.getD i 0 :: c.drop (i + 1) := by
      have h1 : c.drop i = c.getD i 0 :: c.drop (i + 1) := by
        have h2 := List.drop_eq_getElem_cons (l := c) (i := i) (by omega)
        rw [h2]
        congr 1
        rw [List.getD_eq_getElem?_getD, List.getElem?_eq_getElem (by omega)]
        rfl
      rw [← h1, List.take_append_drop]
    generalize c.getD i 0 = p at *
    generalize hA : c.take i = A at *
    generalize hB : c.drop (i + 1) = B at *
    rw [cut] at srt ⊢
    rw [List.pairwise_append] at srt
    obtain ⟨_, s2, s3⟩ := srt
    rw [List.pairwise_cons] at s2
    rw [List.filter_append, List.filter_cons]
    have eA : A.filter (fun q => decide (p < q) && f p q) = [] := by
      rw [List.filter_eq_nil_iff]
      intro q hq
      have := s3 q hq p (by simp)
      rw [decide_eq_false (by omega)]
      exact Bool.false_ne_true
    rw [eA, List.nil_append, if_neg (by rw [decide_eq_false (by omega)]; exact Bool.false_ne_true)]
    refine fcongr fun q hq => ?_
    rw [decide_eq_true (s2.1 q hq), Bool.true_and]
    exact hf p q
theorem hall_clashes {r : Rec} (h : ¬ r.laid = 0) : (hall r).two.clashes.length = cnt r (cc r).length := by
  have e2 : (hall r).two = ⟨r.m, r.known, r.laid⟩ := by unfold Kru8.Hall.two; rw [hall_on h]; rfl
  rw [e2]
  have ec : ((⟨r.m, r.known, r.laid⟩ : Krb8.House).ps.filter fun p => (⟨r.m, r.known, r.laid⟩ : Krb8.House).alone p == 1) = cc r := fcongr fun p _ => beq_dec _ _
  unfold Krb8.House.clashes
  dsimp only
  rw [ec]
  have z := cnt_take r (cc r) rfl (fun p q => (⟨r.m, r.known, r.laid⟩ : Krb8.House).alone (Krb7.both p q) == 0) (fun p q => beq_dec _ _) (cc r).length (Nat.le_refl _)
  rw [List.take_length] at z
  exact z
end DY
namespace DY
open L2 DX DM
open Krb7 (full)
def Same2 (z : Kru8.Abs × Krb7.Ans) (y : Option Wd × List Int) : Prop := z.1 = absO y.1 ∧ Kru8Neutral.told z.2 = y.2
theorem same_eqv {w : Wd} {c : Kru8.Call} {y : Wd × List Int} (hc : ∀ m k, c ≠ .begin_ m k) (h : Eqv (w.abs.does c) y) : Same2 (Kru8.act (absO (some w)) c) (some y.1, y.2) := by
  have e : Kru8.act (absO (some w)) c = (some (w.abs.does c).1, (w.abs.does c).2) := by
    cases c <;> first | rfl | exact absurd rfl (hc _ _)
  rw [e]
  exact ⟨congrArg some h.1, h.2⟩
theorem same_ask {w : Wd} {c : Kru8.Call} {o : List Int} (hc : ∀ m k, c ≠ .begin_ m k) (h : Askd w (w.abs.does c) o) : Same2 (Kru8.act (absO (some w)) c) (some w, o) := by
  have e : Kru8.act (absO (some w)) c = (some (w.abs.does c).1, (w.abs.does c).2) := by
    cases c <;> first | rfl | exact absurd rfl (hc _ _)
  rw [e]
  exact ⟨congrArg some h.1, h.2⟩
theorem same_none {n : Nat} {ns : List Nat} (hn : n ≠ 0) : Same2 (Kru8.act (absO none) (DF.mk n ns)) (none, [-11]) := by
  have e : ∀ c : Kru8.Call, (∀ m k, c ≠ .begin_ m k) → Kru8.act none c = (none, Kru8.say (-11)) := fun c hc => by
    cases c <;> first | rfl | exact absurd rfl (hc _ _)
  have hb : ∀ m k, DF.mk n ns ≠ .begin_ m k := by
    intro m k
    unfold DF.mk
    split <;> first | exact absurd rfl hn | (intro z; cases z)
  show Same2 (Kru8.act none (DF.mk n ns)) _
  rw [e _ hb]
  exact ⟨rfl, rfl⟩
theorem act_change {k : Nat} {w : Wd} (O : WOk k w) {n : Nat} (ns : List Nat) (h1 : 1 ≤ n) (h2 : n ≤ 9) : Same2 (Kru8.act (absO (some w)) (DF.mk n ns)) (some (w.chg (doChange n w.cur ns)).1, (w.chg (doChange n w.cur ns)).2) := by
  match n, h1, h2 with
  | 1, _, _ => exact same_eqv (c := .rule (ns.getD 0 0)) (fun _ _ z => nomatch z) (does_rule (ns.getD 0 0))
  | 2, _, _ => exact same_eqv (c := .lay (ns.getD 0 0)) (fun _ _ z => nomatch z) (does_lay (ns.getD 0 0))
  | 3, _, _ => exact same_eqv (c := .propose (ns.getD 0 0)) (fun _ _ z => nomatch z) (does_propose O.cur (ns.getD 0 0))
  | 4, _, _ => exact same_eqv (c := .answers (ns.getD 0 0) (ns.getD 1 0)) (fun _ _ z => nomatch z) (does_answers O.cur (ns.getD 0 0) (ns.getD 1 0))
  | 5, _, _ => exact same_eqv (c := .press (ns.getD 0 0)) (fun _ _ z => nomatch z) (does_press O.cur (ns.getD 0 0))
  | 6, _, _ => exact same_eqv (c := .strike (ns.getD 0 0)) (fun _ _ z => nomatch z) (does_strike (ns.getD 0 0))
  | 7, _, _ => exact same_eqv (c := .amend (ns.getD 0 0) (ns.getD 1 0)) (fun _ _ z => nomatch z) (does_amend (ns.getD 0 0) (ns.getD 1 0))
  | 8, _, _ => exact same_eqv (c := .learn (ns.getD 0 0)) (fun _ _ z => nomatch z) (does_learn O.cur (ns.getD 0 0))
  | 9, _, _ => exact same_eqv (c := .stock ns) (fun _ _ z => nomatch z) (does_stock ns)
  | n + 10, _, h => omega
theorem act_ask {k : Nat} {w : Wd} (O : WOk k w) {n : Nat} (ns : List Nat) (h1 : 13 ≤ n) (h2 : n ≤ 21) : Same2 (Kru8.act (absO (some w)) (DF.mk n ns)) (some w, dQ n w.cur ns) := by
  match n, h1, h2 with
  | 13, _, _ => exact same_ask (c := .right (ns.getD 0 0)) (fun _ _ z => nomatch z) (does_right O.cur (ns.getD 0 0))
  | 14, _, _ => exact same_ask (c := .row ns) (fun _ _ z => nomatch z) (does_row O.cur ns)
  | 15, _, _ => exact same_ask (c := .stands) (fun _ _ z => nomatch z) (does_stands O.cur)
  | 16, _, _ => exact same_ask (c := .log (ns.getD 0 0)) (fun _ _ z => nomatch z) (does_log O.cur (ns.getD 0 0))
  | 17, _, _ => exact same_ask (c := .concede (ns.getD 0 0)) (fun _ _ z => nomatch z) (does_concede O.cur (ns.getD 0 0))
  | 18, _, _ => exact same_ask (c := .deny (ns.getD 0 0)) (fun _ _ z => nomatch z) (does_deny O.cur (ns.getD 0 0))
  | 19, _, _ => exact same_ask (c := .may (ns.getD 0 0)) (fun _ _ z => nomatch z) (does_may O.cur (ns.getD 0 0))
  | 20, _, _ => exact same_ask (c := .false_) (fun _ _ z => nomatch z) (does_false O.cur)
  | 21, _, _ => exact same_ask (c := .from_ (ns.getD 0 0) (ns.getD 1 0)) (fun _ _ z => nomatch z) (does_from O.cur (ns.getD 0 0) (ns.getD 1 0))
  | n + 22, _, h => omega
theorem act_back {w : Wd} (ns : List Nat) : Same2 (Kru8.act (absO (some w)) (DF.mk 11 ns)) (some w.back.1, w.back.2) := same_eqv (c := .back) (fun _ _ z => nomatch z) does_back
theorem act_again {w : Wd} (ns : List Nat) : Same2 (Kru8.act (absO (some w)) (DF.mk 12 ns)) (some w.again.1, w.again.2) := same_eqv (c := .again) (fun _ _ z => nomatch z) does_again
end DY
namespace DY
open L2 DX DM
open Krb7 (full)
section
variable {w : Wd} (G : Good w.cur)
include G
theorem does_finish : Eqv (w.abs.does .finish) (w.chg (doFinish w.cur [])) := by
  show Eqv (if (hall w.cur).laid.isNone = true then (w.abs, Kru8.say (-6)) else w.abs.to { hall w.cur with laid := none, said := [], done := (hall w.cur).done + 1, lost := (hall w.cur).lost + (if (hall w.cur).base = 0 then 1 else 0), wrong := (hall w.cur).wrong + (hall w.cur).bad.length } { num := (hall w.cur).verdict, nums := Kru8.ints [w.cur.given.length, (hall w.cur).bad.length] }) _
  rw [hall_off]
  unfold doFinish
  by_cases h2 : w.cur.laid = 0
  · rw [if_pos (decide_eq_true h2), if_pos h2]; exact eqv_no (by decide)
  · rw [if_neg (by rw [decide_eq_false h2]; exact Bool.false_ne_true), if_neg h2, hall_bad G h2, hall_verdict G h2, hall_base h2]
    refine eqv_to rfl (Int.natCast_nonneg _) ?_
    show (⟨_, _, _, none, [], _, w.cur.ended.length + 1, (w.cur.ended.map (·.1)).sum + (if now w.cur = 0 then 1 else 0), (w.cur.ended.map (·.2)).sum + (bads w.cur).length⟩ : Kru8.Hall) = ⟨_, _, _, none, [], _, (w.cur.ended ++ [(if now w.cur = 0 then 1 else 0, (bads w.cur).length)]).length, ((w.cur.ended ++ [(if now w.cur = 0 then 1 else 0, (bads w.cur).length)]).map (fun x : Nat × Nat => x.1)).sum, ((w.cur.ended ++ [(if now w.cur = 0 then 1 else 0, (bads w.cur).length)]).map (fun x : Nat × Nat => x.2)).sum⟩
    rw [List.length_append, List.map_append, List.map_append, List.sum_append, List.sum_append]
    rfl
theorem does_reach : Askd w (w.abs.does .reach) (dReach w.cur []) := ask_any (f := Kru8.say (hall w.cur).foe.reach.length) fun h2 => by
  rw [hall_foe h2]
  rfl
omit G in
theorem judge_ne {n : Nat} (hn : n ≠ 33) (ns : List Nat) : dJudge n w.cur ns = if w.cur.laid = 0 then [-6] else dV n w.cur ns := by unfold dJudge; rw [if_neg (fun z => hn z.1)]
theorem does_bad : Askd w (w.abs.does .bad) (if w.cur.laid = 0 then [-6] else dBad w.cur []) := ask_any (f := Kru8.list (hall w.cur).bad) fun h2 => by
  rw [hall_bad G h2]
  rfl
theorem does_first : Askd w (w.abs.does .first) (if w.cur.laid = 0 then [-6] else dFirst w.cur []) := ask_any (f := match (hall w.cur).bad with
      | [] => Kru8.say (-33)
      | i :: _ => { num := i, nums := [((if (hall w.cur).rule = 1 then Krb7.right (hall w.cur).known (hall w.cur).on ((hall w.cur).paper.at_ i).1 else (hall w.cur).paper.rightAt i : Nat) : Int)] }) fun h2 => by
  unfold dFirst
  rw [hall_bad G h2]
  cases bads w.cur with
  | nil => rfl
  | cons i l =>
    show [(i : Int), ((if (hall w.cur).rule = 1 then Krb7.right (hall w.cur).known (hall w.cur).on ((hall w.cur).paper.at_ i).1 else (hall w.cur).paper.rightAt i : Nat) : Int)] = [(i : Int), (rgt w.cur i : Int)]
    rw [hall_first G h2]
omit G in
theorem does_caught : Askd w (w.abs.does .caught) (if w.cur.laid = 0 then [-6] else dCaught w.cur []) := ask_any (f := match (hall w.cur).paper.caught with
      | none => Kru8.say (-33)
      | some i => Kru8.say i) fun h2 => by
  unfold dCaught
  rw [hall_caught h2]
  cases cgt w.cur <;> rfl
theorem does_mended : Askd w (w.abs.does .mended) (if w.cur.laid = 0 then [-6] else dMended w.cur []) := ask_any (f := Kru8.list (hall w.cur).mended) fun h2 => by
  rw [hall_mended G h2]
  rfl
theorem does_least : Askd w (w.abs.does .least) (if w.cur.laid = 0 then [-6] else dLeast w.cur []) := ask_any (f := Kru8.list (hall w.cur).least) fun h2 => by
  rw [hall_least G h2]
  rfl
theorem does_laids : Askd w (w.abs.does .laids) (if w.cur.laid = 0 then [-6] else dLaids w.cur []) := ask_any (f := Kru8.say (hall w.cur).laids.length) fun h2 => by
  rw [hall_laids G h2]
  rfl
theorem does_laid (k : Nat) : Askd w (w.abs.does (.laid k)) (if w.cur.laid = 0 then [-6] else dLaid w.cur [k]) := ask_any (f := match (hall w.cur).laids[k]? with
      | none => Kru8.say (-33)
      | some b => Kru8.say b) fun h2 => by
  rw [hall_laids G h2]
  show _ = nth? (lds w.cur) k
  unfold nth?
  cases (lds w.cur)[k]? <;> rfl
theorem does_knowns : Askd w (w.abs.does .knowns) (if w.cur.laid = 0 then [-6] else dKnowns w.cur []) := ask_any (f := Kru8.say (hall w.cur).knowns.length) fun h2 => by
  rw [hall_knowns G h2]
  rfl
theorem does_known (k : Nat) : Askd w (w.abs.does (.known k)) (if w.cur.laid = 0 then [-6] else dKnown w.cur [k]) := ask_any (f := match (hall w.cur).knowns[k]? with
      | none => Kru8.say (-33)
      | some b => Kru8.say b) fun h2 => by
  rw [hall_knowns G h2]
  show _ = nth? (kns w.cur) k
  unfold nth?
  cases (kns w.cur)[k]? <;> rfl
theorem does_other : Askd w (w.abs.does .other) (if w.cur.laid = 0 then [-6] else dOther w.cur []) := ask_any (f := Kru8.list (Kru8.Hall.bad { hall w.cur with rule := 1 - (hall w.cur).rule })) fun h2 => by
  rw [hall_other G h2]
  rfl
omit G in
theorem does_clashes : Askd w (w.abs.does .clashes) (if w.cur.laid = 0 then [-6] else dClashes w.cur []) := ask_any (f := Kru8.say (hall w.cur).two.clashes.length) fun h2 => by
  rw [hall_clashes h2]
  rfl
theorem does_verdict : Askd w (w.abs.does .verdict) (if w.cur.laid = 0 then [-6] else dVerdict w.cur []) := ask_any (f := Kru8.say (hall w.cur).verdict) fun h2 => by
  rw [hall_verdict G h2]
  rfl
omit G in
theorem ok_one (r : Rec) (p : Nat) : okAll r [p] ↔ p ≤ full r.m := by
  unfold okAll
  simp
omit G in
theorem ok_two (r : Rec) (p q : Nat) : okAll r [p, q] ↔ p ≤ full r.m ∧ q ≤ full r.m := by
  unfold okAll
  simp
omit G in
theorem bad_two (r : Rec) (p q : Nat) : (!(hall r).ok p || !(hall r).ok q) = decide (¬ okAll r [p, q]) := by
  rw [ok_dec, ok_dec]
  by_cases h1 : p ≤ full r.m
  · by_cases h2 : q ≤ full r.m
    · rw [decide_eq_false (fun z => z h1), decide_eq_false (fun z => z h2), decide_eq_false (fun z => z ((ok_two r p q).mpr ⟨h1, h2⟩))]; rfl
    · have n2 : ¬ okAll r [p, q] := fun z => h2 ((ok_two r p q).mp z).2
      rw [decide_eq_true h2, decide_eq_true n2, Bool.or_true]
  · have n2 : ¬ okAll r [p, q] := fun z => h1 ((ok_two r p q).mp z).1
    rw [decide_eq_true h1, decide_eq_true n2, Bool.true_or]
omit G in
theorem does_clash (p q : Nat) : Askd w (w.abs.does (.clash p q)) (dJudge 33 w.cur [p, q]) := by
  show Askd w (w.abs, if (!(hall w.cur).ok p || !(hall w.cur).ok q) = true then Kru8.say (-22) else if (hall w.cur).laid.isNone = true then Kru8.say (-6) else Kru8.say (if (hall w.cur).two.clash p q then 1 else 0)) _
  rw [bad_two, hall_off]
  unfold dJudge
  refine ⟨rfl, ?_⟩
  by_cases h1 : ¬ okAll w.cur [p, q]
  · rw [if_pos (decide_eq_true h1), if_pos ⟨rfl, h1⟩]; rfl
  · have n3 : ¬ (33 = 33 ∧ ¬ okAll w.cur [p, q]) := fun z => h1 z.2
    rw [if_neg (by rw [decide_eq_false h1]; exact Bool.false_ne_true), if_neg n3]
    by_cases h2 : w.cur.laid = 0
    · rw [if_pos (decide_eq_true h2), if_pos h2]; rfl
    · rw [if_neg (by rw [decide_eq_false h2]; exact Bool.false_ne_true), if_neg h2, hall_clash h2]
      show told (Kru8.say (if clB w.cur p q = true then 1 else 0)) = [if clB w.cur p q = true then 1 else 0]
      cases clB w.cur p q <;> rfl
omit G in
theorem does_letter (i : Nat) : Askd w (w.abs.does (.letter i)) (dLetter w.cur [i]) := by
  show Askd w (w.abs, if w.cur.m ≤ i then Kru8.say (-2) else Kru8.say (Krb7.letter w.cur.m i)) (if w.cur.m ≤ i then [-2] else [(Krb7.letter w.cur.m i : Int)])
  refine ⟨rfl, ?_⟩
  split <;> rfl
omit G in
theorem does_not (p : Nat) : Askd w (w.abs.does (.not_ p)) (dNot w.cur [p]) := by
  show Askd w (w.abs, if (!(hall w.cur).ok p) = true then Kru8.say (-22) else Kru8.say (Krb7.not_ w.cur.m p)) (if ¬ okAll w.cur [p] then [-22] else [((full w.cur.m - p : Nat) : Int)])
  rw [ok_dec]
  refine ⟨rfl, ?_⟩
  by_cases h1 : p ≤ full w.cur.m
  · rw [if_neg (by rw [decide_eq_false (fun z => z h1)]; exact Bool.false_ne_true), if_neg (fun z => z ((ok_one _ _).mpr h1))]; rfl
  · rw [if_pos (decide_eq_true h1), if_pos (fun z => h1 ((ok_one _ _).mp z))]; rfl
omit G in
theorem two_ask {p q : Nat} {v : Nat} {o : List Int} (h : [(v : Int)] = o) : Askd w (w.abs, if (!(hall w.cur).ok p || !(hall w.cur).ok q) = true then Kru8.say (-22) else Kru8.say v) (if ¬ okAll w.cur [p, q] then [-22] else o) := by
  rw [bad_two]
  refine ⟨rfl, ?_⟩
  by_cases h1 : ¬ okAll w.cur [p, q]
  · rw [if_pos (decide_eq_true h1), if_pos h1]; rfl
  · rw [if_neg (by rw [decide_eq_false h1]; exact Bool.false_ne_true), if_neg h1]; exact h
omit G in
theorem does_both (p q : Nat) : Askd w (w.abs.does (.both p q)) (dBoth w.cur [p, q]) := two_ask (v := Krb7.both p q) rfl
omit G in
theorem does_either (p q : Nat) : Askd w (w.abs.does (.either p q)) (dEither w.cur [p, q]) := two_ask (v := Krb7.either p q) rfl
omit G in
theorem does_if (p q : Nat) : Askd w (w.abs.does (.if_ p q)) (dIf w.cur [p, q]) := two_ask (v := Krb7.either (Krb7.not_ w.cur.m p) q) rfl
omit G in
theorem does_sums : Askd w (w.abs.does .sums) (dSums w.cur []) := by
  refine ⟨rfl, ?_⟩
  show [(w.cur.ended.length : Int), (((w.cur.ended.map (·.1)).sum : Nat) : Int), (((w.cur.ended.map (·.2)).sum : Nat) : Int)] = [(w.cur.ended.length : Int), (nat (w.cur.ended.map (·.1))).sum, (nat (w.cur.ended.map (·.2))).sum]
  rw [sum_nat, sum_nat]
omit G in
theorem does_state : Askd w (w.abs.does .state) (dState w) := by
  refine ⟨rfl, ?_⟩
  have e : (hall w.cur).laid.getD 0 = w.cur.laid := by
    show (if w.cur.laid = 0 then none else some w.cur.laid).getD 0 = w.cur.laid
    by_cases h : w.cur.laid = 0
    · rw [if_pos h, h]; rfl
    · rw [if_neg h]; rfl
  show (w.cur.m : Int) :: nat ([w.cur.known, w.cur.rule, (hall w.cur).laid.getD 0, w.cur.given.length, (w.past.map hall).length, (w.next.map hall).length] ++ w.cur.stock) = _
  rw [e, List.length_map, List.length_map]
  rfl
end
theorem len1 {ns : List Nat} (h : ns.length = 1) : ns = [ns.getD 0 0] := by
  match ns, h with
  | [a], _ => rfl
theorem len2 {ns : List Nat} (h : ns.length = 2) : ns = [ns.getD 0 0, ns.getD 1 0] := by
  match ns, h with
  | [a, b], _ => rfl
theorem act_finish {k : Nat} {w : Wd} (O : WOk k w) (ns : List Nat) : Same2 (Kru8.act (absO (some w)) (DF.mk 10 ns)) (some (w.chg (doChange 10 w.cur ns)).1, (w.chg (doChange 10 w.cur ns)).2) := same_eqv (c := .finish) (fun _ _ z => nomatch z) (does_finish O.cur)
theorem act_reach {k : Nat} {w : Wd} (O : WOk k w) (ns : List Nat) : Same2 (Kru8.act (absO (some w)) (DF.mk 22 ns)) (some w, dQ 22 w.cur ns) := same_ask (c := .reach) (fun _ _ z => nomatch z) (does_reach O.cur)
theorem act_judge {k : Nat} {w : Wd} (O : WOk k w) {n : Nat} (ns : List Nat) (h1 : 23 ≤ n) (h2 : n ≤ 35) (ar : arity n ns) : Same2 (Kru8.act (absO (some w)) (DF.mk n ns)) (some w, dJudge n w.cur ns) := by
  have ne : n ≠ 33 → dJudge n w.cur ns = if w.cur.laid = 0 then [-6] else dV n w.cur ns := fun h => judge_ne h ns
  match n, h1, h2, ar, ne with
  | 23, _, _, _, ne => rw [ne (by decide)]; exact same_ask (c := .bad) (fun _ _ z => nomatch z) (does_bad O.cur)
  | 24, _, _, _, ne => rw [ne (by decide)]; exact same_ask (c := .first) (fun _ _ z => nomatch z) (does_first O.cur)
  | 25, _, _, _, ne => rw [ne (by decide)]; exact same_ask (c := .caught) (fun _ _ z => nomatch z) does_caught
  | 26, _, _, _, ne => rw [ne (by decide)]; exact same_ask (c := .mended) (fun _ _ z => nomatch z) (does_mended O.cur)
  | 27, _, _, _, ne => rw [ne (by decide)]; exact same_ask (c := .least) (fun _ _ z => nomatch z) (does_least O.cur)
  | 28, _, _, _, ne => rw [ne (by decide)]; exact same_ask (c := .laids) (fun _ _ z => nomatch z) (does_laids O.cur)
  | 29, _, _, _, ne => rw [ne (by decide)]; exact same_ask (c := .laid (ns.getD 0 0)) (fun _ _ z => nomatch z) (does_laid O.cur (ns.getD 0 0))
  | 30, _, _, _, ne => rw [ne (by decide)]; exact same_ask (c := .knowns) (fun _ _ z => nomatch z) (does_knowns O.cur)
  | 31, _, _, _, ne => rw [ne (by decide)]; exact same_ask (c := .known (ns.getD 0 0)) (fun _ _ z => nomatch z) (does_known O.cur (ns.getD 0 0))
  | 32, _, _, _, ne => rw [ne (by decide)]; exact same_ask (c := .other) (fun _ _ z => nomatch z) (does_other O.cur)
  | 33, _, _, ar, _ => rw [len2 (ar.1 (by decide) (by decide))]; exact same_ask (c := .clash (ns.getD 0 0) (ns.getD 1 0)) (fun _ _ z => nomatch z) (does_clash (ns.getD 0 0) (ns.getD 1 0))
  | 34, _, _, _, ne => rw [ne (by decide)]; exact same_ask (c := .clashes) (fun _ _ z => nomatch z) does_clashes
  | 35, _, _, _, ne => rw [ne (by decide)]; exact same_ask (c := .verdict) (fun _ _ z => nomatch z) (does_verdict O.cur)
  | n + 36, _, h, _, _ => omega
theorem act_reckon {w : Wd} {n : Nat} (ns : List Nat) (h1 : 36 ≤ n) (h2 : n ≤ 41) (ar : arity n ns) : Same2 (Kru8.act (absO (some w)) (DF.mk n ns)) (some w, dR n w.cur ns) := by
  match n, h1, h2, ar with
  | 36, _, _, _ => exact same_ask (c := .letter (ns.getD 0 0)) (fun _ _ z => nomatch z) (does_letter (ns.getD 0 0))
  | 37, _, _, ar => rw [len1 (ar.1 (by decide) (by decide))]; exact same_ask (c := .not_ (ns.getD 0 0)) (fun _ _ z => nomatch z) (does_not (ns.getD 0 0))
  | 38, _, _, ar => rw [len2 (ar.1 (by decide) (by decide))]; exact same_ask (c := .both (ns.getD 0 0) (ns.getD 1 0)) (fun _ _ z => nomatch z) (does_both (ns.getD 0 0) (ns.getD 1 0))
  | 39, _, _, ar => rw [len2 (ar.1 (by decide) (by decide))]; exact same_ask (c := .either (ns.getD 0 0) (ns.getD 1 0)) (fun _ _ z => nomatch z) (does_either (ns.getD 0 0) (ns.getD 1 0))
  | 40, _, _, ar => rw [len2 (ar.1 (by decide) (by decide))]; exact same_ask (c := .if_ (ns.getD 0 0) (ns.getD 1 0)) (fun _ _ z => nomatch z) (does_if (ns.getD 0 0) (ns.getD 1 0))
  | 41, _, _, _ => exact same_ask (c := .sums) (fun _ _ z => nomatch z) does_sums
  | n + 42, _, h, _ => omega
theorem act_state {w : Wd} (ns : List Nat) : Same2 (Kru8.act (absO (some w)) (DF.mk 42 ns)) (some w, dState w) := same_ask (c := .state) (fun _ _ z => nomatch z) does_state
theorem hstepW (k k' : Nat) (o : Option Wd) (n : Nat) (ns : List Nat) (hin : invW k o) (hok : CallOk n ns) (hk : k < k') (hk' : k' ≤ 11600) :
    (Kru8.act (absO o) (DF.mk n ns)).1 = absO (stepW o n ns).1 ∧ Kru8Neutral.told (Kru8.act (absO o) (DF.mk n ns)).2 = (stepW o n ns).2 ∧ invW k' (stepW o n ns).1 := by
  have n42 := hok.1
  have ar := arity_of hok
  by_cases h0 : n = 0
  · subst h0
    have e : stepW o 0 ns = beginW o (ns.getD 0 0) (ns.getD 1 0) := by unfold stepW; rw [if_pos rfl]
    rw [e]
    have z := act_begin o (ns.getD 0 0) (ns.getD 1 0)
    refine ⟨z.1, z.2, ?_⟩
    have up : invW k' o := by
      cases o with
      | none => trivial
      | some w => exact WOk.up hin (Nat.le_of_lt hk)
    unfold beginW
    split
    · exact up
    · rename_i h1
      split
      · exact up
      · rename_i h2
        exact ⟨good_new h1 h2, Nat.zero_le _, Nat.zero_le _, fun r hr => (by cases hr), fun r hr => (by cases hr)⟩
  · cases o with
    | none =>
      have e : stepW none n ns = (none, [-11]) := by unfold stepW; rw [if_neg h0]
      rw [e]
      have z := same_none (ns := ns) h0
      exact ⟨z.1, z.2, trivial⟩
    | some w =>
      have O : WOk k w := hin
      have up := O.up (Nat.le_of_lt hk)
      have e0 : stepW (some w) n ns = if n = 11 then (some w.back.1, w.back.2) else if n = 12 then (some w.again.1, w.again.2) else if n = 42 then (some w, dState w) else if 1 ≤ n ∧ n ≤ 10 then (some (w.chg (doChange n w.cur ns)).1, (w.chg (doChange n w.cur ns)).2) else (some w, dAsk n w.cur ns) := by unfold stepW; rw [if_neg h0]
      by_cases h11 : n = 11
      · rw [if_pos h11] at e0
        rw [e0]
        subst h11
        have z := act_back (w := w) ns
        exact ⟨z.1, z.2, back_ok up⟩
      · rw [if_neg h11] at e0
        by_cases h12 : n = 12
        · rw [if_pos h12] at e0
          rw [e0]
          subst h12
          have z := act_again (w := w) ns
          exact ⟨z.1, z.2, again_ok up⟩
        · rw [if_neg h12] at e0
          by_cases h42 : n = 42
          · rw [if_pos h42] at e0
            rw [e0]
            subst h42
            have z := act_state (w := w) ns
            exact ⟨z.1, z.2, up⟩
          · rw [if_neg h42] at e0
            by_cases hc : 1 ≤ n ∧ n ≤ 10
            · rw [if_pos hc] at e0
              rw [e0]
              have z : Same2 (Kru8.act (absO (some w)) (DF.mk n ns)) (some (w.chg (doChange n w.cur ns)).1, (w.chg (doChange n w.cur ns)).2) := by
                by_cases h10 : n = 10
                · subst h10; exact act_finish O ns
                · exact act_change O ns hc.1 (by omega)
              exact ⟨z.1, z.2, chg_ok O ns hk hk'⟩
            · rw [if_neg hc] at e0
              rw [e0]
              have z : Same2 (Kru8.act (absO (some w)) (DF.mk n ns)) (some w, dAsk n w.cur ns) := by
                by_cases h22 : n ≤ 22
                · have ea : dAsk n = dQ n := by unfold dAsk; rw [if_pos h22]
                  rw [ea]
                  by_cases e22 : n = 22
                  · subst e22; exact act_reach O ns
                  · exact act_ask O ns (by omega) (by omega)
                · by_cases h35 : n ≤ 35
                  · have ea : dAsk n = dJudge n := by unfold dAsk; rw [if_neg h22, if_pos h35]
                    rw [ea]
                    exact act_judge O ns (by omega) h35 ar
                  · have ea : dAsk n = dR n := by unfold dAsk; rw [if_neg h22, if_neg h35]
                    rw [ea]
                    exact act_reckon ns (by omega) (by omega) ar
              exact ⟨z.1, z.2, up⟩
end DY
namespace DY
open PySem PySem.Spec PyProof.Rows L2 DX DM
open PySem.W (Codec)
theorem toI_of : ∀ {ns : List Int}, (∀ z ∈ ns, 0 ≤ z) → toI (ns.map Int.toNat) = ns
  | [], _ => rfl
  | z :: ns, h => by
    show ((z.toNat : Nat) : Int) :: toI (ns.map Int.toNat) = z :: ns
    rw [Int.toNat_of_nonneg (h z (by simp)), toI_of fun y hy => h y (List.mem_cons_of_mem _ hy)]
theorem toI_v (l : List Nat) : (toI l).map V.int = l.map vn := by unfold toI; rw [List.map_map]; rfl
theorem req {K : PySem.W.Frag} {H : Hp} {l : Addr} {ns : List Int} (hs : SqL K H l (ns.map V.int)) (hb : ∀ z ∈ ns, 0 ≤ z) (hlen : ns.length ≤ 11600) (ask : PyKru8.answers_asked ns = true) {Q : VK} {E : XK}
    (q : ∀ H' p, H' p = some (.lst ((PyKru8.answers ns).map V.int)) → Q (.ref p) H') : sp1 (pAns K) [.ref l] H Q E := by
  have e := toI_of hb
  have el : (ns.map Int.toNat).length = ns.length := List.length_map _
  unfold PyKru8.answers_asked at ask
  cases hc : PyFlat.calls PyKru8.shape ns.length ns with
  | none => rw [hc] at ask; cases ask
  | some raw =>
    rw [hc] at ask
    simp only [Bool.and_eq_true] at ask
    have short : (PyKru8.answers ns).length ≤ 10000000 := of_decide_eq_true ask.2
    refine ⟨_, rfl, l, ns.map Int.toNat, rfl, ?_, by rw [el]; exact hlen, ⟨raw, by rw [e, el]; exact hc⟩, by rw [e]; exact short, by rw [e]; exact q⟩
    rw [← toI_v, e]
    exact hs
end DY
namespace DY
open PySem PySem.Spec PyProof.Rows L2 DX DM
open PySem.W (Codec)
section
variable {K : PySem.W.Frag} {h : Heap} {mg : Str → Option Value} {x : Str}
theorem def_mk {st : Stmt} {f : Addr} {oc : Value} {od an : Option Addr} {osl : Array (Option Value)} {kV doc pm cdv ct : Value} (X : K.In h) (G : h.Ns mainGlobals mg) (a : PySem.W.nsIn K mainGlobals x = some (some (.ref f)))
    (l : K.lookup f = some ⟨oc, od, .func (PySem.W.fnOf x x (defArgs st) (defBody st) (defScope st) .none kV doc pm an cdv ct), osl⟩) (c : PySem.W.codeIn K cdv x = true) (k : PySem.W.keepIn K (.ref f) = true) : Df K mg x st :=
  ⟨f, _, fun_mk l c k, PySem.W.mg_of X G a⟩
theorem gn_mk {n : Nat} {t : Tok} (X : K.In h) (G : h.Ns mainGlobals mg) (a : PySem.W.nsIn K mainGlobals x = some (some (.int (n : Int) t))) : GN mg x n := ⟨t, PySem.W.mg_of X G a⟩
theorem gi_mk {n : Int} {t : Tok} (X : K.In h) (G : h.Ns mainGlobals mg) (a : PySem.W.nsIn K mainGlobals x = some (some (.int n t))) : GI mg x n := ⟨t, PySem.W.mg_of X G a⟩
theorem abs_rel {u : Value} {v : V} (h : absV u = some v) : RelV v u := by
  cases u <;> simp only [absV] at h <;> first | (cases h; done) | (cases h; first | rfl | exact ⟨_, rfl⟩)
theorem vals_abs : ∀ {us : List Value} {xs : List V}, us.map absV = xs.map some → Vals xs us
  | [], [], _ => .nil
  | u :: us, x :: xs, h => .cons (abs_rel (List.cons.inj h).1) (vals_abs (List.cons.inj h).2)
  | [], _ :: _, h => by cases h
  | _ :: _, [], h => by cases h
theorem t_mk {d : Addr} {od : Option Addr} {its : Array Value} {n : Nat} {sl : Array (Option Value)} {xs : List V} (X : K.In h) (G : h.Ns mainGlobals mg) (a : PySem.W.nsIn K mainGlobals x = some (some (.ref d))) (l : K.lookup d = some ⟨.type "tuple", od, .seq its n, sl⟩)
    (v : its.toList.map absV = xs.map some) (z : xs.length ≤ 1000) : GT K mg x xs := by
  refine ⟨d, PySem.W.mg_of X G a, fun H => .inr ⟨_, its, n, l, rfl, rfl, ?_, vals_abs v⟩⟩
  have e := congrArg List.length v
  rw [List.length_map, List.length_map, Array.length_toList] at e
  have : sizeLine = 16777216 := rfl
  omega
theorem kd_mk {d : Addr} {es : Array DictEntry} {ep : Nat} {kvs : List (Nat × Str)} (X : K.In h) (G : h.Ns mainGlobals mg) (a : PySem.W.nsIn K mainGlobals x = some (some (.ref d))) (s : (d == sysModules) = false) (l : K.lookup d = some ⟨.type "dict", none, .dict es ep, #[]⟩)
    (n : (kvs.map (·.1)).Nodup) (v : KDs mg es.toList kvs) : KD K mg x kvs := ⟨d, es, ep, PySem.W.mg_of X G a, s, l, v, n⟩
def NoAll (K : PySem.W.Frag) (C : Addr) : List Str → Prop
  | [] => True
  | f :: fs => PySem.W.findIn K (.ref C) f = some none ∧ NoAll K C fs
def MeAll (K : PySem.W.Frag) (C : Addr) : List (Str × Str × Stmt) → Prop
  | [] => True
  | p :: ps => MeK K C p.1 p.2.1 p.2.2 ∧ MeAll K C ps
theorem NoAll.at_ {C : Addr} : ∀ {l : List Str}, NoAll K C l → ∀ f ∈ l, NoAttr K C f
  | g :: l, h, f, hf => by
    rcases List.mem_cons.mp hf with z | z
    · subst z; exact h.1
    · exact NoAll.at_ h.2 f z
theorem MeAll.at_ {C : Addr} : ∀ {l : List (Str × Str × Stmt)}, MeAll K C l → ∀ p ∈ l, MeK K C p.1 p.2.1 p.2.2
  | g :: l, h, f, hf => by
    rcases List.mem_cons.mp hf with z | z
    · subst z; exact h.1
    · exact MeAll.at_ h.2 f z
theorem cls_mk {C : Addr} {vals : List Str} {ms : List (Str × Str × Stmt)} (X : K.In h) (G : h.Ns mainGlobals mg) (a : PySem.W.nsIn K mainGlobals x = some (some (.ref C))) (b1 : PySem.W.plainGet K C Str.empty = true) (b2 : PySem.W.hasDictIn K C = true) (b3 : PySem.W.plainOver K C = true)
    (b4 : PySem.W.findIn K (.ref C) "__setattr__" = some (some (.builtin "object.__setattr__"))) (b5 : PySem.W.makesIn K C = true) (b6 : PySem.W.keepIn K (.ref C) = true) (no : NoAll K C vals) (me : MeAll K C ms) : ClsOk K mg x C vals ms :=
  ⟨⟨b1, b2, b3, b4⟩, no.at_, PySem.W.mg_of X G a, b5, b6, me.at_⟩
theorem me_mk {C f : Addr} {m qual : Str} {st : Stmt} {oc : Value} {od an : Option Addr} {osl : Array (Option Value)} {kV doc pm cdv ct : Value} (a : PySem.W.findIn K (.ref C) m = some (some (.ref f))) (i : PySem.W.isFn K (.ref f) = true)
    (l : K.lookup f = some ⟨oc, od, .func (PySem.W.fnOf m qual (defArgs st) (defBody st) (defScope st) .none kV doc pm an cdv ct), osl⟩) (c : PySem.W.codeIn K cdv qual = true) (k : PySem.W.keepIn K (.ref f) = true) : MeK K C m qual st :=
  ⟨f, _, fun_mk l c k, a, i⟩
end
theorem all_ok {P : Program} {w : World} {K : PySem.W.Frag} {h : Heap} {mg : Str → Option Value} {fa CS CH : Addr} (X : K.In h) (G : h.Ns mainGlobals mg) (hfa : mg "answers" = some (.ref fa)) (T : Txt K mg CS CH) :
    ∃ fd : FuncData, (∀ (s : Shared) (us : List Value), us.length = (["calls"] : List Str).length → BindsTo s fd ⟨us, []⟩ ((["calls"] : List Str).zip us)) ∧ ∀ base : Heap, K.In base → base.Ns mainGlobals mg → FnOk P w K mg base CX0 13 fa fd ["calls"] (sp1 (pAns K)) := by
  obtain ⟨f, fd, F, hm⟩ := T.f_answers
  rw [hfa] at hm
  cases hm
  refine ⟨fd, ?_, fun base _ _ => fn_answers T F (om_call T) (by decide) hstepW trivial rfl⟩
  obtain ⟨oc, od, kV, doc, pm, an, cdv, ct, osl, rfl, lk, hcd⟩ := F.ex
  exact fun s us hu => match us, hu with
    | [_], _ => .of_eq rfl
end DY
namespace PySem.W.Fast
def tw14354120877284032545:=0
def tw14026839037688276405:=0
def tw2078887128302149636:=0
def tw7686468810517090796:=0
def tw6259480416712019166:=0
def tw17722936259681668243:=0
def tw4748510765136265592:=0
def tw9787490352383965124:=0
def tw855101506750660132:=0
def tw15536894089860233272:=0
def tw15257070048338460692:=0
def tw11610524285077542779:=0
def tw1755430227880399558:=0
def tw15521703537603282634:=0
def tw15901526689573887369:=0
def tw7349169496267022419:=0
def tw16647831705674676020:=0
def tw1146421715974157136:=0
def tw3589427888450659389:=0
def tw2711916157774168613:=0
def tw8762372474076121880:=0
def tw13189708590517910654:=0
def tw12275219618952839998:=0
def tw3414610396121948724:=0
def tw15855181211560297566:=0
def tw5378136941580148517:=0
def tw2828612394538867286:=0
def tw12781798131425000655:=0
def tw17859101407910377366:=0
def tw11619916541764749880:=0
def tw11880193175062945208:=0
def tw14690587847483576345:=0
def tw10098566659170760739:=0
def tw4726180653246417023:=0
def tw14214514030947961442:=0
def tw8254536405661553738:=0
def tw11350652301267886225:=0
def tw13894205548132995224:=0
def tw4758881331585094909:=0
def tw10152687951167533702:=0
def tw17253535256829164331:=0
def tw15626681067218921371:=0
def tw4749486146189995265:=0
def tw5321845526769901595:=0
def tw11295738338814786111:=0
def tw6040922276317085645:=0
def tw3505042997419511277:=0
def tw2328681508964683061:=0
def tw16303578231749492210:=0
def tw8693707816244987406:=0
def tw17194953504946693638:=0
def tw9348746052179401987:=0
def tw3061263381257616521:=0
def tw2278776371240881154:=0
def tw8501639837719495711:=0
def tw16745746133886303643:=0
def tw1310042979569792141:=0
def tw16023381400704664172:=0
def tw8564965637713518482:=0
def tw2007686560316887082:=0
def tw13049624132921282453:=0
def tw9294515446198941358:=0
def tw16939131737522587390:=0
def tw1219757314628609874:=0
def tw5182240581279996955:=0
def tw5202040500112021330:=0
def tw6051348101633395277:=0
def tw14608744122764936236:=0
def tw4989685262468000924:=0
def tw7296056217309982842:=0
def tw14069191462239026659:=0
def tw100930579974013756:=0
def tw8345517483492558610:=0
def tw16540670801473390020:=0
def tw6248204847520844615:=0
def tw15113546892407303815:=0
def tw10920856433259985367:=0
def tw13506300717345876240:=0
def tw7351375563963035479:=0
def tw3320727498271783365:=0
def tw5713089927943685072:=0
def tw9965767628132924142:=0
def tw17419911414642346897:=0
def tw1545194247003365558:=0
def tw8885079524017784247:=0
def tw3952149195253321378:=0
def tw13802754132838699510:=0
def tw9996429864741867986:=0
def tw2656344108280986523:=0
def tw1868221940625479488:=0
def tw7499043775589238747:=0
def tw4783018745741821909:=0
def tw12058587129991012264:=0
def tw4728170122883462904:=0
def tw16978851116072611732:=0
def tw477746016121033866:=0
def tw13469609583857641403:=0
def tw3622694020283524040:=0
def tw12306299176956183418:=0
def tw13476169531926340096:=0
def tw14501719326497755736:=0
def tw15348417611732608870:=0
def tw7278656499598717538:=0
def tw9978960808371996027:=0
def tw16268374627795325754:=0
def tw2619823846991592858:=0
def tw14048952183552503175:=0
def tw11611731459473280279:=0
def tw4971601369936991871:=0
def tw3685658661211039880:=0
def tw1708580532418964624:=0
def tw12848469739512162263:=0
def tw1681428333643465737:=0
def tw7872800856346556960:=0
def tw10908662329357056616:=0
def tw3482593481226557488:=0
def tw2465321843620280105:=0
def tw8603050740886306769:=0
def tw9397742411791013710:=0
def tw5790370930927532635:=0
def tw14055001949806245300:=0
def tw11992528900648566028:=0
def tw12335325704465579904:=0
def tw2124605313792199739:=0
def tw6509773002894523201:=0
def tw7603379603201414634:=0
def tw14969095222734903919:=0
def tw7740142917444422596:=0
def tw6610485870843568660:=0
def tw9847516731825563820:=0
def tw3628780142291824777:=0
def tw11948462021105049834:=0
def tw17300798558590581437:=0
def tw15823321858965372930:=0
def tw6508848782371830919:=0
def tw14521814960538257399:=0
def tw4322322549102596329:=0
def tw1838464657068828997:=0
def tw1359934862263962878:=0
def tw18165676816200354950:=0
def tw16875035427042244987:=0
def tw7832990223899127334:=0
def tw11013816590520094081:=0
def tw12284920630935267783:=0
def tw12999083198346232829:=0
def tw1064919699176471793:=0
def tw3018217396575891567:=0
def tw17983270045970623497:=0
def tw7450793624844459533:=0
def tw2153360786452984043:=0
def tw14451934673780672111:=0
def tw7799826986306103725:=0
def tw14472443905882328007:=0
def tw1669628765204207640:=0
def tw6112990843816080594:=0
def tw13630318549904264741:=0
def tw6560901682849163370:=0
def tw937422988549893347:=0
def tw4607225541119113533:=0
def tw2714273838637606077:=0
def tw6948779319056637699:=0
def tw17961609535299324523:=0
def tw16014698661845746392:=0
def tw8217150641649974840:=0
def tw762879933822428185:=0
def tw9493234215465597325:=0
def tw5096482531468296910:=0
def tw18248899489710351219:=0
def tw16936077723522830575:=0
def tw18232584577109091732:=0
def tw8018311699933617886:=0
def tw9560706757773276213:=0
def tw11586444789453988070:=0
def tw3422911437687766916:=0
def tw926938660643059091:=0
def tw1189861616440915399:=0
def tw15525204340285915368:=0
def tw1501947926724018929:=0
def tw18113322333068506116:=0
def tw11957618995517261674:=0
def tw10934217833761088459:=0
def tw3918666339489507156:=0
def tw18328769212605235563:=0
def tw6848376494130240735:=0
def tw6591255086872036971:=0
def tw4973465476714266554:=0
def tw8894281730867216374:=0
def tw7997479960015003935:=0
def tw17153498741166943778:=0
def tw14149849415254469284:=0
def tw8109117009265297567:=0
def tw8686637620044480255:=0
def tw4955695341133872190:=0
def tw689344168410421491:=0
def tw6511439181655993762:=0
def tw5550977283036625681:=0
def tw2886703661863961655:=0
def tw13652165429916215272:=0
def tw2414267851479814625:=0
def tw10766498581764261266:=0
def tw9686914513944822176:=0
def tw10550679949055340689:=0
def tw8173842575967477786:=0
def tw12950235163317842534:=0
def tw13039281936213337625:=0
def tw16280878608777489110:=0
def tw12405154877083335971:=0
def tw2739728058597383643:=0
def tw17068345256425015927:=0
def tw14472842707544528672:=0
def tw13974576755569650382:=0
def tw16037524628087955123:=0
def tw10903961712227995016:=0
def tw12415432521351335466:=0
def tw2835132417112971235:=0
def tw2737308704950894319:=0
def tw18018619547471036421:=0
def tw1038336195218876412:=0
def tw2320135093128861000:=0
def tw8373455884729178383:=0
def tw4918400965592163108:=0
def tw1289439900290193677:=0
def tw17301099243652251489:=0
def tw12054295014392951693:=0
def tw3174936558642077542:=0
def tw12071758259224755030:=0
def tw3856266579261893002:=0
def tw5740268326917666462:=0
def tw13870506985999423370:=0
def tw10278880037416330891:=0
def tw18062149423395842737:=0
def tw3119945318608275195:=0
def tw2146950087707316197:=0
def tw4861599362765245833:=0
def tw13734819244165696833:=0
def tw17028119849538372665:=0
def tw17753440478387391983:=0
def tw1888906458116177290:=0
def tw8388877211769130013:=0
def tw6398295902298857052:=0
def tw15388343023020577881:=0
def tw8664531747066944711:=0
def tw1244354839891685160:=0
def tw13501272280513714129:=0
def tw16744750645659439115:=0
def tw17688616066464975099:=0
def tw556683940774817926:=0
def tw5131502244754840837:=0
def tw3883684317769987117:=0
def tw8818828851295310795:=0
def tw15291648285339603694:=0
def tw13249095631660408726:=0
def tw4417958487548227762:=0
def tw15760578850556659206:=0
def tw3951002471568624847:=0
def tw7301357402244386501:=0
def tw18424744176605368473:=0
def tw12095439251879037470:=0
def tw18120314821841583371:=0
def tw15270408216180500366:=0
def tw14645245723549971513:=0
def tw9252396878708971199:=0
def tw13694888415942402695:=0
def tw3790110537905127345:=0
def tw11947325494053857658:=0
def tw7968780453012655521:=0
def tw16256075542957031012:=0
def tw6886280273415786944:=0
def tw53385741371538878:=0
def tw10152095880325565273:=0
def tw4435590293671109559:=0
def tw16323364377849324518:=0
def tw1503543187576658241:=0
def tw1864124035762860770:=0
def tw16960592137181362852:=0
def tw8065820043896721834:=0
def tw319702981619069198:=0
def tw3355393241338295952:=0
def tw13308071772327776096:=0
def tw10804226764819147494:=0
def tw17715674158815649095:=0
def tw8803558639605872789:=0
def tw9864196330008919717:=0
def tw9930669784805720280:=0
def tw15293031698348260714:=0
def tw10574033864307220885:=0
def tw3446788523237408908:=0
def tw7429673742316084008:=0
def tw8074802256063814011:=0
def tw3319432395179605707:=0
def tw4302985220787941608:=0
def tw1374464357657360356:=0
def tw6871921074960840673:=0
def tw6996542595223602916:=0
def tw16684017736651255387:=0
def tw17322812216855695598:=0
def tw8655190572392550579:=0
def tw16812809414275182955:=0
def tw2555603229116177823:=0
def tw9261107935707973128:=0
def tw1640035250317200475:=0
def tw2961127828682240248:=0
def tw7079721709180402922:=0
def tw1562372205636376387:=0
def tw8783280706590707731:=0
def tw16359430436633923558:=0
def tw9079539908248194647:=0
def tw9200497531070328021:=0
def tw9925131520723652211:=0
def tw16411639696115240313:=0
def tw12826764506590291558:=0
def tw12198911007213975674:=0
def tw6425447976322256883:=0
def tw17643678201443244796:=0
def tw13377402479958913539:=0
def tw10296896178235075118:=0
def tw38462240259389714:=0
def tw12432822354108519784:=0
def tw16370106231900722164:=0
def tw6342468139919505678:=0
def tw3599894980613582557:=0
def tw10078426779354484729:=0
def tw561217873642361682:=0
def tw8798371314065206118:=0
def tw3134129666562249053:=0
def tw6857094957405380516:=0
def tw4018771143620210608:=0
def tw4171158901149452496:=0
def tw11929705726806575972:=0
def tw15946413220466420336:=0
def tw3435029864055729653:=0
def tw16327384472098472471:=0
def tw10402248494851407056:=0
def tw10491112055140407549:=0
def tw3867085125125317195:=0
def tw2948802907926543614:=0
def tw12160140822399908589:=0
def tw16902721552899507958:=0
def tw18144976365426220855:=0
def tw11921183171818046779:=0
def tw195629301949859840:=0
def tw17588240723110219524:=0
def tw9850216403751394826:=0
def tw2927308648667296174:=0
def tw10981476018535992980:=0
def tw13569561277822401033:=0
def tw13968126715231174866:=0
def tw3550979133203843628:=0
def tw3643793472862157531:=0
def tw17495107476113574035:=0
def tw1360666430584881225:=0
def tw10098781810120080835:=0
def tw1475722505913425160:=0
def tw9920132385729891425:=0
def tw13511656410127218204:=0
def tw5543736007769243993:=0
def tw14742250434510958959:=0
def tw6023164210120605116:=0
def tw4648754140727117623:=0
def tw1853867311993464467:=0
def tw8602366786919741138:=0
def tw1731695558798825739:=0
def tw337135259753400558:=0
def tw4785622466874253814:=0
def tw3192126742295006527:=0
def tw12813895558133900565:=0
def tw11258498586599361113:=0
def tw1384450896515242413:=0
def tw9305340505948749297:=0
def tw9880291946713722470:=0
def tw18008391261298732282:=0
def tw10910943766684730431:=0
def tw4835066579997844918:=0
def tw11033158833268093991:=0
def tw6981823589200624647:=0
def tw17413111896567524541:=0
def tw11572511094613917351:=0
def tw10572958990547684280:=0
def tw6166025653119712358:=0
def tw13503375904590043015:=0
def tw16946657958194772840:=0
def tw8821487626602360205:=0
def tw12140151894515140537:=0
def tw12930989794226389281:=0
def tw4483326848177867896:=0
def tw15135887553344220707:=0
def tw10999599477381997678:=0
def tw10725941885638792512:=0
def tw12356346375358017257:=0
def tw15435343323775265089:=0
def tw15854460274903820535:=0
def tw7880259147408896807:=0
def tw18054145098343682360:=0
def tw4774447964026286332:=0
def tw16224223066438264298:=0
def tw8129847835274188608:=0
def tw17830777677836863203:=0
def tw16729332399874504666:=0
def tw15629896655353234725:=0
def tw3999950210768246076:=0
def tw13336389569959448125:=0
def tw13690004571398604179:=0
def tw18365829415919054905:=0
def tw14820346829946980509:=0
def tw3644363672933693575:=0
def tw6071139284506494284:=0
def tw15689528251923175183:=0
def tw10656809371027296230:=0
def tw8094957466170557902:=0
def tw9071298872814334713:=0
def tw2314245601612900479:=0
def tw7627031412724493466:=0
def tw2758654301507353856:=0
def tw3585995226762812075:=0
def tw14414506598620143678:=0
def tw7288249274610934121:=0
def tw5950851276014779165:=0
def tw9073099912643164703:=0
def tw16596193330508127835:=0
def tw5650199242377599325:=0
def tw11223544944407842599:=0
def tw6848109207085876091:=0
def tw12531478062713967435:=0
def tw13456889317930622308:=0
def tw7670138191199149217:=0
def tw3300962803159482718:=0
def tw17047743928092235399:=0
def tw13800947315210494384:=0
def tw12202680573210678409:=0
def tw11078265099610586256:=0
def tw4219523699483880961:=0
def tw232680195385079576:=0
def tw3939998066907599399:=0
def tw8740980139950455481:=0
def tw3878440560760843913:=0
def tw6703064202894760306:=0
def tw2310346112355606487:=0
def tw15231339226477596567:=0
def tw14065927274895442301:=0
def tw7959007157045047752:=0
def tw10868775410384488052:=0
def tw10809932306248858972:=0
def tw18017254668288674566:=0
def tw15148801672879151239:=0
def tw17654635028351570227:=0
def tw8933707527608815318:=0
def tw5608880090505931930:=0
def tw7834998381556199026:=0
def tw8575709063124608853:=0
def tw10856909858564915879:=0
def tw11897114969964835590:=0
def tw16643394536172369528:=0
def tw10665228844754817825:=0
def tw16598518432270741565:=0
def tw1068750429834113265:=0
def tw1842326850237072571:=0
def tw16254052486011469636:=0
def tw8870172339776448799:=0
def tw2132473288748771720:=0
def tw9365234481164191551:=0
def tw8560518336798742251:=0
def tw12343723967922701913:=0
def tw711290339137061146:=0
def tw1543138916573062311:=0
def tw1920888123738220790:=0
def tw3297499648025443691:=0
def tw491532273746087035:=0
def tw989121286323401979:=0
def tw1037503479838393732:=0
def tw1681393351643571268:=0
def tw12224365257912307805:=0
def tw13581233567384625115:=0
def tw8693881494844630194:=0
def tw15666912609304233556:=0
def tw609283978375545142:=0
def tw9152461224782030154:=0
def tw11540758472363737271:=0
def tw6707079769158561549:=0
def tw5168757101469818232:=0
def tw8102158345588363490:=0
def tw8728367617607700470:=0
def tw10038848344880559278:=0
def tw6927393746951497398:=0
def tw1514840763767562329:=0
def tw8911902646564189176:=0
def tw5773445600436103068:=0
def tw2396531952660380830:=0
def tw7828929190362253089:=0
def tw11512441696368498283:=0
def tw8540294068246125529:=0
def tw10408223227514163950:=0
def tw6925915974371595749:=0
def tw5490396628421500989:=0
def tw17866022237927452700:=0
def tw13867829696120955590:=0
def tw8896736525813144852:=0
def tw5325641123289272972:=0
def tw4026527744650717154:=0
def tw12150297865336160431:=0
def tw17348450258474811664:=0
def tw16955827806106925458:=0
def tw10688941941255934251:=0
def tw6945191630219854757:=0
def tw1812667823946788188:=0
def tw17925468657728682733:=0
def tw5181273739724101119:=0
def tw2670499859572414906:=0
def tw18150403155347109292:=0
def tw17080638853615595481:=0
def tw7770830274443798988:=0
def tw5896028773363093641:=0
def tw1229978458802392717:=0
def tw3599826289063150099:=0
def tw15972390607964404605:=0
def tw12673524239135878889:=0
def tw8492461397708079095:=0
def tw12637779445937917123:=0
def tw18349914429350277104:=0
def tw15723630731903570988:=0
def tw6665866121706177794:=0
def tw15752305948488827621:=0
def tw13477629946306033862:=0
def tw11902862335426029729:=0
def tw1441301688199678194:=0
def tw951530794846646844:=0
def tw15993713734656338209:=0
def tw2469645243697098460:=0
def tw9697694310014044448:=0
def tw1102153242707490543:=0
def tw4910546943749670374:=0
def tw4485238660274933023:=0
def tw13468436638858843874:=0
def tw10687513756887906933:=0
def tw2115358808647271109:=0
def tw15706014941012588182:=0
def tw13747505673823839648:=0
def tw6823308432250831536:=0
def tw16300871842965486452:=0
def tw1386682973637298053:=0
def tw7045080981705689759:=0
def tw17571375462783576170:=0
def tw5721674282059967973:=0
def tw14883338250868569517:=0
def tw1698591833523283627:=0
def tw9251406382524596632:=0
def tw16329929903690562842:=0
def tw5292032230994119341:=0
def tw16643384058310299320:=0
def tw13193177909024800866:=0
def tw9050794461944915785:=0
def tw10844444078600697113:=0
def tw9568488638551478879:=0
def tw11339165972433078159:=0
def tw7757186924776843017:=0
def tw53735341917383992:=0
def tw7686724436070420851:=0
def tw9270343421623210320:=0
def tw14159081941247677868:=0
def tw10675632558631389047:=0
def tw6233144408224315126:=0
def tw1698920261194125224:=0
def tw14993392398172668367:=0
def tw5474598174979917591:=0
def tw7327429789987867284:=0
def tw2958530593473513628:=0
def tw11204102885986200642:=0
def tw17888303700965324190:=0
def tw16204841997479410974:=0
def tw3258764143395115529:=0
def tw1238158618248050860:=0
def tw14877373373382173714:=0
def tw16538224355070941275:=0
def tw14474234104643667086:=0
def tw10438223370684186448:=0
def tw15706222723313925780:=0
def tw15485382378961823755:=0
def tw9339914121870897541:=0
def tw16339849814084084934:=0
def tw15548586296619368668:=0
def tw8349546482057382245:=0
def tw7831910397548150685:=0
def tw6577124628630584032:=0
def tw8402730580526649413:=0
def tw12682600481951255579:=0
def tw365371290883788009:=0
def tw9709933489071553295:=0
def tw16085738542054125014:=0
def tw13824029240678679694:=0
def tw2180460741215561839:=0
def tw4203880851655157874:=0
def tw5369036468869567069:=0
def tw686847835440394703:=0
def tw17360570991831103171:=0
def tw11020928504068536717:=0
def tw14100835422043040606:=0
def tw8200838494920995950:=0
def tw12773821794107341658:=0
def tw8827328268106189654:=0
def tw3256292335803800967:=0
def tw2149366060743263595:=0
def tw10901497767293967515:=0
def tw14172493504432435839:=0
def tw10144172713859198457:=0
def tw10342380873476863137:=0
def tw3019297689792830354:=0
def tw11584252140494996931:=0
def tw13588906457010625960:=0
def tw16938854285534698056:=0
def tw1882948713339751560:=0
def tw16664575525778386909:=0
def tw4265535770493767808:=0
def tw1755353297809528464:=0
def tw5462917980252857542:=0
def tw2409535401260375748:=0
def tw7594360752469004230:=0
def tw4966347683508248006:=0
def tw18115729145375992309:=0
def tw14101820149006914412:=0
def tw5558879434118834201:=0
def tw17507732971800233422:=0
def tw15592260558206742149:=0
def tw14168750114195196744:=0
def tw4326952631095956617:=0
def tw11657629092361443734:=0
def tw2207316471441122617:=0
def tw6624611636412715269:=0
def tw1330174200066091883:=0
def tw7017959096769824398:=0
def tw5860850573657781150:=0
def tw4385368945676033070:=0
def tw12510617696978904974:=0
def tw1741380055584260943:=0
def tw6552210498604856540:=0
def tw17995348656119058264:=0
def tw7397737059294225372:=0
def tw10105857980565411152:=0
def tw18259967227461050007:=0
def tw5127012750010389017:=0
def tw4778978059247935158:=0
def tw8331075731299351144:=0
def tw11638452421325986764:=0
def tw13386667018409914581:=0
def tw16408157273152489669:=0
def tw6138226247877238135:=0
def tw3992151399083761140:=0
def tw5516842519880925048:=0
def tw15356658392476302597:=0
def tw14644920729639131819:=0
def tw6204228159743116461:=0
def tw8806746208074819649:=0
def tw9330607231773624005:=0
def tw16167912318376126193:=0
def tw6998566238866545901:=0
def tw731042712675009120:=0
def tw17456748626755549182:=0
def tw4264923598902057835:=0
def tw1611681757827576761:=0
def tw7130845512465482867:=0
def tw4893277484009267042:=0
def tw6431126293809311529:=0
def tw12470150694378920681:=0
def tw12852067915760792921:=0
def tw12236684269548052328:=0
def tw6616028059611533756:=0
def tw2737104897114145571:=0
def tw11247683773433998716:=0
def tw16354468908668140571:=0
def tw4225721299261540683:=0
def tw12502710219269512179:=0
def tw2279428631107994223:=0
end PySem.W.Fast
open PySem PySem.W PyProof.Rows
set_option maxRecDepth 100000 in
set_option maxHeartbeats 0 in
theorem PySem.Challenge.cw_disputation_s01_answers_holds : PySem.Challenge.rw_disputation_s01_answers.Holds := by
  w_on; k_headS; (case hw => exact ⟨[.list []], by decide +kernel, by decide +kernel⟩)
  k_fillS
  refine L2.walk_specK (r := PySem.Challenge.rw_disputation_s01_answers) (k := 13) (CX := L2.CX0) (ps := ["calls"]) (sp := fun K => DX.sp1 (DY.pAns K)) (by decide +kernel) rfl rfl ⟨rfl, by decide, by decide⟩ (fun w h Y => PySem.W.kIn_of Y) ?F ?S (fun _ _ _ _ z => z)
  case F =>
    intro w mg fa h Y KX G hmg
    refine' DY.all_ok (CS := ?CS) (CH := ?CH) KX G hmg ?T
    case T =>
      refine' { c_State := ?c_State, c_Hall := ?c_Hall, g_DENIED := ?g_DENIED, g_CONCEDED := ?g_CONCEDED, g_DOUBTED := ?g_DOUBTED, g_NO_MATTER := ?g_NO_MATTER, g_FOLLOWS := ?g_FOLLOWS, g_AGAINST := ?g_AGAINST, t_ALWAYS := ?t_ALWAYS, t_LETTERS := ?t_LETTERS, g_MOST_ANSWERS := ?g_MOST_ANSWERS, g_NO_SUCH := ?g_NO_SUCH, g_NOTHING := ?g_NOTHING, g_NOT_BEGUN := ?g_NOT_BEGUN, g_LAID_DOWN := ?g_LAID_DOWN, g_LAID_ALREADY := ?g_LAID_ALREADY, g_WRONG := ?g_WRONG, g_TOO_MANY := ?g_TOO_MANY, g_CANNOT := ?g_CANNOT, g_MOST_STOCK := ?g_MOST_STOCK, d_CHANGES := ?d_CHANGES, g_MOST_IN_ROW := ?g_MOST_IN_ROW, d_QUESTIONS := ?d_QUESTIONS, d_RECKONED := ?d_RECKONED, g_CLASH := ?g_CLASH, d_VERDICTS := ?d_VERDICTS, g_BEGIN := ?g_BEGIN, g_STOCK := ?g_STOCK, g_BACK := ?g_BACK, g_AGAIN := ?g_AGAIN, g_ROW := ?g_ROW, g_STATE := ?g_STATE, g_MOST_LETTERS := ?g_MOST_LETTERS, g_MOST_TAKEN_BACK := ?g_MOST_TAKEN_BACK, t_SIZES := ?t_SIZES, no_len := ?no_len, no_range := ?no_range, no_enumerate := ?no_enumerate, no_list := ?no_list, no_all := ?no_all, no_any := ?no_any, no_sum := ?no_sum, no_zip := ?no_zip, no_reversed := ?no_reversed, f_always := ?f_always, f_is_proposition := ?f_is_proposition, f_letter_is_so := ?f_letter_is_so, f_not_so := ?f_not_so, f_how_many := ?f_how_many, f_so_in_all := ?f_so_in_all, f_so_in_none := ?f_so_in_none, f_bearing := ?f_bearing, f_answer_by_known := ?f_answer_by_known, f_right_by := ?f_right_by, f_narrowed := ?f_narrowed, f_takes := ?f_takes, f_takes_all := ?f_takes_all, f_all_propositions := ?f_all_propositions, f_none_laid := ?f_none_laid, f_answered_by := ?f_answered_by, f_right_while := ?f_right_while, f_stands_after_right := ?f_stands_after_right, f_stands_behind := ?f_stands_behind, f_stands_now := ?f_stands_now, f_right_answer := ?f_right_answer, f_is_bad := ?f_is_bad, f_bad_answers := ?f_bad_answers, f_all_is_right := ?f_all_is_right, f_is_caught := ?f_is_caught, f_caught_behind := ?f_caught_behind, f_verdict_on := ?f_verdict_on, f_mended_answers := ?f_mended_answers, f_bad_by_other_rule := ?f_bad_by_other_rule, f_sets_of_answers := ?f_sets_of_answers, f_fewest_to_strike := ?f_fewest_to_strike, f_right_if_laid := ?f_right_if_laid, f_right_if_known := ?f_right_if_known, f_answer_by_laid := ?f_answer_by_laid, f_do_clash := ?f_do_clash, f_clashing_pairs := ?f_clashing_pairs, f_first_row := ?f_first_row, f_can_be_conceded := ?f_can_be_conceded, f_stock_rows := ?f_stock_rows, f_first_stock_row := ?f_first_stock_row, f_reached_by_rule_0 := ?f_reached_by_rule_0, f_rule := ?f_rule, f_lay := ?f_lay, f_propose := ?f_propose, f_answer_so := ?f_answer_so, f_press := ?f_press, f_strike := ?f_strike, f_amend := ?f_amend, f_learn := ?f_learn, f_stock := ?f_stock, f_finish := ?f_finish, f_is_change := ?f_is_change, f_make_change := ?f_make_change, f_right := ?f_right, f_row := ?f_row, f_stands_told := ?f_stands_told, f_log := ?f_log, f_row_told := ?f_row_told, f_concede := ?f_concede, f_deny := ?f_deny, f_may := ?f_may, f_false := ?f_false, f_from_stock := ?f_from_stock, f_reach := ?f_reach, f_ask := ?f_ask, f_letter := ?f_letter, f_not_of := ?f_not_of, f_both := ?f_both, f_either := ?f_either, f_if_then := ?f_if_then, f_sums := ?f_sums, f_is_reckoned := ?f_is_reckoned, f_reckon := ?f_reckon, f_counted := ?f_counted, f_one_of := ?f_one_of, f_bad := ?f_bad, f_first := ?f_first, f_caught := ?f_caught, f_mended := ?f_mended, f_least := ?f_least, f_laids := ?f_laids, f_laid := ?f_laid, f_knowns := ?f_knowns, f_known := ?f_known, f_other := ?f_other, f_clash := ?f_clash, f_clashes := ?f_clashes, f_verdict := ?f_verdict, f_is_verdict := ?f_is_verdict, f_judge := ?f_judge, f_answers := ?f_answers }
      case c_State =>
        refine' DY.cls_mk KX G ?a ?b1 ?b2 ?b3 ?b4 ?b5 ?b6 ?no ?me
        (case a => k_is); (case b1 => k_is); (case b2 => k_is); (case b3 => k_is); (case b4 => k_is); (case b5 => k_is); (case b6 => k_is)
        case no =>
          refine' ⟨?n0, ?n1, ?n2, ?n3, ?n4, ?n5, ?n6, trivial⟩
          (case n0 => k_is); (case n1 => k_is); (case n2 => k_is); (case n3 => k_is); (case n4 => k_is); (case n5 => k_is); (case n6 => k_is)
        case me =>
          refine' ⟨?m0, ?m1, trivial⟩
          case m0 =>
            refine' DY.me_mk ?a ?i ?l ?c ?k
            (case a => k_is); (case i => k_is); (case l => k_is); (case c => k_is); (case k => k_is)
          case m1 =>
            refine' DY.me_mk ?a ?i ?l ?c ?k
            (case a => k_is); (case i => k_is); (case l => k_is); (case c => k_is); (case k => k_is)
      case c_Hall =>
        refine' DY.cls_mk KX G ?a ?b1 ?b2 ?b3 ?b4 ?b5 ?b6 ?no ?me
        (case a => k_is); (case b1 => k_is); (case b2 => k_is); (case b3 => k_is); (case b4 => k_is); (case b5 => k_is); (case b6 => k_is)
        case no =>
          refine' ⟨?n0, ?n1, ?n2, trivial⟩
          (case n0 => k_is); (case n1 => k_is); (case n2 => k_is)
        case me =>
          refine' ⟨?m0, ?m1, ?m2, ?m3, ?m4, ?m5, ?m6, trivial⟩
          case m0 =>
            refine' DY.me_mk ?a ?i ?l ?c ?k
            (case a => k_is); (case i => k_is); (case l => k_is); (case c => k_is); (case k => k_is)
          case m1 =>
            refine' DY.me_mk ?a ?i ?l ?c ?k
            (case a => k_is); (case i => k_is); (case l => k_is); (case c => k_is); (case k => k_is)
          case m2 =>
            refine' DY.me_mk ?a ?i ?l ?c ?k
            (case a => k_is); (case i => k_is); (case l => k_is); (case c => k_is); (case k => k_is)
          case m3 =>
            refine' DY.me_mk ?a ?i ?l ?c ?k
            (case a => k_is); (case i => k_is); (case l => k_is); (case c => k_is); (case k => k_is)
          case m4 =>
            refine' DY.me_mk ?a ?i ?l ?c ?k
            (case a => k_is); (case i => k_is); (case l => k_is); (case c => k_is); (case k => k_is)
          case m5 =>
            refine' DY.me_mk ?a ?i ?l ?c ?k
            (case a => k_is); (case i => k_is); (case l => k_is); (case c => k_is); (case k => k_is)
          case m6 =>
            refine' DY.me_mk ?a ?i ?l ?c ?k
            (case a => k_is); (case i => k_is); (case l => k_is); (case c => k_is); (case k => k_is)
      case g_DENIED | g_CONCEDED | g_DOUBTED | g_NO_MATTER | g_FOLLOWS | g_AGAINST | g_MOST_ANSWERS | g_MOST_STOCK | g_MOST_IN_ROW | g_CLASH | g_BEGIN | g_STOCK | g_BACK | g_AGAIN | g_ROW | g_STATE | g_MOST_LETTERS | g_MOST_TAKEN_BACK =>
        refine' DY.gn_mk KX G ?a
        (case a => k_is)
      case t_ALWAYS | t_LETTERS | t_SIZES =>
        refine' DY.t_mk KX G ?a ?l ?v ?z
        (case a => k_is); (case l => k_is)
        (case v => rfl)
        (case z => decide)
      case g_NO_SUCH | g_NOTHING | g_NOT_BEGUN | g_LAID_DOWN | g_LAID_ALREADY | g_WRONG | g_TOO_MANY | g_CANNOT =>
        refine' DY.gi_mk KX G ?a
        (case a => k_is)
      case d_CHANGES | d_QUESTIONS | d_RECKONED | d_VERDICTS =>
        refine' DY.kd_mk KX G ?a ?s ?l ?n ?v
        (case a => k_is); (case l => k_is); (case s => decide); (case n => decide)
        case v =>
          repeat' (first | exact DX.KDs.nil | (refine DX.KDs.cons rfl ⟨_, rfl⟩ ⟨_, rfl, PySem.W.mg_of KX G ?_⟩ ?_; k_is))
      case no_len | no_range | no_enumerate | no_list | no_all | no_any | no_sum | no_zip | no_reversed =>
        refine' PySem.W.mg_none_of KX G ?a
        (case a => k_is)
      case f_always | f_is_proposition | f_letter_is_so | f_not_so | f_how_many | f_so_in_all | f_so_in_none | f_bearing | f_answer_by_known | f_right_by | f_narrowed | f_takes | f_takes_all | f_all_propositions | f_none_laid | f_answered_by | f_right_while | f_stands_after_right | f_stands_behind | f_stands_now | f_right_answer | f_is_bad | f_bad_answers | f_all_is_right | f_is_caught | f_caught_behind | f_verdict_on | f_mended_answers | f_bad_by_other_rule | f_sets_of_answers | f_fewest_to_strike | f_right_if_laid | f_right_if_known | f_answer_by_laid | f_do_clash | f_clashing_pairs | f_first_row | f_can_be_conceded | f_stock_rows | f_first_stock_row | f_reached_by_rule_0 | f_rule | f_lay | f_propose | f_answer_so | f_press | f_strike | f_amend | f_learn | f_stock | f_finish | f_is_change | f_make_change | f_right | f_row | f_stands_told | f_log | f_row_told | f_concede | f_deny | f_may | f_false | f_from_stock | f_reach | f_ask | f_letter | f_not_of | f_both | f_either | f_if_then | f_sums | f_is_reckoned | f_reckon | f_counted | f_one_of | f_bad | f_first | f_caught | f_mended | f_least | f_laids | f_laid | f_knowns | f_known | f_other | f_clash | f_clashes | f_verdict | f_is_verdict | f_judge | f_answers =>
        refine' DY.def_mk KX G ?a ?l ?c ?k
        (case a => k_is); (case l => k_is); (case c => k_is); (case k => k_is)
  case S =>
    intro K H xs a hO hwi hask hx
    cases hx with
    | cons h1 h2 =>
      cases h2
      cases h1 with
      | lst hs ha =>
        have e := L2.ints_dw a.1 _ ha
        subst e
        have q : ((Codec.inLen 0 11600 a.1 && a.1.all (Codec.inInt 0 4294967295)) && true) = true := hwi
        rw [Bool.and_eq_true, Bool.and_eq_true] at q
        exact DY.req hs (fun z hz => (Codec.inInt_iff.mp (List.all_eq_true.mp q.1.2 z hz)).1) (Codec.inNat_iff.mp q.1.1).2 hask fun H' p hp => .lst (L2.SqL.of hp) (L2.dw_ints _)
#print axioms PySem.Challenge.cw_disputation_s01_answers_holds
