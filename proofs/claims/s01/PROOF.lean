import PyProof.Rows.All
import Wide.All
import OpenK.AllK
import Wide.FinOn
import PyProof.EqAt
import PyProof.EqKinds
import PyProof.TupleCall
import KE.BitLaws
import Open.SpecLaws
import KE.OsHead
import KE.OsGo
import PySem.Challenge.RW_icepenalties_s01_answers
set_option Elab.async false
set_option linter.all false
set_option maxRecDepth 100000
namespace L2
open PySem PySem.Spec PyProof.Rows
abbrev Key := Sum Int Str
def keyIs : Key → Value → Bool
  | .inl k, v => Value.isInt k v
  | .inr x, v => Value.isStrOf x v
def keyH (w : World) : Key → Int
  | .inl k => hashInt k
  | .inr x => hashStr w x
theorem keyIs_shape : ∀ {k : Key} {v : Value}, keyIs k v = true → (∃ i t, k = Sum.inl i ∧ v = Value.int i t) ∨ (∃ x t, k = Sum.inr x ∧ v = Value.str x t)
  | .inl i, v, h => by
    obtain ⟨t, e⟩ := Value.isInt_shape (k := i) (v := v) h
    exact .inl ⟨i, t, rfl, e⟩
  | .inr x, v, h => by
    obtain ⟨t, e⟩ := Value.isStrOf_shape (x := x) (v := v) h
    exact .inr ⟨x, t, rfl, e⟩
theorem keyIs_int (i : Int) (t : Tok) : keyIs (.inl i) (.int i t) = true := by simp [keyIs, Value.isInt]
theorem keyIs_str (x : Str) (t : Tok) : keyIs (.inr x) (.str x t) = true := by simp [keyIs, Value.isStrOf]
theorem key_ll (a b : Int) : decide ((Sum.inl a : Key) = Sum.inl b) = (a == b) := by
  by_cases e : a = b
  · subst e; simp
  · have h : ¬ (Sum.inl a : Key) = Sum.inl b := fun q => e (Sum.inl.inj q)
    rw [decide_eq_false h]
    exact (beq_eq_false_iff_ne.mpr e).symm
theorem key_rr (a b : Str) : decide ((Sum.inr a : Key) = Sum.inr b) = decide (a = b) := by
  by_cases e : a = b
  · subst e; simp
  · have h : ¬ (Sum.inr a : Key) = Sum.inr b := fun q => e (Sum.inr.inj q)
    rw [decide_eq_false h, decide_eq_false e]
theorem key_lr (a : Int) (b : Str) : decide ((Sum.inl a : Key) = Sum.inr b) = false := decide_eq_false (fun q => nomatch q)
theorem key_rl (a : Str) (b : Int) : decide ((Sum.inr a : Key) = Sum.inl b) = false := decide_eq_false (fun q => nomatch q)
def mixKind (prog : Program) (w : World) : PySem.KeyKind prog w Key where
  is := keyIs
  hash := keyH w
  inj := fun v a b ha hb => by
    rcases keyIs_shape ha with ⟨i, t, rfl, rfl⟩ | ⟨x, t, rfl, rfl⟩
    · rcases keyIs_shape hb with ⟨j, u, rfl, e⟩ | ⟨y, u, rfl, e⟩
      · injection e with e1 _; rw [e1]
      · exact nomatch e
    · rcases keyIs_shape hb with ⟨j, u, rfl, e⟩ | ⟨y, u, rfl, e⟩
      · exact nomatch e
      · injection e with e1 _; rw [e1]
  byValue := fun k v h => by
    rcases keyIs_shape h with ⟨i, t, rfl, rfl⟩ | ⟨x, t, rfl, rfl⟩ <;> rfl
  pyHash := fun hv h => by
    rcases keyIs_shape hv with ⟨i, t, rfl, rfl⟩ | ⟨x, t, rfl, rfl⟩
    · exact wpAny_pyHash_int h
    · exact wpAny_pyHash_str h
  eqBool := fun hu hv h => by
    rcases keyIs_shape hu with ⟨i, t, rfl, rfl⟩ | ⟨x, t, rfl, rfl⟩
    · rcases keyIs_shape hv with ⟨j, u, rfl, rfl⟩ | ⟨y, u, rfl, rfl⟩
      · rw [key_ll] at h; exact wpAny_eqBool_int h
      · rw [key_lr] at h; exact SeqAt.EqAt.int_str i t y u _ _ _ _ h
    · rcases keyIs_shape hv with ⟨j, u, rfl, rfl⟩ | ⟨y, u, rfl, rfl⟩
      · rw [key_rl] at h; exact SeqAt.EqAt.str_int x t j u _ _ _ _ h
      · rw [key_rr] at h; exact wpAny_eqBool_str h
  «strs» := fun k x t v h => by
    rcases keyIs_shape h with ⟨i, u, rfl, e⟩ | ⟨y, u, rfl, e⟩
    · exact nomatch e
    · injection e with e1 _
      subst e1
      cases v <;> rfl
theorem mixKind_int (prog : Program) (w : World) (i : Int) (t : Tok) : (mixKind prog w).is (.inl i) (.int i t) = true := keyIs_int i t
theorem mixKind_str (prog : Program) (w : World) (x : Str) (t : Tok) : (mixKind prog w).is (.inr x) (.str x t) = true := keyIs_str x t
end L2
namespace L2
open PySem PySem.Spec PyProof.Rows
inductive V where
  | non | bl (b : Bool) | int (i : Int) | str (x : Str) | byt (b : Array UInt8) | flt (b : UInt64) | ref (a : Addr) | ty (n : String)
  deriving DecidableEq
def RelV : V → Value → Prop
  | .non, u => u = Value.none
  | .bl b, u => u = Value.bool b
  | .int i, u => ∃ t, u = Value.int i t
  | .str x, u => ∃ t, u = Value.str x t
  | .byt b, u => ∃ t, u = Value.bytes b t
  | .flt b, u => ∃ t, u = Value.float b t
  | .ref a, u => u = Value.ref a
  | .ty n, u => u = Value.type n
abbrev Vals : List V → List Value → Prop := Paired RelV
theorem Vals.length {xs : List V} {us : List Value} (r : Vals xs us) : xs.length = us.length := Paired.length r
theorem Vals.get : ∀ {xs : List V} {us : List Value} {i : Nat} {x : V}, Vals xs us → xs[i]? = some x → ∃ u, us[i]? = some u ∧ RelV x u
  | _, _, _, _, .nil, e => by simp at e
  | _, _, 0, _, .cons r _, e => by simp at e; subst e; exact ⟨_, rfl, r⟩
  | _, _, i + 1, x, .cons _ t, e => by
    obtain ⟨u, h1, h2⟩ := Vals.get (i := i) (x := x) t (by simpa using e)
    exact ⟨u, by simpa using h1, h2⟩
theorem Vals.set {x : V} {u : Value} (r : RelV x u) : ∀ {xs : List V} {us : List Value} (i : Nat), Vals xs us → Vals (xs.set i x) (us.set i u)
  | _, _, _, .nil => .nil
  | _, _, 0, .cons _ t => .cons r t
  | _, _, i + 1, .cons q t => .cons q (Vals.set r i t)
theorem Vals.append : ∀ {xs ys : List V} {us ws : List Value}, Vals xs us → Vals ys ws → Vals (xs ++ ys) (us ++ ws)
  | _, _, _, _, .nil, s => s
  | _, _, _, _, .cons r t, s => .cons r (Vals.append t s)
theorem Vals.take : ∀ {xs : List V} {us : List Value} (n : Nat), Vals xs us → Vals (xs.take n) (us.take n)
  | _, _, 0, _ => .nil
  | _, _, _ + 1, .nil => .nil
  | _, _, n + 1, .cons r t => .cons r (Vals.take n t)
theorem Vals.drop : ∀ {xs : List V} {us : List Value} (n : Nat), Vals xs us → Vals (xs.drop n) (us.drop n)
  | _, _, 0, r => r
  | _, _, _ + 1, .nil => .nil
  | _, _, n + 1, .cons _ t => Vals.drop n t
def RelO : Option V → Option Value → Prop
  | some v, some u => RelV v u
  | none, none => True
  | _, _ => False
def KV {κ : Type} : List (κ × V) → List (κ × Value) → Prop := Paired fun (p : κ × V) (q : κ × Value) => p.1 = q.1 ∧ RelV p.2 q.2
def kV : Key → V
  | .inl i => .int i
  | .inr x => .str x
inductive HO where
    | lst (xs : List V)
    | tup (xs : List V)
    | dK (kvs : List (Key × V)) | dT (kvs : List (List Key × V))
    | set (S : Int → Bool) (n : Nat)
    | ins (C dx : Addr) (fs : List (Str × V))
    | own (x : Addr)
    | xd (fs : List (Str × V))
    | met (f x : Addr)
    | rng (lo hi : Int)
    | frz (o : Obj) (u : HO)
    | tbl (ps : Array Value)
    | ext (φ : Heap → Prop)
abbrev Hp := Addr → Option HO
def upd (H : Hp) (a : Addr) (o : HO) : Hp := fun b => if b = a then some o else H b
theorem upd_same {H : Hp} {a : Addr} {o : HO} : upd H a o a = some o := by unfold upd; rw [if_pos rfl]
theorem upd_ne {H : Hp} {a b : Addr} {o : HO} (h : b ≠ a) : upd H a o b = H b := by unfold upd; rw [if_neg h]
theorem upd_upd {H : Hp} {a : Addr} {o u : HO} : upd (upd H a o) a u = upd H a u := by
  funext b; unfold upd; split <;> rfl
theorem ne_of {H : Hp} {a b : Addr} {o u : HO} (h : H a = some o) (h' : H b = some u) (d : o ≠ u) : a ≠ b := by
  intro e; subst e; rw [h] at h'; exact d (Option.some.inj h')
theorem ne_of_none {H : Hp} {a b : Addr} {o : HO} (h : H a = some o) (h' : H b = none) : a ≠ b := by
  intro e; subst e; rw [h] at h'; cases h'
section
variable (P : Program) (w : World)
def ObjOk (H : Hp) (h : Heap) (a : Addr) : HO → Prop
  | .lst xs => xs.length ≤ sizeLine ∧ ∃ (its : List Value) (n : Nat), Vals xs its ∧ h.get? a = some { cls := .type "list", data := .seq its.toArray n }
  | .tup xs => xs.length ≤ sizeLine ∧ ∃ its : List Value, Vals xs its ∧ IsTup h a its.toArray
  | .dK kvs => kvs.length ≤ sizeLine ∧ (a == sysModules) = false ∧ ∃ vs, KV kvs vs ∧ h.DictOf (mixKind P w) a vs
  | .dT kvs => kvs.length ≤ sizeLine ∧ (a == sysModules) = false ∧ ∃ xs : List (List Key × Addr × Value),
      Paired (fun (p : List Key × V) (q : List Key × Addr × Value) => p.1 = q.1 ∧ H q.2.1 = some (.tup (p.1.map kV)) ∧ RelV p.2 q.2.2) kvs xs ∧
      ∃ o es ep, h.get? a = some o ∧ o.ExactDict ∧ o.data = .dict es ep ∧ es.toList = xs.map (entryOfKey (tupleKind (mixKind P w))) ∧ (xs.map (·.1)).Nodup
  | .set S n => h.SetOf (intKind P w) a S n
  | .ins C dx fs => H dx = some (.own a) ∧ fs.length ≤ 1000 ∧ dx ≠ a ∧ h.get? a = some (PySem.W.instObj C dx) ∧
      ∃ mA, h.Ns1 dx mA ∧ (∀ f, RelO (fs.lookup f) (mA f)) ∧ PySem.Within mA (fs.map (·.1))
  | .own _ => ∃ o, h.get? a = some o
  | .xd fs => ∃ mA, h.Ns1 a mA ∧ ∀ f, RelO (fs.lookup f) (mA f)
  | .rng lo hi => ∃ t u v, h.get? a = some { cls := .type "range", data := .fields #[.int lo t, .int hi u, .int 1 v] }
  | .frz o u => h.get? a = some o ∧ ObjOk H h a u
  | .tbl ps => h.get? a = some { cls := .none, data := .fields ps }
  | .met f x => h.get? a = some (PySem.W.methodObj (.ref f) (.ref x))
  | .ext φ => φ h ∧ (∃ o, h.get? a = some o) ∧ ∀ h1 h2 : Heap, φ h1 → (∀ o, h1.get? a = some o → h2.get? a = some o) → φ h2
def HOk (H : Hp) (h : Heap) : Prop := ∀ a o, H a = some o → ObjOk P w H h a o
end
section
variable {P : Program} {w : World} {H H' : Hp} {h h' : Heap} {a : Addr} {o : HO}
theorem ObjOk.lt (x : ObjOk P w H h a o) : a < h.objs.size := by
  cases o with
  | lst xs => obtain ⟨_, _, _, _, e⟩ := x; exact Heap.lt_size e
  | tup xs => obtain ⟨_, _, _, p⟩ := x; exact p.lt
  | dK kvs => obtain ⟨_, _, _, _, o, _, _, e, _⟩ := x; exact Heap.lt_size e
  | dT kvs => obtain ⟨_, _, _, _, o, _, _, e, _⟩ := x; exact Heap.lt_size e
  | set S n => obtain ⟨o, _, _, _, e, _⟩ := x; exact Heap.lt_size e
  | ins C dx fs => obtain ⟨_, _, _, e, _⟩ := x; exact Heap.lt_size e
  | own y => obtain ⟨_, e⟩ := x; exact Heap.lt_size e
  | xd fs => obtain ⟨_, ⟨_, _, _, e, _⟩, _⟩ := x; exact Heap.lt_size e
  | rng lo hi => obtain ⟨_, _, _, e⟩ := x; exact Heap.lt_size e
  | frz ob u => obtain ⟨e, _⟩ := x; exact Heap.lt_size e
  | tbl ps => exact Heap.lt_size (show h.get? a = some _ from x)
  | met f y => exact Heap.lt_size (show h.get? a = some _ from x)
  | ext φ => obtain ⟨_, ⟨_, e⟩, _⟩ := x; exact Heap.lt_size e
theorem Paired.mapP {α β : Type} {F G : α → β → Prop} : ∀ {l₁ : List α} {l₂ : List β}, Paired F l₁ l₂ → (∀ a b, F a b → G a b) → Paired G l₁ l₂
  | _, _, .nil, _ => .nil
  | _, _, .cons r t, f => .cons (f _ _ r) (Paired.mapP t f)
theorem ObjOk.stay (x : ObjOk P w H h a o) (k : ∀ b u, (b = a ∨ H b = some (.own a)) → h.get? b = some u → h'.get? b = some u)
    (ho : ∀ b, H b = some (.own a) → H' b = some (.own a)) (ht : ∀ b xs, H b = some (.tup xs) → H' b = some (.tup xs)) : ObjOk P w H' h' a o := by
  induction o with
  | lst xs => obtain ⟨z, its, n, r, e⟩ := x; exact ⟨z, its, n, r, k _ _ (.inl rfl) e⟩
  | tup xs => obtain ⟨z, its, r, ob, e, c⟩ := x; exact ⟨z, its, r, ob, k _ _ (.inl rfl) e, c⟩
  | dK kvs => obtain ⟨z, y, vs, r, ob, es, ep, e, c⟩ := x; exact ⟨z, y, vs, r, ob, es, ep, k _ _ (.inl rfl) e, c⟩
  | dT kvs =>
    obtain ⟨z, y, xs, r, ob, es, ep, e, c⟩ := x
    exact ⟨z, y, xs, Paired.mapP r fun p q z => ⟨z.1, ht _ _ z.2.1, z.2.2⟩, ob, es, ep, k _ _ (.inl rfl) e, c⟩
  | set S n => obtain ⟨ob, es, ep, t, e, c⟩ := x; exact ⟨ob, es, ep, t, k _ _ (.inl rfl) e, c⟩
  | ins C dx fs =>
    obtain ⟨d, z, ne, e, mA, ⟨od, es, ep, e2, c⟩, r⟩ := x
    exact ⟨ho _ d, z, ne, k _ _ (.inl rfl) e, mA, ⟨od, es, ep, k _ _ (.inr d) e2, c⟩, r⟩
  | own y => obtain ⟨ob, e⟩ := x; exact ⟨ob, k _ _ (.inl rfl) e⟩
  | xd fs => obtain ⟨mA, ⟨od, es, ep, e, c⟩, r⟩ := x; exact ⟨mA, ⟨od, es, ep, k _ _ (.inl rfl) e, c⟩, r⟩
  | rng lo hi => obtain ⟨t, u, v, e⟩ := x; exact ⟨t, u, v, k _ _ (.inl rfl) e⟩
  | frz ob u ih => obtain ⟨e, q⟩ := x; exact ⟨k _ _ (.inl rfl) e, ih q⟩
  | tbl ps =>
    have e : h.get? a = some { cls := .none, data := .fields ps } := x
    show h'.get? a = some { cls := .none, data := .fields ps }
    exact k a _ (.inl rfl) e
  | met f y =>
    have e : h.get? a = some (PySem.W.methodObj (.ref f) (.ref y)) := x
    show h'.get? a = some (PySem.W.methodObj (.ref f) (.ref y))
    exact k a _ (.inl rfl) e
  | ext φ => obtain ⟨p, ⟨o, e⟩, st⟩ := x; exact ⟨st _ _ p fun o q => k _ _ (.inl rfl) q, ⟨o, k _ _ (.inl rfl) e⟩, st⟩
theorem HOk.lt (x : HOk P w H h) (e : H a = some o) : a < h.objs.size := (x a o e).lt
theorem HOk.fresh (x : HOk P w H h) (e : h.objs.size ≤ a) : H a = none := by
  cases q : H a with
  | none => rfl
  | some u => exact absurd (Nat.lt_of_lt_of_le (x.lt q) e) (Nat.lt_irrefl _)
theorem HOk.kept (x : HOk P w H h) (k : ∀ b u, h.get? b = some u → h'.get? b = some u) : HOk P w H h' := fun a o e =>
  (x a o e).stay (fun b u _ q => k b u q) (fun _ q => q) fun _ _ q => q
theorem HOk.laid (x : HOk P w H h) (k : ∀ b u, h.get? b = some u → h'.get? b = some u) (hp : h.objs.size ≤ a) (new : ObjOk P w (upd H a o) h' a o) : HOk P w (upd H a o) h' := fun b u e => by
  have hn := x.fresh hp
  by_cases hb : b = a
  · subst hb; rw [upd_same] at e; cases e; exact new
  · rw [upd_ne hb] at e
    exact (x b u e).stay (fun c v _ q => k c v q) (fun c q => by rw [upd_ne (ne_of_none q hn)]; exact q) fun c xs q => by rw [upd_ne (ne_of_none q hn)]; exact q
end
def Rd (H : Hp) (a : Addr) (u : HO) : Prop := H a = some u ∨ ∃ o, H a = some (.frz o u)
theorem Rd.ok {P : Program} {w : World} {H : Hp} {h : Heap} {a : Addr} {u : HO} (r : Rd H a u) (x : HOk P w H h) : ObjOk P w H h a u := by
  rcases r with r | ⟨o, r⟩
  · exact x a u r
  · obtain ⟨_, q⟩ := x a _ r
    exact q
def Mut : Option HO → Prop
  | some (.lst _) => True
  | some (.dK _) => True
  | some (.dT _) => True
  | some (.set _ _) => True
  | some (.ins _ _ _) => True
  | some (.ext _) => True
  | _ => False
section
variable {P : Program} {w : World} {H : Hp} {h h' : Heap} {x e : Addr} {o' : HO}
theorem HOk.write (ok : HOk P w H h) (mu : Mut (H x)) (he : e = x ∨ H e = some (.own x)) (k : ∀ b u, b ≠ e → h.get? b = some u → h'.get? b = some u) (heo : ∃ u, h'.get? e = some u)
    (new : ObjOk P w (upd H x o') h' x o') : HOk P w (upd H x o') h' := fun b u q => by
  have nown : ∀ c y, H c = some (.own y) → c ≠ x := fun c y r z => by subst z; rw [r] at mu; exact mu
  have ntup : ∀ c xs, H c = some (.tup xs) → c ≠ x := fun c xs r z => by subst z; rw [r] at mu; exact mu
  by_cases hb : b = x
  · subst hb; rw [upd_same] at q; cases q; exact new
  · rw [upd_ne hb] at q
    by_cases hbe : b = e
    · have q' : H b = some (.own x) := by
        rcases he with z | z
        · exact absurd (hbe.trans z) hb
        · rw [hbe]; exact z
      rw [q] at q'; cases q'
      obtain ⟨v, hv⟩ := heo
      exact ⟨v, by rw [hbe]; exact hv⟩
    · refine (ok b u q).stay (fun c v hc r => k c v ?_ r) (fun c r => by rw [upd_ne (nown c b r)]; exact r) fun c xs r => by rw [upd_ne (ntup c xs r)]; exact r
      rcases hc with rfl | hc
      · exact hbe
      · rintro rfl
        rcases he with z | z
        · exact nown c b hc z
        · rw [hc] at z; cases z; exact hb rfl
end
structure Un (fs ex : List Addr) (H H' : Hp) (h h' : Heap) : Prop where
  keep : ∀ b o, h.get? b = some o → H b = none → b ∉ fs → b ∉ ex → h'.get? b = some o
  slot : ∀ b o, h.get? b = some o → H b = none → b ∈ fs → b ∉ ex → ∃ sl, h'.get? b = some { o with slots := sl }
  free : ∀ b o, h.get? b = some o → H b = none → b ∉ ex → H' b = none
  there : ∀ b o, h.get? b = some o → b ∉ ex → ∃ o', h'.get? b = some o'
  tups : ∀ b xs, H b = some (.tup xs) → H' b = some (.tup xs)
  frzs : ∀ b o u, H b = some (.frz o u) → H' b = some (.frz o u)
  tbls : ∀ b ps, H b = some (.tbl ps) → ∃ more, H' b = some (.tbl (ps ++ more))
section
variable {fs fs' ex ex' : List Addr} {H H1 H2 : Hp} {h h1 h2 h' : Heap} {a x e : Addr} {o : HO}
theorem Un.any (u : Un fs ex H H1 h h1) {b : Addr} {ob : Obj} (q : h.get? b = some ob) (n : H b = none) (hx : b ∉ ex) : ∃ sl, h1.get? b = some { ob with slots := sl } := by
  by_cases hb : b ∈ fs
  · exact u.slot b ob q n hb hx
  · exact ⟨ob.slots, u.keep b ob q n hb hx⟩
theorem Un.kept (k : ∀ b u, h.get? b = some u → h'.get? b = some u) : Un fs ex H H h h' :=
  ⟨fun b ob q _ _ _ => k b ob q, fun b ob q _ _ _ => ⟨ob.slots, k b ob q⟩, fun _ _ _ n _ => n, fun b ob q _ => ⟨ob, k b ob q⟩, fun _ _ q => q, fun _ _ _ q => q, fun _ ps q => ⟨#[], by rw [q]; simp⟩⟩
theorem Un.refl : Un fs ex H H h h := Un.kept fun _ _ q => q
theorem Un.laid (k : ∀ b u, h.get? b = some u → h'.get? b = some u) (hp : h.objs.size ≤ a) (hn : H a = none) : Un fs ex H (upd H a o) h h' where
  keep := fun b u q _ _ _ => k b u q
  slot := fun b u q _ _ _ => ⟨u.slots, k b u q⟩
  free := fun b u q n _ => by rw [upd_ne (Nat.ne_of_lt (Nat.lt_of_lt_of_le (Heap.lt_size q) hp))]; exact n
  there := fun b u q _ => ⟨u, k b u q⟩
  tups := fun b xs q => by rw [upd_ne (ne_of_none q hn)]; exact q
  frzs := fun b u xs q => by rw [upd_ne (ne_of_none q hn)]; exact q
  tbls := fun b ps q => ⟨#[], by rw [upd_ne (ne_of_none q hn), q]; simp⟩
theorem Un.write (mu : Mut (H x)) (he : e = x ∨ H e = some (.own x)) (k : ∀ b u, b ≠ e → h.get? b = some u → h'.get? b = some u) (heo : ∃ u, h'.get? e = some u) : Un fs ex H (upd H x o) h h' := by
  have hx : ∀ b, H b = none → b ≠ x := fun b n z => by subst z; rw [n] at mu; exact mu
  have hb : ∀ b, H b = none → b ≠ e := fun b n z => by
    subst z
    rcases he with r | r
    · exact hx b n r
    · rw [n] at r; cases r
  have hm : ∀ b u, H b = some u → ¬ Mut (some u) → b ≠ x := fun b u q nm z => by subst z; rw [q] at mu; exact nm mu
  refine ⟨fun b u q n _ _ => k b u (hb b n) q, fun b u q n _ _ => ⟨u.slots, k b u (hb b n) q⟩, fun b u q n _ => by rw [upd_ne (hx b n)]; exact n, fun b u q _ => ?_,
    fun b xs q => by rw [upd_ne (hm b _ q fun z => z)]; exact q, fun b u xs q => by rw [upd_ne (hm b _ q fun z => z)]; exact q, fun b ps q => ⟨#[], by rw [upd_ne (hm b _ q fun z => z), q]; simp⟩⟩
  by_cases hbe : b = e
  · subst hbe; exact heo
  · exact ⟨u, k b u hbe q⟩
end
def trk (h : Heap) (H : Hp) : List Addr := (List.range h.objs.size).filter fun a => (H a).isSome
def hidT (h : Heap) (H : Hp) : Heap := PySem.W.hideAll h (trk h H)
theorem hidT_size (h : Heap) (H : Hp) : (hidT h H).objs.size = h.objs.size := PySem.W.hideAll_size _ _
theorem hidT_get {h : Heap} {H : Hp} {b : Addr} {o : Obj} (e : h.get? b = some o) (n : H b = none) : (hidT h H).get? b = some o :=
  PySem.W.hideAll_get _ e fun hm => by
    have q : (H b).isSome = true := (List.mem_filter.mp hm).2
    rw [n] at q; simp at q
theorem of_hidT {h : Heap} {H : Hp} {b : Addr} {o : Obj} (e : (hidT h H).get? b = some o) : h.get? b = some o ∧ H b = none := by
  have e' : h.get? b = some o := PySem.W.of_hideAll (trk h H) e
  refine ⟨e', ?_⟩
  cases q : H b with
  | none => rfl
  | some x =>
    have hm : b ∈ trk h H := List.mem_filter.mpr ⟨List.mem_range.mpr (Heap.lt_size e'), by simp [q]⟩
    have z : (hidT h H).get? b = none := PySem.W.hideAll_none (trk h H) hm
    rw [z] at e; cases e
end L2
namespace L2
open PySem PySem.Spec PyProof.Rows
structure Mod (K : PySem.W.Frag) (mg : Str → Option Value) (base : Heap) : Prop where
  kin : K.In base
  glob : base.Ns mainGlobals mg
  blt : ∃ mb, base.Ns builtinsNs mb ∧ ∀ x : Str, x ≠ "__name__" → mb x = bootBuiltins x
  nolimit : base.NoLimit
structure Cx where
  prog : Program
  w : World
  K : PySem.W.Frag
  mg : Str → Option Value
  base : Heap
  A : Around
  N : List Str
  s_0 : Shared
  H_0 : Hp
  env : Env
  outer : List Env
  stack : List Env
  ex : List Addr
  fn : Str → Bool
  calm : Bool
  pn : List (Addr × Obj)
  xe : Value → Shared → Prop
def frs (l : List Env) : List Addr := l.filterMap (·.frame)
abbrev Cx.fs (X : Cx) : List Addr := frs X.outer
def Vis (sc : Scope) (x : Str) : Prop := sc.names.lookup x = some .local ∨ sc.names.lookup x = some .cell ∨ sc.names.lookup x = some .free
def Loc (sc : Scope) (x : Str) : Prop := sc.names.lookup x = some .local ∨ sc.names.lookup x = some .cell
def Look (env : Env) (h : Heap) (m : Str → Option Value) (x : Str) (u : Value) : Prop :=
  (env.kindOf x = some .local ∧ m x = some u) ∨ ((env.kindOf x = some .cell ∨ env.kindOf x = some .free) ∧ ∃ c, env.cells.lookup x = some c ∧ h.IsCell c (some u))
structure Cx.Ok (X : Cx) : Prop where
  mod : Mod X.K X.mg X.base
  kind : X.env.scope.kind = .function
  glob : X.env.globals = mainGlobals
  blt : X.env.builtins = builtinsNs
  above : X.s_0.heap.objs.size ≤ X.env.locals
  inj : ∀ x y c, X.env.cells.lookup x = some c → X.env.cells.lookup y = some c → x = y
  has : ∀ x, (X.env.kindOf x = some .cell ∨ X.env.kindOf x = some .free) → ∃ c, X.env.cells.lookup x = some c
  cab : ∀ x c, X.fn x = true → X.env.cells.lookup x = some c → X.s_0.heap.objs.size ≤ c
  hd : X.calm = true → X.A.handled = none
  frames : X.A.frames = some X.stack
  stk : X.stack = X.outer ∨ (X.stack = X.env :: X.outer ∧ X.env.frame = some X.env.locals)
  exf : ∀ b ∈ X.ex, b ≠ X.env.locals ∧ ∀ x c, X.env.cells.lookup x = some c → c ≠ b
  bs : ∀ b o, X.base.get? b = some o → X.s_0.heap.get? b = some o ∧ X.H_0 b = none
  bsz : X.base.objs.size ≤ X.s_0.heap.objs.size
  noex : ∀ b o, X.base.get? b = some o → b ∉ X.ex
  exfs : ∀ b ∈ X.ex, b ∉ X.fs
  funs : X.s_0.heap.FunFrames X.base X.outer
  frf : ∀ b ∈ X.fs, X.H_0 b = none
structure Inv (X : Cx) (pins : List (Addr × Obj)) (σ : List (Option V)) (H : Hp) (s : Shared) : Prop where
  ok : X.Ok
  os : s.os = X.s_0.os
  bare : AllBare s.gens
  base : Un X.fs X.ex X.H_0 H X.s_0.heap s.heap
  loc : ∃ m, s.heap.Ns X.env.locals m ∧ ∀ (i : Nat) (x : Str) (v : V), X.N[i]? = some x → σ[i]? = some (some v) → Vis X.env.scope x → ∃ u, RelV v u ∧ Look X.env s.heap m x u
  cell : ∀ x c, X.env.cells.lookup x = some c → ∃ v, s.heap.IsCell c v
  free : H X.env.locals = none
  freeC : ∀ x c, X.env.cells.lookup x = some c → H c = none
  pin : ∀ p ∈ X.pn ++ pins, s.heap.get? p.1 = some p.2 ∧ H p.1 = none ∧ p.1 ≠ X.env.locals ∧ p.1 ∉ X.fs ∧ ∀ v, p.2.data ≠ .cell v
  hok : HOk X.prog X.w H s.heap
  len : σ.length = X.N.length
section
variable {X : Cx} {pins : List (Addr × Obj)} {σ : List (Option V)} {H H' : Hp} {s : Shared} {h' : Heap}
theorem Cx.Ok.nofr (ok : X.Ok) {b : Addr} {o : Obj} (e : X.base.get? b = some o) : b ∉ X.fs := fun hb => by
  have := (ok.funs.mem hb).1
  rw [e] at this; cases this
theorem Inv.bs (I : Inv X pins σ H s) : ∀ b o, X.base.get? b = some o → s.heap.get? b = some o ∧ H b = none := fun b o e =>
  ⟨I.base.keep b o (I.ok.bs b o e).1 (I.ok.bs b o e).2 (I.ok.nofr e) (I.ok.noex b o e), I.base.free b o (I.ok.bs b o e).1 (I.ok.bs b o e).2 (I.ok.noex b o e)⟩
theorem Inv.bk (I : Inv X pins σ H s) : ∀ b o, X.base.get? b = some o → s.heap.get? b = some o := fun b o e => (I.bs b o e).1
theorem Inv.mod (I : Inv X pins σ H s) : Mod X.K X.mg X.base := I.ok.mod
theorem Inv.kIn (I : Inv X pins σ H s) : X.K.In s.heap := I.ok.mod.kin.keeps I.bk
theorem Inv.lt (I : Inv X pins σ H s) : X.env.locals < s.heap.objs.size := let ⟨_, hn, _⟩ := I.loc; hn.lt
theorem Inv.sz (I : Inv X pins σ H s) : X.s_0.heap.objs.size ≤ s.heap.objs.size := Nat.le_trans I.ok.above (Nat.le_of_lt I.lt)
theorem Inv.nofs (I : Inv X pins σ H s) {a : Addr} (h : s.heap.objs.size ≤ a) : a ∉ X.fs := fun hb => by
  obtain ⟨_, o, ho, _⟩ := I.ok.funs.mem hb
  exact absurd (Nat.lt_of_lt_of_le (Heap.lt_size ho) (Nat.le_trans I.sz h)) (Nat.lt_irrefl _)
theorem Inv.cne (I : Inv X pins σ H s) : ∀ x c, X.env.cells.lookup x = some c → c ≠ X.env.locals := fun x c e z => by
  obtain ⟨v, o, ho, hd⟩ := I.cell x c e
  obtain ⟨m, ⟨o', es, ep, ho', hd', _⟩, _⟩ := I.loc
  rw [z, ho'] at ho; cases ho; rw [hd'] at hd; cases hd
theorem Inv.funs (I : Inv X pins σ H s) : s.heap.FunFrames X.base X.outer := by
  have all : ∀ (l : List Env), (∀ b ∈ frs l, b ∈ X.fs) → X.s_0.heap.FunFrames X.base l → s.heap.FunFrames X.base l := by
    intro l
    induction l with
    | nil => intro _ _; trivial
    | cons env r ih =>
      intro hs hl
      obtain ⟨hk, ⟨L, o, hf, hn, ho, hd⟩, hr⟩ := hl
      have hL : L ∈ X.fs := hs L (by unfold frs; rw [List.filterMap_cons, hf]; exact List.mem_cons_self)
      obtain ⟨sl, e⟩ := I.base.slot L o ho (I.ok.frf L hL) hL fun z => I.ok.exfs L z hL
      exact ⟨hk, ⟨L, _, hf, hn, e, hd⟩, ih (fun b hb => hs b (by unfold frs; rw [List.filterMap_cons, hf]; exact List.mem_cons_of_mem _ hb)) hr⟩
  exact all X.outer (fun _ hb => hb) I.ok.funs
theorem Inv.stack (I : Inv X pins σ H s) : s.heap.FunFrames X.base X.stack := by
  rcases I.ok.stk with e | ⟨e, hf⟩
  · rw [e]; exact I.funs
  · rw [e]
    obtain ⟨m, hn, _⟩ := I.loc
    refine .cons (by rw [I.ok.kind]; decide) hf hn ?_ I.funs
    exact Heap.get?_none_of_le (Nat.le_trans I.ok.bsz I.ok.above)
theorem Inv.stkSub (I : Inv X pins σ H s) : ∀ b ∈ frs X.stack, b ∈ X.env.locals :: X.fs := fun b hb => by
  rcases I.ok.stk with e | ⟨e, hf⟩
  · rw [e] at hb; exact List.mem_cons_of_mem _ hb
  · rw [e] at hb
    unfold frs at hb
    rw [List.filterMap_cons, hf] at hb
    exact hb
theorem Inv.stkFree (I : Inv X pins σ H s) : ∀ b ∈ frs X.stack, H b = none := fun b hb => by
  rcases List.mem_cons.mp (I.stkSub b hb) with e | hb
  · rw [e]; exact I.free
  · obtain ⟨_, o, ho, _⟩ := I.ok.funs.mem hb
    exact I.base.free b o ho (I.ok.frf b hb) fun z => I.ok.exfs b z hb
theorem Inv.step {g' : Array GenState} {t' : Nat} {d' : Drawn} {ch : List Addr} (I : Inv X pins σ H s)
    (hch : ∀ b ∈ ch, (b ∈ X.ex ∨ X.s_0.heap.objs.size ≤ b) ∧ b ≠ X.env.locals ∧ (∀ x c, X.env.cells.lookup x = some c → c ≠ b) ∧ ∀ p ∈ X.pn ++ pins, p.1 ≠ b)
    (keep : ∀ b o, b ≠ X.env.locals → b ∉ X.fs → b ∉ ch → s.heap.get? b = some o → H b = none → h'.get? b = some o)
    (slot : ∀ b o, b ≠ X.env.locals → b ∈ X.fs → b ∉ ch → s.heap.get? b = some o → H b = none → ∃ sl, h'.get? b = some { o with slots := sl }) (free : ∀ b o, b ∉ ch → s.heap.get? b = some o → H b = none → H' b = none)
    (there : ∀ b o, b ∉ ch → s.heap.get? b = some o → ∃ o', h'.get? b = some o')
    (tups : ∀ b xs, H b = some (.tup xs) → H' b = some (.tup xs)) (frzs : ∀ b o u, H b = some (.frz o u) → H' b = some (.frz o u)) (tbls : ∀ b ps, H b = some (.tbl ps) → ∃ more, H' b = some (.tbl (ps ++ more)))
    (ns : ∀ m, s.heap.Ns X.env.locals m → h'.Ns X.env.locals m) (hok : HOk X.prog X.w H' h') (hg : AllBare g') :
    Inv X pins σ H' { s with heap := h', gens := g', drawn := d', toks := t' } := by
  have neL : ∀ b o, X.s_0.heap.get? b = some o → b ≠ X.env.locals := fun b o e => Nat.ne_of_lt (Nat.lt_of_lt_of_le (Heap.lt_size e) I.ok.above)
  have neC : ∀ b o, X.s_0.heap.get? b = some o → b ∉ X.ex → b ∉ ch := fun b o e hx hb => by
    rcases (hch b hb).1 with z | z
    · exact hx z
    · exact absurd (Nat.lt_of_lt_of_le (Heap.lt_size e) z) (Nat.lt_irrefl _)
  have cellK : ∀ x c, X.env.cells.lookup x = some c → ∀ v, s.heap.IsCell c v → h'.IsCell c v := fun x c e v ⟨o, ho, hd⟩ => by
    have nch : c ∉ ch := fun z => (hch c z).2.2.1 x c e rfl
    by_cases hc : c ∈ X.fs
    · obtain ⟨sl, q⟩ := slot c o (I.cne x c e) hc nch ho (I.freeC x c e)
      exact ⟨_, q, hd⟩
    · exact ⟨o, keep c o (I.cne x c e) hc nch ho (I.freeC x c e), hd⟩
  refine ⟨I.ok, I.os, hg, ⟨fun b o e n hb hx => ?_, fun b o e n hb hx => ?_, fun b o e n hx => ?_, fun b o e hx => ?_, fun b xs e => tups b xs (I.base.tups b xs e), fun b o xs e => frzs b o xs (I.base.frzs b o xs e), fun b ps e => ?_⟩, ?_, fun x c e => ?_, ?_, fun x c e => ?_, fun p hp => ?_, hok, I.len⟩
  · exact keep b o (neL b o e) hb (neC b o e hx) (I.base.keep b o e n hb hx) (I.base.free b o e n hx)
  · obtain ⟨sl, e1⟩ := I.base.slot b o e n hb hx
    obtain ⟨sl', e2⟩ := slot b _ (neL b o e) hb (neC b o e hx) e1 (I.base.free b o e n hx)
    exact ⟨sl', e2⟩
  · obtain ⟨o', e1⟩ := I.base.there b o e hx
    exact free b o' (neC b o e hx) e1 (I.base.free b o e n hx)
  · obtain ⟨o', e1⟩ := I.base.there b o e hx
    exact there b o' (neC b o e hx) e1
  · obtain ⟨m1, e1⟩ := I.base.tbls b ps e
    obtain ⟨m2, e2⟩ := tbls b _ e1
    exact ⟨m1 ++ m2, by rw [e2, Array.append_assoc]⟩
  · obtain ⟨m, hn, hl⟩ := I.loc
    refine ⟨m, ns m hn, fun i x v e1 e2 e3 => ?_⟩
    obtain ⟨u, r, l⟩ := hl i x v e1 e2 e3
    refine ⟨u, r, ?_⟩
    rcases l with l | ⟨k, c, e, z⟩
    · exact .inl l
    · exact .inr ⟨k, c, e, cellK x c e _ z⟩
  · obtain ⟨v, z⟩ := I.cell x c e
    exact ⟨v, cellK x c e v z⟩
  · obtain ⟨m, ⟨o, _, _, ho, _⟩, _⟩ := I.loc
    exact free _ o (fun z => (hch _ z).2.1 rfl) ho I.free
  · obtain ⟨v, o, ho, hd⟩ := I.cell x c e
    exact free c o (fun z => (hch c z).2.2.1 x c e rfl) ho (I.freeC x c e)
  · obtain ⟨e, n, ne, nf, d⟩ := I.pin p hp
    have nch : p.1 ∉ ch := fun z => (hch p.1 z).2.2.2 p hp rfl
    exact ⟨keep p.1 p.2 ne nf nch e n, free p.1 p.2 nch e n, ne, nf, d⟩
theorem Inv.un {t' : Nat} (I : Inv X pins σ H s) (u : Un X.fs [] H H' s.heap h') (hok : HOk X.prog X.w H' h') : Inv X pins σ H' { s with heap := h', toks := t' } := by
  obtain ⟨m, ⟨o, es, ep, ho, r⟩, _⟩ := id I.loc
  obtain ⟨sl, hL⟩ := u.any ho I.free (by simp)
  exact I.step (g' := s.gens) (d' := s.drawn) (ch := []) (fun _ z => nomatch z) (fun b o _ hb _ e n => u.keep b o e n hb (by simp)) (fun b o _ hb _ e n => u.slot b o e n hb (by simp)) (fun b o _ e n => u.free b o e n (by simp)) (fun b o _ e => u.there b o e (by simp)) u.tups u.frzs u.tbls (fun m' hm => by
    obtain ⟨o', es', ep', ho', r'⟩ := hm
    rw [ho] at ho'; cases ho'
    exact ⟨_, es', ep', hL, r'⟩) hok I.bare
theorem Inv.call {g' : Array GenState} {t' : Nat} {d' : Drawn} {ch : List Addr} (I : Inv X pins σ H s) (u : Un (frs X.stack) ch H H' s.heap h') (hok : HOk X.prog X.w H' h') (hg : AllBare g')
    (hch : ∀ b ∈ ch, (b ∈ X.ex ∨ X.s_0.heap.objs.size ≤ b) ∧ b ≠ X.env.locals ∧ (∀ x c, X.env.cells.lookup x = some c → c ≠ b) ∧ ∀ p ∈ X.pn ++ pins, p.1 ≠ b) :
    Inv X pins σ H' { s with heap := h', gens := g', drawn := d', toks := t' } := by
  obtain ⟨m, ⟨o, es, ep, ho, r⟩, _⟩ := id I.loc
  obtain ⟨sl, hL⟩ := u.any ho I.free fun z => (hch _ z).2.1 rfl
  exact I.step (ch := ch) hch (fun b o hL hb hc e n => u.keep b o e n (fun z => (List.mem_cons.mp (I.stkSub b z)).elim hL hb) hc) (fun b o _ _ hc e n => u.any e n hc) (fun b o hc e n => u.free b o e n hc) (fun b o hc e => u.there b o e hc) u.tups u.frzs u.tbls (fun m' hm => by
    obtain ⟨o', es', ep', ho', r'⟩ := hm
    rw [ho] at ho'; cases ho'
    exact ⟨_, es', ep', hL, r'⟩) hok hg
theorem Inv.turned {t' : Nat} {it : Addr} (I : Inv X pins σ H s) (k : ∀ b o, b ≠ it → s.heap.get? b = some o → h'.get? b = some o) (hn : H it = none) (hL : it ≠ X.env.locals)
    (h1 : it ∈ X.ex ∨ X.s_0.heap.objs.size ≤ it) (h2 : ∀ x c, X.env.cells.lookup x = some c → c ≠ it) (h3 : ∀ p ∈ X.pn ++ pins, p.1 ≠ it) : Inv X pins σ H { s with heap := h', toks := t' } := by
  have nit : ∀ b u, H b = some u → b ≠ it := fun b u e z => by rw [z, hn] at e; cases e
  refine I.step (g' := s.gens) (d' := s.drawn) (ch := [it]) (fun b hb => ?_) (fun b o _ _ hc e _ => k b o (fun z => hc (by simp [z])) e) (fun b o _ _ hc e _ => ⟨o.slots, k b o (fun z => hc (by simp [z])) e⟩) (fun _ _ _ _ n => n)
    (fun b o hc e => ⟨o, k b o (fun z => hc (by simp [z])) e⟩) (fun _ _ e => e) (fun _ _ _ e => e) (fun b ps e => ⟨#[], by rw [e]; simp⟩) (fun m hm => ?_) (fun b u e => ?_) I.bare
  · have e : b = it := by simpa using hb
    subst e
    exact ⟨h1, hL, h2, h3⟩
  · obtain ⟨o, es, ep, ho, r⟩ := hm
    exact ⟨o, es, ep, k _ o (Ne.symm hL) ho, r⟩
  · refine (I.hok b u e).stay (fun c v hc q => k c v ?_ q) (fun _ q => q) fun _ _ q => q
    rcases hc with z | z
    · rw [z]; exact nit b u e
    · exact nit c _ z
theorem Inv.tok (I : Inv X pins σ H s) (t : Nat) : Inv X pins σ H { s with toks := t } := I.un (h' := s.heap) (t' := t) Un.refl I.hok
theorem Inv.kept {t' : Nat} (I : Inv X pins σ H s) (k : ∀ b u, s.heap.get? b = some u → h'.get? b = some u) : Inv X pins σ H { s with heap := h', toks := t' } := I.un (Un.kept k) (I.hok.kept k)
theorem Inv.laid {a : Addr} {o : HO} {t' : Nat} (I : Inv X pins σ H s) (k : ∀ b u, s.heap.get? b = some u → h'.get? b = some u) (hp : s.heap.objs.size ≤ a) (new : ObjOk X.prog X.w (upd H a o) h' a o) :
    Inv X pins σ (upd H a o) { s with heap := h', toks := t' } := I.un (Un.laid k hp (I.hok.fresh hp)) (I.hok.laid k hp new)
theorem Inv.write {x e : Addr} {o : HO} {t' : Nat} (I : Inv X pins σ H s) (mu : Mut (H x)) (he : e = x ∨ H e = some (.own x)) (k : ∀ b u, b ≠ e → s.heap.get? b = some u → h'.get? b = some u) (heo : ∃ u, h'.get? e = some u)
    (new : ObjOk X.prog X.w (upd H x o) h' x o) : Inv X pins σ (upd H x o) { s with heap := h', toks := t' } := I.un (Un.write mu he k heo) (I.hok.write mu he k heo new)
theorem Inv.weak {σ' : List (Option V)} (I : Inv X pins σ H s) (hl : σ'.length = σ.length) (w : ∀ (i : Nat) v, σ'[i]? = some (some v) → σ[i]? = some (some v)) : Inv X pins σ' H s :=
  ⟨I.ok, I.os, I.bare, I.base, let ⟨m, hn, hl'⟩ := I.loc; ⟨m, hn, fun i x v e1 e2 e3 => hl' i x v e1 (w i v e2) e3⟩, I.cell, I.free, I.freeC, I.pin, I.hok, hl.trans I.len⟩
theorem Inv.pins_of {pins' : List (Addr × Obj)} (I : Inv X pins σ H s) (h : ∀ p ∈ pins', s.heap.get? p.1 = some p.2 ∧ H p.1 = none ∧ p.1 ≠ X.env.locals ∧ p.1 ∉ X.fs ∧ ∀ v, p.2.data ≠ .cell v) : Inv X pins' σ H s :=
  ⟨I.ok, I.os, I.bare, I.base, I.loc, I.cell, I.free, I.freeC, fun p hp => (List.mem_append.mp hp).elim (fun z => I.pin p (List.mem_append_left _ z)) (h p), I.hok, I.len⟩
theorem nodup_ix {N : List Str} (hN : N.Nodup) {i j : Nat} {x : Str} (a : N[i]? = some x) (b : N[j]? = some x) : i = j := by
  obtain ⟨h1, e1⟩ := List.getElem?_eq_some_iff.mp a
  obtain ⟨h2, e2⟩ := List.getElem?_eq_some_iff.mp b
  exact (List.getElem_inj hN).mp (e1.trans e2.symm)
theorem store_ok2 {M : Model} {A : Around} {E : Value → Shared → Prop} {i : Nat} {x : Str} {v : V} {u : Value} {Q : Unit → Shared → Prop} (I : Inv X pins σ H s) (hN : X.N.Nodup) (hi : X.N[i]? = some x) (hx : Loc X.env.scope x) (r : RelV v u)
    (h : ∀ s', Inv X pins (σ.set i (some v)) H s' → (∃ a, Heap.SameBut a s.heap s'.heap ∧ (a = X.env.locals ∨ X.env.cells.lookup x = some a)) → Q () s') (hf : X.fn x = true ∨ X.env.scope.names.lookup x = some .local := by first | exact .inl rfl | exact .inr rfl | assumption) : wpAny M A (storeName X.env x u) Q E s := by
  obtain ⟨m, hn, hl⟩ := id I.loc
  have hcls : (X.env.scope.kind == .class || (X.env.scope.kind == .module && X.env.locals != X.env.globals)) = false := by rw [I.ok.kind]; rfl
  have hiσ : i < σ.length := by rw [I.len]; exact (List.getElem?_eq_some_iff.mp hi).1
  have cne := I.cne
  have tracked : ∀ {a : Addr} {h' : Heap}, (∃ o, s.heap.get? a = some o ∧ H a = none) → Heap.SameBut a s.heap h' → HOk X.prog X.w H h' := fun {a h'} ha hs b ob e => by
    obtain ⟨_, _, hfree⟩ := ha
    refine (I.hok b ob e).stay (fun c w' hc q => (hs.2 c ?_).trans q) (fun _ q => q) fun _ _ q => q
    rintro rfl
    rcases hc with rfl | hc
    · rw [hfree] at e; cases e
    · rw [hfree] at hc; cases hc
  rcases hx with hk | hk
  · refine wpAny_storeName_local hk hn (fun h' hn' hs => ?_) hcls
    obtain ⟨oL, _, _, hoL, _⟩ := id hn
    refine h _ ⟨I.ok, I.os, I.bare, ⟨fun b o e n hb hx => ?_, fun b o e n hb hx => ?_, I.base.free, fun b o e hx => ?_, I.base.tups, I.base.frzs, I.base.tbls⟩, ⟨_, hn', fun j y v' e1 e2 e3 => ?_⟩, fun y c e => ?_, I.free, I.freeC, fun p hp => ?_, tracked ⟨oL, hoL, I.free⟩ hs, by simpa using I.len⟩ ⟨_, hs, .inl rfl⟩
    · exact (hs.2 b (Nat.ne_of_lt (Nat.lt_of_lt_of_le (Heap.lt_size e) I.ok.above))).trans (I.base.keep b o e n hb hx)
    · obtain ⟨sl, e1⟩ := I.base.slot b o e n hb hx
      exact ⟨sl, (hs.2 b (Nat.ne_of_lt (Nat.lt_of_lt_of_le (Heap.lt_size e) I.ok.above))).trans e1⟩
    · obtain ⟨o', e1⟩ := I.base.there b o e hx
      exact ⟨o', (hs.2 b (Nat.ne_of_lt (Nat.lt_of_lt_of_le (Heap.lt_size e) I.ok.above))).trans e1⟩
    · by_cases hj : j = i
      · subst hj
        rw [hi] at e1; cases e1
        rw [List.getElem?_set_self hiσ] at e2
        cases e2
        exact ⟨u, r, .inl ⟨hk, by simp⟩⟩
      · rw [List.getElem?_set_ne (Ne.symm hj)] at e2
        obtain ⟨u', r', q⟩ := hl j y v' e1 e2 e3
        refine ⟨u', r', ?_⟩
        rcases q with ⟨k, e⟩ | ⟨k, c, e, z⟩
        · refine .inl ⟨k, ?_⟩
          have : y ≠ x := fun e => hj (nodup_ix hN e1 (e ▸ hi))
          simp [this, e]
        · exact .inr ⟨k, c, e, z.sameBut hs (cne y c e)⟩
    · obtain ⟨w', z⟩ := I.cell y c e
      exact ⟨w', z.sameBut hs (cne y c e)⟩
    · obtain ⟨e, n, ne, nf, d⟩ := I.pin p hp
      exact ⟨(hs.2 p.1 ne).trans e, n, ne, nf, d⟩
  · have hfn : X.fn x = true := by
      rcases hf with z | z
      · exact z
      · rw [z] at hk; cases hk
    obtain ⟨c, hc⟩ := I.ok.has x (.inl hk)
    obtain ⟨w', z⟩ := I.cell x c hc
    refine wpAny_storeName_cell I.ok.kind hk hc z (fun h' hc' hs => ?_)
    obtain ⟨oc, hoc, hocd⟩ := id z
    refine h { s with heap := h' } ⟨I.ok, I.os, I.bare, ⟨fun b o e n hb hx => ?_, fun b o e n hb hx => ?_, I.base.free, fun b o e hx => ?_, I.base.tups, I.base.frzs, I.base.tbls⟩, ⟨m, hn.sameBut hs (Ne.symm (cne x c hc)), fun j y v' e1 e2 e3 => ?_⟩, fun y c' e => ?_, I.free, I.freeC, fun p hp => ?_, tracked ⟨oc, hoc, I.freeC x c hc⟩ hs, by simpa using I.len⟩ ⟨c, hs, .inr hc⟩
    · exact (hs.2 b (Nat.ne_of_lt (Nat.lt_of_lt_of_le (Heap.lt_size e) (I.ok.cab x c hfn hc)))).trans (I.base.keep b o e n hb hx)
    · obtain ⟨sl, e1⟩ := I.base.slot b o e n hb hx
      exact ⟨sl, (hs.2 b (Nat.ne_of_lt (Nat.lt_of_lt_of_le (Heap.lt_size e) (I.ok.cab x c hfn hc)))).trans e1⟩
    · obtain ⟨o', e1⟩ := I.base.there b o e hx
      exact ⟨o', (hs.2 b (Nat.ne_of_lt (Nat.lt_of_lt_of_le (Heap.lt_size e) (I.ok.cab x c hfn hc)))).trans e1⟩
    · by_cases hj : j = i
      · subst hj
        rw [hi] at e1; cases e1
        rw [List.getElem?_set_self hiσ] at e2
        cases e2
        exact ⟨u, r, .inr ⟨.inl hk, c, hc, hc'⟩⟩
      · rw [List.getElem?_set_ne (Ne.symm hj)] at e2
        obtain ⟨u', r', q⟩ := hl j y v' e1 e2 e3
        refine ⟨u', r', ?_⟩
        rcases q with q | ⟨k, c', e, z'⟩
        · exact .inl q
        · refine .inr ⟨k, c', e, z'.sameBut hs ?_⟩
          rintro rfl
          exact hj (nodup_ix hN e1 (I.ok.inj _ _ _ e hc ▸ hi))
    · by_cases hcc : c' = c
      · subst hcc; exact ⟨_, hc'⟩
      · obtain ⟨w2, z2⟩ := I.cell y c' e
        exact ⟨w2, z2.sameBut hs hcc⟩
    · obtain ⟨e, n, ne, nf, d⟩ := I.pin p hp
      refine ⟨(hs.2 p.1 ?_).trans e, n, ne, nf, d⟩
      intro q
      rw [q, hoc] at e
      have q' : oc = p.2 := Option.some.inj e
      exact d w' (by rw [← q']; exact hocd)
theorem store_ok {M : Model} {A : Around} {E : Value → Shared → Prop} {i : Nat} {x : Str} {v : V} {u : Value} {Q : Unit → Shared → Prop} (I : Inv X pins σ H s) (hN : X.N.Nodup) (hi : X.N[i]? = some x) (hx : Loc X.env.scope x) (r : RelV v u)
    (h : ∀ s', Inv X pins (σ.set i (some v)) H s' → Q () s') (hf : X.fn x = true ∨ X.env.scope.names.lookup x = some .local := by first | exact .inl rfl | exact .inr rfl | assumption) : wpAny M A (storeName X.env x u) Q E s :=
  store_ok2 I hN hi hx r (fun s' I' _ => h s' I') hf
theorem Inv.call' {s' : Shared} {ch : List Addr} (I : Inv X pins σ H s) (ho : s'.os = s.os) (u : Un (frs X.stack) ch H H' s.heap s'.heap) (hok : HOk X.prog X.w H' s'.heap) (hg : AllBare s'.gens)
    (hch : ∀ b ∈ ch, (b ∈ X.ex ∨ X.s_0.heap.objs.size ≤ b) ∧ b ≠ X.env.locals ∧ (∀ x c, X.env.cells.lookup x = some c → c ≠ b) ∧ ∀ p ∈ X.pn ++ pins, p.1 ≠ b) : Inv X pins σ H' s' := by
  obtain ⟨h', g', d', t', o'⟩ := s'
  have e : o' = s.os := ho
  subst e
  exact I.call (g' := g') (t' := t') (d' := d') u hok hg hch
end
abbrev XK := Value → Option Addr → Hp → Prop
abbrev St := List (Option V)
abbrev VK := V → Hp → Prop
abbrev TE := St → Hp → VK → Prop
abbrev TT := St → Hp → (Bool → Hp → Prop) → Prop
abbrev TA := St → Hp → (List V → Hp → Prop) → Prop
structure Ends where
  nx : St → Hp → Prop
  rt : VK
  bk : St → Hp → Prop := fun _ _ => False
  ct : St → Hp → Prop := fun _ _ => False
abbrev TS := Ends → St → Hp → Prop
def EP (X : Cx) (pins : List (Addr × Obj)) (σ : St) (Q : VK) (u : Value) (s' : Shared) : Prop := ∃ v H', Inv X pins σ H' s' ∧ RelV v u ∧ Q v H'
def TP (X : Cx) (pins : List (Addr × Obj)) (σ : St) (Q : Bool → Hp → Prop) (b : Bool) (s' : Shared) : Prop := ∃ H', Inv X pins σ H' s' ∧ Q b H'
def AP (X : Cx) (pins : List (Addr × Obj)) (σ : St) (Q : List V → Hp → Prop) (us : List Value) (s' : Shared) : Prop := ∃ vs H', Inv X pins σ H' s' ∧ Vals vs us ∧ Q vs H'
def SP (X : Cx) (pins : List (Addr × Obj)) (D : Ends) (f : Flow) (s' : Shared) : Prop :=
  match f with
  | .next => ∃ σ' H', Inv X pins σ' H' s' ∧ D.nx σ' H'
  | .brk => ∃ σ' H', Inv X pins σ' H' s' ∧ D.bk σ' H'
  | .cont => ∃ σ' H', Inv X pins σ' H' s' ∧ D.ct σ' H'
  | .ret u => ∃ v σ' H', Inv X pins σ' H' s' ∧ RelV v u ∧ D.rt v H'
def PE (X : Cx) (e : Expr) (t : TE) : Prop :=
  ∀ (pins : List (Addr × Obj)) (s : Shared) (σ : St) (H : Hp) (Q : VK), Inv X pins σ H s → t σ H Q → wpAny (model X.prog X.w) X.A (eval e X.env) (EP X pins σ Q) X.xe s
def PT (X : Cx) (e : Expr) (t : TT) : Prop :=
  ∀ (pins : List (Addr × Obj)) (s : Shared) (σ : St) (H : Hp) (Q : Bool → Hp → Prop), Inv X pins σ H s → t σ H Q → wpAny (model X.prog X.w) X.A (isTrue e X.env (eval e X.env)) (TP X pins σ Q) X.xe s
def PW (X : Cx) (e : Expr) (t : TT) : Prop :=
  ∀ (whole : Sem Value) (pins : List (Addr × Obj)) (s : Shared) (σ : St) (H : Hp) (Q : Bool → Hp → Prop), Inv X pins σ H s → t σ H Q → wpAny (model X.prog X.w) X.A (isTrue e X.env whole) (TP X pins σ Q) X.xe s
theorem PW.pt {X : Cx} {e : Expr} {t : TT} (h : PW X e t) : PT X e t := h _
def PA (X : Cx) (es : List Expr) (t : TA) : Prop :=
  ∀ (pos : Pos) (pins : List (Addr × Obj)) (s : Shared) (σ : St) (H : Hp) (Q : List V → Hp → Prop), Inv X pins σ H s → t σ H Q → wpAny (model X.prog X.w) X.A (spliced (backTo pos (starEach es X.env))) (AP X pins σ Q) X.xe s
def PS (X : Cx) (st : Stmt) (t : TS) : Prop :=
  ∀ (pins : List (Addr × Obj)) (s : Shared) (σ : St) (H : Hp) (D : Ends), Inv X pins σ H s → t D σ H → wpAny (model X.prog X.w) X.A (exec st X.env) (SP X pins D) X.xe s
def PSs (X : Cx) (st : List Stmt) (t : TS) : Prop :=
  ∀ (pins : List (Addr × Obj)) (s : Shared) (σ : St) (H : Hp) (D : Ends), Inv X pins σ H s → t D σ H → wpAny (model X.prog X.w) X.A (execs st X.env) (SP X pins D) X.xe s
theorem thn {α : Type} {t : Sem α} {Q Q' : α → Shared → Prop} {M : Model} {A : Around} {E : Value → Shared → Prop} {s : Shared} (h : wpAny M A t Q E s) (hQ : ∀ a s, Q a s → Q' a s) : wpAny M A t Q' E s := wpAny_mono h hQ fun _ _ x => x
end L2
namespace L2
open PySem PySem.Spec PyProof.Rows
section
variable {X : Cx}
def tVar (i : Nat) : TE := fun σ H Q => ∃ v, σ[i]? = some (some v) ∧ Q v H
def tC (v : V) : TE := fun _ H Q => Q v H
theorem pe_var {i : Nat} {x : Str} {pos : Pos} (hN : X.N[i]? = some x) (hv : Vis X.env.scope x) (hd : (x == ("__debug__" : Str)) = false := by decide) (hcd : (x == ("__classdict__" : Str)) = false := by decide) : PE X (.Name x pos) (tVar i) := by
  intro pins s σ H Q I h
  obtain ⟨v, e, h⟩ := h
  obtain ⟨m, hn, hl⟩ := I.loc
  obtain ⟨u, r, l⟩ := hl i x v hN e hv
  have fin : EP X pins σ Q u s := ⟨v, H, I, r, h⟩
  rcases l with ⟨hk, hm⟩ | ⟨hk, c, hc, hcell⟩
  · exact wpAny_Name (wpAny_loadName_local I.ok.kind hk hn hm fin) hd
  · rcases hk with hk | hk
    · exact wpAny_Name (wpAny_loadName_cell I.ok.kind hk hc hcell fin) hd
    · exact wpAny_Name (wpAny_loadName_free I.ok.kind hk hc hcell fin hcd) hd
theorem pe_int {i j pos} : PE X (.Constant (.int i) j pos) (tC (.int i)) := fun _ _ _ H _ I h => wpAny_Constant_int ⟨.int i, H, I.tok _, ⟨_, rfl⟩, h⟩
theorem pe_bl {b j pos} : PE X (.Constant (.bool b) j pos) (tC (.bl b)) := fun _ _ _ H _ I h => Constant_bool ⟨.bl b, H, I, rfl, h⟩
theorem pe_non {j pos} : PE X (.Constant .none j pos) (tC .non) := fun _ _ _ H _ I h => Constant_none ⟨.non, H, I, rfl, h⟩
def Gl (X : Cx) (x : Str) : Prop := X.env.kindOf x = some .globalImplicit
theorem ld_glob {E : Value → Shared → Prop} {pins : List (Addr × Obj)} {s : Shared} {σ : St} {H : Hp} {x : Str} {u : Value} {pos : Pos} {Q : Value → Shared → Prop} (I : Inv X pins σ H s) (hg : Gl X x) (hm : X.mg x = some u) (h : Q u s)
    (hd : (x == ("__debug__" : Str)) = false := by decide) : wpAny (model X.prog X.w) X.A (eval (.Name x pos) X.env) Q E s :=
  Calls.Name_function_global I.ok.kind hg (Calls.loadGlobal_global (by rw [I.ok.glob]; exact I.mod.glob.keeps I.bk) hm h) hd
theorem ld_blt {E : Value → Shared → Prop} {pins : List (Addr × Obj)} {s : Shared} {σ : St} {H : Hp} {x : Str} {u : Value} {pos : Pos} {Q : Value → Shared → Prop} (I : Inv X pins σ H s) (hg : Gl X x) (hm : X.mg x = none) (hv : bootBuiltins x = some u) (h : Q u s)
    (hn : x ≠ "__name__" := by decide) (hd : (x == ("__debug__" : Str)) = false := by decide) : wpAny (model X.prog X.w) X.A (eval (.Name x pos) X.env) Q E s := by
  obtain ⟨mb, h1, h2⟩ := I.mod.blt
  exact Calls.Name_function_global I.ok.kind hg (Calls.loadGlobal_builtin (by rw [I.ok.glob]; exact I.mod.glob.keeps I.bk) hm (by rw [I.ok.blt]; exact h1.keeps I.bk) ((h2 x hn).trans hv) h) hd
theorem pe_glob {x : Str} {v : V} {u : Value} {pos : Pos} (hg : Gl X x) (hm : X.mg x = some u) (r : RelV v u) (hd : (x == ("__debug__" : Str)) = false := by decide) : PE X (.Name x pos) (tC v) :=
  fun _ _ _ H _ I h => ld_glob I hg hm ⟨v, H, I, r, h⟩ hd
variable {a b : Expr} {ta tb : TE} {pos : Pos}
def PC (X : Cx) (op : CmpOp) (a b : Expr) (t : TE) : Prop :=
  ∀ (pins : List (Addr × Obj)) (s : Shared) (σ : St) (H : Hp) (Q : VK), Inv X pins σ H s → t σ H Q →
    wpAny (model X.prog X.w) X.A (eval a X.env) (fun v s₁ => wpAny (model X.prog X.w) X.A (eval b X.env) (fun u s₂ => wpAny (model X.prog X.w) X.A (compareOp op v u) (EP X pins σ Q) X.xe s₂) X.xe s₁) X.xe s
def tB (t : TE) : TT := fun σ H Q => t σ H fun x H1 => ∃ c, x = .bl c ∧ Q c H1
theorem pe_cmp {op : CmpOp} {t : TE} (h : PC X op a b t) (h1 : behindInMarks op b = false := by first | exact nobehind _ (by decide) (by decide) | rfl) : PE X (.Compare a [op] [b] pos) t := fun pins s σ H Q I hw => wpAny_Compare1 (h pins s σ H Q I hw) h1
theorem pt_val {e : Expr} {t : TE} (h : PE X e t) (he : ∀ whole, isTrue e X.env whole = (do let v ← whole; standAt e.pos; holding [v] (truthy v)) := by intro _; rfl) : PT X e (tB t) := by
  intro pins s σ H Q I hw
  refine isTrue_plain (thn (h pins s σ H _ I hw) fun v s1 ⟨x, H1, I1, r1, q1⟩ => ?_) (he _)
  obtain ⟨d, rfl, q⟩ := q1
  cases r1
  exact wpAny_truthy_bool ⟨H1, I1, q⟩
variable {tA tB' : TT} {rest : List Expr}
def tAnd (t u : TT) : TT := fun σ H Q => t σ H fun c H1 => if c = true then u σ H1 Q else Q false H1
def tOr (t u : TT) : TT := fun σ H Q => t σ H fun c H1 => if c = true then Q true H1 else u σ H1 Q
def tNot (t : TT) : TT := fun σ H Q => t σ H fun c H1 => Q (!c) H1
theorem pw_and1 (ha : PT X a tA) : PW X (.BoolOp .And [a] pos) tA := by
  intro wh pins s σ H Q I h
  refine isTrue_and (thn (ha pins s σ H Q I h) fun c s1 e => ?_)
  cases c with
  | true => exact isTrue_and_nil e
  | false => exact e
theorem pw_or1 (ha : PT X a tA) : PW X (.BoolOp .Or [a] pos) tA := by
  intro wh pins s σ H Q I h
  refine isTrue_or (thn (ha pins s σ H Q I h) fun c s1 e => ?_)
  cases c with
  | false => exact isTrue_or_nil e
  | true => exact e
theorem pw_and (ha : PT X a tA) (hb : PW X (.BoolOp .And (b :: rest) pos) tB') : PW X (.BoolOp .And (a :: b :: rest) pos) (tAnd tA tB') := by
  intro wh pins s σ H Q I h
  refine isTrue_and (thn (ha pins s σ H _ I h) fun c s1 ⟨H1, I1, q1⟩ => ?_)
  cases c with
  | true => exact hb wh pins s1 σ H1 Q I1 q1
  | false => exact ⟨H1, I1, q1⟩
theorem pw_or (ha : PT X a tA) (hb : PW X (.BoolOp .Or (b :: rest) pos) tB') : PW X (.BoolOp .Or (a :: b :: rest) pos) (tOr tA tB') := by
  intro wh pins s σ H Q I h
  refine isTrue_or (thn (ha pins s σ H _ I h) fun c s1 ⟨H1, I1, q1⟩ => ?_)
  cases c with
  | true => exact ⟨H1, I1, q1⟩
  | false => exact hb wh pins s1 σ H1 Q I1 q1
theorem pt_not (ha : PT X a tA) : PT X (.UnaryOp .Not a pos) (tNot tA) := by
  intro pins s σ H Q I h
  exact isTrue_not (ha pins s σ H (fun c H1 => Q (!c) H1) I h)
def tAndV (ta tb : TE) : TE := fun σ H Q => ta σ H fun x H1 => ∃ c, x = .bl c ∧ if c = true then tb σ H1 Q else Q (.bl false) H1
def tNotV (ta : TE) : TE := fun σ H Q => ta σ H fun x H1 => ∃ c, x = .bl c ∧ Q (.bl (!c)) H1
theorem pe_one {op} {t : TE} (h : PE X a t) : PE X (.BoolOp op [a] pos) t := fun pins s σ H Q I hw => BoolOp_one (h pins s σ H Q I hw)
theorem pe_and (ha : PE X a ta) (hb : PE X (.BoolOp .And (b :: rest) pos) tb) : PE X (.BoolOp .And (a :: b :: rest) pos) (tAndV ta tb) := by
  intro pins s σ H Q I h
  refine BoolOp_and (thn (ha pins s σ H _ I h) fun v s1 ⟨x, H1, I1, r1, q1⟩ => ?_)
  obtain ⟨c, rfl, q1⟩ := q1
  cases r1
  refine wpAny_truthy_bool ?_
  cases c with
  | true => exact hb pins s1 σ H1 Q I1 q1
  | false => exact ⟨.bl false, H1, I1, rfl, q1⟩
theorem pe_not (ha : PE X a ta) : PE X (.UnaryOp .Not a pos) (tNotV ta) := by
  intro pins s σ H Q I h
  refine UnaryOp_ (thn (ha pins s σ H _ I h) fun v s1 ⟨x, H1, I1, r1, q1⟩ => ?_)
  obtain ⟨c, rfl, q1⟩ := q1
  cases r1
  exact not_of (wpAny_truthy_bool ⟨.bl (!c), H1, I1, rfl, q1⟩)
def tIf (t : TT) (ta tb : TE) : TE := fun σ H Q => t σ H fun c H1 => if c = true then ta σ H1 Q else tb σ H1 Q
theorem pe_ifExp {c : Expr} (hc : PT X c tA) (ha : PE X a ta) (hb : PE X b tb) : PE X (.IfExp c a b pos) (tIf tA ta tb) := by
  intro pins s σ H Q I h
  refine wpAny_IfExp (thn (hc pins s σ H _ I h) fun d s1 ⟨H1, I1, q1⟩ => ?_)
  cases d with
  | true => exact ha pins s1 σ H1 Q I1 q1
  | false => exact hb pins s1 σ H1 Q I1 q1
end
end L2
namespace L2
open PySem PySem.Spec PyProof.Rows
def SqL (K : PySem.W.Frag) (H : Hp) (a : Addr) (xs : List V) : Prop :=
  Rd H a (.lst xs) ∨
    ∃ (o : Obj) (its : Array Value) (n : Nat), K.lookup a = some o ∧ o.cls = .type "list" ∧ o.dict = none ∧ o.data = .seq its n ∧ its.size ≤ sizeLine ∧ Vals xs its.toList
def SqT (K : PySem.W.Frag) (H : Hp) (a : Addr) (xs : List V) : Prop :=
  Rd H a (.tup xs) ∨
    ∃ (o : Obj) (its : Array Value) (n : Nat), K.lookup a = some o ∧ o.cls = .type "tuple" ∧ o.data = .seq its n ∧ its.size ≤ sizeLine ∧ Vals xs its.toList
def absV : Value → Option V
  | .none => some .non
  | .bool b => some (.bl b)
  | .int i _ => some (.int i)
  | .str x _ => some (.str x)
  | .bytes b _ => some (.byt b)
  | .float b _ => some (.flt b)
  | .ref a => some (.ref a)
  | .type n => some (.ty n)
  | _ => none
theorem RelV.abs {x : V} {u : Value} (r : RelV x u) : absV u = some x := by
  cases x with
  | non => cases r; rfl
  | bl _ => cases r; rfl
  | int _ => obtain ⟨t, rfl⟩ := r; rfl
  | str _ => obtain ⟨t, rfl⟩ := r; rfl
  | byt _ => obtain ⟨t, rfl⟩ := r; rfl
  | flt _ => obtain ⟨t, rfl⟩ := r; rfl
  | ref _ => cases r; rfl
  | ty _ => cases r; rfl
theorem RelV.inj {x y : V} {u : Value} (r : RelV x u) (q : RelV y u) : x = y := Option.some.inj (r.abs.symm.trans q.abs)
theorem Vals.inj : ∀ {xs ys : List V} {us : List Value}, Vals xs us → Vals ys us → xs = ys
  | _, _, _, .nil, .nil => rfl
  | _, _, _, .cons r t, .cons r' t' => by rw [r.inj r', Vals.inj t t']
section
variable {X : Cx} {pins : List (Addr × Obj)} {σ : St} {H : Hp} {s : Shared} {a : Addr} {xs ys : List V}
theorem SqL.of {K : PySem.W.Frag} (h : H a = some (.lst xs)) : SqL K H a xs := .inl (.inl h)
theorem SqT.of {K : PySem.W.Frag} (h : H a = some (.tup xs)) : SqT K H a xs := .inl (.inl h)
theorem Inv.list (I : Inv X pins σ H s) (h : SqL X.K H a xs) : ∃ its : List Value, Vals xs its ∧ PlainL s.heap a its.toArray ∧ xs.length ≤ sizeLine := by
  rcases h with h | ⟨o, its, n, hk, hc, hd, hs, hz, r⟩
  · obtain ⟨z, its, n, r, e⟩ := h.ok I.hok
    exact ⟨its, r, ⟨_, n, e, rfl, rfl, rfl⟩, z⟩
  · refine ⟨its.toList, r, ⟨o, n, I.kIn a o hk, hc, hd, by simpa using hs⟩, ?_⟩
    have e := r.length
    simp only [Array.length_toList] at e
    omega
theorem Inv.tuple (I : Inv X pins σ H s) (h : SqT X.K H a xs) : ∃ its : List Value, Vals xs its ∧ IsTup s.heap a its.toArray ∧ xs.length ≤ sizeLine := by
  rcases h with h | ⟨o, its, n, hk, hc, hs, hz, r⟩
  · obtain ⟨z, its, r, p⟩ := h.ok I.hok
    exact ⟨its, r, p, z⟩
  · refine ⟨its.toList, r, ⟨o, I.kIn a o hk, hc, n, by simpa using hs⟩, ?_⟩
    have e := r.length
    simp only [Array.length_toList] at e
    omega
theorem Inv.list_inj (I : Inv X pins σ H s) (h : SqL X.K H a xs) (h' : SqL X.K H a ys) : xs = ys := by
  obtain ⟨its, r, ⟨o, n, e, _, _, d⟩, _⟩ := I.list h
  obtain ⟨its', r', ⟨o', n', e', _, _, d'⟩, _⟩ := I.list h'
  rw [e] at e'; cases e'
  rw [d] at d'
  injection d' with d1 _
  have : its = its' := by simpa using congrArg Array.toList d1
  subst this
  exact r.inj r'
theorem Inv.tuple_inj (I : Inv X pins σ H s) (h : SqT X.K H a xs) (h' : SqT X.K H a ys) : xs = ys := by
  obtain ⟨its, r, ⟨o, e, _, n, d⟩, _⟩ := I.tuple h
  obtain ⟨its', r', ⟨o', e', _, n', d'⟩, _⟩ := I.tuple h'
  rw [e] at e'; cases e'
  rw [d] at d'
  injection d' with d1 _
  have : its = its' := by simpa using congrArg Array.toList d1
  subst this
  exact r.inj r'
end
abbrev Cx.wish (X : Cx) (E : Value → Shared → Prop) : Cx := { X with xe := E }
abbrev Cx.nox (X : Cx) : Cx := X.wish fun _ _ => False
theorem Cx.Ok.wish {X : Cx} (ok : X.Ok) (E : Value → Shared → Prop) : (X.wish E).Ok :=
  ⟨ok.mod, ok.kind, ok.glob, ok.blt, ok.above, ok.inj, ok.has, ok.cab, ok.hd, ok.frames, ok.stk, ok.exf, ok.bs, ok.bsz, ok.noex, ok.exfs, ok.funs, ok.frf⟩
theorem Cx.Ok.unwish {X : Cx} {E : Value → Shared → Prop} (ok : (X.wish E).Ok) : X.Ok :=
  ⟨ok.mod, ok.kind, ok.glob, ok.blt, ok.above, ok.inj, ok.has, ok.cab, ok.hd, ok.frames, ok.stk, ok.exf, ok.bs, ok.bsz, ok.noex, ok.exfs, ok.funs, ok.frf⟩
section
variable {X : Cx} {pins : List (Addr × Obj)} {σ : St} {H : Hp} {s : Shared} {E : Value → Shared → Prop}
theorem Inv.wish (I : Inv X pins σ H s) (E : Value → Shared → Prop) : Inv (X.wish E) pins σ H s := ⟨I.ok.wish E, I.os, I.bare, I.base, I.loc, I.cell, I.free, I.freeC, I.pin, I.hok, I.len⟩
theorem Inv.unwish (I : Inv (X.wish E) pins σ H s) : Inv X pins σ H s := ⟨I.ok.unwish, I.os, I.bare, I.base, I.loc, I.cell, I.free, I.freeC, I.pin, I.hok, I.len⟩
theorem SP.unwish {D : Ends} {f : Flow} {s' : Shared} (h : SP (X.wish E) pins D f s') : SP X pins D f s' := by
  cases f with
  | next => obtain ⟨σ', H', I, q⟩ := h; exact ⟨σ', H', I.unwish, q⟩
  | brk => obtain ⟨σ', H', I, q⟩ := h; exact ⟨σ', H', I.unwish, q⟩
  | cont => obtain ⟨σ', H', I, q⟩ := h; exact ⟨σ', H', I.unwish, q⟩
  | ret u => obtain ⟨v, σ', H', I, r, q⟩ := h; exact ⟨v, σ', H', I.unwish, r, q⟩
theorem PSs.nox {st : List Stmt} {t : TS} (h : PSs X.nox st t) : PSs X st t := fun pins s σ H D I hw =>
  wpAny_mono (h pins s σ H D (I.wish _) hw) (fun _ _ q => q.unwish) fun _ _ z => False.elim z
end
section
variable {X : Cx} {st : Stmt} {rest : List Stmt} {t u : TS} {e : Expr} {te : TE} {pos : Pos}
def tNext : TS := fun D σ H => D.nx σ H
def tSeq (t u : TS) : TS := fun D σ H => t { D with nx := u D } σ H
theorem pss_nil : PSs X [] tNext := fun _ _ σ H _ I h => wpAny_execs_nil ⟨σ, H, I, h⟩
theorem pss_cons (h1 : PS X st t) (h2 : PSs X rest u) : PSs X (st :: rest) (tSeq t u) := by
  intro pins s σ H D I h
  refine wpAny_execs_cons (thn (h1 pins s σ H { D with nx := u D } I h) fun f s1 q => ?_)
  cases f with
  | next =>
    obtain ⟨σ', H', I', q⟩ := q
    exact h2 pins s1 σ' H' D I' q
  | ret v => exact q
  | brk => exact q
  | cont => exact q
theorem pss_one (h1 : PS X st t) : PSs X [st] t := by
  intro pins s σ H D I h
  refine wpAny_execs_cons (thn (h1 pins s σ H D I h) fun f s1 q => ?_)
  cases f with
  | next => exact wpAny_execs_nil q
  | ret v => exact q
  | brk => exact q
  | cont => exact q
theorem Inv.quiet {pins : List (Addr × Obj)} {σ : St} {H : Hp} {s : Shared} (I : Inv X pins σ H s) : interactive X.env = false := by simp [interactive, I.ok.kind]
def tDrop (te : TE) : TS := fun D σ H => te σ H fun _ H1 => D.nx σ H1
theorem ps_expr (he : PE X e te) (hs : swapsWith e none pos.line X.env = pure false := by rfl) : PS X (.Expr e pos) (tDrop te) := by
  intro pins s σ H D I h
  exact wpAny_Expr_any (thn (he pins s σ H _ I h) fun v s1 ⟨x, H1, I1, r1, q1⟩ => ⟨σ, H1, I1, q1⟩) I.quiet hs
def tRet (te : TE) : TS := fun D σ H => te σ H D.rt
theorem ps_ret (he : PE X e te) : PS X (.Return (some e) pos) (tRet te) := by
  intro pins s σ H D I h
  exact wpAny_Return_some (thn (he pins s σ H _ I h) fun v s1 ⟨x, H1, I1, r1, q1⟩ => ⟨x, σ, H1, I1, r1, q1⟩)
def tIfS (c : TT) (t u : TS) : TS := fun D σ H => c σ H fun b H1 => if b = true then t D σ H1 else u D σ H1
theorem ps_if {c : Expr} {a b : List Stmt} {tc : TT} (hc : PT X c tc) (ha : PSs X a t) (hb : PSs X b u) : PS X (.If c a b pos) (tIfS tc t u) := by
  intro pins s σ H D I h
  refine wpAny_If (thn (hc pins s σ H _ I h) fun d s1 ⟨H1, I1, q1⟩ => ?_)
  cases d with
  | true => exact ha pins s1 σ H1 D I1 q1
  | false => exact hb pins s1 σ H1 D I1 q1
end
abbrev TG := V → St → Hp → (St → Hp → Prop) → Prop
abbrev TGs := List V → St → Hp → (St → Hp → Prop) → Prop
def PG (X : Cx) (target : Expr) (t : TG) : Prop :=
  ∀ (pins : List (Addr × Obj)) (s : Shared) (σ : St) (H : Hp) (v : V) (u : Value) (Q : St → Hp → Prop), Inv X pins σ H s → RelV v u → t v σ H Q →
    wpAny (model X.prog X.w) X.A (assign target X.env u) (fun _ s' => ∃ σ' H', Inv X pins σ' H' s' ∧ Q σ' H') X.xe s
def PGs (X : Cx) (ts : List Expr) (t : TGs) : Prop :=
  ∀ (pins : List (Addr × Obj)) (s : Shared) (σ : St) (H : Hp) (vs : List V) (us : List Value) (Q : St → Hp → Prop), Inv X pins σ H s → Vals vs us → t vs σ H Q →
    wpAny (model X.prog X.w) X.A (assignInOrder ((assignEach ts X.env).map (·.2)) us) (fun _ s' => ∃ σ' H', Inv X pins σ' H' s' ∧ Q σ' H') X.xe s
abbrev TSet := V → V → V → Hp → (Hp → Prop) → Prop
def PSet (X : Cx) (t : TSet) : Prop :=
  ∀ (pins : List (Addr × Obj)) (s : Shared) (σ : St) (H : Hp) (o i v : V) (ov iv u : Value) (Q : Hp → Prop), Inv X pins σ H s → RelV o ov → RelV i iv → RelV v u → t o i v H Q →
    wpAny (model X.prog X.w) X.A (setItem ov iv u) (fun _ s' => ∃ H', Inv X pins σ H' s' ∧ Q H') X.xe s
abbrev TIp := V → V → Hp → VK → Prop
def PIp (X : Cx) (op : Operator) (t : TIp) : Prop :=
  ∀ (pins : List (Addr × Obj)) (s : Shared) (σ : St) (H : Hp) (x y : V) (v u : Value) (Q : VK), Inv X pins σ H s → RelV x v → RelV y u → t x y H Q →
    wpAny (model X.prog X.w) X.A (inplaceOp op v u) (EP X pins σ Q) X.xe s
section
variable {X : Cx} {pos : Pos}
def gName (i : Nat) : TG := fun v σ H Q => Q (σ.set i (some v)) H
theorem pg_name {i : Nat} {x : Str} (hN : X.N.Nodup) (hi : X.N[i]? = some x) (hx : Loc X.env.scope x) (hf : X.fn x = true ∨ X.env.scope.names.lookup x = some .local := by first | exact .inl rfl | exact .inr rfl | assumption) : PG X (.Name x pos) (gName i) := by
  intro pins s σ H v u Q I r h
  exact wpAny_assign_Name (store_ok I hN hi hx r (fun s' I' => ⟨_, H, I', h⟩) hf)
def gNil : TGs := fun vs σ H Q => vs = [] ∧ Q σ H
def gCons (t : TG) (u : TGs) : TGs := fun vs σ H Q => ∃ v r, vs = v :: r ∧ t v σ H fun σ' H' => u r σ' H' Q
theorem pgs_nil : PGs X [] gNil := by
  intro pins s σ H vs us Q I r h
  obtain ⟨e, h⟩ := h
  subst e
  cases r
  exact assignInOrder_nil ⟨σ, H, I, h⟩
theorem pgs_cons {e : Expr} {es : List Expr} {t : TG} {u : TGs} (h1 : PG X e t) (h2 : PGs X es u)
    (hs : (assignEach (e :: es) X.env).map (·.2) = assign e X.env :: (assignEach es X.env).map (·.2) := by rfl) : PGs X (e :: es) (gCons t u) := by
  intro pins s σ H vs us Q I r h
  obtain ⟨v, vr, e1, h⟩ := h
  subst e1
  cases r with
  | cons r rr =>
    rw [hs]
    refine assignInOrder_cons (thn (h1 pins s σ H _ _ _ I r h) fun _ s1 ⟨σ1, H1, I1, q1⟩ => ?_)
    exact h2 pins s1 σ1 H1 _ _ Q I1 rr q1
def gTup (K : PySem.W.Frag) (n : Nat) (t : TGs) : TG := fun v σ H Q => ∃ a xs, v = .ref a ∧ SqT K H a xs ∧ xs.length = n ∧ t xs σ H Q
theorem pg_tup {es : List Expr} {k : Nat} {t : TGs} {n : Nat} (hc : X.calm = true) (h : PGs X es t)
    (hn : (assignEach es X.env).length = n := by rfl) (hst : (assignEach es X.env).findIdx? (·.1) = none := by rfl) : PG X (.Tuple es k pos) (gTup X.K n t) := by
  intro pins s σ H v u Q I r hw
  obtain ⟨a, xs, e1, hq, hl, hw⟩ := hw
  subst e1
  cases r
  obtain ⟨its, rv, ht, hz⟩ := I.tuple hq
  refine assign_Tuple_tuple (I.ok.hd hc) ht (by simp [hn, ← hl, rv.length]) hst fun h' hx => ?_
  have I1 : Inv X pins σ H { s with heap := h' } := I.kept (t' := s.toks) fun b o e => hx b o (Nat.ne_of_lt (Heap.lt_size e)) e
  exact h pins _ σ H xs _ Q I1 (by simpa using rv) hw
def gSub (to ti : TE) (t : TSet) : TG := fun v σ H Q => to σ H fun o H1 => ti σ H1 fun i H2 => t o i v H2 fun H3 => Q σ H3
theorem pg_sub {o i : Expr} {to ti : TE} {t : TSet} (ho : PE X o to) (hi : PE X i ti) (hs : PSet X t)
    (ha : ∀ v, assign (.Subscript o i pos) X.env v = (do
      let ov ← holding [v] (eval o X.env)
      let iv ← holding [v, ov] (eval i X.env)
      standAt pos
      holding [v, ov, iv] (setItem ov iv v)
      release [v, ov, iv] []) := by intro _; rfl) : PG X (.Subscript o i pos) (gSub to ti t) := by
  intro pins s σ H v u Q I r h
  rw [ha]
  refine wpAny_bind (wpAny_holding (thn (ho pins s σ H _ I h) fun ov s1 ⟨x, H1, I1, r1, q1⟩ => ?_))
  refine wpAny_bind (wpAny_holding (thn (hi pins s1 σ H1 _ I1 q1) fun iv s2 ⟨y, H2, I2, r2, q2⟩ => ?_))
  refine wpAny_bind (wpAny_standAt (wpAny_bind (wpAny_holding (thn (hs pins s2 σ H2 x y v ov iv u _ I2 r1 r2 r q2) fun _ s3 ⟨H3, I3, q3⟩ => ?_))))
  exact wpAny_release ⟨σ, H3, I3, q3⟩
def tAsg (te : TE) (g : TG) : TS := fun D σ H => te σ H fun x H1 => g x σ H1 D.nx
theorem ps_asg {tg e : Expr} {te : TE} {g : TG} (he : PE X e te) (hg : PG X tg g) (hs : swapsWithSole [tg] e pos.line X.env = pure false := by rfl) (hw : swappedStores [tg] e X.env = pure none := by rfl)
    (h1 : (assignEach [tg] X.env).map (·.2) = [assign tg X.env] := by rfl) : PS X (.Assign [tg] e pos) (tAsg te g) := by
  intro pins s σ H D I h
  refine wpAny_Assign_stores (thn (he pins s σ H _ I h) fun v s1 ⟨x, H1, I1, r1, q1⟩ => ?_) hs hw
  rw [h1]
  exact thn (hg pins s1 σ H1 x v _ I1 r1 q1) fun _ s2 q => q
theorem ps_set {i : Nat} {x : Str} {e : Expr} {te : TE} {pos' : Pos} (hN : X.N.Nodup) (hi : X.N[i]? = some x) (hx : Loc X.env.scope x) (he : PE X e te) (hs : swapsWith e (some (.Name x pos')) pos.line X.env = pure false := by rfl) (hf : X.fn x = true ∨ X.env.scope.names.lookup x = some .local := by first | exact .inl rfl | exact .inr rfl | assumption) :
    PS X (.Assign [.Name x pos'] e pos) (tAsg te (gName i)) := by
  intro pins s σ H D I h
  refine wpAny_Assign_Name (thn (he pins s σ H _ I h) fun v s1 ⟨y, H1, I1, r1, q1⟩ => ?_) hs
  exact store_ok I1 hN hi hx r1 (fun s2 I2 => ⟨_, H1, I2, q1⟩) hf
def tAug (i : Nat) (te : TE) (ti : TIp) : TS := fun D σ H => ∃ x, σ[i]? = some (some x) ∧ te σ H fun y H1 => ti x y H1 fun z H2 => D.nx (σ.set i (some z)) H2
theorem ps_aug {i : Nat} {x : Str} {e : Expr} {te : TE} {op : Operator} {ti : TIp} {pos' : Pos} (hN : X.N.Nodup) (hi : X.N[i]? = some x) (hx : Loc X.env.scope x) (he : PE X e te) (ho : PIp X op ti) (hf : X.fn x = true ∨ X.env.scope.names.lookup x = some .local := by first | exact .inl rfl | exact .inr rfl | assumption) :
    PS X (.AugAssign (.Name x pos') op e pos) (tAug i te ti) := by
  intro pins s σ H D I h
  obtain ⟨v, e1, h⟩ := h
  obtain ⟨m, hn, hl⟩ := I.loc
  have vis : Vis X.env.scope x := by rcases hx with k | k; exact .inl k; exact .inr (.inl k)
  obtain ⟨u, r, l⟩ := hl i x v hi e1 vis
  refine wpAny_AugAssign_Name ?_
  have go : wpAny (model X.prog X.w) X.A (eval e X.env) (fun w s₂ => wpAny (model X.prog X.w) X.A (inplaceOp op u w) (fun r s₃ => wpAny (model X.prog X.w) X.A (storeName X.env x r) (fun _ => SP X pins D .next) X.xe s₃) X.xe s₂) X.xe s := by
    refine thn (he pins s σ H _ I h) fun w s1 ⟨y, H1, I1, r1, q1⟩ => ?_
    refine thn (ho pins s1 σ H1 v y u w _ I1 r r1 q1) fun z s2 ⟨zv, H2, I2, r2, q2⟩ => ?_
    exact store_ok I2 hN hi hx r2 (fun s3 I3 => ⟨_, H2, I3, q2⟩) hf
  rcases l with ⟨hk, hm⟩ | ⟨hk, c, hc, hcell⟩
  · exact wpAny_loadName_local I.ok.kind hk hn hm go
  · rcases hk with hk | hk
    · exact wpAny_loadName_cell I.ok.kind hk hc hcell go
    · rcases hx with k | k
      · have : X.env.scope.names.lookup x = some .free := hk
        rw [k] at this; cases this
      · have : X.env.scope.names.lookup x = some .free := hk
        rw [k] at this; cases this
def tAugS (to ti te : TE) (tget : V → V → Hp → VK → Prop) (tip : TIp) (tset : TSet) : TS := fun D σ H => to σ H fun o H1 => ti σ H1 fun i H2 => tget o i H2 fun x H3 => te σ H3 fun y H4 => tip x y H4 fun z H5 => tset o i z H5 fun H6 => D.nx σ H6
def PGet (X : Cx) (t : V → V → Hp → VK → Prop) : Prop :=
  ∀ (pins : List (Addr × Obj)) (s : Shared) (σ : St) (H : Hp) (o i : V) (ov iv : Value) (Q : VK), Inv X pins σ H s → RelV o ov → RelV i iv → t o i H Q →
    wpAny (model X.prog X.w) X.A (getItem ov iv) (EP X pins σ Q) X.xe s
theorem ps_augS {o i e : Expr} {to ti te : TE} {tget : V → V → Hp → VK → Prop} {tip : TIp} {tset : TSet} {op : Operator} {tpos : Pos} (ho : PE X o to) (hi : PE X i ti) (hg : PGet X tget) (he : PE X e te) (hp : PIp X op tip) (hs : PSet X tset)
    (ha : ∀ ov iv new, augStore i ov iv new = (do holding [new, ov, iv] (setItem ov iv new); release [new, ov, iv] []; pure .next) := by intros; rfl) : PS X (.AugAssign (.Subscript o i tpos) op e pos) (tAugS to ti te tget tip tset) := by
  intro pins s σ H D I h
  refine wpAny_AugAssign_SubscriptAny (thn (ho pins s σ H _ I h) fun ov s1 ⟨x1, H1, I1, r1, q1⟩ => ?_) ha
  refine thn (hi pins s1 σ H1 _ I1 q1) fun iv s2 ⟨x2, H2, I2, r2, q2⟩ => ?_
  refine thn (hg pins s2 σ H2 x1 x2 ov iv _ I2 r1 r2 q2) fun old s3 ⟨x3, H3, I3, r3, q3⟩ => ?_
  refine thn (he pins s3 σ H3 _ I3 q3) fun v s4 ⟨x4, H4, I4, r4, q4⟩ => ?_
  refine thn (hp pins s4 σ H4 x3 x4 old v _ I4 r3 r4 q4) fun new s5 ⟨x5, H5, I5, r5, q5⟩ => ?_
  exact thn (hs pins s5 σ H5 x1 x2 x5 ov iv new _ I5 r1 r2 r5 q5) fun _ s6 ⟨H6, I6, q6⟩ => ⟨σ, H6, I6, q6⟩
def ipI (f : Int → Int → Int) : TIp := fun x y H Q => ∃ i j, x = .int i ∧ y = .int j ∧ Q (.int (f i j)) H
theorem ip_add : PIp X .Add (ipI fun i j => i + j) := by
  intro pins s σ H x y v u Q I r1 r2 h
  obtain ⟨i, j, e1, e2, q⟩ := h
  subst e1; subst e2
  obtain ⟨t, rfl⟩ := r1
  obtain ⟨t', rfl⟩ := r2
  exact iadd_int ⟨.int _, H, I.tok _, ⟨_, rfl⟩, q⟩
theorem ip_sub : PIp X .Sub (ipI fun i j => i - j) := by
  intro pins s σ H x y v u Q I r1 r2 h
  obtain ⟨i, j, e1, e2, q⟩ := h
  subst e1; subst e2
  obtain ⟨t, rfl⟩ := r1
  obtain ⟨t', rfl⟩ := r2
  exact isub_int ⟨.int _, H, I.tok _, ⟨_, rfl⟩, q⟩
end
section
variable {X : Cx} {pos : Pos}
def tWhile (c : TT) (tb : TS) : TS := fun D σ H => ∃ W : Nat → St → Hp → Prop, (∃ m, W m σ H) ∧ ∀ m σ H, W m σ H →
  c σ H fun b H1 => if b = true then ∃ N : St → Hp → Prop, (∀ σ' H', N σ' H' → ∃ m', m' < m ∧ W m' σ' H') ∧ tb { D with nx := N, ct := N, bk := D.nx } σ H1 else D.nx σ H1
theorem ps_while {c : Expr} {body : List Stmt} {tc : TT} {tb : TS} (hp : PassesOwn (model X.prog X.w) X.A X.env X.xe) (hc : PT X c tc) (hb : PSs X body tb) : PS X (.While c body [] pos) (tWhile tc tb) := by
  intro pins s σ H D I h
  obtain ⟨W, ⟨m0, w0⟩, turn⟩ := h
  refine wpAny_While (codeAny_whileLoop (fun n s' => ∃ σ' H', Inv X pins σ' H' s' ∧ W n σ' H') ?_ m0 ⟨σ, H, I, w0⟩)
  rintro n s1 ⟨σ1, H1, I1, w1⟩
  refine wpAny_passesOwn hp (thn (hc pins s1 σ1 H1 _ I1 (turn n σ1 H1 w1)) fun b s2 ⟨H2, I2, q2⟩ => ?_)
  cases b with
  | true =>
    obtain ⟨N, hN, q2⟩ := q2
    rw [if_pos rfl]
    refine wpAny_passesOwn hp (thn (hb pins s2 σ1 H2 _ I2 q2) fun f s3 q3 => ?_)
    cases f with
    | next =>
      obtain ⟨σ3, H3, I3, n3⟩ := q3
      obtain ⟨m', hm, w3⟩ := hN σ3 H3 n3
      exact ⟨m', hm, σ3, H3, I3, w3⟩
    | cont =>
      obtain ⟨σ3, H3, I3, n3⟩ := q3
      obtain ⟨m', hm, w3⟩ := hN σ3 H3 n3
      exact ⟨m', hm, σ3, H3, I3, w3⟩
    | brk => exact q3
    | ret v => exact q3
  | false =>
    rw [if_neg Bool.false_ne_true]
    exact wpAny_execs_nil ⟨σ1, H2, I2, q2⟩
end
structure It where
  go : Nat → Hp → Prop
  yld : Nat → Hp → V → Hp → Prop
  stop : Nat → Hp → Prop
def FpOk (X : Cx) (pins : List (Addr × Obj)) (H : Hp) (b : Addr) : Prop :=
  H b = none ∧ b ≠ X.env.locals ∧ b ∉ X.fs ∧ (b ∈ X.ex ∨ X.s_0.heap.objs.size ≤ b) ∧ (∀ x c, X.env.cells.lookup x = some c → c ≠ b) ∧ ∀ p ∈ X.pn ++ pins, p.1 ≠ b
theorem Inv.fpOk {X : Cx} {pins : List (Addr × Obj)} {σ : St} {H H' : Hp} {s : Shared} {b : Addr} (I : Inv X pins σ H s) (hb : s.heap.objs.size ≤ b) (hn : H' b = none) : FpOk X pins H' b := by
  refine ⟨hn, Nat.ne_of_gt (Nat.lt_of_lt_of_le I.lt hb), I.nofs hb, .inr (Nat.le_trans I.sz hb), fun x c e z => ?_, fun p hp z => ?_⟩
  · obtain ⟨v, q⟩ := I.cell x c e
    exact absurd (Nat.lt_of_lt_of_le q.lt (by rw [z]; exact hb)) (Nat.lt_irrefl _)
  · exact absurd (Nat.lt_of_lt_of_le (Heap.lt_size (I.pin p hp).1) (by rw [z]; exact hb)) (Nat.lt_irrefl _)
structure Turn (P : Program) (w : World) (K : PySem.W.Frag) (tg : Expr) (J : It) (fp : List Addr) (it : Addr) (tn : Nat → Heap → Prop) : Prop where
  mem : it ∈ fp
  obj : ∀ i h, tn i h → ∀ b ∈ fp, ∃ o, h.get? b = some o ∧ ∀ v, o.data ≠ .cell v
  keep : ∀ i h h', tn i h → (∀ b ∈ fp, ∀ o, h.get? b = some o → h'.get? b = some o) → tn i h'
  item : ∀ (X : Cx), X.prog = P → X.w = w → X.K = K → X.calm = true → ∀ (i : Nat) (pins : List (Addr × Obj)) (s : Shared) (σ : St) (H : Hp) (E : Value → Shared → Prop), Inv X pins σ H s → (∀ b ∈ fp, FpOk X pins H b) → tn i s.heap → J.go i H →
    wpAny (model P w) X.A (pyNext (.ref it)) (fun r s1 => ∃ u, r = some u ∧
      wpAny (model P w) X.A (letOwnedTupleGo tg (.ref it) u) (fun _ s2 => ∃ x H', Inv X pins σ H' s2 ∧ RelV x u ∧ J.yld i H x H' ∧ tn (i + 1) s2.heap ∧ ∀ b ∈ fp, H' b = none) E s1) E s
  done : ∀ (X : Cx), X.prog = P → X.w = w → X.K = K → X.calm = true → ∀ (i : Nat) (pins : List (Addr × Obj)) (s : Shared) (σ : St) (H : Hp) (E : Value → Shared → Prop), Inv X pins σ H s → (∀ b ∈ fp, FpOk X pins H b) → tn i s.heap → J.stop i H →
    wpAny (model P w) X.A (pyNext (.ref it)) (fun r s1 => r = none ∧ Inv X pins σ H s1) E s
  self : ∀ (A : Around) (i : Nat) (s : Shared) (Q : Value → Shared → Prop) (E : Value → Shared → Prop), tn i s.heap → Q (.ref it) s → wpAny (model P w) A (pyIter (.ref it)) Q E s
abbrev TI := St → Hp → (It → Hp → Prop) → Prop
def PIE (X : Cx) (pins : List (Addr × Obj)) (σ : St) (tg : Expr) (R : It → Hp → Prop) (itv : Value) (s2 : Shared) : Prop :=
  ∃ (it : Addr) (fp : List Addr) (tn : Nat → Heap → Prop) (J : It) (H' : Hp), itv = .ref it ∧ Inv X pins σ H' s2 ∧ Turn X.prog X.w X.K tg J fp it tn ∧ tn 0 s2.heap ∧ (∀ b ∈ fp, FpOk X pins H' b) ∧ R J H'
def PI (X : Cx) (tg iter : Expr) (wi : TI) : Prop :=
  ∀ (pins : List (Addr × Obj)) (s : Shared) (σ : St) (H : Hp) (R : It → Hp → Prop), Inv X pins σ H s → wi σ H R →
    wpAny (model X.prog X.w) X.A (eval iter X.env) (fun v s1 => wpAny (model X.prog X.w) X.A (pyIter v) (PIE X pins σ tg R) X.xe s1) X.xe s
theorem go_of {M : Model} {A : Around} {E : Value → Shared → Prop} {s : Shared} {tg : Expr} {it : Addr} {u : Value} {o : Obj} {n : String} {vs : Array Value} {Q : Unit → Shared → Prop} (ho : s.heap.get? it = some o) (hc : o.cls = .type n) (hd : o.data = .fields vs)
    (hn : ["enumerate", "zip", "dict_itemiterator", "dict_reverseitemiterator", "odict_iterator", "itertools.zip_longest", "itertools.pairwise"].contains n = false) (hQ : Q () s) : wpAny M A (letOwnedTupleGo tg (.ref it) u) Q E s := by
  unfold letOwnedTupleGo
  cases tg <;> first
    | exact wpAny_pure hQ
    | (cases u <;> first
        | exact wpAny_pure hQ
        | (refine wpAny_bind (wpAny_load ho ?_)
           rw [hc, hd]
           show wpAny M A (if (["enumerate", "zip", "dict_itemiterator", "dict_reverseitemiterator", "odict_iterator", "itertools.zip_longest", "itertools.pairwise"].contains n && vs[0]? == some (rawInt _)) = true then _ else _) Q E s
           rw [if_neg (by intro h; rw [hn, Bool.false_and] at h; cases h)]
           exact wpAny_pure hQ))
def Itl (K : PySem.W.Frag) (a : Addr) : It :=
  ⟨fun i H => ∃ xs x, SqL K H a xs ∧ xs[i]? = some x, fun i H x H' => H' = H ∧ ∀ xs, SqL K H a xs → xs[i]? = some x, fun i H => ∃ xs, SqL K H a xs ∧ xs.length ≤ i⟩
def Itt (K : PySem.W.Frag) (a : Addr) : It :=
  ⟨fun i H => ∃ xs x, SqT K H a xs ∧ xs[i]? = some x, fun i H x H' => H' = H ∧ ∀ xs, SqT K H a xs → xs[i]? = some x, fun i H => ∃ xs, SqT K H a xs ∧ xs.length ≤ i⟩
def Itr (lo : Int) (n : Nat) : It := ⟨fun i _ => i < n, fun i H x H' => H' = H ∧ x = .int (lo + i), fun i _ => n ≤ i⟩
theorem turn_list {P : Program} {w : World} {K : PySem.W.Frag} {tg : Expr} (a it : Addr) : Turn P w K tg (Itl K a) [it] it (fun i h => h.IsListIter it a i) where
  mem := by simp
  obj := fun i h st b hb => by
    have e : b = it := by simpa using hb
    subst e
    obtain ⟨o, e, c, d⟩ := st
    exact ⟨o, e, fun v z => by rw [d] at z; cases z⟩
  keep := fun i h h' st k => st.at fun o e => k it (by simp) o e
  item := by
    intro X hP hw hK hc i pins s σ H E I hf st hg
    subst hP hw hK
    obtain ⟨xs, x, hq, hx⟩ := hg
    obtain ⟨its, rv, p, hz⟩ := I.list hq
    obtain ⟨u, hu, ru⟩ := rv.get hx
    obtain ⟨f0, f1, f2, f3, f4, f5⟩ := hf it (by simp)
    refine wpAny_pyNext_list_item st p.isList (x := u) (by simpa using hu) fun h' st' sb => ?_
    have I1 : Inv X pins σ H { s with heap := h' } := I.turned (t' := s.toks) (fun b o hb e => (sb.2 b hb).trans e) f0 f1 f3 f4 f5
    obtain ⟨o, e, c, d⟩ := id st'
    exact ⟨u, rfl, go_of (s := { s with heap := h' }) e c d (by decide) ⟨x, H, I1, ru, ⟨rfl, fun ys hy => by rw [I.list_inj hy hq]; exact hx⟩, st', fun b hb => (hf b hb).1⟩⟩
  done := by
    intro X hP hw hK hc i pins s σ H E I hf st hg
    subst hP hw hK
    obtain ⟨xs, hq, hx⟩ := hg
    obtain ⟨its, rv, p, hz⟩ := I.list hq
    obtain ⟨f0, f1, f2, f3, f4, f5⟩ := hf it (by simp)
    have hl := rv.length
    exact wpAny_pyNext_list_end (I.ok.hd hc) st p.isList (by simp; omega) fun h' eb => ⟨rfl, I.turned (t' := s.toks) (fun b o hb e => eb b o hb e) f0 f1 f3 f4 f5⟩
  self := fun _ _ _ _ _ st h => wpAny_pyIter_listiter st h
theorem turn_tuple {P : Program} {w : World} {K : PySem.W.Frag} {tg : Expr} (a it : Addr) : Turn P w K tg (Itt K a) [it] it (fun i h => h.IsTupleIter it a i) where
  mem := by simp
  obj := fun i h st b hb => by
    have e : b = it := by simpa using hb
    subst e
    obtain ⟨o, e, c, d⟩ := st
    exact ⟨o, e, fun v z => by rw [d] at z; cases z⟩
  keep := fun i h h' st k => st.at fun o e => k it (by simp) o e
  item := by
    intro X hP hw hK hc i pins s σ H E I hf st hg
    subst hP hw hK
    obtain ⟨xs, x, hq, hx⟩ := hg
    obtain ⟨its, rv, p, hz⟩ := I.tuple hq
    obtain ⟨u, hu, ru⟩ := rv.get hx
    obtain ⟨f0, f1, f2, f3, f4, f5⟩ := hf it (by simp)
    refine wpAny_pyNext_tuple_item st (show s.heap.IsTuple a its.toArray from p) (x := u) (by simpa using hu) fun h' st' sb => ?_
    have I1 : Inv X pins σ H { s with heap := h' } := I.turned (t' := s.toks) (fun b o hb e => (sb.2 b hb).trans e) f0 f1 f3 f4 f5
    obtain ⟨o, e, c, d⟩ := id st'
    exact ⟨u, rfl, go_of (s := { s with heap := h' }) e c d (by decide) ⟨x, H, I1, ru, ⟨rfl, fun ys hy => by rw [I.tuple_inj hy hq]; exact hx⟩, st', fun b hb => (hf b hb).1⟩⟩
  done := by
    intro X hP hw hK hc i pins s σ H E I hf st hg
    subst hP hw hK
    obtain ⟨xs, hq, hx⟩ := hg
    obtain ⟨its, rv, p, hz⟩ := I.tuple hq
    obtain ⟨f0, f1, f2, f3, f4, f5⟩ := hf it (by simp)
    have hl := rv.length
    exact wpAny_pyNext_tuple_end (I.ok.hd hc) st (show s.heap.IsTuple a its.toArray from p) (by simp; omega) fun h' eb => ⟨rfl, I.turned (t' := s.toks) (fun b o hb e => eb b o hb e) f0 f1 f3 f4 f5⟩
  self := fun _ _ _ _ _ st h => wpAny_pyIter_tupleiter st h
theorem turn_range {P : Program} {w : World} {K : PySem.W.Frag} {tg : Expr} (it : Addr) (lo : Int) (n : Nat) : Turn P w K tg (Itr lo n) [it] it (fun i h => IsRangeIter h it (lo + (i : Nat) * 1) ((n : Int) - (i : Nat)) 1) where
  mem := by simp
  obj := fun i h st b hb => by
    have e : b = it := by simpa using hb
    subst e
    exact ⟨_, st, fun v z => by
      have z' : Data.fields _ = Data.cell v := z
      cases z'⟩
  keep := fun i h h' st k => k it (by simp) _ st
  item := by
    intro X hP hw hK hc i pins s σ H E I hf st hg
    subst hP hw hK
    obtain ⟨f0, f1, f2, f3, f4, f5⟩ := hf it (by simp)
    have W := Walks.range (prog := X.prog) (w := X.w) (I.ok.hd hc) it lo 1 n
    refine W.item i s _ _ hg st fun v h' tk hv st' kk => ?_
    obtain ⟨t, rfl⟩ := hv
    have I1 : Inv X pins σ H { s with heap := h', toks := tk } := I.turned (fun b o hb e => kk b o (by simpa using hb) e) f0 f1 f3 f4 f5
    refine ⟨_, rfl, go_of (s := { s with heap := h', toks := tk }) (n := "range_iterator") st' rfl rfl (by decide) ⟨.int (lo + i), H, I1, ⟨t, ?_⟩, ⟨rfl, rfl⟩, st', fun b hb => (hf b hb).1⟩⟩
    rw [Int.mul_one]
  done := by
    intro X hP hw hK hc i pins s σ H E I hf st hg
    subst hP hw hK
    obtain ⟨f0, f1, f2, f3, f4, f5⟩ := hf it (by simp)
    exact wpAny_pyNext_range_end (I.ok.hd hc) st (by have : n ≤ i := hg; omega) fun h' eb => ⟨rfl, I.turned (t' := s.toks) (fun b o hb e => eb b o hb e) f0 f1 f3 f4 f5⟩
  self := fun _ _ _ _ _ st h => wpAny_pyIter_rangeiter st h
end L2
namespace L2
open PySem PySem.Spec PyProof.Rows
section
variable {X : Cx} {tg : Expr}
def iList (K : PySem.W.Frag) (tl : TE) : TI := fun σ H R => tl σ H fun x H1 => ∃ a, x = .ref a ∧ (∃ xs, SqL K H1 a xs) ∧ R (Itl K a) H1
def iTup (K : PySem.W.Frag) (tl : TE) : TI := fun σ H R => tl σ H fun x H1 => ∃ a, x = .ref a ∧ (∃ xs, SqT K H1 a xs) ∧ R (Itt K a) H1
theorem pi_list {l : Expr} {tl : TE} (hl : PE X l tl) : PI X tg l (iList X.K tl) := by
  intro pins s σ H R I h
  refine thn (hl pins s σ H _ I h) fun v s1 ⟨x, H1, I1, r1, q1⟩ => ?_
  obtain ⟨a, e, ⟨xs, hq⟩, q⟩ := q1
  subst e
  cases r1
  obtain ⟨its, rv, p, hz⟩ := I1.list hq
  refine wpAny_pyIter_list p.isList ?_
  refine ⟨s1.heap.objs.size, [s1.heap.objs.size], _, _, H1, rfl, I1.kept (t' := s1.toks) fun b o e => Heap.get?_push_of_some _ e, turn_list a _, ⟨_, Heap.get?_push_size _ rfl, rfl, rfl⟩, fun b hb => ?_, q⟩
  have e : b = s1.heap.objs.size := by simpa using hb
  subst e
  exact I1.fpOk (Nat.le_refl _) (I1.hok.fresh (Nat.le_refl _))
theorem pi_tup {l : Expr} {tl : TE} (hl : PE X l tl) : PI X tg l (iTup X.K tl) := by
  intro pins s σ H R I h
  refine thn (hl pins s σ H _ I h) fun v s1 ⟨x, H1, I1, r1, q1⟩ => ?_
  obtain ⟨a, e, ⟨xs, hq⟩, q⟩ := q1
  subst e
  cases r1
  obtain ⟨its, rv, p, hz⟩ := I1.tuple hq
  refine wpAny_pyIter_tuple (show s1.heap.IsTuple a its.toArray from p) ?_
  refine ⟨s1.heap.objs.size, [s1.heap.objs.size], _, _, H1, rfl, I1.kept (t' := s1.toks) fun b o e => Heap.get?_push_of_some _ e, turn_tuple a _, ⟨_, Heap.get?_push_size _ rfl, rfl, rfl⟩, fun b hb => ?_, q⟩
  have e : b = s1.heap.objs.size := by simpa using hb
  subst e
  exact I1.fpOk (Nat.le_refl _) (I1.hok.fresh (Nat.le_refl _))
theorem range_it {pins : List (Addr × Obj)} {σ : St} {H : Hp} {s : Shared} {R : It → Hp → Prop} {E : Value → Shared → Prop} {lo hi : Int} {t u v : Tok} {tk : Nat} (I : Inv X pins σ H s) (h1 : -(2 ^ 62) ≤ lo) (h2 : lo < 2 ^ 62) (h3 : -(2 ^ 62) ≤ hi) (h4 : hi < 2 ^ 62)
    (q : R (Itr lo (hi - lo).toNat) H) : wpAny (model X.prog X.w) X.A (pyIter (.ref s.heap.objs.size)) (PIE X pins σ tg R) E { s with heap := s.heap.push { cls := .type "range", data := .fields #[.int lo t, .int hi u, .int 1 v] }, toks := tk } := by
  refine wpAny_pyIter_range (IsRange.new ..) (small_one h1 h2 h3 h4) ?_
  have I1 : Inv X pins σ H { s with heap := s.heap.push { cls := .type "range", data := .fields #[.int lo t, .int hi u, .int 1 v] }, toks := tk } := I.kept fun b o e => Heap.get?_push_of_some _ e
  refine ⟨(s.heap.push { cls := .type "range", data := .fields #[.int lo t, .int hi u, .int 1 v] }).objs.size, [(s.heap.push { cls := .type "range", data := .fields #[.int lo t, .int hi u, .int 1 v] }).objs.size], _, _, H, rfl,
    I1.kept (t' := tk) fun b o e => Heap.get?_push_of_some _ e, turn_range _ lo (hi - lo).toNat, ?_, fun b hb => ?_, q⟩
  · have e1 : lo + ((0 : Nat) : Int) * 1 = lo := by simp
    have e2 : (((hi - lo).toNat : Nat) : Int) - ((0 : Nat) : Int) = Builtin.Range.rangeSize lo hi 1 := by rw [rangeSize_one]; split <;> omega
    show IsRangeIter _ _ (lo + ((0 : Nat) : Int) * 1) ((((hi - lo).toNat : Nat) : Int) - ((0 : Nat) : Int)) 1
    rw [e1, e2]
    exact Heap.get?_push_size _ rfl
  · have e : b = (s.heap.push { cls := .type "range", data := .fields #[.int lo t, .int hi u, .int 1 v] }).objs.size := by simpa using hb
    subst e
    exact I1.fpOk (Nat.le_refl _) (I1.hok.fresh (Nat.le_refl _))
def iRng1 (ta : TA) : TI := fun σ H R => ta σ H fun vs H1 => ∃ j : Int, vs = [.int j] ∧ -(2 ^ 62) ≤ j ∧ j < 2 ^ 62 ∧ R (Itr 0 j.toNat) H1
theorem pi_range1 {a : Expr} {ta : TA} {p pos : Pos} (hg : Gl X "range") (hm : X.mg "range" = none) (ha : PA X [a] ta) (hs : starEach [a] X.env = [(false, eval a X.env)] := by rfl) : PI X tg (.Call (.Name "range" p) [a] [] pos) (iRng1 ta) := by
  intro pins s σ H R I h
  refine Call_ (ld_blt I hg hm boot_range (PyProof.Rows.callWith_type1 (thn (ha pos pins s σ H _ I h) fun us s1 ⟨vs, H1, I1, r1, q1⟩ => ?_) hs rfl))
  obtain ⟨j, e, q1, q2, q⟩ := q1
  subst e
  cases r1 with
  | cons r rr =>
    cases rr
    obtain ⟨t, rfl⟩ := r
    exact call_range_1 (range_it I1 (by omega) (by omega) q1 q2 (by simpa using q))
def tFor (wi : TI) (g : TG) (tb : TS) : TS := fun D σ H => wi σ H fun J H1 => ∃ W : Nat → Nat → St → Hp → Prop, (∃ m, W 0 m σ H1) ∧ ∀ i m σ H, W i m σ H →
  (J.stop i H ∧ D.nx σ H) ∨ (J.go i H ∧ ∃ N : St → Hp → Prop, (∀ σ' H', N σ' H' → ∃ m', m' < m ∧ W (i + 1) m' σ' H') ∧ ∀ x H', J.yld i H x H' → g x σ H' fun σ2 H2 => tb { D with nx := N, ct := N, bk := D.nx } σ2 H2)
def pinsAt (fp : List Addr) (h : Heap) : List (Addr × Obj) := fp.filterMap fun b => (h.get? b).map fun o => (b, o)
theorem mem_pinsAt {fp : List Addr} {h : Heap} {b : Addr} {o : Obj} (hb : b ∈ fp) (e : h.get? b = some o) : (b, o) ∈ pinsAt fp h := List.mem_filterMap.mpr ⟨b, hb, by rw [e]; rfl⟩
theorem of_pinsAt {fp : List Addr} {h : Heap} {p : Addr × Obj} (hp : p ∈ pinsAt fp h) : p.1 ∈ fp ∧ h.get? p.1 = some p.2 := by
  obtain ⟨b, hb, e⟩ := List.mem_filterMap.mp hp
  cases q : h.get? b with
  | none => rw [q] at e; cases e
  | some o =>
    rw [q] at e
    have e' : (b, o) = p := Option.some.inj e
    subst e'
    exact ⟨hb, q⟩
theorem Inv.pinned {pins : List (Addr × Obj)} {σ : St} {H : Hp} {s : Shared} {fp : List Addr} (I : Inv X pins σ H s) (hf : ∀ b ∈ fp, FpOk X pins H b) (ho : ∀ b ∈ fp, ∃ o, s.heap.get? b = some o ∧ ∀ v, o.data ≠ .cell v) : Inv X (pins ++ pinsAt fp s.heap) σ H s :=
  I.pins_of fun p hp => (List.mem_append.mp hp).elim (fun z => I.pin p (List.mem_append_right _ z)) fun z => by
    obtain ⟨hb, e⟩ := of_pinsAt z
    obtain ⟨f0, f1, f2, _⟩ := hf p.1 hb
    obtain ⟨o, e', d⟩ := ho p.1 hb
    rw [e] at e'; cases e'
    exact ⟨e, f0, f1, f2, d⟩
theorem Inv.unpinned {pins pl : List (Addr × Obj)} {σ : St} {H : Hp} {s : Shared} (I : Inv X (pins ++ pl) σ H s) : Inv X pins σ H s := I.pins_of fun p hp => I.pin p (List.mem_append_right _ (List.mem_append_left _ hp))
theorem ps_for {iter : Expr} {body : List Stmt} {wi : TI} {g : TG} {tb : TS} {pos : Pos} (hp : PassesOwn (model X.prog X.w) X.A X.env X.xe) (hc : X.calm = true) (hi : PI X tg iter wi) (hg : PG X tg g) (hb : PSs X body tb)
    (hs : ∀ x, foldedSetIterable iter X.env x = pure x := by intro _; rfl) : PS X (.For tg iter body [] pos) (tFor wi g tb) := by
  intro pins s σ H D I h
  refine wpAny_For (thn (hi pins s σ H _ I h) fun v s1 h1 => thn h1 fun itv s2 h2 => ?_) hs
  obtain ⟨it, fp, tn, J, H2, e, I2, T, st2, f2, W, ⟨m0, w0⟩, turn⟩ := h2
  subst e
  have stat : ∀ {H' : Hp}, (∀ b ∈ fp, H' b = none) → ∀ b ∈ fp, FpOk X pins H' b := fun hn b hb => ⟨hn b hb, (f2 b hb).2⟩
  refine codeAny_forLoop_any (fun n s' => ∃ i σ' H', Inv X pins σ' H' s' ∧ tn i s'.heap ∧ (∀ b ∈ fp, H' b = none) ∧ W i n σ' H') ?_ m0 ⟨0, σ, H2, I2, st2, fun b hb => (f2 b hb).1, w0⟩
  rintro n s3 ⟨i, σ3, H3, I3, st3, fr3, w3⟩
  rcases turn i n σ3 H3 w3 with ⟨stop, qn⟩ | ⟨go, N, hN, step⟩
  · refine wpAny_passesOwn hp (thn (T.done X rfl rfl rfl hc i pins s3 σ3 H3 X.xe I3 (stat fr3) st3 stop) fun r s4 ⟨hr, I4⟩ => ?_)
    subst hr
    exact wpAny_execs_nil ⟨σ3, H3, I4, qn⟩
  · refine wpAny_passesOwn hp (thn (T.item X rfl rfl rfl hc i pins s3 σ3 H3 X.xe I3 (stat fr3) st3 go) fun r s4 ⟨u, hr, h4⟩ => ?_)
    subst hr
    refine wpAny_passesOwn hp (thn h4 fun _ s5 ⟨x, H5, I5, r5, y5, st5, fr5⟩ => ?_)
    have I5' := I5.pinned (stat fr5) (T.obj _ _ st5)
    refine wpAny_passesOwn hp (thn (hg _ s5 σ3 H5 x u _ I5' r5 (step x H5 y5)) fun _ s6 ⟨σ6, H6, I6, q6⟩ => ?_)
    refine wpAny_passesOwn hp (thn (hb _ s6 σ6 H6 _ I6 q6) fun f s7 q7 => ?_)
    have again : ∀ {σ7 : St} {H7 : Hp}, Inv X (pins ++ pinsAt fp s5.heap) σ7 H7 s7 → N σ7 H7 → ∃ m, m < n ∧ ∃ i σ' H', Inv X pins σ' H' s7 ∧ tn i s7.heap ∧ (∀ b ∈ fp, H' b = none) ∧ W i m σ' H' := fun {σ7 H7} I7 n7 => by
      obtain ⟨m', hm, w7⟩ := hN σ7 H7 n7
      refine ⟨m', hm, i + 1, σ7, H7, I7.unpinned, T.keep _ _ _ st5 fun b hb o e => (I7.pin (b, o) (List.mem_append_right _ (List.mem_append_right _ (mem_pinsAt hb e)))).1, fun b hb => ?_, w7⟩
      obtain ⟨o, e, d⟩ := T.obj _ _ st5 b hb
      exact (I7.pin (b, o) (List.mem_append_right _ (List.mem_append_right _ (mem_pinsAt hb e)))).2.1
    cases f with
    | next => obtain ⟨σ7, H7, I7, n7⟩ := q7; exact again I7 n7
    | cont => obtain ⟨σ7, H7, I7, n7⟩ := q7; exact again I7 n7
    | brk => obtain ⟨σ7, H7, I7, q7⟩ := q7; exact ⟨σ7, H7, I7.unpinned, q7⟩
    | ret v => obtain ⟨x7, σ7, H7, I7, r7, q7⟩ := q7; exact ⟨x7, σ7, H7, I7.unpinned, r7, q7⟩
end
theorem for_list {K : PySem.W.Frag} {a : Addr} {xs : List V} {g : TG} {tb : TS} {D : Ends} {σ : St} {H : Hp} (Pv : Nat → St → Hp → Prop) (h0 : Pv 0 σ H) (hl : ∀ i σ H, i ≤ xs.length → Pv i σ H → SqL K H a xs)
    (hs : ∀ i x σ H, xs[i]? = some x → Pv i σ H → g x σ H fun σ2 H2 => tb { D with nx := Pv (i + 1), ct := Pv (i + 1), bk := D.nx } σ2 H2) (hd : ∀ σ H, Pv xs.length σ H → D.nx σ H) :
    ∃ W : Nat → Nat → St → Hp → Prop, (∃ m, W 0 m σ H) ∧ ∀ i m σ H, W i m σ H →
      ((Itl K a).stop i H ∧ D.nx σ H) ∨ ((Itl K a).go i H ∧ ∃ N : St → Hp → Prop, (∀ σ' H', N σ' H' → ∃ m', m' < m ∧ W (i + 1) m' σ' H') ∧ ∀ x H', (Itl K a).yld i H x H' → g x σ H' fun σ2 H2 => tb { D with nx := N, ct := N, bk := D.nx } σ2 H2) := by
  refine ⟨fun i m σ H => m = xs.length - i ∧ i ≤ xs.length ∧ Pv i σ H, ⟨xs.length, by simp, Nat.zero_le _, h0⟩, ?_⟩
  rintro i m σ H ⟨rfl, hi, p⟩
  have q := hl i σ H hi p
  by_cases hlt : i < xs.length
  · refine .inr ⟨⟨xs, xs[i], q, by simp [hlt]⟩, Pv (i + 1), fun σ' H' p' => ⟨xs.length - (i + 1), by omega, rfl, hlt, p'⟩, fun x H' y => ?_⟩
    obtain ⟨e, y⟩ := y
    subst e
    exact hs i x σ _ (y xs q) p
  · have e : i = xs.length := by omega
    subst e
    exact .inl ⟨⟨xs, q, Nat.le_refl _⟩, hd σ H p⟩
theorem for_tup {K : PySem.W.Frag} {a : Addr} {xs : List V} {g : TG} {tb : TS} {D : Ends} {σ : St} {H : Hp} (Pv : Nat → St → Hp → Prop) (h0 : Pv 0 σ H) (hl : ∀ i σ H, i ≤ xs.length → Pv i σ H → SqT K H a xs)
    (hs : ∀ i x σ H, xs[i]? = some x → Pv i σ H → g x σ H fun σ2 H2 => tb { D with nx := Pv (i + 1), ct := Pv (i + 1), bk := D.nx } σ2 H2) (hd : ∀ σ H, Pv xs.length σ H → D.nx σ H) :
    ∃ W : Nat → Nat → St → Hp → Prop, (∃ m, W 0 m σ H) ∧ ∀ i m σ H, W i m σ H →
      ((Itt K a).stop i H ∧ D.nx σ H) ∨ ((Itt K a).go i H ∧ ∃ N : St → Hp → Prop, (∀ σ' H', N σ' H' → ∃ m', m' < m ∧ W (i + 1) m' σ' H') ∧ ∀ x H', (Itt K a).yld i H x H' → g x σ H' fun σ2 H2 => tb { D with nx := N, ct := N, bk := D.nx } σ2 H2) := by
  refine ⟨fun i m σ H => m = xs.length - i ∧ i ≤ xs.length ∧ Pv i σ H, ⟨xs.length, by simp, Nat.zero_le _, h0⟩, ?_⟩
  rintro i m σ H ⟨rfl, hi, p⟩
  have q := hl i σ H hi p
  by_cases hlt : i < xs.length
  · refine .inr ⟨⟨xs, xs[i], q, by simp [hlt]⟩, Pv (i + 1), fun σ' H' p' => ⟨xs.length - (i + 1), by omega, rfl, hlt, p'⟩, fun x H' y => ?_⟩
    obtain ⟨e, y⟩ := y
    subst e
    exact hs i x σ _ (y xs q) p
  · have e : i = xs.length := by omega
    subst e
    exact .inl ⟨⟨xs, q, Nat.le_refl _⟩, hd σ H p⟩
theorem for_range {lo : Int} {n : Nat} {g : TG} {tb : TS} {D : Ends} {σ : St} {H : Hp} (Pv : Nat → St → Hp → Prop) (h0 : Pv 0 σ H)
    (hs : ∀ i σ H, i < n → Pv i σ H → g (.int (lo + i)) σ H fun σ2 H2 => tb { D with nx := Pv (i + 1), ct := Pv (i + 1), bk := D.nx } σ2 H2) (hd : ∀ σ H, Pv n σ H → D.nx σ H) :
    ∃ W : Nat → Nat → St → Hp → Prop, (∃ m, W 0 m σ H) ∧ ∀ i m σ H, W i m σ H →
      ((Itr lo n).stop i H ∧ D.nx σ H) ∨ ((Itr lo n).go i H ∧ ∃ N : St → Hp → Prop, (∀ σ' H', N σ' H' → ∃ m', m' < m ∧ W (i + 1) m' σ' H') ∧ ∀ x H', (Itr lo n).yld i H x H' → g x σ H' fun σ2 H2 => tb { D with nx := N, ct := N, bk := D.nx } σ2 H2) := by
  refine ⟨fun i m σ H => m = n - i ∧ i ≤ n ∧ Pv i σ H, ⟨n, by simp, Nat.zero_le _, h0⟩, ?_⟩
  rintro i m σ H ⟨rfl, hi, p⟩
  by_cases hlt : i < n
  · refine .inr ⟨hlt, Pv (i + 1), fun σ' H' p' => ⟨n - (i + 1), by omega, rfl, hlt, p'⟩, fun x H' y => ?_⟩
    obtain ⟨e, y⟩ := y
    subst e y
    exact hs i σ _ hlt p
  · have e : i = n := by omega
    subst e
    exact .inl ⟨Nat.le_refl _, hd σ H p⟩
theorem while_by {c : TT} {tb : TS} {D : Ends} {σ : St} {H : Hp} (Pv : St → Hp → Prop) (μ : St → Hp → Nat) (h0 : Pv σ H)
    (hs : ∀ σ H, Pv σ H → c σ H fun b H1 => if b = true then tb { D with nx := fun σ' H' => Pv σ' H' ∧ μ σ' H' < μ σ H, ct := fun σ' H' => Pv σ' H' ∧ μ σ' H' < μ σ H, bk := D.nx } σ H1 else D.nx σ H1)
    (mono : ∀ σ H Q Q', (∀ b H1, Q b H1 → Q' b H1) → c σ H Q → c σ H Q') : tWhile c tb D σ H := by
  refine ⟨fun m σ H => m = μ σ H ∧ Pv σ H, ⟨_, rfl, h0⟩, ?_⟩
  rintro m σ H ⟨rfl, p⟩
  refine mono σ H _ _ (fun b H1 q => ?_) (hs σ H p)
  cases b with
  | true => exact ⟨_, fun σ' H' ⟨p', l⟩ => ⟨_, l, rfl, p'⟩, q⟩
  | false => exact q
end L2
namespace L2
open PySem PySem.Spec PyProof.Rows
abbrev R2 := V → V → Hp → VK → Prop
def OpR (X : Cx) (f : Value → Value → Sem Value) (r : R2) : Prop :=
  ∀ (pins : List (Addr × Obj)) (s : Shared) (σ : St) (H : Hp) (x y : V) (v u : Value) (Q : VK), Inv X pins σ H s → RelV x v → RelV y u → r x y H Q →
    wpAny (model X.prog X.w) X.A (f v u) (EP X pins σ Q) X.xe s
def UnR (X : Cx) (f : Value → Sem Value) (r : V → Hp → VK → Prop) : Prop :=
  ∀ (pins : List (Addr × Obj)) (s : Shared) (σ : St) (H : Hp) (x : V) (v : Value) (Q : VK), Inv X pins σ H s → RelV x v → r x H Q →
    wpAny (model X.prog X.w) X.A (f v) (EP X pins σ Q) X.xe s
def CallR (X : Cx) (f : Value) (r : List V → Hp → VK → Prop) : Prop :=
  ∀ (pins : List (Addr × Obj)) (s : Shared) (σ : St) (H : Hp) (xs : List V) (us : List Value) (Q : VK), Inv X pins σ H s → Vals xs us → r xs H Q →
    wpAny (model X.prog X.w) X.A (call f us) (EP X pins σ Q) X.xe s
def TruR (X : Cx) (r : V → Hp → (Bool → Hp → Prop) → Prop) : Prop :=
  ∀ (pins : List (Addr × Obj)) (s : Shared) (σ : St) (H : Hp) (x : V) (v : Value) (Q : Bool → Hp → Prop), Inv X pins σ H s → RelV x v → r x H Q →
    wpAny (model X.prog X.w) X.A (truthy v) (TP X pins σ Q) X.xe s
def tOp (r : R2) (ta tb : TE) : TE := fun σ H Q => ta σ H fun x H1 => tb σ H1 fun y H2 => r x y H2 Q
def tUn (r : V → Hp → VK → Prop) (ta : TE) : TE := fun σ H Q => ta σ H fun x H1 => r x H1 Q
def rI (C : Int → Int → Prop) (g : Int → Int → V) : R2 := fun x y H Q => ∃ i j, x = .int i ∧ y = .int j ∧ C i j ∧ Q (g i j) H
def rI0 (g : Int → Int → V) : R2 := fun x y H Q => ∃ i j, x = .int i ∧ y = .int j ∧ Q (g i j) H
def rU (g : Int → V) : V → Hp → VK → Prop := fun x H Q => ∃ i, x = .int i ∧ Q (g i) H
section
variable {X : Cx} {a b c : Expr} {ta tb tc : TE} {pos : Pos}
theorem binT (ha : PE X a ta) (hb : PE X b tb) {pins : List (Addr × Obj)} {s : Shared} {σ : St} {H : Hp} {R : V → V → Hp → Prop} (I : Inv X pins σ H s)
    (h : ta σ H fun x H1 => tb σ H1 fun y H2 => R x y H2) {Q : Value → Shared → Prop} {f : Value → Value → Sem Value}
    (hf : ∀ v u s2 x y H2, Inv X pins σ H2 s2 → RelV x v → RelV y u → R x y H2 → wpAny (model X.prog X.w) X.A (f v u) Q X.xe s2) :
    wpAny (model X.prog X.w) X.A (eval a X.env) (fun v s₁ => wpAny (model X.prog X.w) X.A (eval b X.env) (fun u s₂ => wpAny (model X.prog X.w) X.A (f v u) Q X.xe s₂) X.xe s₁) X.xe s := by
  refine thn (ha pins s σ H _ I h) fun v s1 ⟨x, H1, I1, r1, q1⟩ => ?_
  refine thn (hb pins s1 σ H1 _ I1 q1) fun u s2 ⟨y, H2, I2, r2, q2⟩ => ?_
  exact hf v u s2 x y H2 I2 r1 r2 q2
theorem pe_op {op : Operator} {r : R2} (ho : OpR X (binaryOp op) r) (ha : PE X a ta) (hb : PE X b tb) : PE X (.BinOp a op b pos) (tOp r ta tb) := by
  intro pins s σ H Q I h
  exact wpAny_BinOp (binT ha hb I h fun v u s2 x y H2 I2 rx ry q => ho pins s2 σ H2 x y v u Q I2 rx ry q)
theorem pe_un {op : UnaryOp} {r : V → Hp → VK → Prop} (ho : UnR X (unaryOp op) r) (ha : PE X a ta) : PE X (.UnaryOp op a pos) (tUn r ta) := by
  intro pins s σ H Q I h
  exact UnaryOp_ (thn (ha pins s σ H _ I h) fun v s1 ⟨x, H1, I1, r1, q1⟩ => ho pins s1 σ H1 x v Q I1 r1 q1)
theorem opI {f : Value → Value → Sem Value} {C : Int → Int → Prop} {g : Int → Int → Int}
    (rule : ∀ (i j : Int) (t u : Tok) (s : Shared) (Q : Value → Shared → Prop) (E : Value → Shared → Prop), C i j → Q (.int (g i j) s.toks) { s with toks := s.toks + 1 } → wpAny (model X.prog X.w) X.A (f (.int i t) (.int j u)) Q E s) :
    OpR X f (rI C fun i j => .int (g i j)) := by
  intro pins s σ H x y v u Q I rx ry h
  obtain ⟨i, j, rfl, rfl, hc, q⟩ := h
  obtain ⟨t, rfl⟩ := rx
  obtain ⟨t', rfl⟩ := ry
  exact rule i j t t' s _ _ hc ⟨.int (g i j), H, I.tok _, ⟨_, rfl⟩, q⟩
theorem opI0 {f : Value → Value → Sem Value} {g : Int → Int → Int}
    (rule : ∀ (i j : Int) (t u : Tok) (s : Shared) (Q : Value → Shared → Prop) (E : Value → Shared → Prop), Q (.int (g i j) s.toks) { s with toks := s.toks + 1 } → wpAny (model X.prog X.w) X.A (f (.int i t) (.int j u)) Q E s) :
    OpR X f (rI0 fun i j => .int (g i j)) := by
  intro pins s σ H x y v u Q I rx ry h
  obtain ⟨i, j, rfl, rfl, q⟩ := h
  obtain ⟨t, rfl⟩ := rx
  obtain ⟨t', rfl⟩ := ry
  exact rule i j t t' s _ _ ⟨.int (g i j), H, I.tok _, ⟨_, rfl⟩, q⟩
theorem opB0 {f : Value → Value → Sem Value} {g : Int → Int → Bool}
    (rule : ∀ (i j : Int) (t u : Tok) (s : Shared) (Q : Value → Shared → Prop) (E : Value → Shared → Prop), Q (.bool (g i j)) s → wpAny (model X.prog X.w) X.A (f (.int i t) (.int j u)) Q E s) :
    OpR X f (rI0 fun i j => .bl (g i j)) := by
  intro pins s σ H x y v u Q I rx ry h
  obtain ⟨i, j, rfl, rfl, q⟩ := h
  obtain ⟨t, rfl⟩ := rx
  obtain ⟨t', rfl⟩ := ry
  exact rule i j t t' s _ _ ⟨.bl (g i j), H, I, rfl, q⟩
theorem op_add : OpR X (binaryOp .Add) (rI0 fun i j => .int (i + j)) := opI0 fun _ _ _ _ _ _ _ q => add_int q
theorem op_sub : OpR X (binaryOp .Sub) (rI0 fun i j => .int (i - j)) := opI0 fun _ _ _ _ _ _ _ q => sub_int q
theorem op_mod : OpR X (binaryOp .Mod) (rI (fun _ j => 0 < j) fun i j => .int (i % j)) := opI fun i j _ _ _ _ _ hc q => by
  have h1 : (0 : Int) < j := hc
  exact mod_int' (by omega) (by rw [Int.fmod_eq_emod_of_nonneg i (by omega)]; exact q)
theorem unI {f : Value → Sem Value} {g : Int → Int}
    (rule : ∀ (i : Int) (t : Tok) (s : Shared) (Q : Value → Shared → Prop) (E : Value → Shared → Prop), Q (.int (g i) s.toks) { s with toks := s.toks + 1 } → wpAny (model X.prog X.w) X.A (f (.int i t)) Q E s) :
    UnR X f (rU fun i => .int (g i)) := by
  intro pins s σ H x v Q I rx h
  obtain ⟨i, rfl, q⟩ := h
  obtain ⟨t, rfl⟩ := rx
  exact rule i t s _ _ ⟨.int (g i), H, I.tok _, ⟨_, rfl⟩, q⟩
theorem un_neg : UnR X (unaryOp .USub) (rU fun i => .int (-i)) := unI fun _ _ _ _ _ q => neg_int q
end
def scal : V → V → Bool
  | .non, .non => true | .non, .int _ => true | .int _, .non => true | .non, .bl _ => true | .bl _, .non => true | .non, .str _ => true | .str _, .non => true
  | .int _, .int _ => true | .bl _, .bl _ => true | .str _, .str _ => true | .byt _, .byt _ => true
  | .int _, .str _ => true | .str _, .int _ => true | .bl _, .str _ => true | .str _, .bl _ => true
  | _, _ => false
def rEq : R2 := fun x y H Q => scal x y = true ∧ Q (.bl (decide (x = y))) H
def rNe : R2 := fun x y H Q => scal x y = true ∧ Q (.bl (!decide (x = y))) H
theorem dec_int {i j : Int} : decide (V.int i = V.int j) = (i == j) := by
  rw [Bool.eq_iff_iff]
  simp
theorem dec_bl {i j : Bool} : decide (V.bl i = V.bl j) = (i == j) := by
  rw [Bool.eq_iff_iff]
  simp
theorem dec_str {i j : Str} : decide (V.str i = V.str j) = (i == j) := by
  rw [Bool.eq_iff_iff]
  simp
theorem dec_byt {i j : Array UInt8} : decide (V.byt i = V.byt j) = (i.toList == j.toList) := by
  rw [Bool.eq_iff_iff]
  cases i
  cases j
  simp
section
variable {X : Cx} {a b c : Expr} {ta tb tc : TE} {pos : Pos}
theorem fin_bl {pins : List (Addr × Obj)} {σ : St} {H : Hp} {s : Shared} {Q : VK} {k k' : Bool} (I : Inv X pins σ H s) (q : Q (.bl k) H) (e : k = k') : EP X pins σ Q (.bool k') s := by
  subst e
  exact ⟨.bl k, H, I, rfl, q⟩
theorem op_eq : OpR X (compareOp .Eq) rEq := by
  intro pins s σ H x y v u Q I rx ry h
  obtain ⟨hs, q⟩ := h
  cases x with
  | non =>
    cases rx
    cases y with
    | non => cases ry; exact PySem.EqNone.eq_none_none (fin_bl I q (by simp))
    | bl j => cases ry; exact PySem.EqNone.eq_none_bool (fin_bl I q (by simp))
    | int j => obtain ⟨t', rfl⟩ := ry; exact PySem.EqNone.eq_none_int (fin_bl I q (by simp))
    | str j => obtain ⟨t', rfl⟩ := ry; exact PySem.EqNone.eq_none_str (fin_bl I q (by simp))
    | _ => exact absurd (show false = true from hs) Bool.false_ne_true
  | bl i =>
    cases rx
    cases y with
    | non => cases ry; exact PySem.EqNone.eq_bool_none (fin_bl I q (by simp))
    | bl j => cases ry; exact eq_bool (fin_bl I q dec_bl)
    | str j => obtain ⟨t', rfl⟩ := ry; exact PySem.EqMixed.eq_bool_str (fin_bl I q (by simp))
    | _ => exact absurd (show false = true from hs) Bool.false_ne_true
  | int i =>
    obtain ⟨t, rfl⟩ := rx
    cases y with
    | non => cases ry; exact PySem.EqNone.eq_int_none (fin_bl I q (by simp))
    | int j => obtain ⟨t', rfl⟩ := ry; exact eq_int (fin_bl I q dec_int)
    | str j => obtain ⟨t', rfl⟩ := ry; exact PySem.EqMixed.eq_int_str (fin_bl I q (by simp))
    | _ => exact absurd (show false = true from hs) Bool.false_ne_true
  | str i =>
    obtain ⟨t, rfl⟩ := rx
    cases y with
    | non => cases ry; exact PySem.EqNone.eq_str_none (fin_bl I q (by simp))
    | bl j => cases ry; exact PySem.EqMixed.eq_str_bool (fin_bl I q (by simp))
    | int j => obtain ⟨t', rfl⟩ := ry; exact PySem.EqMixed.eq_str_int (fin_bl I q (by simp))
    | str j => obtain ⟨t', rfl⟩ := ry; exact eq_str (fin_bl I q dec_str)
    | _ => exact absurd (show false = true from hs) Bool.false_ne_true
  | byt i =>
    obtain ⟨t, rfl⟩ := rx
    cases y with
    | byt j => obtain ⟨t', rfl⟩ := ry; exact PySem.W.eq_bytes (fin_bl I q dec_byt)
    | _ => exact absurd (show false = true from hs) Bool.false_ne_true
  | _ => cases y <;> exact absurd (show false = true from hs) Bool.false_ne_true
theorem op_ne : OpR X (compareOp .NotEq) rNe := by
  intro pins s σ H x y v u Q I rx ry h
  obtain ⟨hs, q⟩ := h
  cases x with
  | non =>
    cases rx
    cases y with
    | non => cases ry; exact PySem.EqNone.ne_none_none (fin_bl I q (by simp))
    | bl j => cases ry; exact PySem.EqNone.ne_none_bool (fin_bl I q (by simp))
    | int j => obtain ⟨t', rfl⟩ := ry; exact PySem.EqNone.ne_none_int (fin_bl I q (by simp))
    | str j => obtain ⟨t', rfl⟩ := ry; exact PySem.EqNone.ne_none_str (fin_bl I q (by simp))
    | _ => exact absurd (show false = true from hs) Bool.false_ne_true
  | bl i =>
    cases rx
    cases y with
    | non => cases ry; exact PySem.EqNone.ne_bool_none (fin_bl I q (by simp))
    | bl j => cases ry; exact ne_bool (fin_bl I q (congrArg not dec_bl))
    | str j => obtain ⟨t', rfl⟩ := ry; exact PySem.EqMixed.ne_bool_str (fin_bl I q (by simp))
    | _ => exact absurd (show false = true from hs) Bool.false_ne_true
  | int i =>
    obtain ⟨t, rfl⟩ := rx
    cases y with
    | non => cases ry; exact PySem.EqNone.ne_int_none (fin_bl I q (by simp))
    | int j => obtain ⟨t', rfl⟩ := ry; exact ne_int (fin_bl I q (congrArg not dec_int))
    | str j => obtain ⟨t', rfl⟩ := ry; exact PySem.EqMixed.ne_int_str (fin_bl I q (by simp))
    | _ => exact absurd (show false = true from hs) Bool.false_ne_true
  | str i =>
    obtain ⟨t, rfl⟩ := rx
    cases y with
    | non => cases ry; exact PySem.EqNone.ne_str_none (fin_bl I q (by simp))
    | bl j => cases ry; exact PySem.EqMixed.ne_str_bool (fin_bl I q (by simp))
    | int j => obtain ⟨t', rfl⟩ := ry; exact PySem.EqMixed.ne_str_int (fin_bl I q (by simp))
    | str j => obtain ⟨t', rfl⟩ := ry; exact ne_str (fin_bl I q (congrArg not dec_str))
    | _ => exact absurd (show false = true from hs) Bool.false_ne_true
  | byt i =>
    obtain ⟨t, rfl⟩ := rx
    cases y with
    | byt j => obtain ⟨t', rfl⟩ := ry; exact PySem.W.ne_bytes (fin_bl I q (congrArg not dec_byt))
    | _ => exact absurd (show false = true from hs) Bool.false_ne_true
  | _ => cases y <;> exact absurd (show false = true from hs) Bool.false_ne_true
theorem op_lt : OpR X (compareOp .Lt) (rI0 fun i j => .bl (decide (i < j))) := opB0 fun _ _ _ _ _ _ _ q => lt_int q
theorem op_le : OpR X (compareOp .LtE) (rI0 fun i j => .bl (decide (i ≤ j))) := opB0 fun _ _ _ _ _ _ _ q => le_int q
theorem op_gt : OpR X (compareOp .Gt) (rI0 fun i j => .bl (decide (j < i))) := opB0 fun _ _ _ _ _ _ _ q => gt_int q
theorem op_ge : OpR X (compareOp .GtE) (rI0 fun i j => .bl (decide (j ≤ i))) := opB0 fun _ _ _ _ _ _ _ q => ge_int q
theorem op_isN : OpR X (compareOp .Is) (fun x y H Q => y = .non ∧ Q (.bl (decide (x = .non))) H) := by
  intro pins s σ H x y v u Q I rx ry h
  obtain ⟨rfl, q⟩ := h
  cases ry
  refine is_none_gen (fin_bl I q ?_)
  cases x <;> first
    | (cases rx; rfl)
    | (obtain ⟨t, rfl⟩ := rx; rfl)
theorem nomark (b : Expr) {op : CmpOp} (h : op ≠ .In := by decide) (h2 : op ≠ .NotIn := by decide) : behindInMarks op b = false := by
  have e1 : (op == CmpOp.In) = false := by cases op <;> first | rfl | exact absurd rfl h
  have e2 : (op == CmpOp.NotIn) = false := by cases op <;> first | rfl | exact absurd rfl h2
  cases b <;> simp [behindInMarks, e1, e2]
theorem pe_cmpR {op : CmpOp} {r : R2} (ho : OpR X (compareOp op) r) (ha : PE X a ta) (hb : PE X b tb) (hm : behindInMarks op b = false) : PE X (.Compare a [op] [b] pos) (tOp r ta tb) := by
  intro pins s σ H Q I h
  exact wpAny_Compare1 (binT ha hb I h fun v u s2 x y H2 I2 rx ry q => ho pins s2 σ H2 x y v u Q I2 rx ry q) hm
def tTest (t : TE) : TT := fun σ H Q => t σ H fun x H' => ∃ k, x = .bl k ∧ Q k H'
theorem pt_cmpR {op : CmpOp} {r : R2} (ho : OpR X (compareOp op) r) (ha : PE X a ta) (hb : PE X b tb) (hm : behindInMarks op b = false) : PT X (.Compare a [op] [b] pos) (tTest (tOp r ta tb)) := by
  intro pins s σ H Q I h
  refine wpAny_isTrue_Compare1 (thn (ha pins s σ H _ I h) fun v s1 ⟨x, H1, I1, r1, q1⟩ => thn (hb pins s1 σ H1 _ I1 q1) fun u s2 ⟨y, H2, I2, r2, q2⟩ =>
    thn (ho pins s2 σ H2 x y v u _ I2 r1 r2 q2) fun c s3 ⟨z, H3, I3, r3, k, e, q3⟩ => ?_) hm
  subst e
  cases r3
  exact wpAny_truthy_bool ⟨H3, I3, q3⟩
def tChain (r r' : R2) (ta tb tc : TE) : TE := fun σ H Q => ta σ H fun x H1 => tb σ H1 fun y H2 => r x y H2 fun z H3 => ∃ k, z = .bl k ∧
  (if k = true then tc σ H3 fun w' H4 => r' y w' H4 Q else Q (.bl false) H3)
theorem pe_chain {op op' : CmpOp} {r r' : R2} (ho : OpR X (compareOp op) r) (ho' : OpR X (compareOp op') r') (ha : PE X a ta) (hb : PE X b tb) (hc : PE X c tc)
    (hm : lastMarks [op, op'] [b, c] = false := by with_unfolding_all rfl) : PE X (.Compare a [op, op'] [b, c] pos) (tChain r r' ta tb tc) := by
  intro pins s σ H Q I h
  refine Compare_chain (thn (ha pins s σ H _ I h) fun v s1 ⟨x, H1, I1, r1, q1⟩ => chain_link (thn (hb pins s1 σ H1 _ I1 q1) fun u s2 ⟨y, H2, I2, r2, q2⟩ =>
    thn (ho pins s2 σ H2 x y v u _ I2 r1 r2 q2) fun d s3 ⟨z, H3, I3, r3, k, e, q3⟩ => ?_)) hm
  subst e
  cases r3
  refine wpAny_truthy_bool ?_
  cases k with
  | false => exact ite_ff ⟨.bl false, H3, I3, rfl, q3⟩
  | true => exact ite_tt (chain_last (thn (hc pins s3 σ H3 _ I3 q3) fun w' s4 ⟨z', H4, I4, r4, q4⟩ => ho' pins s4 σ H4 y z' u w' Q I4 r2 r4 q4))
def TruV (K : PySem.W.Frag) (x : V) (H : Hp) (k : Bool) : Prop :=
  match x with
  | .non => k = false
  | .bl b => k = b
  | .int i => k = (i != 0)
  | .str y => y.length ≤ sizeLine ∧ k = ((y.length : Int) != 0)
  | .byt y => y.size ≤ sizeLine ∧ k = ((y.size : Int) != 0)
  | .ref p => (∃ xs, SqL K H p xs ∧ k = !xs.isEmpty) ∨ (∃ xs, SqT K H p xs ∧ k = !xs.isEmpty) ∨ ∃ kvs, H p = some (.dK kvs) ∧ k = !kvs.isEmpty
  | _ => False
theorem isEmpty_kv {κ : Type} {kvs : List (κ × V)} {vs : List (κ × Value)} (r : KV kvs vs) : (!vs.isEmpty) = !kvs.isEmpty := by
  cases r <;> rfl
theorem isEmpty_of {xs : List V} {its : List Value} (r : Vals xs its) : (!its.toArray.isEmpty) = !xs.isEmpty := by
  cases r <;> simp
theorem line63 : (sizeLine : Nat) < 2 ^ 63 := by rw [sizeLine_eq]; decide
theorem tru_ok : TruR X (fun x H Q => ∃ k, TruV X.K x H k ∧ Q k H) := by
  intro pins s σ H x v Q I rx h
  obtain ⟨k, e, q⟩ := h
  have hl := line63
  have hs : sizeLine = 16777216 := sizeLine_eq
  cases x with
  | non =>
    cases rx
    have e' : k = false := e
    subst e'
    exact truthy_none ⟨H, I, q⟩
  | bl b =>
    cases rx
    have e' : k = b := e
    subst e'
    exact wpAny_truthy_bool ⟨H, I, q⟩
  | int i =>
    obtain ⟨t, rfl⟩ := rx
    have e' : k = (i != 0) := e
    subst e'
    exact PySem.P.truthy_int ⟨H, I, q⟩
  | str y =>
    obtain ⟨t, rfl⟩ := rx
    obtain ⟨hy, e'⟩ : y.length ≤ sizeLine ∧ k = ((y.length : Int) != 0) := e
    subst e'
    exact PySem.P.truthy_str (by omega) ⟨H, I.tok _, q⟩
  | byt y =>
    obtain ⟨t, rfl⟩ := rx
    obtain ⟨hy, e'⟩ : y.size ≤ sizeLine ∧ k = ((y.size : Int) != 0) := e
    subst e'
    exact PySem.W.truthy_bytes (by omega) ⟨H, I.tok _, q⟩
  | ref p =>
    cases rx
    have e' : (∃ xs, SqL X.K H p xs ∧ k = !xs.isEmpty) ∨ (∃ xs, SqT X.K H p xs ∧ k = !xs.isEmpty) ∨ ∃ kvs, H p = some (.dK kvs) ∧ k = !kvs.isEmpty := e
    rcases e' with ⟨xs, hx, e'⟩ | ⟨xs, hx, e'⟩ | ⟨kvs, hx, e'⟩
    · subst e'
      obtain ⟨its, r, pl, hz⟩ := I.list hx
      have hlen := r.length
      exact wpAny_truthy_list pl.isList (by simp only [List.size_toArray]; omega) ⟨H, I.tok _, by rw [isEmpty_of r]; exact q⟩
    · subst e'
      obtain ⟨its, r, pl, hz⟩ := I.tuple hx
      have hlen := r.length
      exact truthy_tuple pl (by simp only [List.size_toArray]; omega) ⟨H, I.tok _, by rw [isEmpty_of r]; exact q⟩
    · subst e'
      obtain ⟨hz, hS, vs, r, m⟩ : kvs.length ≤ sizeLine ∧ (p == sysModules) = false ∧ ∃ vs, KV kvs vs ∧ s.heap.DictOf (mixKind X.prog X.w) p vs := I.hok p _ hx
      have hlen : kvs.length = vs.length := Paired.length r
      exact wpAny_truthy_dict hS m (by omega) ⟨H, I.tok _, by rw [isEmpty_kv r]; exact q⟩
  | _ => exact (show False from e).elim
theorem pt_truth (ha : PE X a ta) (he : ∀ whole, isTrue a X.env whole = (do let v ← whole; standAt a.pos; holding [v] (truthy v))) :
    PT X a (fun σ H Q => ta σ H fun x H' => ∃ k, TruV X.K x H' k ∧ Q k H') := by
  intro pins s σ H Q I h
  exact isTrue_plain (thn (ha pins s σ H _ I h) fun v s1 ⟨x, H1, I1, r1, q1⟩ => tru_ok pins s1 σ H1 x v Q I1 r1 q1) (he _)
theorem vals1 {x : V} {us : List Value} (r : Vals [x] us) : ∃ u, us = [u] ∧ RelV x u := by
  cases r with
  | cons r1 r2 => cases r2; exact ⟨_, rfl, r1⟩
theorem vals2 {x y : V} {us : List Value} (r : Vals [x, y] us) : ∃ u w', us = [u, w'] ∧ RelV x u ∧ RelV y w' := by
  cases r with
  | cons r1 r2 =>
    cases r2 with
    | cons r3 r4 => cases r4; exact ⟨_, _, rfl, r1, r3⟩
theorem call_max2 (hc : X.calm = true) : CallR X (.builtin "max") (fun xs H Q => ∃ i j, xs = [.int i, .int j] ∧ Q (.int (if j > i then j else i)) H) := by
  intro pins s σ H xs us Q I r h
  obtain ⟨i, j, rfl, q⟩ := h
  obtain ⟨u, w', rfl, ⟨t, rfl⟩, ⟨t', rfl⟩⟩ := vals2 r
  refine max_two_ints (I.ok.hd hc) fun h' tk k => ⟨_, H, I.kept k, ?_, q⟩
  by_cases hj : j > i
  · rw [if_pos hj, if_pos hj]; exact ⟨_, rfl⟩
  · rw [if_neg hj, if_neg hj]; exact ⟨_, rfl⟩
theorem call_min2 (hc : X.calm = true) : CallR X (.builtin "min") (fun xs H Q => ∃ i j, xs = [.int i, .int j] ∧ Q (.int (if j < i then j else i)) H) := by
  intro pins s σ H xs us Q I r h
  obtain ⟨i, j, rfl, q⟩ := h
  obtain ⟨u, w', rfl, ⟨t, rfl⟩, ⟨t', rfl⟩⟩ := vals2 r
  refine min_two_ints (I.ok.hd hc) fun h' tk k => ⟨_, H, I.kept k, ?_, q⟩
  by_cases hj : j < i
  · rw [if_pos hj, if_pos hj]; exact ⟨_, rfl⟩
  · rw [if_neg hj, if_neg hj]; exact ⟨_, rfl⟩
theorem call_int1 : CallR X (.type "int") (fun xs H Q => (∃ i, xs = [.int i] ∧ Q (.int i) H) ∨ ∃ k, xs = [.bl k] ∧ Q (.int (if k then 1 else 0)) H) := by
  intro pins s σ H xs us Q I r h
  rcases h with ⟨i, rfl, q⟩ | ⟨k, rfl, q⟩
  · obtain ⟨u, rfl, t, rfl⟩ := vals1 r
    exact call_int_int ⟨.int i, H, I, ⟨_, rfl⟩, q⟩
  · obtain ⟨u, rfl, r1⟩ := vals1 r
    cases r1
    exact call_int_bool ⟨.int (if k then 1 else 0), H, I.tok _, ⟨_, rfl⟩, q⟩
end
end L2
namespace L2
open PySem PySem.Spec PyProof.Rows
structure ObjM (h : Heap) (x dx C : Addr) (mA : Str → Option Value) : Prop where
  obj : h.get? x = some (PySem.W.instObj C dx)
  ns : h.Ns1 dx mA
  ne : dx ≠ x
theorem lookIn_ns {h : Heap} {dx : Addr} {mA : Str → Option Value} (n : h.Ns1 dx mA) : ∃ od, h.get? dx = some od ∧ ∀ name, PySem.W.lookIn name od = some (mA name) := by
  obtain ⟨o, es, ep, ho, hd, hk, _, hm⟩ := n
  refine ⟨o, ho, fun name => ?_⟩
  have e := hm name
  unfold nsFind findBy at e
  rw [← Array.find?_toList] at e
  unfold PySem.W.lookIn
  rw [hd]
  dsimp only
  split
  · rename_i y q
    rw [q] at e
    exact congrArg some e
  · rename_i q
    rw [q] at e
    have a : es.toList.any (·.refKey) = false := by
      rw [List.any_eq_false]
      intro y hy
      obtain ⟨z, t, hkey⟩ := hk y (Array.mem_toList_iff.mp hy)
      simp [DictEntry.refKey, hkey]
    have a' : ¬ es.toList.any (·.refKey) = true := by rw [a]; exact Bool.false_ne_true
    rw [if_neg a']
    exact congrArg some e
theorem ObjM.look {h : Heap} {x dx C : Addr} {mA : Str → Option Value} (I : ObjM h x dx C mA) : ∃ od, PySem.W.InstAt h x (PySem.W.instObj C dx) C (some od) ∧ ∀ name, PySem.W.lookIn name od = some (mA name) :=
  let ⟨od, ho, hl⟩ := lookIn_ns I.ns
  ⟨od, ⟨I.obj, rfl, rfl, ho⟩, hl⟩
section
variable {prog : Program} {w : World} {A : Around} {E : Value → Shared → Prop} {s : Shared} {K : PySem.W.Frag} {x dx C f : Addr} {mA : Str → Option Value} {name : Str} {v : Value}
theorem get_map {expr : Bool} {Q : Value → Shared → Prop} (X : K.In s.heap) (I : ObjM s.heap x dx C mA) (hg : PySem.W.plainGet K C name = true) (hh : PySem.W.hasDictIn K C = true)
    (ha : PySem.W.findIn K (.ref C) name = some none) (hv : mA name = some v) (hv' : PySem.W.handedIn v = true) (h : Q v { s with toks := s.toks + 1 }) :
    wpAny (model prog w) A (getAttr (.ref x) name expr) Q E s := by
  obtain ⟨od, J, hl⟩ := I.look
  exact PySem.W.get_value X J (PySem.W.plainGet_of hg).1 (PySem.W.findObj_own hh ha rfl (by rw [hl, hv])) hv' h
theorem get_meth {pl : Sem Bool} {Q : Value × List Value → Shared → Prop} (X : K.In s.heap) (I : ObjM s.heap x dx C mA) (hg : PySem.W.plainGet K C name = true)
    (hf : PySem.W.findIn K (.ref C) name = some (some (.ref f))) (ht : PySem.W.isFn K (.ref f) = true) (hv : mA name = none) (h : Q (.ref f, [.ref x]) s) :
    wpAny (model prog w) A (getMethod (.ref x) name pl) Q E s := by
  obtain ⟨od, J, hl⟩ := I.look
  exact PySem.W.method_fn X J (PySem.W.plainGet_of hg).1 (PySem.W.plainGet_of hg).2 hf (beq_iff_eq.mp ht) (by show (PySem.W.lookIn name od).map (·.isSome) = some false; rw [hl, hv]; rfl) h
theorem set_map {ns : List Str} {Q : Unit → Shared → Prop} (X : K.In s.heap) (I : ObjM s.heap x dx C mA)
    (hs : PySem.W.findIn K (.ref C) "__setattr__" = some (some (.builtin "object.__setattr__"))) (hp : PySem.W.plainOver K C = true) (ht : PySem.W.takerIn K C name = some none) (hh : PySem.W.hasDictIn K C = true)
    (hw : PySem.Within mA ns) (hsz : ns.length ≤ sizeLine)
    (h : ∀ h', ObjM h' x dx C (fun y => if y = name then some v else mA y) → Heap.SameBut dx s.heap h' → Q () { s with heap := h', toks := s.toks + 2 }) :
    wpAny (model prog w) A (setAttr (.ref x) name v) Q E s := by
  obtain ⟨od, J, hl⟩ := I.look
  refine PySem.W.set_plain X J hs (PySem.W.osa_open (s := { s with toks := s.toks + 1 }) (r := none) X J hp ht fun b => ?_)
  obtain ⟨cd, hc, hd'⟩ := PySem.W.any_some hh
  have hx : s.heap.get? x = some ⟨.ref C, some dx, .plain, #[]⟩ := I.obj
  refine wpAny_bind (wpAny_pure (wpAny_bind (wpAny_bind (wpAny_loadPart hx (wpAny_bind (PySem.W.Looks.here (s := { s with toks := s.toks + 1 }) (PySem.W.looks_clsIn X hc) ?_))))))
  rw [hd']
  refine wpAny_pure (a := some dx) (wpAny_bind (wpAny_pure (wpAny_bind ?_)))
  refine wpAny_nsSet1 (s := { s with toks := s.toks + 1 }) I.ns fun h' hn2 hs2 => ?_
  obtain ⟨oD, esD, epD, hoD, hdD, hcD⟩ := hn2.count (PySem.Within.cons name v hw)
  refine wpAny_bind (wpAny_lookBehind hoD (by rw [hdD]; exact pastItsLine_dict (Nat.le_trans hcD (by rw [List.length_cons]; omega))) ?_)
  exact wpAny_pure (h _ ⟨(hs2.2 _ (Ne.symm I.ne)).trans I.obj, hn2, I.ne⟩ hs2)
theorem make_map {R : Result → Shared → Prop} {vs : List Value} {kw : List (Str × Value)} (X : K.In s.heap) (hm : PySem.W.makesIn K C = true)
    (hi : PySem.W.findIn K (.ref C) "__init__" = some (some (.ref f))) (hf : PySem.W.typeIn K (.ref f) = some (.type "function"))
    (h : codeAny (model prog w) (A.under (.builtin "type.__call__" ⟨.ref C :: vs, kw⟩)) (.call (.ref f) ⟨.ref (s.heap.objs.size + 1) :: vs, kw⟩) (PySem.W.InitBack (s.heap.objs.size + 1) R)
      { s with heap := (s.heap.push PySem.W.emptyDict).push (PySem.W.instObj C s.heap.objs.size) }) :
    codeAny (model prog w) A (.call (.ref C) ⟨vs, kw⟩) R s := by
  obtain ⟨hh, g, d, t, os⟩ := s
  exact PySem.W.make_core (PySem.W.makes_of X hm) (PySem.W.looks_findIn X hi) (fun self => PySem.W.bind_fn X self hf) (.inl rfl) h
end
def putF (f : Str) (v : V) : List (Str × V) → List (Str × V)
  | [] => [(f, v)]
  | (g, x) :: r => if g = f then (g, v) :: r else (g, x) :: putF f v r
theorem lookup_putF (f g : Str) (v : V) : ∀ fs : List (Str × V), (putF f v fs).lookup g = if g = f then some v else fs.lookup g
  | [] => by
    show List.lookup g [(f, v)] = _
    by_cases h : g = f
    · have hb : (g == f) = true := beq_iff_eq.mpr h
      simp only [List.lookup, hb, if_pos h]
    · have hb : (g == f) = false := beq_eq_false_iff_ne.mpr h
      simp only [List.lookup, hb, if_neg h]
  | (k, x) :: r => by
    have ih := lookup_putF f g v r
    rw [show putF f v ((k, x) :: r) = (if k = f then (k, v) :: r else (k, x) :: putF f v r) from rfl]
    by_cases hk : k = f
    · rw [if_pos hk]
      by_cases h : g = k
      · have hb : (g == k) = true := beq_iff_eq.mpr h
        simp only [List.lookup, hb, if_pos (h.trans hk)]
      · have hb : (g == k) = false := beq_eq_false_iff_ne.mpr h
        simp only [List.lookup, hb, if_neg (fun e : g = f => h (e.trans hk.symm))]
    · rw [if_neg hk]
      by_cases h : g = k
      · have hb : (g == k) = true := beq_iff_eq.mpr h
        simp only [List.lookup, hb, if_neg (fun e : g = f => hk (h.symm.trans e))]
      · have hb : (g == k) = false := beq_eq_false_iff_ne.mpr h
        simp only [List.lookup, hb]
        exact ih
theorem keys_putF (f : Str) (v : V) : ∀ fs : List (Str × V), f ∈ (putF f v fs).map (·.1) ∧ ∀ g, g ∈ fs.map (·.1) → g ∈ (putF f v fs).map (·.1)
  | [] => ⟨by simp [putF], fun g h => by simp at h⟩
  | (k, x) :: r => by
    obtain ⟨i1, i2⟩ := keys_putF f v r
    rw [show putF f v ((k, x) :: r) = (if k = f then (k, v) :: r else (k, x) :: putF f v r) from rfl]
    by_cases hk : k = f
    · rw [if_pos hk]
      subst hk
      exact ⟨by simp, fun g h => by simpa using h⟩
    · rw [if_neg hk]
      refine ⟨?_, fun g h => ?_⟩
      · rw [List.map_cons]
        exact List.mem_cons_of_mem _ i1
      · rw [List.map_cons] at h ⊢
        rcases List.mem_cons.mp h with e | e
        · exact List.mem_cons.mpr (.inl e)
        · exact List.mem_cons_of_mem _ (i2 g e)
theorem length_putF (f : Str) (v : V) : ∀ fs : List (Str × V), (putF f v fs).length ≤ fs.length + 1
  | [] => by simp [putF]
  | (k, x) :: r => by
    have ih := length_putF f v r
    rw [show putF f v ((k, x) :: r) = (if k = f then (k, v) :: r else (k, x) :: putF f v r) from rfl]
    by_cases hk : k = f
    · rw [if_pos hk, List.length_cons, List.length_cons]; omega
    · rw [if_neg hk, List.length_cons, List.length_cons]; omega
theorem RelO.some_of {v : V} {o : Option Value} (r : RelO (some v) o) : ∃ u, o = some u ∧ RelV v u := by
  cases o with
  | none => exact (show False from r).elim
  | some u => exact ⟨u, rfl, r⟩
theorem RelO.none_of {o : Option Value} (r : RelO none o) : o = none := by
  cases o with
  | none => rfl
  | some u => exact (show False from r).elim
theorem handed_of {v : V} {u : Value} (r : RelV v u) : PySem.W.handedIn u = true := by
  cases v with
  | non => cases (show u = Value.none from r); rfl
  | bl b => cases (show u = Value.bool b from r); rfl
  | int i => obtain ⟨t, e⟩ := (show ∃ t, u = Value.int i t from r); cases e; rfl
  | str x => obtain ⟨t, e⟩ := (show ∃ t, u = Value.str x t from r); cases e; rfl
  | byt b => obtain ⟨t, e⟩ := (show ∃ t, u = Value.bytes b t from r); cases e; rfl
  | flt b => obtain ⟨t, e⟩ := (show ∃ t, u = Value.float b t from r); cases e; rfl
  | ref a => cases (show u = Value.ref a from r); rfl
  | ty n => cases (show u = Value.type n from r); rfl
section
variable {P : Program} {w : World} {H H' : Hp} {h h' : Heap} {a C dx : Addr} {fs fs' : List (Str × V)}
theorem ins_get (hok : HOk P w H h) (e : H a = some (.ins C dx fs)) : ∃ mA, ObjM h a dx C mA ∧ (∀ f, RelO (fs.lookup f) (mA f)) ∧ PySem.Within mA (fs.map (·.1)) ∧ fs.length ≤ 1000 ∧ H dx = some (.own a) := by
  obtain ⟨d, z, ne, ob, mA, n, r, q⟩ := (show ObjOk P w H h a (.ins C dx fs) from hok a _ e)
  exact ⟨mA, ⟨ob, n, ne⟩, r, q, z, d⟩
end
structure Cls (K : PySem.W.Frag) (C : Addr) : Prop where
  pg : PySem.W.plainGet K C Str.empty = true
  hd : PySem.W.hasDictIn K C = true
  po : PySem.W.plainOver K C = true
  sa : PySem.W.findIn K (.ref C) "__setattr__" = some (some (.builtin "object.__setattr__"))
theorem Cls.get {K : PySem.W.Frag} {C : Addr} (c : Cls K C) (f : Str) : PySem.W.plainGet K C f = true := c.pg
def NoAttr (K : PySem.W.Frag) (C : Addr) (f : Str) : Prop := PySem.W.findIn K (.ref C) f = some none
theorem NoAttr.taker {K : PySem.W.Frag} {C : Addr} {f : Str} (n : NoAttr K C f) : PySem.W.takerIn K C f = some none := by
  unfold PySem.W.takerIn
  rw [show PySem.W.findIn K (.ref C) f = some none from n]
  rfl
structure Meth (K : PySem.W.Frag) (C : Addr) (m : Str) (f : Addr) : Prop where
  at_ : PySem.W.findIn K (.ref C) m = some (some (.ref f))
  fn : PySem.W.isFn K (.ref f) = true
  kp : PySem.W.keepIn K (.ref f) = true
section
variable {X : Cx} {pins : List (Addr × Obj)} {σ : St} {H : Hp} {s : Shared} {a C dx : Addr} {fs : List (Str × V)} {f : Str} {v : V} {A : Around} {E : Value → Shared → Prop}
theorem getattr_ok {b : Bool} {Q : Value → Shared → Prop} (I : Inv X pins σ H s) (e : H a = some (.ins C dx fs)) (c : Cls X.K C) (n : NoAttr X.K C f) (l : fs.lookup f = some v)
    (h : ∀ u s', Inv X pins σ H s' → RelV v u → Q u s') : wpAny (model X.prog X.w) A (getAttr (.ref a) f b) Q E s := by
  obtain ⟨mA, O, r, _, _, _⟩ := ins_get I.hok e
  obtain ⟨u, hu, ru⟩ := RelO.some_of (v := v) (o := mA f) (by rw [← l]; exact r f)
  exact get_map I.kIn O (c.get f) c.hd n hu (handed_of ru) (h u _ (I.tok _) ru)
theorem getmeth_ok {m : Str} {g : Addr} {pl : Sem Bool} {Q : Value × List Value → Shared → Prop} (I : Inv X pins σ H s) (e : H a = some (.ins C dx fs)) (c : Cls X.K C) (k : Meth X.K C m g) (l : fs.lookup m = none)
    (h : Q (.ref g, [.ref a]) s) : wpAny (model X.prog X.w) A (getMethod (.ref a) m pl) Q E s := by
  obtain ⟨mA, O, r, _, _, _⟩ := ins_get I.hok e
  have hn : mA m = none := RelO.none_of (by rw [← l]; exact r m)
  exact get_meth I.kIn O (c.get m) k.at_ k.fn hn h
theorem setattr_ok {y : V} {u : Value} {Q : Unit → Shared → Prop} (I : Inv X pins σ H s) (e : H a = some (.ins C dx fs)) (c : Cls X.K C) (n : NoAttr X.K C f) (hl : fs.length < 1000) (ry : RelV y u)
    (h : ∀ s', Inv X pins σ (upd H a (.ins C dx (putF f y fs))) s' → Q () s') : wpAny (model X.prog X.w) A (setAttr (.ref a) f u) Q E s := by
  obtain ⟨mA, O, r, wi, _, ho⟩ := ins_get I.hok e
  have hz : (fs.map (·.1)).length ≤ sizeLine := by rw [List.length_map, sizeLine_eq]; omega
  refine set_map I.kIn O c.sa c.po n.taker c.hd wi hz fun h' O' sb => h _ ?_
  have hd : ∃ o, h'.get? dx = some o := let ⟨o, _, _, e', _⟩ := O'.ns; ⟨o, e'⟩
  refine I.write (x := a) (e := dx) (by rw [e]; exact True.intro) (.inr ho) (fun b q hb z => (sb.2 b hb).trans z) hd ?_
  refine ⟨by rw [upd_ne O.ne]; exact ho, ?_, O.ne, O'.obj, _, O'.ns, fun g => ?_, fun g hg => ?_⟩
  · have := length_putF f y fs; omega
  · show RelO ((putF f y fs).lookup g) (if g = f then some u else mA g)
    rw [lookup_putF]
    by_cases q : g = f
    · rw [if_pos q, if_pos q]; exact ry
    · rw [if_neg q, if_neg q]; exact r g
  · by_cases q : g = f
    · rw [q]; exact (keys_putF f y fs).1
    · refine (keys_putF f y fs).2 g (wi g fun z => hg ?_)
      show (if g = f then some u else mA g) = none
      rw [if_neg q]; exact z
theorem Inv.made (I : Inv X pins σ H s) : Inv X pins σ (upd (upd H s.heap.objs.size (.own (s.heap.objs.size + 1))) (s.heap.objs.size + 1) (.ins C s.heap.objs.size []))
    { s with heap := (s.heap.push PySem.W.emptyDict).push (PySem.W.instObj C s.heap.objs.size) } := by
  have e1 : (s.heap.push PySem.W.emptyDict).get? s.heap.objs.size = some PySem.W.emptyDict := Heap.get?_push_size s.heap rfl
  have e2 : ((s.heap.push PySem.W.emptyDict).push (PySem.W.instObj C s.heap.objs.size)).get? (s.heap.objs.size + 1) = some (PySem.W.instObj C s.heap.objs.size) := by
    have := Heap.get?_push_size (s.heap.push PySem.W.emptyDict) (o := PySem.W.instObj C s.heap.objs.size) rfl
    rwa [Heap.size_push] at this
  have e3 : (s.heap.push PySem.W.emptyDict).Ns s.heap.objs.size (fun _ => none) := ⟨PySem.W.emptyDict, #[], _, e1, rfl, (fun e he => absurd he (by simp)), fun _ => rfl⟩
  have I1 := I.laid (a := s.heap.objs.size) (o := .own (s.heap.objs.size + 1)) (h' := s.heap.push PySem.W.emptyDict) (t' := s.toks) (fun b u q => Heap.get?_push_of_some _ q) (Nat.le_refl _) ⟨_, e1⟩
  refine I1.laid (a := s.heap.objs.size + 1) (o := .ins C s.heap.objs.size []) (t' := s.toks) (fun b u q => Heap.get?_push_of_some _ q) (Nat.le_of_eq (Heap.size_push _ _)) ?_
  have ne : s.heap.objs.size ≠ s.heap.objs.size + 1 := Nat.ne_of_lt (Nat.lt_succ_self _)
  refine ⟨by rw [upd_ne ne, upd_same], Nat.zero_le _, ne, e2, fun _ => none, (Heap.Ns1.of_empty e3).at fun o q => Heap.get?_push_of_some _ q, fun _ => True.intro, fun y hy => absurd rfl hy⟩
theorem attr_of {prog : Program} {w : World} {env : Env} {e : Expr} {f : Str} {pos : Pos} {s : Shared} {Q : Value → Shared → Prop} (hb : attributeBase e f env (eval e env) = eval e env)
    (h : wpAny (model prog w) A (eval e env) (fun o s₁ => wpAny (model prog w) A (getAttr o f true) Q E s₁) E s) : wpAny (model prog w) A (eval (.Attribute e f pos) env) Q E s :=
  Attribute_any_ h (by rw [arm_eval_Attribute, hb])
end
def tFld (K : PySem.W.Frag) (ta : TE) (f : Str) : TE := fun σ H Q => ta σ H fun x H1 => ∃ a C dx fs v, x = .ref a ∧ H1 a = some (.ins C dx fs) ∧ Cls K C ∧ NoAttr K C f ∧ fs.lookup f = some v ∧ Q v H1
def sFld (K : PySem.W.Frag) (ta tv : TE) (f : Str) : TS := fun D σ H => tv σ H fun y H1 => ta σ H1 fun x H2 => ∃ a C dx fs, x = .ref a ∧ H2 a = some (.ins C dx fs) ∧ Cls K C ∧ NoAttr K C f ∧ fs.length < 1000 ∧
  D.nx σ (upd H2 a (.ins C dx (putF f y fs)))
section
variable {X : Cx} {o e value : Expr} {f : Str} {pos pos' tpos : Pos} {ta tv : TE}
theorem pe_fld (he : PE X e ta) (hb : attributeBase e f X.env (eval e X.env) = eval e X.env) : PE X (.Attribute e f pos) (tFld X.K ta f) := by
  intro pins s σ H Q I h
  refine attr_of hb (thn (he pins s σ H _ I h) fun u s1 ⟨x, H1, I1, rx, a, C, dx, fs, v, ex, ea, c, n, l, q⟩ => ?_)
  subst ex
  obtain rfl : u = Value.ref a := rx
  exact getattr_ok I1 ea c n l fun u' s2 I2 ru => ⟨v, H1, I2, ru, q⟩
theorem ps_fld (ha : PE X o ta) (hv : PE X value tv) (hs : swapsWith value (some (.Attribute o f pos')) pos.line X.env = pure false) : PS X (.Assign [.Attribute o f pos'] value pos) (sFld X.K ta tv f) := by
  intro pins s σ H D I h
  refine plainObj_wpAny_Assign_Attribute (thn (hv pins s σ H _ I h) fun u s1 ⟨y, H1, I1, ry, q⟩ => thn (ha pins s1 σ H1 _ I1 q) fun ov s2 ⟨x, H2, I2, rx, a, C, dx, fs, ex, ea, c, n, l, q2⟩ => ?_) hs
  subst ex
  obtain rfl : ov = Value.ref a := rx
  exact setattr_ok I2 ea c n l ry fun s3 I3 => ⟨σ, _, I3, q2⟩
end
section
variable {X : Cx} {pins : List (Addr × Obj)} {σ : St} {H : Hp} {s : Shared} {A : Around} {E : Value → Shared → Prop} {Q : Value → Shared → Prop} {c : Value} {b : Bool}
end
end L2
namespace L2
open PySem PySem.Spec PyProof.Rows
structure Room (k : Nat) (A : Around) : Prop where
  hd : A.handled = none
  dp : A.depth + 3 * k + 5 < recursionLimit
  un : A.units + 16 * k + 200 < cLine
theorem Room.mono {j k : Nat} {A : Around} (r : Room k A) (h : j ≤ k) : Room j A := ⟨r.hd, by have := r.dp; omega, by have := r.un; omega⟩
theorem Room.deeper {k : Nat} {A : Around} (r : Room (k + 1) A) (env : Env) : Room k (A.deeper env) :=
  ⟨r.hd, by have := r.dp; show A.depth + 1 + 3 * k + 5 < _; omega, by have := r.un; show A.units + 3 + 16 * k + 200 < _; omega⟩
theorem make_depth {A : Around} {C : Addr} {us : List Value} {kw : List (Str × Value)} : (A.under (.builtin "type.__call__" ⟨.ref C :: us, kw⟩)).depth = A.depth + 1 := by
  first | rfl | simp [Around.under, Code.weight, Code.isCreation, Code.isGuard, Code.isCaller, Code.frames, Code.isFrame, guardIds]
theorem make_units {A : Around} {C : Addr} {us : List Value} {kw : List (Str × Value)} : (A.under (.builtin "type.__call__" ⟨.ref C :: us, kw⟩)).units = A.units + 1 := by
  first | rfl | simp [Around.under, Code.cUnits, Code.frames, Code.isFrame]
theorem Room.make {k : Nat} {A : Around} (r : Room (k + 1) A) (C : Addr) (us : List Value) (kw : List (Str × Value)) : Room k (A.under (.builtin "type.__call__" ⟨.ref C :: us, kw⟩)) :=
  ⟨r.hd, by have := r.dp; rw [make_depth]; omega, by have := r.un; rw [make_units]; omega⟩
theorem Room.depth {k : Nat} {A : Around} (r : Room k A) : A.depth < recursionLimit := by have := r.dp; omega
theorem Room.units {k : Nat} {A : Around} (r : Room k A) : A.units + 64 < cLine := by have := r.un; omega
def tNil : TA := fun _ H Q => Q [] H
def tCons (ta : TE) (tr : TA) : TA := fun σ H Q => ta σ H fun x H1 => tr σ H1 fun xs H2 => Q (x :: xs) H2
section
variable {X : Cx} {e : Expr} {es : List Expr} {te : TE} {t : TA} {pos : Pos}
theorem pa_nil : PA X [] tNil := fun _ _ _ _ H Q I h => Calls.spliced_nil ⟨[], H, I, .nil, h⟩
theorem pa_cons (ha : PE X e te) (hr : PA X es t) (hs : starEach (e :: es) X.env = (false, eval e X.env) :: starEach es X.env := by rfl) : PA X (e :: es) (tCons te t) := by
  intro pos pins s σ H Q I h
  rw [hs]
  show wpAny _ _ (spliced ((false, eval e X.env) :: backTo pos (starEach es X.env))) _ _ s
  refine Calls.spliced_cons (thn (ha pins s σ H _ I h) fun u s1 ⟨x, H1, I1, r1, q1⟩ => ?_)
  exact thn (hr pos pins s1 σ H1 _ I1 q1) fun us s2 ⟨xs, H2, I2, r2, q2⟩ => ⟨x :: xs, H2, I2, .cons r1 r2, q2⟩
def tTup (t : TA) : TE := fun σ H Q => t σ H fun xs H1 => xs.length ≤ sizeLine ∧ ∀ p, H1 p = none → Q (.ref p) (upd H1 p (.tup xs))
def tLst (t : TA) : TE := fun σ H Q => t σ H fun xs H1 => xs.length ≤ sizeLine ∧ ∀ p, H1 p = none → Q (.ref p) (upd H1 p (.lst xs))
theorem pe_tup {x1} (h : PA X es t) : PE X (.Tuple es x1 pos) (tTup t) := by
  intro pins s σ H Q I hq
  refine wpAny_Tuple_spliced (thn (h pos pins s σ H _ I hq) fun us s1 ⟨xs, H1, I1, r, z, q⟩ => ⟨by rw [← r.length]; exact z, ?_⟩)
  have hf : H1 s1.heap.objs.size = none := I1.hok.fresh (Nat.le_refl _)
  refine ⟨.ref s1.heap.objs.size, upd H1 s1.heap.objs.size (.tup xs), I1.laid (t' := s1.toks) (fun b u e => Heap.get?_push_of_some _ e) (Nat.le_refl _) ?_, rfl, q _ hf⟩
  exact ⟨z, us, r, ⟨_, Heap.get?_push_size _ rfl, rfl, _, rfl⟩⟩
theorem pe_lst (h : PA X es t) : PE X (.List es pos) (tLst t) := by
  intro pins s σ H Q I hq
  refine wpAny_List_spliced (thn (h pos pins s σ H _ I hq) fun us s1 ⟨xs, H1, I1, r, z, q⟩ => ⟨by rw [← r.length]; exact z, ?_⟩)
  have hf : H1 s1.heap.objs.size = none := I1.hok.fresh (Nat.le_refl _)
  refine ⟨.ref s1.heap.objs.size, upd H1 s1.heap.objs.size (.lst xs), I1.laid (t' := s1.toks) (fun b u e => Heap.get?_push_of_some _ e) (Nat.le_refl _) ?_, rfl, q _ hf⟩
  exact ⟨z, us, 0, r, Heap.get?_push_size _ rfl⟩
end
abbrev Sp := List V → Hp → VK → XK → Prop
abbrev CXT := List Env → Hp → Shared → XK → Value → Shared → Prop
structure Env0 (P : Program) (w : World) (K : PySem.W.Frag) (mg : Str → Option Value) (base : Heap) (A : Around) (outer : List Env) (s : Shared) (H : Hp) : Prop where
  frames : A.frames = some outer
  mod : Mod K mg base
  bs : ∀ b o, base.get? b = some o → s.heap.get? b = some o ∧ H b = none
  bsz : base.objs.size ≤ s.heap.objs.size
  funs : s.heap.FunFrames base outer
  frf : ∀ b ∈ frs outer, H b = none
  hok : HOk P w H s.heap
  bare : AllBare s.gens
def CE (outer : List Env) (P : Program) (w : World) (H : Hp) (s : Shared) (Q : VK) (u : Value) (s' : Shared) : Prop :=
  ∃ v H', s'.os = s.os ∧ AllBare s'.gens ∧ Un (frs outer) [] H H' s.heap s'.heap ∧ HOk P w H' s'.heap ∧ RelV v u ∧ Q v H'
def CR (CX : CXT) (outer : List Env) (P : Program) (w : World) (H : Hp) (s : Shared) (Q : VK) (E : XK) (r : Result) (s' : Shared) : Prop :=
  match r with
  | .ok (.ret u) => CE outer P w H s Q u s'
  | .ok _ => False
  | .error e => CX outer H s E e s'
structure FnOk (P : Program) (w : World) (K : PySem.W.Frag) (mg : Str → Option Value) (base : Heap) (CX : CXT) (k : Nat) (f : Addr) (fd : FuncData) (ps : List Str) (sp : Sp) : Prop where
  len : ∀ vs H Q E, sp vs H Q E → vs.length = ps.length
  run : ∀ (A : Around) (outer : List Env) (s : Shared) (H : Hp) (args : Args) (us : List Value) (vs : List V) (Q : VK) (E : XK), Room k A → Env0 P w K mg base A outer s H → BindsTo s fd args (ps.zip us) → Vals vs us → sp vs H Q E →
    codeAny (model P w) A (.call (.ref f) args) (CR CX outer P w H s Q E) s
theorem Env0.make {P : Program} {w : World} {K : PySem.W.Frag} {mg : Str → Option Value} {base : Heap} {A : Around} {outer : List Env} {s : Shared} {H : Hp} (e : Env0 P w K mg base A outer s H) (C : Addr) (us : List Value) (kw : List (Str × Value)) :
    Env0 P w K mg base (A.under (.builtin "type.__call__" ⟨.ref C :: us, kw⟩)) outer s H := ⟨by first | exact e.frames | (simpa [Around.under, Code.envs, Code.isFrame, pushEnvs] using e.frames), e.mod, e.bs, e.bsz, e.funs, e.frf, e.hok, e.bare⟩
section
variable {X : Cx} {pins : List (Addr × Obj)} {σ : St} {H : Hp} {s s' : Shared}
theorem Inv.env0 (I : Inv X pins σ H s) : Env0 X.prog X.w X.K X.mg X.base X.A X.stack s H :=
  ⟨I.ok.frames, I.ok.mod, I.bs, Nat.le_trans I.ok.bsz I.sz, I.stack, I.stkFree, I.hok, I.bare⟩
theorem Inv.after {Q : VK} {u : Value} (I : Inv X pins σ H s) (h : CE X.stack X.prog X.w H s Q u s') : EP X pins σ Q u s' := by
  obtain ⟨v, H', os, bare, un, hok, r, q⟩ := h
  obtain ⟨hh, g, d, t, os'⟩ := s'
  obtain rfl : os' = s.os := os
  exact ⟨v, H', I.call (h' := hh) (g' := g) (d' := d) (t' := t) (ch := []) un hok bare (fun b z => absurd z (by simp)), r, q⟩
end
def tCall (sp : Sp) (dvs : List V) (E : XK) (t : TA) : TE := fun σ H Q => t σ H fun vs H1 => sp (vs ++ dvs) H1 Q E
def tMeth (C : Addr) (m : Str) (sp : Sp) (dvs : List V) (E : XK) (ta : TE) (t : TA) : TE := fun σ H Q => ta σ H fun x H1 => ∃ a dx fs, x = .ref a ∧ H1 a = some (.ins C dx fs) ∧ fs.lookup m = none ∧
  t σ H1 fun vs H2 => sp (x :: (vs ++ dvs)) H2 Q E
def tMake (C : Addr) (sp : Sp) (dvs : List V) (E : XK) (t : TA) : TE := fun σ H Q => t σ H fun vs H1 => ∀ x dx, H1 x = none → H1 dx = none → dx ≠ x →
  sp (.ref x :: (vs ++ dvs)) (upd (upd H1 dx (.own x)) x (.ins C dx [])) (fun v H2 => v = .non ∧ Q (.ref x) H2) E
def Binds (K : PySem.W.Frag) (fd : FuncData) (ps : List Str) (ds : List Value) : Prop :=
  ∀ (s : Shared) (us : List Value), K.In s.heap → (us ++ ds).length = ps.length → BindsTo s fd ⟨us, []⟩ (ps.zip (us ++ ds))
theorem Binds.all {K : PySem.W.Frag} {fd : FuncData} {ps : List Str} (h : ∀ us : List Value, us.length = ps.length → bindArgs fd ⟨us, []⟩ = pure (ps.zip us)) : Binds K fd ps [] := fun s us _ hl => by
  rw [List.append_nil] at hl ⊢
  exact .of_eq (h us hl)
def Passes (CX : CXT) (X : Cx) (E : XK) : Prop := ∀ (pins : List (Addr × Obj)) (σ : St) (H : Hp) (s : Shared) (e : Value) (s' : Shared), Inv X pins σ H s → CX X.stack H s E e s' → X.xe e s'
section
variable {X : Cx} {CX : CXT} {k : Nat} {f C : Addr} {fd : FuncData} {ps : List Str} {sp : Sp} {dvs : List V} {ds : List Value} {E : XK} {x m : Str} {p pos apos : Pos} {e o : Expr} {es : List Expr} {ta : TE} {t : TA}
theorem run_fn {pins : List (Addr × Obj)} {σ : St} {H : Hp} {s : Shared} {Q : VK} {us : List Value} {vs : List V} (F : FnOk X.prog X.w X.K X.mg X.base CX k f fd ps sp) (hr : Room k X.A) (hb : Binds X.K fd ps ds) (hd : Vals dvs ds) (hx : Passes CX X E)
    (I : Inv X pins σ H s) (r : Vals vs us) (h : sp (vs ++ dvs) H Q E) : wpAny (model X.prog X.w) X.A (call (.ref f) us) (EP X pins σ Q) X.xe s := by
  have r2 : Vals (vs ++ dvs) (us ++ ds) := r.append hd
  have hl : (us ++ ds).length = ps.length := by rw [← r2.length]; exact F.len _ _ _ _ h
  refine wpAny_call (codeAny_mono (F.run X.A X.stack s H ⟨us, []⟩ (us ++ ds) (vs ++ dvs) Q E hr I.env0 (hb s us I.kIn hl) r2 h) fun r s' hq => ?_)
  cases r with
  | error e => exact hx pins σ H s e s' I hq
  | ok fl =>
    cases fl with
    | ret u => exact I.after hq
    | next => exact False.elim hq
    | brk => exact False.elim hq
    | cont => exact False.elim hq
theorem pe_call (F : FnOk X.prog X.w X.K X.mg X.base CX k f fd ps sp) (hr : Room k X.A) (hg : Gl X x) (hm : X.mg x = some (.ref f)) (hk : PySem.W.keepIn X.K (.ref f) = true) (hb : Binds X.K fd ps ds) (hd : Vals dvs ds) (hx : Passes CX X E)
    (ha : PA X (e :: es) t) (hdb : (x == ("__debug__" : Str)) = false := by decide) (he : starEach (e :: es) X.env = (false, eval e X.env) :: starEach es X.env := by rfl) (hpl : (backTo pos (starEach es X.env)).any (·.1) = false := by rfl) :
    PE X (.Call (.Name x p) (e :: es) [] pos) (tCall sp dvs E t) := by
  intro pins s σ H Q I h
  refine wpAny_Call_Name_kw (ld_glob I hg hm ?_ hdb)
  refine PySem.W.callWith_K (h₀ := X.base) I.ok.mod.kin hk (thn (ha pos pins s σ H _ I h) fun us s1 ⟨vs, H1, I1, r, q⟩ => ⟨I1.kIn, ?_⟩) he hpl
  exact run_fn F hr hb hd hx I1 r q
theorem pe_meth {pl : Sem Bool} (he : PE X o ta) (c : Cls X.K C) (hm : Meth X.K C m f) (F : FnOk X.prog X.w X.K X.mg X.base CX k f fd ps sp) (hr : Room k X.A) (hb : Binds X.K fd ps ds) (hd : Vals dvs ds) (hx : Passes CX X E) (ha : PA X (e :: es) t)
    (hst : starEach (e :: es) X.env = (false, eval e X.env) :: starEach es X.env := by rfl) (hpl : (backTo pos (starEach es X.env)).any (·.1) = false := by rfl)
    (ht : eval (.Call (.Attribute o m apos) (e :: es) [] pos) X.env = (do
      let ov ← eval o X.env
      standAt apos.atName
      let (f, first) ← holding [ov] (getMethod ov m pl)
      callWith pos f first (backTo pos (starEach (e :: es) X.env)) (backToKw pos (keywordEach [] X.env))) := by rfl) :
    PE X (.Call (.Attribute o m apos) (e :: es) [] pos) (tMeth C m sp dvs E ta t) := by
  intro pins s σ H Q I h
  refine PySem.W.methodCall_KW (pl := pl) (thn (he pins s σ H _ I h) fun u s1 ⟨x, H1, I1, rx, a, dx, fs, ex, ea, l, q⟩ => ?_) ht
  subst ex
  obtain rfl : u = Value.ref a := rx
  refine getmeth_ok I1 ea c hm l ?_
  refine PySem.W.callWith_K (first := [.ref a]) (h₀ := X.base) I.ok.mod.kin hm.kp (thn (ha pos pins s1 σ H1 _ I1 q) fun us s2 ⟨vs, H2, I2, r, q2⟩ => ⟨I2.kIn, ?_⟩) hst hpl
  exact run_fn (us := .ref a :: us) (vs := .ref a :: vs) F hr hb hd hx I2 (.cons rfl r) q2
theorem pe_meth0 {pl : Sem Bool} (he : PE X o ta) (c : Cls X.K C) (hm : Meth X.K C m f) (F : FnOk X.prog X.w X.K X.mg X.base CX k f fd ps sp) (hr : Room k X.A) (hb : Binds X.K fd ps ds) (hd : Vals dvs ds) (hx : Passes CX X E)
    (ht : eval (.Call (.Attribute o m apos) [] [] pos) X.env = (do
      let ov ← eval o X.env
      standAt apos.atName
      let (f, first) ← holding [ov] (getMethod ov m pl)
      callWith pos f first (backTo pos (starEach [] X.env)) (backToKw pos (keywordEach [] X.env))) := by rfl) :
    PE X (.Call (.Attribute o m apos) [] [] pos) (tMeth C m sp dvs E ta tNil) := by
  intro pins s σ H Q I h
  refine PySem.W.methodCall_KW (pl := pl) (thn (he pins s σ H _ I h) fun u s1 ⟨x, H1, I1, rx, a, dx, fs, ex, ea, l, q⟩ => ?_) ht
  subst ex
  obtain rfl : u = Value.ref a := rx
  refine getmeth_ok I1 ea c hm l ?_
  exact PySem.W.callWith_K0 (first := [.ref a]) I1.kIn hm.kp (run_fn (us := [.ref a]) (vs := [.ref a]) F hr hb hd hx I1 (.cons rfl .nil) q)
structure Mk (K : PySem.W.Frag) (C f : Addr) : Prop where
  makes : PySem.W.makesIn K C = true
  init : PySem.W.findIn K (.ref C) "__init__" = some (some (.ref f))
  fn : PySem.W.isFn K (.ref f) = true
  kp : PySem.W.keepIn K (.ref C) = true
theorem run_make {pins : List (Addr × Obj)} {σ : St} {H : Hp} {s : Shared} {Q : VK} {us : List Value} {vs : List V} (M : Mk X.K C f) (F : FnOk X.prog X.w X.K X.mg X.base CX k f fd ps sp) (hr : Room (k + 1) X.A) (hb : Binds X.K fd ps ds) (hd : Vals dvs ds)
    (hx : Passes CX X E) (I : Inv X pins σ H s) (r : Vals vs us)
    (h : ∀ x dx, H x = none → H dx = none → dx ≠ x → sp (.ref x :: (vs ++ dvs)) (upd (upd H dx (.own x)) x (.ins C dx [])) (fun v H2 => v = .non ∧ Q (.ref x) H2) E) :
    wpAny (model X.prog X.w) X.A (call (.ref C) us) (EP X pins σ Q) X.xe s := by
  have hq := h (s.heap.objs.size + 1) s.heap.objs.size (I.hok.fresh (Nat.le_succ _)) (I.hok.fresh (Nat.le_refl _)) (Nat.ne_of_lt (Nat.lt_succ_self _))
  have I2 := Inv.made (C := C) I
  have r2 : Vals (V.ref (s.heap.objs.size + 1) :: (vs ++ dvs)) (Value.ref (s.heap.objs.size + 1) :: (us ++ ds)) := .cons rfl (r.append hd)
  have hl : (Value.ref (s.heap.objs.size + 1) :: us ++ ds).length = ps.length := by
    have e := r2.length
    rw [F.len _ _ _ _ hq] at e
    exact e.symm
  refine wpAny_call (make_map (f := f) I.kIn M.makes M.init (beq_iff_eq.mp M.fn) (codeAny_mono (F.run _ X.stack _ _ ⟨Value.ref (s.heap.objs.size + 1) :: us, []⟩ (Value.ref (s.heap.objs.size + 1) :: (us ++ ds)) _ _ E (hr.make C us [])
    (I2.env0.make C us []) (hb _ (Value.ref (s.heap.objs.size + 1) :: us) I2.kIn hl) r2 hq) fun r s' hq' => ?_))
  cases r with
  | error e => exact hx pins σ _ _ e s' I2 hq'
  | ok fl =>
    cases fl with
    | ret u =>
      obtain ⟨v, H', I3, rv, ev, q3⟩ := I2.after hq'
      subst ev
      exact ⟨rv, ⟨V.ref (s.heap.objs.size + 1), H', I3, rfl, q3⟩⟩
    | next => exact False.elim hq'
    | brk => exact False.elim hq'
    | cont => exact False.elim hq'
theorem pe_make (M : Mk X.K C f) (F : FnOk X.prog X.w X.K X.mg X.base CX k f fd ps sp) (hr : Room (k + 1) X.A) (hg : Gl X x) (hm : X.mg x = some (.ref C)) (hb : Binds X.K fd ps ds) (hd : Vals dvs ds) (hx : Passes CX X E)
    (ha : PA X (e :: es) t) (hdb : (x == ("__debug__" : Str)) = false := by decide) (he : starEach (e :: es) X.env = (false, eval e X.env) :: starEach es X.env := by rfl) (hpl : (backTo pos (starEach es X.env)).any (·.1) = false := by rfl) :
    PE X (.Call (.Name x p) (e :: es) [] pos) (tMake C sp dvs E t) := by
  intro pins s σ H Q I h
  refine wpAny_Call_Name_kw (ld_glob I hg hm ?_ hdb)
  refine PySem.W.callWith_K (h₀ := X.base) I.ok.mod.kin M.kp (thn (ha pos pins s σ H _ I h) fun us s1 ⟨vs, H1, I1, r, q⟩ => ⟨I1.kIn, ?_⟩) he hpl
  exact run_make M F hr hb hd hx I1 r q
end
section
variable {X : Cx} {CX : CXT} {k : Nat} {f C : Addr} {fd : FuncData} {ps ks : List Str} {sp : Sp} {E : XK} {x m : Str} {p pos apos kpos : Pos} {e o : Expr} {es : List Expr} {kws : List Keyword} {te ta : TE} {t tk : TA} {nm : Option Str}
variable {g : List Value → List Value → List Value} {gV : List V → List V → List V}
end
structure FnScope (N P : List Str) (sc : Scope) : Prop where
  kind : sc.kind = .function
  co : sc.isCoroutine = false
  gen : sc.isGenerator = false
  nd : N.Nodup
  pre : N.take P.length = P
  par : ∀ x ∈ P, sc.names.lookup x = some .local ∨ sc.names.lookup x = some .cell
  nofree : ∀ y ∈ sc.names, y.2 ≠ .free
theorem bindL_out {kindOf : Str → Option NameKind} {x : Str} : ∀ {binds : List (Str × Value)} {m : Str → Option Value}, (∀ v, (x, v) ∉ binds) → bindL kindOf binds m x = m x
  | [], _, _ => rfl
  | (n, v) :: r, m, h => by
    unfold bindL
    rw [bindL_out fun w hw => h w (List.mem_cons_of_mem _ hw)]
    split
    · have : x ≠ n := by rintro rfl; exact h v List.mem_cons_self
      simp [this]
    · rfl
theorem bindC_out {kindOf : Str → Option NameKind} {x : Str} : ∀ {binds : List (Str × Value)} {m : Str → Option Value}, (∀ v, (x, v) ∉ binds) → bindC kindOf binds m x = m x
  | [], _, _ => rfl
  | (n, v) :: r, m, h => by
    unfold bindC
    rw [bindC_out fun w hw => h w (List.mem_cons_of_mem _ hw)]
    split
    · rfl
    · have : x ≠ n := by rintro rfl; exact h v List.mem_cons_self
      simp [this]
theorem bindL_get {kindOf : Str → Option NameKind} {x : Str} {v : Value} : ∀ {P : List Str} {vs : List Value} {i : Nat} {m : Str → Option Value}, P.Nodup → P[i]? = some x → vs[i]? = some v → kindOf x = some .local →
    bindL kindOf (P.zip vs) m x = some v
  | [], _, _, _, _, h, _, _ => by simp at h
  | _ :: _, [], _, _, _, _, h, _ => by simp at h
  | p :: P, w :: vs, 0, m, nd, h1, h2, hk => by
    simp at h1 h2; subst h1; subst h2
    show bindL kindOf ((p, w) :: P.zip vs) m p = _
    unfold bindL
    rw [bindL_out fun v hv => (List.nodup_cons.mp nd).1 (List.of_mem_zip hv).1, if_pos hk]
    simp
  | p :: P, w :: vs, i + 1, m, nd, h1, h2, hk => by
    show bindL kindOf ((p, w) :: P.zip vs) m x = _
    unfold bindL
    exact bindL_get (i := i) (List.nodup_cons.mp nd).2 (by simpa using h1) (by simpa using h2) hk
theorem bindC_get {kindOf : Str → Option NameKind} {x : Str} {v : Value} : ∀ {P : List Str} {vs : List Value} {i : Nat} {m : Str → Option Value}, P.Nodup → P[i]? = some x → vs[i]? = some v → kindOf x ≠ some .local →
    bindC kindOf (P.zip vs) m x = some v
  | [], _, _, _, _, h, _, _ => by simp at h
  | _ :: _, [], _, _, _, _, h, _ => by simp at h
  | p :: P, w :: vs, 0, m, nd, h1, h2, hk => by
    simp at h1 h2; subst h1; subst h2
    show bindC kindOf ((p, w) :: P.zip vs) m p = _
    unfold bindC
    rw [bindC_out fun v hv => (List.nodup_cons.mp nd).1 (List.of_mem_zip hv).1, if_neg hk]
    simp
  | p :: P, w :: vs, i + 1, m, nd, h1, h2, hk => by
    show bindC kindOf ((p, w) :: P.zip vs) m x = _
    unfold bindC
    exact bindC_get (i := i) (List.nodup_cons.mp nd).2 (by simpa using h1) (by simpa using h2) hk
def start (N : List Str) (vs : List V) : St := vs.map some ++ List.replicate (N.length - vs.length) none
def cxOf (CX : CXT) (P : Program) (w : World) (K : PySem.W.Frag) (mg : Str → Option Value) (base : Heap) (N : List Str) (qual : Str) (scope : Scope) (f : Addr) (cd : Value) (A : Around) (outer : List Env) (s : Shared) (H : Hp) (E : XK) : Cx where
  prog := P
  w := w
  K := K
  mg := mg
  base := base
  A := A.deeper (envOfC qual scope s.heap.objs.size f cd)
  N := N
  s_0 := s
  H_0 := H
  env := envOfC qual scope s.heap.objs.size f cd
  outer := outer
  stack := envOfC qual scope s.heap.objs.size f cd :: outer
  ex := []
  calm := true
  fn := fun _ => true
  pn := []
  xe := fun e s' => wpAny (model P w) (A.deeper (envOfC qual scope s.heap.objs.size f cd)) (leaving (envOfC qual scope s.heap.objs.size f cd) e) (fun _ s'' => CX outer H s E e s'') (fun e' s'' => CX outer H s E e' s'') s'
theorem cell_has {sc : Scope} {n : Nat} {x : Str} (h : sc.names.lookup x = some .cell) : ∃ c, (cellsFrom n sc.names []).lookup x = some c := by
  have q := PySem.W.cellsFrom_some sc.names n [] (.inl h)
  exact Option.isSome_iff_exists.mp q
theorem inv_start {CX : CXT} {P : Program} {w : World} {K : PySem.W.Frag} {mg : Str → Option Value} {base : Heap} {N ps : List Str} {qual : Str} {scope : Scope} {f : Addr} {cd : Value} {A : Around} {outer : List Env} {s s1 : Shared} {H : Hp} {E : XK} {us : List Value} {vs : List V}
    (S : FnScope N ps scope) (hd : A.handled = none) (e0 : Env0 P w K mg base A outer s H) (hl : vs.length = ps.length) (r : Vals vs us)
    (x : InCallC s s.heap.objs.size (bindL (envOfC qual scope s.heap.objs.size f cd).kindOf (ps.zip us) fun _ => none) (cellsFrom (s.heap.objs.size + 1) scope.names []) (bindC (envOfC qual scope s.heap.objs.size f cd).kindOf (ps.zip us) fun _ => none) s1) :
    Inv (cxOf CX P w K mg base N qual scope f cd A outer s H E) [] (start N vs) H s1 := by
  have hpl : ps.length ≤ N.length := by have := congrArg List.length S.pre; rw [List.length_take] at this; omega
  obtain ⟨h1, tk, rfl, hk⟩ := x.done
  have noA : ∀ b : Addr, b ∉ (cxOf CX P w K mg base N qual scope f cd A outer s H E).ex := fun b z => absurd (show b ∈ ([] : List Addr) from z) (by simp)
  refine ⟨⟨e0.mod, S.kind, rfl, rfl, Nat.le_refl _, fun y z c h1 h2 => ?_, fun y hy => ?_, fun y c _ h => ?_, fun _ => hd, Around.frames_deeper e0.frames, .inr ⟨rfl, rfl⟩, fun b z => absurd z (noA b), e0.bs, e0.bsz, fun b _ _ => noA b, fun b z => absurd z (noA b), e0.funs, e0.frf⟩,
    rfl, e0.bare, Un.kept hk, ⟨_, x.toInCall.ns, fun i y v h1 h2 h3 => ?_⟩, fun y c h => ⟨_, x.cell y c h⟩, e0.hok.fresh (Nat.le_refl _), fun y c h => ?_, fun p hp => absurd (show p ∈ ([] : List (Addr × Obj)) from hp) (by simp), e0.hok.kept hk, ?_⟩
  · exact name_of_addr x.apart (PySem.mem_of_lookup h1) (PySem.mem_of_lookup h2)
  · have hy : scope.names.lookup y = some .cell ∨ scope.names.lookup y = some .free := hy
    rcases hy with hy | hy
    · exact cell_has hy
    · exact absurd rfl (S.nofree _ (PySem.mem_of_lookup hy))
  · exact Nat.le_of_lt (x.above y c (PySem.mem_of_lookup h))
  · have hi : i < vs.length := by
      unfold start at h2
      by_cases hi : i < vs.length
      · exact hi
      · rw [List.getElem?_append_right (by simpa using hi)] at h2
        rw [List.getElem?_replicate] at h2
        split at h2 <;> cases h2
    have ha : vs[i]? = some v := by
      unfold start at h2
      rw [List.getElem?_append_left (by simpa using hi), List.getElem?_map] at h2
      cases e : vs[i]? with
      | none => rw [e] at h2; cases h2
      | some a => rw [e] at h2; cases h2; rfl
    obtain ⟨u, hu, rv⟩ := r.get ha
    have hp : ps[i]? = some y := by
      rw [← S.pre, List.getElem?_take_of_lt (by omega)]; exact h1
    have ndP : ps.Nodup := by rw [← S.pre]; exact S.nd.sublist (List.take_sublist _ _)
    refine ⟨u, rv, ?_⟩
    rcases S.par y (List.mem_of_getElem? hp) with k | k
    · exact .inl ⟨k, bindL_get ndP hp hu k⟩
    · obtain ⟨c, e⟩ := cell_has (n := s.heap.objs.size + 1) k
      refine .inr ⟨.inl k, c, e, ?_⟩
      have q := x.cell y c e
      rw [bindC_get ndP hp hu (by show scope.names.lookup y ≠ _; rw [k]; decide)] at q
      exact q
  · exact e0.hok.fresh (Nat.le_of_lt (x.above y c (PySem.mem_of_lookup h)))
  · unfold start
    show _ = N.length
    rw [List.length_append, List.length_map, List.length_replicate]
    omega
theorem fn_of {CX : CXT} {P : Program} {w : World} {K : PySem.W.Frag} {mg : Str → Option Value} {base : Heap} {k : Nat} {f : Addr} {name qual : Str} {params : Arguments} {body : List Stmt} {scope : Scope} {dV kV doc pm cdv ct oc : Value} {an od : Option Addr}
    {osl : Array (Option Value)} {N ps : List Str} {sp : Sp} (lk : K.lookup f = some ⟨oc, od, .func (PySem.W.fnOf name qual params body scope dV kV doc pm an cdv ct), osl⟩) (hcd : PySem.W.codeIn K cdv qual = true) (S : FnScope N ps scope)
    (len : ∀ vs H Q E, sp vs H Q E → vs.length = ps.length)
    (hbody : ∀ (A : Around) (outer : List Env) (s : Shared) (H : Hp) (vs : List V) (Q : VK) (E : XK), Room k (A.deeper (envOfC qual scope s.heap.objs.size f cdv)) → sp vs H Q E →
      ∃ t, PSs (cxOf CX P w K mg base N qual scope f cdv A outer s H E) body t ∧ t { nx := fun _ H' => Q .non H', rt := Q } (start N vs) H) :
    FnOk P w K mg base CX (k + 1) f (PySem.W.fnOf name qual params body scope dV kV doc pm an cdv ct) ps sp := by
  refine ⟨len, fun A outer s H args us vs Q E hr e0 hb r hsp => ?_⟩
  have hl := len _ _ _ _ hsp
  have KX : K.In s.heap := e0.mod.kin.keeps fun b o e => (e0.bs b o e).1
  have lim : s.heap.NoLimit := e0.mod.nolimit.keeps fun b o e => (e0.bs b o e).1
  have hkind : ∀ y ∈ ps.zip us, scope.names.lookup y.1 = some .local ∨ (scope.names.lookup y.1 = some .cell ∧ ((cellsFrom (s.heap.objs.size + 1) scope.names []).lookup y.1).isSome = true) := fun ⟨n, v⟩ hy => by
    rcases S.par n (List.of_mem_zip hy).1 with q | q
    · exact .inl q
    · exact .inr ⟨q, PySem.W.cellsFrom_some _ _ _ (.inl q)⟩
  refine codeAny_call_function hr.depth (KX _ _ lk) rfl S.co S.gen rfl (PySem.W.codeRec_of KX hcd) (hb _ _ _ _ ?_)
  refine wpAny_newFunctionEnv_cells S.kind hkind fun env he s1 x => ?_
  subst he
  refine ⟨lim.keeps x.toInCall.keep, codeAny_func ?_⟩
  obtain ⟨t, ht, hq⟩ := hbody A outer s H vs Q E (hr.deeper _) hsp
  have I : Inv (cxOf CX P w K mg base N qual scope f cdv A outer s H E) [] (start N vs) H s1 := inv_start S hr.hd e0 hl r x
  refine wpAny_mono (ht [] s1 (start N vs) H _ I hq) (fun fl s' hs => ?_) fun e s' hs => hs
  have fin : ∀ {σ' : St} {H' : Hp} {v : V} {u : Value}, Inv (cxOf CX P w K mg base N qual scope f cdv A outer s H E) [] σ' H' s' → RelV v u → Q v H' → CE outer P w H s Q u s' :=
    fun {σ' H' v u} J rv q => ⟨v, H', J.os, J.bare, J.base, J.hok, rv, q⟩
  cases fl with
  | ret u =>
    obtain ⟨v, σ', H', J, rv, q⟩ := hs
    exact fin J rv q
  | next =>
    obtain ⟨σ', H', J, q⟩ := hs
    exact fin (v := V.non) (u := Value.none) J rfl q
  | brk =>
    obtain ⟨_, _, _, q⟩ := hs
    exact False.elim q
  | cont =>
    obtain ⟨_, _, _, q⟩ := hs
    exact False.elim q
end L2
namespace L2
open PySem PySem.Spec PyProof.Rows
section
variable {X : Cx} {x : Str} {p pos : Pos} {e : Expr} {es : List Expr} {t : TA} {id T : String} {r : List V → Hp → VK → Prop}
def tCB (r : List V → Hp → VK → Prop) (t : TA) : TE := fun σ H Q => t σ H fun vs H1 => r vs H1 Q
theorem pe_callB (hc : CallR X (.builtin id) r) (hg : Gl X x) (hm : X.mg x = none) (hv : bootBuiltins x = some (.builtin id)) (ha : PA X (e :: es) t) (hn : x ≠ "__name__" := by decide) (hdb : (x == ("__debug__" : Str)) = false := by decide)
    (he : starEach (e :: es) X.env = (false, eval e X.env) :: starEach es X.env := by rfl) (hpl : (backTo pos (starEach es X.env)).any (·.1) = false := by rfl) : PE X (.Call (.Name x p) (e :: es) [] pos) (tCB r t) := by
  intro pins s σ H Q I h
  refine wpAny_Call_Name_kw (ld_blt I hg hm hv ?_ hn hdb)
  exact PyProof.Rows.callWith_builtin1 (thn (ha pos pins s σ H _ I h) fun us s1 ⟨vs, H1, I1, r1, q1⟩ => hc pins s1 σ H1 vs us Q I1 r1 q1) he hpl
theorem pe_callTy (hc : CallR X (.type T) r) (hg : Gl X x) (hm : X.mg x = none) (hv : bootBuiltins x = some (.type T)) (ha : PA X (e :: es) t) (hn : x ≠ "__name__" := by decide) (hdb : (x == ("__debug__" : Str)) = false := by decide)
    (he : starEach (e :: es) X.env = (false, eval e X.env) :: starEach es X.env := by rfl) (hpl : (backTo pos (starEach es X.env)).any (·.1) = false := by rfl) : PE X (.Call (.Name x p) (e :: es) [] pos) (tCB r t) := by
  intro pins s σ H Q I h
  refine wpAny_Call_Name_kw (ld_blt I hg hm hv ?_ hn hdb)
  exact PyProof.Rows.callWith_type1 (thn (ha pos pins s σ H _ I h) fun us s1 ⟨vs, H1, I1, r1, q1⟩ => hc pins s1 σ H1 vs us Q I1 r1 q1) he hpl
end
end L2
namespace HT
open PySem PyProof.Rows
section
open PySem.SeqAt
open PySem.AutoSeq1 (wpAny_loadPart')
open PySem.MeetsSeq PySem.MeetsSeq2 PySem.MeetsSeq3
end
section
variable {prog : Program} {w : World} {A : Around} {E : Value → Shared → Prop} {s : Shared}
def sIx (n d : Nat) : Option Int → Nat
  | none => d
  | some v => if v < 0 then (v + (n : Int)).toNat else min v.toNat n
theorem sIx_none (n d : Nat) : sIx n d none = d := rfl
theorem sIx_nat (n d k : Nat) : sIx n d (some (k : Int)) = min k n := by
  show (if (k : Int) < 0 then ((k : Int) + (n : Int)).toNat else min (k : Int).toNat n) = min k n
  rw [if_neg (by omega), Int.toNat_natCast]
end
end HT
namespace L2
open PySem PySem.Spec PyProof.Rows
abbrev TO := St → Hp → (Option Int → Hp → Prop) → Prop
def PO (X : Cx) (e : Option Expr) (t : TO) : Prop :=
  ∀ (pins : List (Addr × Obj)) (s : Shared) (σ : St) (H : Hp) (Q : Option Int → Hp → Prop), Inv X pins σ H s → t σ H Q →
    wpAny (model X.prog X.w) X.A (evalPart e X.env) (fun u s' => ∃ o H', Inv X pins σ H' s' ∧ IsPart u o ∧ Q o H') X.xe s
def tNoPart : TO := fun _ H Q => Q none H
def tPart (t : TE) : TO := fun σ H Q => t σ H fun x H1 => ∃ i, x = .int i ∧ Q (some i) H1
section
variable {X : Cx} {e : Expr} {te : TE} {lo hi : Option Expr} {tl th : TO} {pos p2 : Pos}
theorem po_none : PO X none tNoPart := by
  intro pins s σ H Q I h
  rw [evalPart_none]
  exact wpAny_pure ⟨none, H, I, .none, h⟩
theorem po_some (h : PE X e te) : PO X (some e) (tPart te) := by
  intro pins s σ H Q I hw
  rw [evalPart_some]
  refine thn (h pins s σ H _ I hw) fun u s1 ⟨x, H1, I1, r1, q1⟩ => ?_
  obtain ⟨i, rfl, q⟩ := q1
  obtain ⟨t, rfl⟩ := r1
  exact ⟨some i, H1, I1, .int i t, q⟩
def SlR (X : Cx) (r : V → Option Int → Option Int → Hp → VK → Prop) : Prop :=
  ∀ (pins : List (Addr × Obj)) (s : Shared) (σ : St) (H : Hp) (x : V) (v vl vu : Value) (lo hi : Option Int) (sl : Addr) (Q : VK), Inv X pins σ H s → RelV x v → s.heap.IsSliceOf sl vl vu .none → IsPart vl lo → IsPart vu hi → r x lo hi H Q →
    ∃ T id, typeLookup (.type T) "__getitem__" = pure (some (.builtin id)) ∧ s.TypeIs v T ∧ wpAny (model X.prog X.w) X.A (getItem v (.ref sl)) (EP X pins σ Q) X.xe s
def tSl (r : V → Option Int → Option Int → Hp → VK → Prop) (te : TE) (tl th : TO) : TE := fun σ H Q => te σ H fun x H1 => tl σ H1 fun l H2 => th σ H2 fun u H3 => r x l u H3 Q
theorem pe_slice {r : V → Option Int → Option Int → Hp → VK → Prop} (hr : SlR X r) (he : PE X e te) (hl : PO X lo tl) (hu : PO X hi th) : PE X (.Subscript e (.Slice lo hi none p2) pos) (tSl r te tl th) := by
  intro pins s σ H Q I h
  refine Subscript_ (thn (he pins s σ H _ I h) fun v s1 ⟨x, H1, I1, r1, q1⟩ => ?_)
  refine wpAny_Slice (thn (hl pins s1 σ H1 _ I1 q1) fun vl s2 ⟨l, H2, I2, pl, q2⟩ => thn (hu pins s2 σ H2 _ I2 q2) fun vu s3 ⟨u, H3, I3, pu, q3⟩ => ?_)
  rw [evalPart_none]
  refine wpAny_pure ?_
  have I4 : Inv X pins σ H3 { s3 with heap := s3.heap.push { cls := .type "slice", data := .fields #[vl, vu, .none] } } := I3.kept (t' := s3.toks) fun b ob q => Heap.get?_push_of_some _ q
  obtain ⟨T, id, hT, ht, hg⟩ := hr pins { s3 with heap := s3.heap.push { cls := .type "slice", data := .fields #[vl, vu, .none] } } σ H3 x v vl vu l u s3.heap.objs.size Q I4 r1 (Heap.IsSliceOf.new ..) pl pu q3
  show wpAny (model X.prog X.w) X.A (subscriptTail e (.Slice lo hi none p2) v (.ref s3.heap.objs.size)) (EP X pins σ Q) X.xe { s3 with heap := s3.heap.push { cls := .type "slice", data := .fields #[vl, vu, .none] } }
  exact tail_any (ops := [.ref s3.heap.objs.size, v]) ht hT hg (by with_unfolding_all rfl)
def cutV (xs : List V) (lo hi : Option Int) : List V := (xs.drop (HT.sIx xs.length 0 lo)).take (HT.sIx xs.length xs.length hi - HT.sIx xs.length 0 lo)
theorem cutV_length (xs : List V) (lo hi : Option Int) : (cutV xs lo hi).length ≤ xs.length := by
  unfold cutV
  rw [List.length_take, List.length_drop]
  omega
end
end L2
namespace L2
open PySem PySem.Spec PyProof.Rows
def ixN (n : Nat) (i : Int) : Option Nat := if 0 ≤ i then (if i < n then some i.toNat else none) else if -(n : Int) ≤ i then some (i + n).toNat else none
def atI {α : Type} (xs : List α) (i : Int) : Option α := (ixN xs.length i).bind fun j => xs[j]?
theorem ixN_seq {n : Nat} {i : Int} {j : Nat} (h : ixN n i = some j) : seqIndex? i n = some j ∧ j < n ∧ -(n : Int) ≤ i ∧ i < n := by
  unfold ixN at h
  by_cases h0 : 0 ≤ i
  · rw [if_pos h0] at h
    by_cases h1 : i < n
    · rw [if_pos h1] at h
      have e : i.toNat = j := Option.some.inj h
      exact ⟨by rw [seqIndex_of h0 h1, e], by omega, by omega, h1⟩
    · rw [if_neg h1] at h; cases h
  · rw [if_neg h0] at h
    by_cases h1 : -(n : Int) ≤ i
    · rw [if_pos h1] at h
      have e : (i + n).toNat = j := Option.some.inj h
      exact ⟨by rw [seqIndex_neg (by omega) h1, e], by omega, h1, by omega⟩
    · rw [if_neg h1] at h; cases h
theorem atI_get {α : Type} {xs : List α} {i : Int} {v : α} (h : atI xs i = some v) : ∃ j, seqIndex? i xs.length = some j ∧ xs[j]? = some v ∧ j < xs.length ∧ -(xs.length : Int) ≤ i ∧ i < xs.length := by
  unfold atI at h
  cases e : ixN xs.length i with
  | none => rw [e] at h; cases h
  | some j =>
    rw [e] at h
    obtain ⟨h1, h2, h3, h4⟩ := ixN_seq e
    exact ⟨j, h1, h, h2, h3, h4⟩
theorem atI_nat {α : Type} {xs : List α} {j : Nat} {v : α} (h : xs[j]? = some v) : atI xs (j : Int) = some v := by
  have hj : j < xs.length := (List.getElem?_eq_some_iff.mp h).1
  have e : ixN xs.length (j : Int) = some j := by
    unfold ixN
    rw [if_pos (by omega), if_pos (by omega)]; simp
  unfold atI; rw [e]; exact h
def PlainIx (b : Expr) : Prop := ∀ o i, subscripted b false o i = operate [o, i] (getItem o i)
def IxR (X : Cx) (r : R2) : Prop :=
  ∀ (value slice : Expr) (pins : List (Addr × Obj)) (s : Shared) (σ : St) (H : Hp) (x y : V) (v u : Value) (Q : VK), Inv X pins σ H s → RelV x v → RelV y u → r x y H Q →
    subscripted slice false v u = operate [v, u] (getItem v u) → wpAny (model X.prog X.w) X.A (subscriptTail value slice v u) (EP X pins σ Q) X.xe s
def MtR (X : Cx) (id : String) (r : V → List V → Hp → VK → Prop) : Prop :=
  ∀ (pins : List (Addr × Obj)) (s : Shared) (σ : St) (H : Hp) (x : V) (xs : List V) (v : Value) (us : List Value) (Q : VK), Inv X pins σ H s → RelV x v → Vals xs us → r x xs H Q →
    wpAny (model X.prog X.w) X.A (call (.builtin id) (v :: us)) (EP X pins σ Q) X.xe s
section
variable {X : Cx} {a b : Expr} {ta tb : TE} {pos : Pos}
theorem pe_ix {r : R2} (hr : IxR X r) (ha : PE X a ta) (hb : PE X b tb) (hs : PlainIx b) : PE X (.Subscript a b pos) (tOp r ta tb) := by
  intro pins s σ H Q I h
  exact Subscript_ (binT ha hb I h fun v u s2 x y H2 I2 rx ry q => hr a b pins s2 σ H2 x y v u Q I2 rx ry q (hs _ _))
def rIxL (K : PySem.W.Frag) : R2 := fun x y H Q => ∃ p xs i v, x = .ref p ∧ y = .int i ∧ SqL K H p xs ∧ atI xs i = some v ∧ Q v H
def rIxT (K : PySem.W.Frag) : R2 := fun x y H Q => ∃ p xs i v, x = .ref p ∧ y = .int i ∧ SqT K H p xs ∧ atI xs i = some v ∧ Q v H
theorem ix_list : IxR X (rIxL X.K) := by
  intro value slice pins s σ H x y v u Q I rx ry h hs
  obtain ⟨p, xs, i, z, rfl, rfl, hq, he, q⟩ := h
  cases rx
  obtain ⟨t, rfl⟩ := ry
  obtain ⟨its, r, pl, hz⟩ := I.list hq
  obtain ⟨j, h1, h2, h3, h4, h5⟩ := atI_get he
  obtain ⟨w, ew, rw'⟩ := r.get h2
  have hl := r.length
  have hn := line63
  have fin : EP X pins σ Q w s := ⟨z, H, I, rw', q⟩
  by_cases h0 : 0 ≤ i
  · have hj : i.toNat = j := by
      rw [seqIndex_of h0 h5] at h1
      exact Option.some.inj h1
    exact item_listR pl.isList h0 (by omega) (by rw [hj]; simpa using ew) fin hs
  · have hj : (i + (its.toArray.size : Int)).toNat = j := by
      rw [seqIndex_neg (by omega) h4] at h1
      rw [List.size_toArray, ← hl]
      exact Option.some.inj h1
    exact subscriptTail_builtinR (x := w) pl.isList.typeIs slot_list_getitem.lookup
      (wpAny_getItem_list_neg (Q := fun r s' => r = w ∧ EP X pins σ Q r s') pl.isList (by omega) (by rw [List.size_toArray] <;> omega) (by omega) (by rw [hj]; simpa using ew) ⟨rfl, fin⟩) hs
theorem ix_tup : IxR X (rIxT X.K) := by
  intro value slice pins s σ H x y v u Q I rx ry h hs
  obtain ⟨p, xs, i, z, rfl, rfl, hq, he, q⟩ := h
  cases rx
  obtain ⟨t, rfl⟩ := ry
  obtain ⟨its, r, pl, hz⟩ := I.tuple hq
  obtain ⟨j, h1, h2, h3, h4, h5⟩ := atI_get he
  obtain ⟨w, ew, rw'⟩ := r.get h2
  have hl := r.length
  have hn := line63
  have fin : EP X pins σ Q w s := ⟨z, H, I, rw', q⟩
  exact subscriptTail_builtinR (x := w) pl.typeIs slot_tuple_getitem.lookup
    (getItem_tuple (j := j) (Q := fun r s' => r = w ∧ EP X pins σ Q r s') pl (by omega) (by omega) (by rw [List.size_toArray, ← hl]; exact h1) (by simpa using ew) ⟨rfl, fin⟩) hs
theorem mapSeq_set (its : List Value) (n j : Nat) (u : Value) : Obj.mapSeq (·.setIfInBounds j u) { cls := .type "list", data := .seq its.toArray n } = { cls := .type "list", data := .seq (its.set j u).toArray n } := by
  simp [Obj.mapSeq]
theorem Inv.lst {pins : List (Addr × Obj)} {σ : St} {H : Hp} {s : Shared} {p : Addr} {xs : List V} (I : Inv X pins σ H s) (h : H p = some (.lst xs)) :
    ∃ (its : List Value) (n : Nat), Vals xs its ∧ s.heap.get? p = some { cls := .type "list", data := .seq its.toArray n } ∧ xs.length ≤ sizeLine := by
  obtain ⟨z, its, n, r, e⟩ := I.hok p _ h
  exact ⟨its, n, r, e, z⟩
theorem Inv.lstUpd {pins : List (Addr × Obj)} {σ : St} {H : Hp} {s : Shared} {p : Addr} {xs ys : List V} {its its' : List Value} {n n' : Nat} {f : Obj → Obj} (I : Inv X pins σ H s) (h : H p = some (.lst xs))
    (ho : s.heap.get? p = some { cls := .type "list", data := .seq its.toArray n }) (hf : f { cls := .type "list", data := .seq its.toArray n } = { cls := .type "list", data := .seq its'.toArray n' }) (r : Vals ys its') (hz : ys.length ≤ sizeLine) (t : Nat) :
    Inv X pins σ (upd H p (.lst ys)) { s with heap := s.heap.update p f, toks := t } := by
  have e : (s.heap.update p f).get? p = some { cls := .type "list", data := .seq its'.toArray n' } := by
    rw [Heap.get?_update_self f ho (by rw [hf] <;> rfl), hf]
  refine I.write (x := p) (e := p) (by rw [h]; trivial) (.inl rfl) (fun b u hb q => (Heap.get?_update_other _ _ (Ne.symm hb)).trans q) ⟨_, e⟩ ?_
  exact ⟨hz, its', n', r, e⟩
def rSetL : V → V → V → Hp → (Hp → Prop) → Prop := fun o i v H Q => ∃ p xs k j, o = .ref p ∧ i = .int k ∧ H p = some (.lst xs) ∧ ixN xs.length k = some j ∧ Q (upd H p (.lst (xs.set j v)))
theorem set_list : PSet X rSetL := by
  intro pins s σ H o i v ov iv u Q I ro ri rv h
  obtain ⟨p, xs, k, j, rfl, rfl, hp, hj, q⟩ := h
  cases ro
  obtain ⟨t, rfl⟩ := ri
  obtain ⟨its, n, r, ho, hz⟩ := I.lst hp
  obtain ⟨h1, h2, h3, h4⟩ := ixN_seq hj
  have hl := r.length
  have hn := line63
  have I' : Inv X pins σ (upd H p (.lst (xs.set j v))) { s with heap := s.heap.update p (Obj.mapSeq (·.setIfInBounds j u)) } :=
    I.lstUpd hp ho (mapSeq_set its n j u) (r.set rv j) (by rw [List.length_set]; exact hz) s.toks
  by_cases h0 : 0 ≤ k
  · have hk : k.toNat = j := by
      rw [seqIndex_of h0 h4] at h1
      exact Option.some.inj h1
    exact PySem.W.ki_setAt ho h0 (by omega) (by rw [List.size_toArray, ← hl]; exact h4) (by rw [hk]; exact ⟨_, I', q⟩)
  · have hk : (k + (its.toArray.size : Int)).toNat = j := by
      rw [seqIndex_neg (by omega) h3] at h1
      rw [List.size_toArray, ← hl]
      exact Option.some.inj h1
    exact PySem.W.ki_setBack ho (by omega) (by rw [List.size_toArray, ← hl]; exact h3) (by omega) (by rw [hk]; exact ⟨_, I', q⟩)
theorem slice_bounds (lo hi : Option Int) (n : Nat) : (sliceBounds lo hi none n).1 = ((HT.sIx n 0 lo : Nat) : Int) ∧ (sliceBounds lo hi none n).2.1 = ((HT.sIx n n hi : Nat) : Int) ∧ (sliceBounds lo hi none n).2.2 = 1 := by
  refine ⟨?_, ?_, rfl⟩
  · cases lo with
    | none => simp [sliceBounds, HT.sIx]
    | some i =>
      simp only [sliceBounds, HT.sIx, Option.getD_none, show (1 : Int) > 0 by decide, if_true]
      by_cases h : i < 0
      · simp only [h, if_true] <;> omega
      · simp only [h, if_false] <;> omega
  · cases hi with
    | none => simp [sliceBounds, HT.sIx]
    | some i =>
      simp only [sliceBounds, HT.sIx, Option.getD_none, show (1 : Int) > 0 by decide, if_true]
      by_cases h : i < 0
      · simp only [h, if_true] <;> omega
      · simp only [h, if_false] <;> omega
theorem slicePick_cut (its : List Value) (lo hi : Option Int) : slicePick its.toArray lo hi none = ((its.drop (HT.sIx its.length 0 lo)).take (HT.sIx its.length its.length hi - HT.sIx its.length 0 lo)).toArray := by
  obtain ⟨h1, h2, h3⟩ := slice_bounds lo hi its.toArray.size
  unfold slicePick
  rw [h1, h2, h3]
  simp only [sliceRange_one, pick_run, List.size_toArray] <;> rfl
def rSlL (K : PySem.W.Frag) : V → Option Int → Option Int → Hp → VK → Prop := fun x lo hi H Q => ∃ a xs, x = .ref a ∧ SqL K H a xs ∧ ∀ p, H p = none → Q (.ref p) (upd H p (.lst (cutV xs lo hi)))
theorem sl_list : SlR X (rSlL X.K) := by
  intro pins s σ H x v vl vu lo hi sl Q I rx hs pl pu h
  obtain ⟨a, xs, rfl, hx, q⟩ := h
  cases rx
  obtain ⟨its, r, ht, hz⟩ := I.list hx
  have hlen := r.length
  refine ⟨"list", _, slot_list_getitem.lookup, ht.isList.typeIs, ?_⟩
  refine wpAny_getItem_list_slice ht.isList hs pl pu .none (by simp) ?_ (by rw [List.size_toArray] <;> omega)
  rw [slicePick_cut, ← hlen]
  refine ⟨.ref s.heap.objs.size, _, I.laid (t' := s.toks) (o := .lst (cutV xs lo hi)) (fun b ob q => Heap.get?_push_of_some _ q) (Nat.le_refl _) ?_, rfl, q _ (I.hok.fresh (Nat.le_refl _))⟩
  exact ⟨Nat.le_trans (cutV_length xs lo hi) hz, _, 0, (r.drop (HT.sIx xs.length 0 lo)).take (HT.sIx xs.length xs.length hi - HT.sIx xs.length 0 lo), Heap.get?_push_size _ rfl⟩
def flatV : V → Bool
  | .non => true
  | .bl _ => true
  | .int _ => true
  | .str _ => true
  | _ => false
def eqV : V → V → Bool
  | .non, .non => true
  | .bl a, .bl b => a == b
  | .bl a, .int b => (if a then 1 else 0) == b
  | .int a, .bl b => a == (if b then 1 else 0)
  | .int a, .int b => a == b
  | .str a, .str b => a == b
  | _, _ => false
theorem eqAt_V {A : Around} {s : Shared} {y x : V} {u v : Value} (ry : RelV y u) (rx : RelV x v) (fy : flatV y = true) (fx : flatV x = true) : SeqAt.EqAt A s u v (eqV y x) := by
  cases y with
  | non =>
    cases ry
    cases x with
    | non => cases rx; exact SeqAt.EqAt.same _
    | bl b => cases rx; exact SeqAt.EqAt.none_bool b
    | int b => obtain ⟨t, rfl⟩ := rx; exact SeqAt.EqAt.none_int b t
    | str b => obtain ⟨t, rfl⟩ := rx; exact SeqAt.EqAt.none_str b t
    | _ => exact absurd (show false = true from fx) Bool.false_ne_true
  | bl a =>
    cases ry
    cases x with
    | non => cases rx; exact SeqAt.EqAt.bool_none a
    | bl b => cases rx; exact SeqAt.EqAt.bool_bool a b
    | int b => obtain ⟨t, rfl⟩ := rx; exact SeqAt.EqAt.bool_int a b t
    | str b => obtain ⟨t, rfl⟩ := rx; exact SeqAt.EqAt.bool_str a b t
    | _ => exact absurd (show false = true from fx) Bool.false_ne_true
  | int a =>
    obtain ⟨t', rfl⟩ := ry
    cases x with
    | non => cases rx; exact SeqAt.EqAt.int_none a t'
    | bl b => cases rx; exact SeqAt.EqAt.int_bool a t' b
    | int b => obtain ⟨t, rfl⟩ := rx; exact SeqAt.EqAt.int_int a t' b t
    | str b => obtain ⟨t, rfl⟩ := rx; exact SeqAt.EqAt.int_str a t' b t
    | _ => exact absurd (show false = true from fx) Bool.false_ne_true
  | str a =>
    obtain ⟨t', rfl⟩ := ry
    cases x with
    | non => cases rx; exact SeqAt.EqAt.str_none a t'
    | bl b => cases rx; exact SeqAt.EqAt.str_bool a t' b
    | int b => obtain ⟨t, rfl⟩ := rx; exact SeqAt.EqAt.str_int a t' b t
    | str b => obtain ⟨t, rfl⟩ := rx; exact SeqAt.EqAt.str_str a t' b t
    | _ => exact absurd (show false = true from fx) Bool.false_ne_true
  | _ => exact absurd (show false = true from fy) Bool.false_ne_true
def eqU (x : V) (u : Value) : Bool := match u with
  | .none => eqV .non x
  | .bool b => eqV (.bl b) x
  | .int i _ => eqV (.int i) x
  | .str z _ => eqV (.str z) x
  | _ => false
theorem eqU_of {x y : V} {u : Value} (r : RelV y u) (f : flatV y = true) : eqU x u = eqV y x := by
  cases y with
  | non => cases r; rfl
  | bl b => cases r; rfl
  | int i => obtain ⟨t, rfl⟩ := r; rfl
  | str z => obtain ⟨t, rfl⟩ := r; rfl
  | _ => exact absurd (show false = true from f) Bool.false_ne_true
theorem any_eqU {x : V} : ∀ {xs : List V} {us : List Value}, Vals xs us → xs.all flatV = true → us.any (eqU x) = xs.any fun y => eqV y x
  | _, _, .nil, _ => rfl
  | y :: xs, u :: us, .cons r t, f => by
    rw [List.all_cons, Bool.and_eq_true] at f
    rw [List.any_cons, List.any_cons, eqU_of r f.1, any_eqU t f.2]
theorem mem_eqAt {A : Around} {s : Shared} {x : V} {v : Value} (rx : RelV x v) (fx : flatV x = true) : ∀ {xs : List V} {us : List Value}, Vals xs us → xs.all flatV = true → ∀ u ∈ us, SeqAt.EqAt A s u v (eqU x u)
  | _, _, .nil, _ => fun u hu => by cases hu
  | y :: xs, u :: us, .cons r t, f => fun u' hu => by
    rw [List.all_cons, Bool.and_eq_true] at f
    rcases List.mem_cons.mp hu with rfl | hu
    · rw [eqU_of r f.1]; exact eqAt_V r rx f.1 fx
    · exact mem_eqAt rx fx t f.2 u' hu
def inV (x : V) (xs : List V) : Bool := xs.any fun y => eqV y x
def rIn (K : PySem.W.Frag) (neg : Bool) : R2 := fun x y H Q => ∃ p xs, y = .ref p ∧ (SqL K H p xs ∨ SqT K H p xs) ∧ flatV x = true ∧ xs.all flatV = true ∧ Q (.bl (if neg then !inV x xs else inV x xs)) H
theorem op_in_seq : OpR X (compareOp .In) (rIn X.K false) := by
  intro pins s σ H x y v u Q I rx ry h
  obtain ⟨p, xs, rfl, hq, fx, fs, q⟩ := h
  cases ry
  rcases hq with hq | hq
  · obtain ⟨its, r, pl, hz⟩ := I.list hq
    refine SeqAt.in_listAt (eqU x) pl.isList (fun w hw => mem_eqAt rx fx r fs w (by simpa using hw)) ⟨.bl _, H, I, rfl, ?_⟩
    rw [show its.toArray.any (eqU x) = its.any (eqU x) by simp, any_eqU r fs]
    exact q
  · obtain ⟨its, r, pl, hz⟩ := I.tuple hq
    refine SeqAt.in_tupleAt (eqU x) pl (fun w hw => mem_eqAt rx fx r fs w (by simpa using hw)) ⟨.bl _, H, I, rfl, ?_⟩
    rw [show its.toArray.any (eqU x) = its.any (eqU x) by simp, any_eqU r fs]
    exact q
theorem op_notIn_seq : OpR X (compareOp .NotIn) (rIn X.K true) := by
  intro pins s σ H x y v u Q I rx ry h
  obtain ⟨p, xs, rfl, hq, fx, fs, q⟩ := h
  cases ry
  rcases hq with hq | hq
  · obtain ⟨its, r, pl, hz⟩ := I.list hq
    refine SeqAt.notIn_listAt (eqU x) pl.isList (fun w hw => mem_eqAt rx fx r fs w (by simpa using hw)) ⟨.bl _, H, I, rfl, ?_⟩
    rw [show its.toArray.any (eqU x) = its.any (eqU x) by simp, any_eqU r fs]
    exact q
  · obtain ⟨its, r, pl, hz⟩ := I.tuple hq
    refine SeqAt.notIn_tupleAt (eqU x) pl (fun w hw => mem_eqAt rx fx r fs w (by simpa using hw)) ⟨.bl _, H, I, rfl, ?_⟩
    rw [show its.toArray.any (eqU x) = its.any (eqU x) by simp, any_eqU r fs]
    exact q
theorem call_len_seq : CallR X (.builtin "len") (fun xs H Q => ∃ p ys, xs = [.ref p] ∧ (SqL X.K H p ys ∨ SqT X.K H p ys) ∧ Q (.int ys.length) H) := by
  intro pins s σ H xs us Q I r h
  obtain ⟨p, ys, rfl, hq, q⟩ := h
  obtain ⟨u, rfl, rx⟩ := vals1 r
  cases rx
  have hn := line63
  rcases hq with hq | hq
  · obtain ⟨its, r', pl, hz⟩ := I.list hq
    have hlen := r'.length
    exact Calls.call_len_list pl.isList (by simp only [List.size_toArray] <;> omega) ⟨.int ys.length, H, I.tok _, ⟨s.toks + 1, by rw [List.size_toArray, hlen]⟩, q⟩
  · obtain ⟨its, r', pl, hz⟩ := I.tuple hq
    have hlen := r'.length
    exact len_tuple pl (by simp only [List.size_toArray] <;> omega) ⟨.int ys.length, H, I.tok _, ⟨s.toks + 1, by rw [List.size_toArray, hlen]⟩, q⟩
def tyV (K : PySem.W.Frag) (T : String) (x : V) (H : Hp) : Prop := match x with
  | .str _ => T = "str"
  | .int _ => T = "int"
  | .ref p => (T = "list" ∧ ∃ xs, SqL K H p xs) ∨ (T = "tuple" ∧ ∃ o, K.lookup p = some o ∧ o.cls = .type "tuple" ∧ o.dict = none) ∨
      (T = "dict" ∧ ((∃ kvs, H p = some (.dK kvs)) ∨ ∃ kvs, H p = some (.dT kvs))) ∨ (T = "set" ∧ ∃ S n, H p = some (.set S n))
  | _ => False
theorem tyV_is {pins : List (Addr × Obj)} {σ : St} {H : Hp} {s : Shared} {T : String} {x : V} {v : Value} (I : Inv X pins σ H s) (r : RelV x v) (ty : tyV X.K T x H) :
    s.TypeIs v T ∧ ∀ a, v = .ref a → ∃ ob, s.heap.get? a = some ob ∧ ob.dict = none := by
  cases x with
  | str z =>
    obtain ⟨t, rfl⟩ := r
    cases (show T = "str" from ty)
    exact ⟨typeIs_str s z t, fun _ e => nomatch e⟩
  | int i =>
    obtain ⟨t, rfl⟩ := r
    cases (show T = "int" from ty)
    exact ⟨typeIs_int s i t, fun _ e => nomatch e⟩
  | ref p =>
    cases r
    rcases ty with ⟨rfl, xs, hq⟩ | ⟨rfl, o, hk, hc, hd⟩ | ⟨rfl, hk⟩ | ⟨rfl, S, n, hk⟩
    · obtain ⟨its, _, pl, _⟩ := I.list hq
      refine ⟨pl.isList.typeIs, fun a e => ?_⟩
      cases e
      obtain ⟨o, n, e, c, hd, _⟩ := pl
      exact ⟨o, e, hd⟩
    · refine ⟨⟨o, I.kIn p o hk, hc⟩, fun a e => ?_⟩
      cases e
      exact ⟨o, I.kIn _ o hk, hd⟩
    · have z : ∃ o, s.heap.get? p = some o ∧ o.ExactDict := by
        rcases hk with ⟨kvs, hk⟩ | ⟨kvs, hk⟩
        · obtain ⟨_, _, _, _, o, _, _, e, ex, _⟩ := I.hok p _ hk
          exact ⟨o, e, ex⟩
        · obtain ⟨_, _, _, _, o, _, _, e, ex, _⟩ := I.hok p _ hk
          exact ⟨o, e, ex⟩
      obtain ⟨o, e, ex⟩ := z
      refine ⟨⟨o, e, ex.1⟩, fun a e2 => ?_⟩
      cases e2
      exact ⟨o, e, ex.2.1⟩
    · obtain ⟨o, _, _, _, e, ex, _⟩ := I.hok p _ hk
      refine ⟨⟨o, e, ex.1⟩, fun a e2 => ?_⟩
      cases e2
      exact ⟨o, e, ex.2.1⟩
  | _ => exact False.elim ty
def tBM (K : PySem.W.Frag) (T : String) (r : V → List V → Hp → VK → Prop) (to : TE) (t : TA) : TE := fun σ H Q => to σ H fun x H1 => tyV K T x H1 ∧ t σ H1 fun xs H2 => r x xs H2 Q
variable {o e : Expr} {es : List Expr} {to : TE} {t : TA} {name : Str} {apos cpos : Pos} {T id : String} {r : V → List V → Hp → VK → Prop}
theorem pe_bm (pa : PlainAttrs T) (slot : Slot T name id) (hty : typeOf (.builtin id) = pure (.type "method_descriptor")) (hm : MtR X id r) (ho : PE X o to) (ha : PA X (e :: es) t)
    (hbase : attributeBase o name X.env (eval o X.env) = eval o X.env := by rfl)
    (hfew : ((backTo cpos (starEach (e :: es) X.env)).all (fun x => !x.1) && (backToKw cpos (keywordEach [] X.env)).all (fun x => x.1.isSome)
      && decide ((e :: es).length + ([] : List Keyword).length + (if ([] : List Keyword).isEmpty then 0 else 1) < 30)) = true := by rfl)
    (hline : (apos.endLine == cpos.line) = true := by rfl) (hs : starEach (e :: es) X.env = (false, eval e X.env) :: starEach es X.env := by rfl) (hplain : (backTo cpos (starEach es X.env)).any (·.1) = false := by rfl) :
    PE X (.Call (.Attribute o name apos) (e :: es) [] cpos) (tBM X.K T r to t) := by
  intro pins s σ H Q I h
  refine wpAny_Call_method_late hbase hfew hline rfl (thn (ho pins s σ H _ I h) fun v s1 ⟨x, H1, I1, r1, ty, q1⟩ => ?_)
  obtain ⟨h1, h2⟩ := tyV_is I1 r1 ty
  refine ⟨T, id, pa, slot, hty, h1, h2, ?_⟩
  have hA := ha cpos pins s1 σ H1 _ I1 q1
  rw [hs] at hA ⊢
  refine Calls.callWith_builtin (by show (false || (backTo cpos (starEach es X.env)).any (·.1)) = false; rw [hplain] <;> rfl) (Calls.evalArgs_plain ?_)
  exact thn hA fun us s2 ⟨vs, H2, I2, r2, q2⟩ => hm pins s2 σ H2 x vs v us Q I2 r1 r2 q2
/- xs.append(e), list.index on a module's tuple .. are MtR facts of 06m -/
end
end L2
namespace L2
open PySem PySem.Spec PyProof.Rows
def MtM (X : Cx) (id : String) (r : V → List V → Hp → VK → Prop) : Prop :=
  ∀ (pins : List (Addr × Obj)) (s : Shared) (σ : St) (H : Hp) (x : V) (xs : List V) (v : Value) (us : List Value) (Q : VK), Inv X pins σ H s → RelV x v → Vals xs us → r x xs H Q →
    wpAny (model X.prog X.w) X.A (call (.builtin id) (v :: us)) (EP X pins σ Q) X.xe s
theorem Vals.one : ∀ {x : V} {us : List Value}, Vals [x] us → ∃ u, us = [u] ∧ RelV x u
  | _, _, .cons r .nil => ⟨_, rfl, r⟩
section
variable {X : Cx} {pins : List (Addr × Obj)} {σ : St} {H : Hp} {s : Shared} {l b : Addr} {xs ys zs : List V}
theorem Inv.lset {its its' : List Value} {n : Nat} {f : Array Value → Array Value} {t' : Nat} (I : Inv X pins σ H s) (hH : H l = some (.lst xs))
    (e : s.heap.get? l = some { cls := .type "list", data := .seq its.toArray n }) (hf : f its.toArray = its'.toArray) (hv : Vals ys its') (hz : ys.length ≤ sizeLine) :
    Inv X pins σ (upd H l (.lst ys)) { s with heap := s.heap.update l (Obj.mapSeq f), toks := t' } := by
  have q := PySem.IsL.update e f
  rw [hf] at q
  refine I.write (x := l) (e := l) (by rw [hH]; exact trivial) (.inl rfl) (fun b' u hb hu => (Heap.get?_update_other s.heap (Obj.mapSeq f) (Ne.symm hb)).trans hu) ⟨_, q⟩ ?_
  exact ⟨hz, its', _, hv, q⟩
theorem Inv.lnew {its : List Value} {t' : Nat} (I : Inv X pins σ H s) (hv : Vals ys its) (hz : ys.length ≤ sizeLine) :
    Inv X pins σ (upd H s.heap.objs.size (.lst ys)) { s with heap := s.heap.push { cls := .type "list", data := .seq its.toArray }, toks := t' } :=
  I.laid (fun _ _ q => Heap.get?_push_of_some _ q) (Nat.le_refl _) ⟨hz, its, 0, hv, Heap.get?_push_size _ rfl⟩
theorem Inv.fresh (I : Inv X pins σ H s) : H s.heap.objs.size = none := I.hok.fresh (Nat.le_refl _)
theorem Inv.lstM (I : Inv X pins σ H s) (hH : H l = some (.lst xs)) : xs.length ≤ sizeLine ∧ ∃ (its : List Value) (n : Nat), Vals xs its ∧ xs.length = its.length ∧ s.heap.get? l = some { cls := .type "list", data := .seq its.toArray n } := by
  obtain ⟨z, its, n, r, e⟩ := I.hok l _ hH
  exact ⟨z, its, n, r, r.length, e⟩
theorem notLongL {n : Nat} (h : n ≤ sizeLine) : Builtin.List.listTooLong n = false := by
  unfold Builtin.List.listTooLong
  exact decide_eq_false (by omega)
end
section
variable {X : Cx}
def rAppend : V → List V → Hp → VK → Prop := fun x vs H Q => ∃ l xs y, x = .ref l ∧ vs = [y] ∧ H l = some (.lst xs) ∧ xs.length < sizeLine ∧ Q .non (upd H l (.lst (xs ++ [y])))
theorem mt_append : MtM X "list.append" rAppend := by
  intro pins s σ H x vs v us Q I rx rv h
  obtain ⟨l, xs, y, rfl, rfl, hH, hz, q⟩ := h
  cases rx
  obtain ⟨u, rfl, ru⟩ := rv.one
  obtain ⟨z, its, n, r, hl, e⟩ := I.lstM hH
  refine call_meets F.slot_list_append ⟨_, e, rfl⟩ F.entry_list_append (F.args_list_append_2 _ _) (PySem.list_append l its.toArray n u (by rw [List.size_toArray]; omega)) ⟨e, ?_⟩
  refine ⟨.non, _, I.lset (its' := its ++ [u]) hH e (by simp) (r.append (.cons ru .nil)) ?_, rfl, q⟩
  rw [List.length_append, List.length_singleton]
  omega
def rExtend : V → List V → Hp → VK → Prop := fun x vs H Q => ∃ l b xs zs, x = .ref l ∧ vs = [.ref b] ∧ H l = some (.lst xs) ∧ H b = some (.lst zs) ∧ xs.length + zs.length ≤ sizeLine ∧ Q .non (upd H l (.lst (xs ++ zs)))
theorem mt_extend : MtM X "list.extend" rExtend := by
  intro pins s σ H x vs v us Q I rx rv h
  obtain ⟨l, b, xs, zs, rfl, rfl, hH, hB, hz, q⟩ := h
  cases rx
  obtain ⟨u, rfl, ru⟩ := rv.one
  cases ru
  obtain ⟨z, its, n, r, hl, e⟩ := I.lstM hH
  obtain ⟨z2, its2, n2, r2, hl2, e2⟩ := I.lstM hB
  have hsz : its.toArray.size + its2.toArray.size ≤ sizeLine := by rw [List.size_toArray, List.size_toArray]; omega
  have hlong : ¬ (!its.toArray.isEmpty && Builtin.List.listTooLong (its.toArray.size + its2.toArray.size)) = true := by
    rw [notLongL hsz, Bool.and_false]
    exact Bool.false_ne_true
  refine call_meets F.slot_list_extend ⟨_, e, rfl⟩ F.entry_list_extend (F.args_list_extend_2 _ _)
    (AutoSeq1.list_extend_list_list_0 l its.toArray n b its2.toArray n2 hlong (by rw [List.size_toArray]; omega) (by omega)) ⟨e, e2, ?_⟩
  refine ⟨.non, _, I.lset (its' := its ++ its2) hH e (by simp) (r.append r2) ?_, rfl, q⟩
  rw [List.length_append]
  omega
def rCat : R2 := fun x y H Q => ∃ l b xs zs, x = .ref l ∧ y = .ref b ∧ H l = some (.lst xs) ∧ H b = some (.lst zs) ∧ xs.length + zs.length ≤ sizeLine ∧ ∀ p, H p = none → Q (.ref p) (upd H p (.lst (xs ++ zs)))
theorem op_cat : OpR X (binaryOp .Add) rCat := by
  intro pins s σ H x y v u Q I rx ry h
  obtain ⟨l, b, xs, zs, rfl, rfl, hH, hB, hz, q⟩ := h
  cases rx
  cases ry
  obtain ⟨z, its, n, r, hl, e⟩ := I.lstM hH
  obtain ⟨z2, its2, n2, r2, hl2, e2⟩ := I.lstM hB
  refine PySem.P.add_list e e2 ?_ (by rw [List.size_toArray, List.size_toArray]; omega)
  have ea : its.toArray ++ its2.toArray = (its ++ its2).toArray := by simp
  rw [ea]
  exact ⟨.ref _, _, I.lnew (t' := s.toks) (r.append r2) (by rw [List.length_append]; omega), rfl, q _ I.fresh⟩
end
section
variable {prog : Program} {w : World} {A : Around} {E : Value → Shared → Prop} {s : Shared}
set_option maxRecDepth 100000 in
end
section
variable {X : Cx}
end
end L2
namespace L2
open PySem PySem.Spec PyProof.Rows
theorem Vals.ints : ∀ {ns : List Int} {us : List Value}, Vals (ns.map V.int) us → IntsAre us ns
  | [], us, h => by
    rw [List.map_nil] at h
    cases h
    exact IntsAre.nil
  | n :: ns, us, h => by
    rw [List.map_cons] at h
    cases h with
    | cons r t =>
      obtain ⟨k, rfl⟩ := r
      exact IntsAre.cons n k (Vals.ints t)
theorem Vals.bls : ∀ {bs : List Bool} {us : List Value}, Vals (bs.map V.bl) us → us = bs.map Value.bool
  | [], us, h => by
    rw [List.map_nil] at h
    cases h
    rfl
  | b :: bs, us, h => by
    rw [List.map_cons] at h
    cases h with
    | cons r t =>
      cases r
      rw [Vals.bls t, List.map_cons]
theorem Vals.ref1 {a : Addr} {us : List Value} (r : Vals [V.ref a] us) : us = [Value.ref a] := by
  cases r with
  | cons r t =>
    cases t
    cases r
    rfl
section
variable {prog : Program} {w : World} {A : Around} {E : Value → Shared → Prop} {s : Shared} {l : Addr} {its : List Value} {ns : List Int} {Q : Value → Shared → Prop}
theorem sum_raw (hh : A.handled = none) (hl : s.heap.IsList l its.toArray) (hi : IntsAre its ns)
    (h : ∀ h' tk t', (∀ b o, s.heap.get? b = some o → h'.get? b = some o) → Q (.int ns.sum t') { s with heap := h', toks := tk }) : wpAny (model prog w) A (call (.builtin "sum") [.ref l]) Q E s := by
  obtain ⟨xs, e⟩ := hi.allInts.items
  have hn : numsOf (intItems xs).toList = ns := by rw [← e]; exact hi.numsOf
  rw [nums_intItems] at hn
  rw [e] at hl
  refine PySem.sum_intListG hh hl fun h' tk t' hk => ?_
  have := h h' tk t' hk
  rw [preSum_eq, List.take_of_length_le (by simp), hn]; exact this
theorem min_raw (hh : A.handled = none) (hl : s.heap.IsList l its.toArray) (hi : IntsAre its ns) (hne : 0 < ns.length)
    (h : ∀ h' tk M t', (∀ b o, s.heap.get? b = some o → h'.get? b = some o) → M ∈ ns → (∀ a, a ∈ ns → M ≤ a) → Q (.int M t') { s with heap := h', toks := tk }) : wpAny (model prog w) A (call (.builtin "min") [.ref l]) Q E s := by
  obtain ⟨xs, e⟩ := hi.allInts.items
  have hn : numsOf (intItems xs).toList = ns := by rw [← e]; exact hi.numsOf
  rw [nums_intItems] at hn
  subst hn
  rw [e] at hl
  have hsz : 0 < xs.size := by simpa using hne
  refine PySem.min_intList hh hl hsz fun v h' tk hv hk => ?_
  obtain ⟨t, rfl⟩ := intItems_at hv
  obtain ⟨h1, h2⟩ := argBest_lt (numAt xs) (xs.size - 1)
  refine h h' tk _ t hk ?_ fun a ha => ?_
  · rw [numAt_eq]; exact PySem.getD_mem (by rw [List.length_map, Array.length_toList]; omega)
  · obtain ⟨j, hj, rfl⟩ := mem_getD ha
    rw [List.length_map, Array.length_toList] at hj
    rw [← numAt_eq]; exact h2 j (by omega)
end
section
variable {X : Cx}
def rSum (K : PySem.W.Frag) : List V → Hp → VK → Prop := fun vs H Q => ∃ (a : Addr) (ns : List Int), vs = [V.ref a] ∧ SqL K H a (ns.map V.int) ∧ Q (.int ns.sum) H
def rMin (K : PySem.W.Frag) : List V → Hp → VK → Prop := fun vs H Q => ∃ (a : Addr) (ns : List Int), vs = [V.ref a] ∧ SqL K H a (ns.map V.int) ∧ 0 < ns.length ∧ ∀ m, m ∈ ns → (∀ y, y ∈ ns → m ≤ y) → Q (.int m) H
theorem cr_sum (hc : X.calm = true) : CallR X (.builtin "sum") (rSum X.K) := by
  intro pins s σ H vs us Q I r h
  obtain ⟨a, ns, rfl, hs, q⟩ := h
  obtain ⟨its, rv, hl, _⟩ := I.list hs
  rw [Vals.ref1 r]
  exact sum_raw (I.ok.hd hc) hl.isList rv.ints fun h' tk t' hk => ⟨.int _, H, I.kept hk, ⟨_, rfl⟩, q⟩
theorem cr_min (hc : X.calm = true) : CallR X (.builtin "min") (rMin X.K) := by
  intro pins s σ H vs us Q I r h
  obtain ⟨a, ns, rfl, hs, hne, q⟩ := h
  obtain ⟨its, rv, hl, _⟩ := I.list hs
  rw [Vals.ref1 r]
  exact min_raw (I.ok.hd hc) hl.isList rv.ints hne fun h' tk m t' hk h1 h2 => ⟨.int _, H, I.kept hk, ⟨_, rfl⟩, q m h1 h2⟩
end
section
variable {X : Cx}
end
section
variable {X : Cx}
end
theorem iter_any {prog : Program} {w : World} {A : Around} {E : Value → Shared → Prop} {s : Shared} {l : Addr} {items : Array Value} {Q : Value → Shared → Prop} (hl : s.heap.IsList l items)
    (h : ∀ s₂ : Shared, s₂ = { s with heap := s.heap.push { cls := .type "list_iterator", data := .fields #[.ref l, .int 0 0] } } →
      (s₂.heap.IsListIter s.heap.objs.size l 0 ∧ s₂.heap.IsList l items) → l ≠ s.heap.objs.size → Q (.ref s.heap.objs.size) s₂) : wpAny (model prog w) A (pyIter (.ref l)) Q E s := by
  have hlt : l < s.heap.objs.size := by obtain ⟨_, e, _⟩ := hl; exact Heap.lt_size e
  exact wpAny_pyIter_list hl (h _ rfl ⟨⟨_, Heap.get?_push_size _ rfl, rfl, rfl⟩, hl.push _⟩ (Nat.ne_of_lt hlt))
theorem truth_bools {prog : Program} {w : World} {A : Around} {bs : List Bool} {its : List Value} (e : its = bs.map Value.bool) :
    TruthOf prog w A (fun i v => its.toArray[i]? = some v) (fun i => bs.getD i false) := fun i v s Q E hv hq => by
  have hv' : its[i]? = some v := by simpa using hv
  rw [e, List.getElem?_map] at hv'
  obtain ⟨b, hb, rfl⟩ := Option.map_eq_some_iff.mp hv'
  have hg : bs.getD i false = b := by rw [List.getD_eq_getElem?_getD, hb] <;> rfl
  have hq' : Q (bs.getD i false) s := hq
  rw [hg] at hq'
  exact wpAny_truthy_bool hq'
theorem any_range : ∀ bs : List Bool, (List.range bs.length).any (fun i => bs.getD i false) = bs.any id
  | [] => rfl
  | b :: bs => by
    rw [List.length_cons, List.range_succ_eq_map, List.any_cons, List.any_map, List.any_cons, ← any_range bs]
    all_goals rfl
theorem all_range : ∀ bs : List Bool, (List.range bs.length).all (fun i => bs.getD i false) = bs.all id
  | [] => rfl
  | b :: bs => by
    rw [List.length_cons, List.range_succ_eq_map, List.all_cons, List.all_map, List.all_cons, ← all_range bs]
    all_goals rfl
section
variable {X : Cx}
def rAny (K : PySem.W.Frag) : List V → Hp → VK → Prop := fun vs H Q => ∃ (a : Addr) (bs : List Bool), vs = [V.ref a] ∧ SqL K H a (bs.map V.bl) ∧ Q (.bl (bs.any id)) H
def rAll (K : PySem.W.Frag) : List V → Hp → VK → Prop := fun vs H Q => ∃ (a : Addr) (bs : List Bool), vs = [V.ref a] ∧ SqL K H a (bs.map V.bl) ∧ Q (.bl (bs.all id)) H
theorem cr_any (hc : X.calm = true) : CallR X (.builtin "any") (rAny X.K) := by
  intro pins s σ H vs us Q I r h
  obtain ⟨a, bs, rfl, hs, q⟩ := h
  obtain ⟨its, rv, hl, _⟩ := I.list hs
  rw [Vals.ref1 r]
  have hb := rv.bls
  refine call_any_walk (iter_any hl.isList fun s₂ e2 st hne => ?_)
  subst e2
  refine ⟨_, _, _, _, _, _, _, rfl, Walks.list (A := X.A.in1) (I.ok.hd hc) _ a hne its.toArray, st, truth_bools hb, fun h' tk hk => ?_⟩
  refine ⟨.bl _, H, I.kept fun b o eo => hk b o (fun hmem => ?_) (Heap.get?_push_of_some _ eo), ?_, q⟩
  · rcases List.mem_cons.mp hmem with e1 | hmem
    · exact absurd (e1 ▸ Heap.lt_size eo) (Nat.lt_irrefl _)
    · cases hmem
  · show Value.bool _ = Value.bool _
    rw [← any_range, hb, List.size_toArray, List.length_map]
theorem cr_all (hc : X.calm = true) : CallR X (.builtin "all") (rAll X.K) := by
  intro pins s σ H vs us Q I r h
  obtain ⟨a, bs, rfl, hs, q⟩ := h
  obtain ⟨its, rv, hl, _⟩ := I.list hs
  rw [Vals.ref1 r]
  have hb := rv.bls
  refine call_all_walk (iter_any hl.isList fun s₂ e2 st hne => ?_)
  subst e2
  refine ⟨_, _, _, _, _, _, _, rfl, Walks.list (A := X.A.in1) (I.ok.hd hc) _ a hne its.toArray, st, truth_bools hb, fun h' tk hk => ?_⟩
  refine ⟨.bl _, H, I.kept fun b o eo => hk b o (fun hmem => ?_) (Heap.get?_push_of_some _ eo), ?_, q⟩
  · rcases List.mem_cons.mp hmem with e1 | hmem
    · exact absurd (e1 ▸ Heap.lt_size eo) (Nat.lt_irrefl _)
    · cases hmem
  · show Value.bool _ = Value.bool _
    rw [← all_range, hb, List.size_toArray, List.length_map]
end
section
variable {X : Cx} {pins : List (Addr × Obj)} {σ : St} {H : Hp} {s : Shared}
end
section
variable {X : Cx}
end
end L2
namespace L2
open PySem PySem.Spec PyProof.Rows
abbrev CellAt (h : Heap) (c : Addr) (v : Option Value) : Prop := h.IsCell c v
def relS (scope sc : Scope) : Scope :=
  { scope with names := scope.names.map fun (n, k) => if (k == .free && sc.kind == .function && sc.names.lookup n == some .cell) then (n, .cell) else (n, k) }
def cloFrom (cells : List (Str × Addr)) : List (Str × NameKind) → List (Str × Addr) → List (Str × Addr)
  | [], acc => acc
  | (n, k) :: r, acc => if k == .free then cloFrom cells r ((n, (cells.lookup n).getD 0) :: acc) else cloFrom cells r acc
theorem closure_loop (env : Env) (f : Str × NameKind → List (Str × Addr) → Sem (ForInStep (List (Str × Addr))))
    (hf : ∀ n k c, f (n, k) c = if k == .free then (do let a ← cellOf env n; pure (.yield ((n, a) :: c))) else pure (.yield c)) :
    ∀ (names : List (Str × NameKind)) (acc : List (Str × Addr)), (∀ y ∈ names, y.2 = .free → ∃ c, env.cells.lookup y.1 = some c) → forIn names acc f = pure (cloFrom env.cells names acc)
  | [], acc, _ => by rw [List.forIn_nil]; rfl
  | (n, k) :: r, acc, h => by
    rw [List.forIn_cons, hf]
    have ih := fun acc => closure_loop env f hf r acc fun y hy => h y (List.mem_cons_of_mem _ hy)
    unfold cloFrom
    by_cases hk : (k == NameKind.free) = true
    · rw [if_pos hk, if_pos hk]
      obtain ⟨c, hc⟩ := h (n, k) List.mem_cons_self (by simpa using hk)
      have e : cellOf env n = pure c := by unfold cellOf; rw [hc]
      rw [e]
      have e2 : (env.cells.lookup n).getD 0 = c := by rw [hc]; rfl
      rw [e2]
      exact ih _
    · rw [if_neg hk, if_neg hk]
      exact ih _
theorem closure_ok {scope : Scope} {env : Env} (h : ∀ y ∈ scope.names, y.2 = .free → ∃ c, env.cells.lookup y.1 = some c) : closureFor scope env = pure (cloFrom env.cells scope.names []) := by
  simp only [closureFor]
  rw [closure_loop env _ (fun n k c => rfl) scope.names [] h]
  rfl
theorem mem_lookup {α : Type} : ∀ {l : List (Str × α)} {n : Str} {c : α}, (n, c) ∈ l → ∃ c', l.lookup n = some c'
  | (k, v) :: r, n, c, h => by
    rw [List.lookup_cons]
    cases hb : n == k with
    | true => exact ⟨_, rfl⟩
    | false =>
      rcases List.mem_cons.mp h with e | h
      · cases e; simp at hb
      · exact mem_lookup h
theorem cloFrom_mem {cells : List (Str × Addr)} : ∀ {names : List (Str × NameKind)} {acc : List (Str × Addr)} {n : Str} {c : Addr}, (n, c) ∈ cloFrom cells names acc → (n, c) ∈ acc ∨ ((n, .free) ∈ names ∧ c = (cells.lookup n).getD 0)
  | [], _, _, _, h => .inl h
  | (m, k) :: r, acc, n, c, h => by
    unfold cloFrom at h
    split at h
    · rename_i hk
      have hk : k = .free := by simpa using hk
      rcases cloFrom_mem h with h | ⟨h1, h2⟩
      · rcases List.mem_cons.mp h with e | h
        · cases e; exact .inr ⟨hk ▸ List.mem_cons_self, rfl⟩
        · exact .inl h
      · exact .inr ⟨List.mem_cons_of_mem _ h1, h2⟩
    · rcases cloFrom_mem h with h | ⟨h1, h2⟩
      · exact .inl h
      · exact .inr ⟨List.mem_cons_of_mem _ h1, h2⟩
theorem cloFrom_acc {cells : List (Str × Addr)} : ∀ {names : List (Str × NameKind)} {acc : List (Str × Addr)} {p : Str × Addr}, p ∈ acc → p ∈ cloFrom cells names acc
  | [], _, _, h => h
  | (m, k) :: r, acc, p, h => by
    unfold cloFrom
    split
    · exact cloFrom_acc (List.mem_cons_of_mem _ h)
    · exact cloFrom_acc h
theorem cloFrom_has {cells : List (Str × Addr)} : ∀ {names : List (Str × NameKind)} {acc : List (Str × Addr)} {n : Str}, (n, .free) ∈ names → (n, (cells.lookup n).getD 0) ∈ cloFrom cells names acc
  | (m, k) :: r, acc, n, h => by
    unfold cloFrom
    rcases List.mem_cons.mp h with e | h
    · cases e
      exact cloFrom_acc List.mem_cons_self
    · split
      · exact cloFrom_has h
      · exact cloFrom_has h
theorem cells_mem : ∀ {names : List (Str × NameKind)} {h : Heap} {acc : List (Str × Addr)} {x : Str} {c : Addr}, (x, c) ∈ cellsFrom h.objs.size names acc →
    (x, c) ∈ acc ∨ ((x, .cell) ∈ names ∧ h.objs.size ≤ c ∧ CellAt (pushCells h names) c none)
  | [], _, _, _, _, h => .inl h
  | (n, k) :: r, h, acc, x, c, hm => by
    unfold cellsFrom at hm
    unfold pushCells
    split at hm
    · rename_i hk
      rw [if_pos hk]
      have hk : k = .cell := by simpa using hk
      rw [← Heap.size_push h { cls := .type "cell", data := .cell none }] at hm
      rcases cells_mem hm with hm | ⟨h1, h2, h3⟩
      · rcases List.mem_cons.mp hm with e | hm
        · cases e
          exact .inr ⟨hk ▸ List.mem_cons_self, Nat.le_refl _, _, pushCells_keeps r _ _ _ (Heap.get?_push_size _ rfl), rfl⟩
        · exact .inl hm
      · rw [Heap.size_push] at h2
        exact .inr ⟨List.mem_cons_of_mem _ h1, Nat.le_of_succ_le h2, h3⟩
    · rename_i hk
      rw [if_neg hk]
      rcases cells_mem hm with hm | ⟨h1, h2, h3⟩
      · exact .inl hm
      · exact .inr ⟨List.mem_cons_of_mem _ h1, h2, h3⟩
theorem cells_acc : ∀ {names : List (Str × NameKind)} {n : Nat} {acc : List (Str × Addr)} {p : Str × Addr}, p ∈ acc → p ∈ cellsFrom n names acc
  | [], _, _, _, h => h
  | (m, k) :: r, n, acc, p, h => by
    unfold cellsFrom
    split
    · exact cells_acc (List.mem_cons_of_mem _ h)
    · exact cells_acc h
theorem cells_has : ∀ {names : List (Str × NameKind)} {n : Nat} {acc : List (Str × Addr)} {x : Str}, (x, .cell) ∈ names → ∃ c, (x, c) ∈ cellsFrom n names acc
  | (m, k) :: r, n, acc, x, h => by
    unfold cellsFrom
    rcases List.mem_cons.mp h with e | h
    · cases e
      exact ⟨n, cells_acc List.mem_cons_self⟩
    · split
      · exact cells_has h
      · exact cells_has h
theorem cells_inj : ∀ {names : List (Str × NameKind)} {h : Heap} {acc : List (Str × Addr)} {x y : Str} {c : Addr}, (∀ p ∈ acc, p.2 < h.objs.size) → (∀ x y c, (x, c) ∈ acc → (y, c) ∈ acc → x = y) →
    (x, c) ∈ cellsFrom h.objs.size names acc → (y, c) ∈ cellsFrom h.objs.size names acc → x = y
  | [], _, _, _, _, _, _, hi, h1, h2 => hi _ _ _ h1 h2
  | (n, k) :: r, h, acc, x, y, c, hl, hi, h1, h2 => by
    unfold cellsFrom at h1 h2
    split at h1
    · rename_i hk
      rw [if_pos hk] at h2
      rw [← Heap.size_push h { cls := .type "cell", data := .cell none }] at h1 h2
      refine cells_inj (h := h.push _) (fun p hp => ?_) (fun x y c a b => ?_) h1 h2
      · rw [Heap.size_push]
        rcases List.mem_cons.mp hp with rfl | hp
        · exact Nat.lt_succ_self _
        · exact Nat.lt_succ_of_lt (hl p hp)
      · rcases List.mem_cons.mp a with e | a <;> rcases List.mem_cons.mp b with e' | b
        · cases e; cases e'; rfl
        · cases e; exact absurd (hl _ b) (Nat.lt_irrefl _)
        · cases e'; exact absurd (hl _ a) (Nat.lt_irrefl _)
        · exact hi _ _ _ a b
    · rename_i hk
      rw [if_neg hk] at h2
      exact cells_inj hl hi h1 h2
theorem newEnv_comp {M : Model} {A : Around} {E : Value → Shared → Prop} {s : Shared} {scope : Scope} {globals : Addr} {closure : List (Str × Addr)} {qual : Str} {func : Option Addr} {code : Value} {around : Env} {builtins : Addr} {Q : Env → Shared → Prop}
    (h : Q (newEnv scope s.heap.objs.size globals (cellsFrom (s.heap.objs.size + 1) scope.names closure) qual func code (some around) builtins)
      { s with heap := pushCells (s.heap.push { cls := .type "dict", data := .dict #[] }) scope.names }) :
    wpAny M A (newFunctionEnv scope globals closure [] qual func code (some around) builtins) Q E s := by
  simp only [newFunctionEnv, Option.isSome_some, if_true]
  refine wpAny_bind (wpAny_alloc ?_)
  refine wpAny_bind (wpAny_layCells _ (fun n k c => rfl) scope.names closure _ _ ?_)
  rw [show ({ s with heap := s.heap.push { cls := .type "dict", data := .dict #[] } } : Shared).heap.objs.size = s.heap.objs.size + 1 from Heap.size_push ..]
  rw [List.forIn_nil]
  exact wpAny_bind (wpAny_pure (wpAny_pure h))
theorem lookup_relS {sc : Scope} : ∀ {names : List (Str × NameKind)} {x : Str} {k : NameKind},
    (names.map fun (n, k) => if (k == NameKind.free && sc.kind == .function && sc.names.lookup n == some .cell) then (n, NameKind.cell) else (n, k)).lookup x = some k →
    ∃ k', names.lookup x = some k' ∧ (k = k' ∨ (k' = .free ∧ k = .cell))
  | [], _, _, h => by simp at h
  | (n, k₀) :: r, x, k, h => by
    have ih := @lookup_relS sc r x k
    have h' : List.lookup x ((if (k₀ == NameKind.free && sc.kind == .function && sc.names.lookup n == some .cell) = true then (n, NameKind.cell) else (n, k₀)) :: (r.map _)) = some k := h
    cases hx : x == n with
    | true =>
      simp only [List.lookup_cons, hx]
      by_cases hc : (k₀ == NameKind.free && sc.kind == .function && sc.names.lookup n == some .cell) = true
      · rw [if_pos hc] at h'
        simp only [List.lookup_cons, hx] at h'
        cases h'
        simp only [Bool.and_eq_true, beq_iff_eq] at hc
        exact ⟨k₀, rfl, .inr ⟨hc.1.1, rfl⟩⟩
      · rw [if_neg hc] at h'
        simp only [List.lookup_cons, hx] at h'
        cases h'
        exact ⟨_, rfl, .inl rfl⟩
    | false =>
      simp only [List.lookup_cons, hx]
      by_cases hc : (k₀ == NameKind.free && sc.kind == .function && sc.names.lookup n == some .cell) = true
      · rw [if_pos hc] at h'
        simp only [List.lookup_cons, hx] at h'
        exact ih h'
      · rw [if_neg hc] at h'
        simp only [List.lookup_cons, hx] at h'
        exact ih h'
structure BlkOk (N : List Str) (sc scope : Scope) (own : List (Str × Nat)) : Prop where
  kind : scope.kind = .function
  uniq : ∀ y ∈ scope.names, scope.names.lookup y.1 = some y.2
  ix : ∀ p ∈ own, N[p.2]? = some p.1
  free : ∀ y ∈ scope.names, y.2 = .free → sc.names.lookup y.1 = some .cell ∨ sc.names.lookup y.1 = some .free
  own : ∀ y ∈ scope.names, y.2 = .local ∨ y.2 = .cell → y.1 ∈ own.map (·.1) ∨ y.1 ∉ N
def wipe (σ : St) : List Nat → St
  | [] => σ
  | v :: vs => (wipe σ vs).set v none
theorem wipe_length (σ : St) : ∀ vs : List Nat, (wipe σ vs).length = σ.length
  | [] => rfl
  | v :: vs => by unfold wipe; rw [List.length_set, wipe_length σ vs]
theorem wipe_some {σ : St} {i : Nat} {x : V} : ∀ {vs : List Nat}, (wipe σ vs)[i]? = some (some x) → σ[i]? = some (some x) ∧ i ∉ vs
  | [], h => ⟨h, by simp⟩
  | v :: vs, h => by
    unfold wipe at h
    by_cases hi : v = i
    · subst hi
      by_cases hv : v < (wipe σ vs).length
      · rw [List.getElem?_set_self hv] at h; cases h
      · rw [List.getElem?_eq_none (by simpa using hv)] at h; cases h
    · rw [List.getElem?_set_ne hi] at h
      obtain ⟨h1, h2⟩ := wipe_some h
      exact ⟨h1, by simp only [List.mem_cons, not_or]; exact ⟨fun e => hi e.symm, h2⟩⟩
abbrev Cx.blk (X : Cx) (s : Shared) (H : Hp) (scope : Scope) (cenv : Env) (fp : List Addr) : Cx := { X with s_0 := s, H_0 := H, env := cenv, outer := X.stack, ex := fp, fn := fun x => scope.names.lookup x == some .cell, pn := [], xe := fun _ _ => False }
section
variable {X : Cx} {pins : List (Addr × Obj)} {σ : St} {H : Hp} {s : Shared}
theorem block_start {scope : Scope} {own : List (Str × Nat)} {fp : List Addr} (I : Inv X pins σ H s) (ok : BlkOk X.N X.env.scope scope own) (hN : X.N.Nodup) (hfp : ∀ b ∈ fp, FpOk X pins H b ∧ b < s.heap.objs.size) :
    Inv (X.blk s H scope (compEnvC scope (cellsFrom (s.heap.objs.size + 1) scope.names (cloFrom X.env.cells scope.names [])) s.heap.objs.size X.env) fp) [] (wipe σ (own.map (·.2))) H { s with heap := pushCells (s.heap.push { cls := .type "dict", data := .dict #[] }) scope.names } := by
  have hfree : ∀ y ∈ scope.names, y.2 = .free → ∃ c, X.env.cells.lookup y.1 = some c := fun y hy e => by
    rcases ok.free y hy e with k | k
    · exact I.ok.has _ (.inl k)
    · exact I.ok.has _ (.inr k)
  generalize hcenv : compEnvC scope (cellsFrom (s.heap.objs.size + 1) scope.names (cloFrom X.env.cells scope.names [])) s.heap.objs.size X.env = cenv
  have kp : ∀ b o, s.heap.get? b = some o → (pushCells (s.heap.push { cls := .type "dict", data := .dict #[] }) scope.names).get? b = some o := fun b o e => pushCells_keeps _ _ _ _ (Heap.get?_push_of_some _ e)
  have hL : cenv.locals = s.heap.objs.size := by rw [← hcenv]; rfl
  have hcl : cenv.cells = cellsFrom (s.heap.objs.size + 1) scope.names (cloFrom X.env.cells scope.names []) := by rw [← hcenv]; rfl
  have hsc : cenv.scope = relS scope X.env.scope := by rw [← hcenv]; rfl
  rw [← Heap.size_push s.heap { cls := .type "dict", data := .dict #[] }] at hcl
  have cm : ∀ {y c}, (y, c) ∈ cloFrom X.env.cells scope.names [] → X.env.cells.lookup y = some c ∧ c < s.heap.objs.size := fun {y c} hm => by
    rcases cloFrom_mem hm with hm | ⟨h1, rfl⟩
    · cases hm
    · obtain ⟨c, hc⟩ := hfree _ h1 rfl
      rw [hc]
      obtain ⟨w, z⟩ := I.cell _ _ hc
      exact ⟨rfl, z.lt⟩
  have mem : ∀ {y c}, cenv.cells.lookup y = some c → (X.env.cells.lookup y = some c ∧ c < s.heap.objs.size) ∨ (s.heap.objs.size + 1 ≤ c ∧ CellAt (pushCells (s.heap.push { cls := .type "dict", data := .dict #[] }) scope.names) c none) := fun {y c} e => by
    rw [hcl] at e
    rcases cells_mem (PySem.mem_of_lookup e) with hm | ⟨_, h2, h3⟩
    · exact .inl (cm hm)
    · rw [Heap.size_push] at h2; exact .inr ⟨h2, h3⟩
  have look : ∀ {y}, scope.names.lookup y = some .free → ∃ c, cenv.cells.lookup y = some c ∧ X.env.cells.lookup y = some c := fun {y} hl => by
    have hy : (y, NameKind.free) ∈ scope.names := PySem.mem_of_lookup hl
    obtain ⟨c', e'⟩ := mem_lookup (cells_acc (names := scope.names) (n := (s.heap.push { cls := .type "dict", data := .dict #[] }).objs.size) (cloFrom_has (cells := X.env.cells) (acc := []) hy))
    rw [← hcl] at e'
    refine ⟨c', e', ?_⟩
    rw [hcl] at e'
    rcases cells_mem (PySem.mem_of_lookup e') with hm | ⟨h1, _, _⟩
    · exact (cm hm).1
    · have := ok.uniq _ h1
      rw [hl] at this; cases this
  have okB : (X.blk s H scope cenv fp).Ok := by
    refine ⟨I.ok.mod, by show cenv.scope.kind = _; rw [hsc]; exact ok.kind, by show cenv.globals = _; rw [← hcenv]; exact I.ok.glob, by show cenv.builtins = _; rw [← hcenv]; exact I.ok.blt, by show s.heap.objs.size ≤ cenv.locals; rw [hL]; exact Nat.le_refl _,
      fun y z c e1 e2 => ?_, fun y hy => ?_, fun y c z e => ?_, I.ok.hd, I.ok.frames, .inl rfl, fun b hb => ⟨?_, fun y c e z => ?_⟩, I.bs, Nat.le_trans I.ok.bsz I.sz, fun b o e hb => ?_, fun b hb z => ?_, I.stack, I.stkFree⟩
    · have e1 : cenv.cells.lookup y = some c := e1
      have e2 : cenv.cells.lookup z = some c := e2
      rw [hcl] at e1 e2
      refine cells_inj (fun p hp => ?_) (fun y z c a b => I.ok.inj y z c (cm a).1 (cm b).1) (PySem.mem_of_lookup e1) (PySem.mem_of_lookup e2)
      rw [Heap.size_push]
      exact Nat.lt_succ_of_lt (cm (y := p.1) (c := p.2) hp).2
    · show ∃ c, cenv.cells.lookup y = some c
      have key : ∀ k, cenv.kindOf y = some k → (k = .cell ∨ k = .free) → ∃ c, cenv.cells.lookup y = some c := fun k hk hk' => by
        unfold Env.kindOf at hk
        rw [hsc] at hk
        obtain ⟨k', e, r⟩ := lookup_relS hk
        have : k' = .cell ∨ k' = .free := by
          rcases r with rfl | ⟨rfl, _⟩
          · exact hk'
          · exact .inr rfl
        rcases this with rfl | rfl
        · obtain ⟨c, hm⟩ := cells_has (n := (s.heap.push { cls := .type "dict", data := .dict #[] }).objs.size) (acc := cloFrom X.env.cells scope.names []) (PySem.mem_of_lookup e)
          obtain ⟨c', e'⟩ := mem_lookup hm
          exact ⟨c', by rw [hcl]; exact e'⟩
        · obtain ⟨c, h1, _⟩ := look e
          exact ⟨c, h1⟩
      rcases hy with hy | hy
      · exact key _ hy (.inl rfl)
      · exact key _ hy (.inr rfl)
    · have z : (scope.names.lookup y == some NameKind.cell) = true := z
      have z : scope.names.lookup y = some .cell := by simpa using z
      have e : cenv.cells.lookup y = some c := e
      rw [hcl] at e
      rcases cells_mem (PySem.mem_of_lookup e) with hm | ⟨_, h2, _⟩
      · rcases cloFrom_mem hm with hm | ⟨h1, _⟩
        · cases hm
        · have q := ok.uniq _ h1
          rw [z] at q; cases q
      · rw [Heap.size_push] at h2
        exact Nat.le_of_succ_le h2
    · show b ≠ cenv.locals
      rw [hL]; exact Nat.ne_of_lt (hfp b hb).2
    · have e : cenv.cells.lookup y = some c := e
      rcases mem e with ⟨h1, _⟩ | ⟨h1, _⟩
      · exact (hfp b hb).1.2.2.2.2.1 y c h1 z
      · have h2 : s.heap.objs.size + 1 ≤ b := by rw [← z]; exact h1
        exact absurd (Nat.lt_of_lt_of_le (hfp b hb).2 (Nat.le_of_succ_le h2)) (Nat.lt_irrefl _)
    · rcases (hfp b hb).1.2.2.2.1 with z | z
      · exact I.ok.noex b o e z
      · exact absurd (Nat.lt_of_lt_of_le (Heap.lt_size e) (Nat.le_trans I.ok.bsz z)) (Nat.lt_irrefl _)
    · rcases List.mem_cons.mp (I.stkSub b z) with z | z
      · exact (hfp b hb).1.2.1 z
      · exact (hfp b hb).1.2.2.1 z
  refine ⟨okB, rfl, I.bare, Un.kept kp, ⟨fun _ => none, ?_, fun i y av e1 e2 e3 => ?_⟩, fun y c e => ?_, ?_, fun y c e => ?_, fun p hp => ?_, I.hok.kept kp, by rw [wipe_length]; exact I.len⟩
  · show Heap.Ns _ cenv.locals _
    rw [hL]
    exact Heap.Ns.keeps (Heap.Ns.new ..) fun b o e => pushCells_keeps _ _ _ _ e
  · obtain ⟨e2, hne⟩ := wipe_some e2
    have hfr : scope.names.lookup y = some .free ∧ (cenv.kindOf y = some .cell ∨ cenv.kindOf y = some .free) := by
      have key : ∀ k, cenv.scope.names.lookup y = some k → k = .local ∨ k = .cell ∨ k = .free → scope.names.lookup y = some .free ∧ (cenv.kindOf y = some .cell ∨ cenv.kindOf y = some .free) := fun k hk hk' => by
        have hk0 := hk
        rw [hsc] at hk
        obtain ⟨k', e, r⟩ := lookup_relS hk
        have no : ¬ (k' = .local ∨ k' = .cell) := fun hh => by
          rcases ok.own _ (PySem.mem_of_lookup e) hh with e' | e'
          · obtain ⟨p, hp, hpy⟩ := List.mem_map.mp e'
            have e3 := ok.ix p hp
            have : p.1 = y := hpy
            rw [this] at e3
            exact hne (List.mem_map.mpr ⟨p, hp, nodup_ix hN e3 e1⟩)
          · exact e' (List.mem_of_getElem? e1)
        rcases r with rfl | ⟨rfl, rfl⟩
        · rcases hk' with rfl | rfl | rfl
          · exact absurd (.inl rfl) no
          · exact absurd (.inr rfl) no
          · exact ⟨e, .inr hk0⟩
        · exact ⟨e, .inl hk0⟩
      have e3 : Vis cenv.scope y := e3
      rcases e3 with e3 | e3 | e3
      · exact key _ e3 (.inl rfl)
      · exact key _ e3 (.inr (.inl rfl))
      · exact key _ e3 (.inr (.inr rfl))
    obtain ⟨m, hn, hl⟩ := I.loc
    have hvis : Vis X.env.scope y := (ok.free _ (PySem.mem_of_lookup hfr.1) rfl).elim (fun k => .inr (.inl k)) (fun k => .inr (.inr k))
    obtain ⟨w, r, q⟩ := hl i y av e1 e2 hvis
    refine ⟨w, r, .inr ⟨hfr.2, ?_⟩⟩
    obtain ⟨c, h1, h2⟩ := look hfr.1
    rcases q with ⟨k, _⟩ | ⟨_, c', e', z⟩
    · have k : X.env.scope.names.lookup y = some .local := k
      rcases ok.free _ (PySem.mem_of_lookup hfr.1) rfl with k' | k' <;> rw [show X.env.scope.names.lookup y = _ from k'] at k <;> cases k
    · rw [h2] at e'; cases e'
      exact ⟨c, h1, z.keeps kp⟩
  · have e : cenv.cells.lookup y = some c := e
    rcases mem e with ⟨h1, _⟩ | ⟨_, z⟩
    · obtain ⟨w, z⟩ := I.cell y c h1
      exact ⟨w, z.keeps kp⟩
    · exact ⟨_, z⟩
  · show H cenv.locals = none
    rw [hL]; exact I.hok.fresh (Nat.le_refl _)
  · have e : cenv.cells.lookup y = some c := e
    rcases mem e with ⟨h1, _⟩ | ⟨h1, _⟩
    · exact I.freeC y c h1
    · exact I.hok.fresh (Nat.le_of_succ_le h1)
  · exact absurd (show p ∈ ([] : List (Addr × Obj)) ++ [] from hp) (by simp)
theorem app_ok {E : Value → Shared → Prop} {D : Addr} {xs : List V} {y : V} {v : Value} {Q : Value → Shared → Prop} (I : Inv X pins σ H s) (hD : H D = some (.lst xs)) (hz : xs.length < sizeLine) (r : RelV y v)
    (h : ∀ s', Inv X pins σ (upd H D (.lst (xs ++ [y]))) s' → Q .none s') : wpAny (model X.prog X.w) X.A (call (.builtin "list.append") [.ref D, v]) Q E s := by
  obtain ⟨hz', its, n, ri, e⟩ := I.hok D _ hD
  have hl := ri.length
  refine append_at (hsz := by rw [List.size_toArray]; omega) e fun h' sb ho' => ?_
  refine h { s with heap := h' } (I.write (t' := s.toks) (by rw [hD]; trivial) (.inl rfl) (fun b u hb q => (sb.2 b hb).trans q) ⟨_, ho'⟩ ⟨by rw [List.length_append]; exact hz, its ++ [v], n + 1, ri.append (.cons r .nil), ?_⟩)
  rw [ho']
  simp
def PTs (X : Cx) (ifs : List Expr) (t : TT) : Prop :=
  ∀ (pins : List (Addr × Obj)) (s : Shared) (σ : St) (H : Hp) (Q : Bool → Hp → Prop), Inv X pins σ H s → t σ H Q →
    wpAny (model X.prog X.w) X.A (forIn ifs true fun c r => if r = true then do let ok ← isTrue c X.env (eval c X.env); pure (ForInStep.yield ok) else pure (ForInStep.yield r)) (TP X pins σ Q) X.xe s
def tYes : TT := fun _ H Q => Q true H
theorem pts_nil : PTs X [] tYes := fun _ _ _ H _ I h => wpAny_tests_nil ⟨H, I, h⟩
theorem pts_one {c : Expr} {t : TT} (h : PT X c t) : PTs X [c] t := fun pins s σ H Q I hw => wpAny_tests_one (h pins s σ H Q I hw)
end
theorem thnF {α : Type} {t : Sem α} {Q Q' : α → Shared → Prop} {M : Model} {A : Around} {E : Value → Shared → Prop} {s : Shared} (h : wpAny M A t Q (fun _ _ => False) s) (hQ : ∀ a s, Q a s → Q' a s) : wpAny M A t Q' E s := wpAny_mono h hQ fun _ _ z => False.elim z
theorem compLoop_any {prog : Program} {w : World} {A : Around} {R : Result → Shared → Prop} {s : Shared} {elt target iter : Expr} {ifs : List Expr} {scope : Scope} {pos : Pos} {it acc : Value} {env : Env} (I : Nat → Shared → Prop)
    (turn : ∀ n s, I n s → wpAny (model prog w) A (pyNext it) (fun r s₁ => match r with
      | none => R (.ok .next) s₁
      | some v => wpAny (model prog w) A (letOwnedTupleGo target it v) (fun _ s₁' => wpAny (model prog w) A (assign target env v) (fun _ s₂ =>
          wpAny (model prog w) A (forIn ifs true fun c r => if r = true then do let ok ← isTrue c env (eval c env); pure (ForInStep.yield ok) else pure (ForInStep.yield r)) (fun ok s₃ =>
            if ok = true then wpAny (model prog w) A (eval elt env) (fun x s₄ =>
              wpAny (model prog w) A (call (.builtin "list.append") [acc, x]) (fun _ s₅ => ∃ m, m < n ∧ I m s₅) (notedBy (model prog w) A env fun e s' => R (.error e) s') s₄) (notedBy (model prog w) A env fun e s' => R (.error e) s') s₃
            else ∃ m, m < n ∧ I m s₃) (notedBy (model prog w) A env fun e s' => R (.error e) s') s₂) (notedBy (model prog w) A env fun e s' => R (.error e) s') s₁') (notedBy (model prog w) A env fun e s' => R (.error e) s') s₁) (notedBy (model prog w) A env fun e s' => R (.error e) s') s)
    (n : Nat) (h : I n s) :
    codeAny (model prog w) A (.compLoop (.ListComp elt [⟨target, iter, ifs, 0⟩] scope pos) 0 it acc env) R s := by
  refine codeAny_loop rfl I (fun n s hI => ?_) n h
  show wpAny _ A ((compTurn (.ListComp elt [⟨target, iter, ifs, 0⟩] scope pos) 0 it acc env).onRaise (fun x => do noteFrame x env; theTreesLotGoes x)) _ _ s
  refine wpAny_noted ?_
  rw [compTurn_list]
  refine wpAny_bind (wpAny_standAt (wpAny_bind (wpAny_mono (turn n s hI) (fun r s₁ h₁ => ?_) fun _ _ h' => h')))
  cases r with
  | none => exact wpAny_pure h₁
  | some v =>
    refine wpAny_bind (wpAny_mono h₁ (fun _ s₁' h₁' => ?_) fun _ _ h' => h')
    refine wpAny_bind (wpAny_mono h₁' (fun _ s₂ h₂ => wpAny_bind (wpAny_mono h₂ (fun ok s₃ h₃ => ?_) fun _ _ h' => h')) fun _ _ h' => h')
    cases ok with
    | false => exact wpAny_pure ⟨rfl, h₃⟩
    | true =>
      exact wpAny_bind (wpAny_bind (wpAny_mono h₃ (fun x s₄ h₄ => wpAny_bind (wpAny_mono h₄ (fun _ s₅ h₅ => wpAny_pure (wpAny_pure ⟨rfl, h₅⟩)) fun _ _ h' => h')) fun _ _ h' => h'))
section
variable {X : Cx}
def tLc (wi : TI) (g : TG) (tt : TT) (te : TE) (vs : List Nat) : TE := fun σ H Q => wi σ H fun J H1 => ∀ D, H1 D = none → ∃ W : Nat → Nat → Hp → Prop, (∃ m, W 0 m (upd H1 D (.lst []))) ∧ ∀ i m H, W i m H →
  (J.stop i H ∧ Q (.ref D) H) ∨ (J.go i H ∧ ∃ Nx : Hp → Prop, (∀ H', Nx H' → ∃ m', m' < m ∧ W (i + 1) m' H') ∧ ∀ x H', J.yld i H x H' → g x (wipe σ vs) H' fun σ2 H2 => wipe σ2 vs = wipe σ vs ∧ tt σ2 H2 fun b H3 =>
    if b = true then te σ2 H3 fun y H4 => ∃ acc, H4 D = some (.lst acc) ∧ acc.length < sizeLine ∧ Nx (upd H4 D (.lst (acc ++ [y]))) else Nx H3)
theorem lc_core {pins : List (Addr × Obj)} {s : Shared} {σ : St} {H : Hp} {Q : VK} {elt tg iter : Expr} {ifs : List Expr} {scope : Scope} {own : List (Str × Nat)} {pos pos' : Pos} {wi : TI} {g : TG} {tt : TT} {te : TE} {use : Option (Value → Sem Unit)} {Qf : Value → Shared → Prop}
    (hc : X.calm = true) (hN : X.N.Nodup) (I : Inv X pins σ H s) (hi : PI X tg iter wi) (ok : BlkOk X.N X.env.scope scope own)
    (hg : ∀ (s : Shared) (H : Hp) (C : Addr) (cl : List (Str × Addr)) (fp : List Addr), PG (X.blk s H scope (compEnvC scope cl C X.env) fp) tg g) (ht : ∀ (s : Shared) (H : Hp) (C : Addr) (cl : List (Str × Addr)) (fp : List Addr), PTs (X.blk s H scope (compEnvC scope cl C X.env) fp) ifs tt)
    (he : ∀ (s : Shared) (H : Hp) (C : Addr) (cl : List (Str × Addr)) (fp : List Addr), PE (X.blk s H scope (compEnvC scope cl C X.env) fp) elt te) (hs : ∀ x, foldedSetIterable iter X.env x = pure x)
    (h : tLc wi g tt te (own.map (·.2)) σ H Q)
    (hRR : ∀ D C s' m H', Inv X pins σ H' s' → Q (.ref D) H' → s'.heap.Ns C m → FpOk X pins H' C → compPost (model X.prog X.w) X.A X.xe use Qf (.ref D) C (.ok .next) s') :
    wpAny (model X.prog X.w) X.A (comprehension (.ListComp elt [⟨tg, iter, ifs, 0⟩] scope pos) scope X.env pos' (newList []) false (eval iter X.env) use) Qf X.xe s := by
  have hfree : ∀ y ∈ scope.names, y.2 = .free → ∃ c, X.env.cells.lookup y.1 = some c := fun y hy e => by
    rcases ok.free y hy e with k | k
    · exact I.ok.has _ (.inl k)
    · exact I.ok.has _ (.inr k)
  refine wpAny_comprehension_free (use := use) rfl hs (closure_ok hfree) ok.kind (fun y hy e => by rw [ok.uniq y hy, e])
    (thn (hi pins s σ H _ I h) fun xv s1 hx => thn hx fun itv s2 h2 => ?_)
  obtain ⟨it, fp, tn, J, H2, e, I2, T, st2, f2, q⟩ := h2
  subst e
  refine wpAny_newObj_type (newEnv_comp ?_) (by show 0 ≤ sizeLine; decide)
  generalize hD : s2.heap.objs.size = D
  have hDn : H2 D = none := I2.hok.fresh (Nat.le_of_eq hD)
  obtain ⟨W, ⟨m0, w0⟩, turn⟩ := q D hDn
  generalize hs3 : ({ s2 with heap := s2.heap.push { cls := .type "list", data := .seq ([] : List Value).toArray } } : Shared) = s3
  have I3 : Inv X pins σ (upd H2 D (.lst [])) s3 := by
    rw [← hs3]
    refine I2.laid (t' := s2.toks) (fun b o e => Heap.get?_push_of_some _ e) (Nat.le_of_eq hD) ⟨Nat.zero_le _, [], 0, .nil, ?_⟩
    rw [← hD]
    exact Heap.get?_push_size _ rfl
  have h3 : s3.heap = s2.heap.push { cls := .type "list", data := .seq ([] : List Value).toArray } := by rw [← hs3]
  have sz : ∀ b ∈ fp, b < s2.heap.objs.size := fun b hb => by
    obtain ⟨o, e, _⟩ := T.obj _ _ st2 b hb
    exact Heap.lt_size e
  have f3 : ∀ b ∈ fp, FpOk X pins (upd H2 D (.lst [])) b ∧ b < s3.heap.objs.size := fun b hb => by
    have hlt := sz b hb
    refine ⟨⟨?_, (f2 b hb).2⟩, by rw [h3, Heap.size_push]; exact Nat.lt_succ_of_lt hlt⟩
    rw [upd_ne (by rw [← hD]; exact Nat.ne_of_lt hlt)]
    exact (f2 b hb).1
  have st3 : tn 0 s3.heap := T.keep _ _ _ st2 fun b _ o e => by rw [h3]; exact Heap.get?_push_of_some _ e
  have I4 := block_start I3 ok hN f3
  have pg := hg s3 (upd H2 D (.lst [])) s3.heap.objs.size (cellsFrom (s3.heap.objs.size + 1) scope.names (cloFrom X.env.cells scope.names [])) fp
  have pt := ht s3 (upd H2 D (.lst [])) s3.heap.objs.size (cellsFrom (s3.heap.objs.size + 1) scope.names (cloFrom X.env.cells scope.names [])) fp
  have pe := he s3 (upd H2 D (.lst [])) s3.heap.objs.size (cellsFrom (s3.heap.objs.size + 1) scope.names (cloFrom X.env.cells scope.names [])) fp
  show codeAny _ _ (.compStart (.ListComp elt [⟨tg, iter, ifs, 0⟩] scope pos) 0 (.ref it) (.ref D) (compEnvC scope (cellsFrom (s3.heap.objs.size + 1) scope.names (cloFrom X.env.cells scope.names [])) s3.heap.objs.size X.env)) (compPost (model X.prog X.w) X.A X.xe use Qf (.ref D) s3.heap.objs.size) { s3 with heap := pushCells (s3.heap.push { cls := .type "dict", data := .dict #[] }) scope.names }
  have nfp : ∀ b ∈ fp, (upd H2 D (.lst [])) b = none := fun b hb => (f3 b hb).1.1
  generalize hce : compEnvC scope (cellsFrom (s3.heap.objs.size + 1) scope.names (cloFrom X.env.cells scope.names [])) s3.heap.objs.size X.env = ce at I4 pg pt pe ⊢
  have cL : ce.locals = s3.heap.objs.size := by subst hce; rfl
  generalize hH3 : upd H2 D (.lst []) = H3 at I3 I4 pg pt pe w0 nfp f3
  generalize hs4 : ({ s3 with heap := pushCells (s3.heap.push { cls := .type "dict", data := .dict #[] }) scope.names } : Shared) = s4 at I4 ⊢
  have st4 : tn 0 s4.heap := T.keep _ _ _ st3 fun b _ o e => by rw [← hs4]; exact pushCells_keeps _ _ _ _ (Heap.get?_push_of_some _ e)
  have stat : ∀ {σ' : St} {H' : Hp} {s' : Shared}, Inv (X.blk s3 H3 scope ce fp) [] σ' H' s' → (∀ b ∈ fp, H' b = none) → ∀ b ∈ fp, FpOk (X.blk s3 H3 scope ce fp) [] H' b := fun {σ' H' s'} I' hn b hb =>
    ⟨hn b hb, (I'.ok.exf b hb).1, I'.ok.exfs b hb, .inl hb, fun x c e => (I'.ok.exf b hb).2 x c e, fun p hp => absurd (show p ∈ ([] : List (Addr × Obj)) ++ [] from hp) (by simp)⟩
  have loop : codeAny (model X.prog X.w) X.A (.compLoop (.ListComp elt [⟨tg, iter, ifs, 0⟩] scope pos) 0 (.ref it) (.ref D) ce) (compPost (model X.prog X.w) X.A X.xe use Qf (.ref D) s3.heap.objs.size) s4 := by
    refine compLoop_any (fun n s' => ∃ i H', Inv (X.blk s3 H3 scope ce fp) [] (wipe σ (own.map (·.2))) H' s' ∧ tn i s'.heap ∧ (∀ b ∈ fp, H' b = none) ∧ W i n H') ?_ m0 ⟨0, H3, I4, st4, nfp, w0⟩
    rintro n s5 ⟨i, H5, I5, st5, n5, w5⟩
    rcases turn i n H5 w5 with ⟨stop, qq⟩ | ⟨go, Nx, hNx, step⟩
    · have td := T.done (X.blk s3 H3 scope ce fp) rfl rfl rfl hc i [] s5 _ H5 (fun _ _ => False) I5 (stat I5 n5) st5 stop
      refine thnF td fun r s6 ⟨hr, I6⟩ => ?_
      subst hr
      have I7 : Inv X pins σ H5 s6 := I3.call' (ch := fp) I6.os I6.base I6.hok I6.bare fun b hb => ⟨(f3 b hb).1.2.2.2.1, (f3 b hb).1.2.1, (f3 b hb).1.2.2.2.2.1, (f3 b hb).1.2.2.2.2.2⟩
      have nC : H5 s3.heap.objs.size = none := by
        have z : H5 ce.locals = none := I6.free
        rw [cL] at z
        exact z
      obtain ⟨m, hn, _⟩ := I6.loc
      have hn : s6.heap.Ns ce.locals m := hn
      rw [cL] at hn
      exact hRR D s3.heap.objs.size s6 m H5 I7 qq hn (I3.fpOk (Nat.le_refl _) nC)
    · have ti := T.item (X.blk s3 H3 scope ce fp) rfl rfl rfl hc i [] s5 _ H5 (fun _ _ => False) I5 (stat I5 n5) st5 go
      refine thnF ti fun r s6 ⟨u, hr, h6⟩ => ?_
      subst hr
      refine thnF h6 fun _ s7 ⟨x, H7, I7, r7, y7, st7, n7⟩ => ?_
      have I7' := I7.pinned (stat I7 n7) (T.obj _ _ st7)
      refine thnF (pg _ s7 _ H7 x u _ I7' r7 (step x H7 y7)) fun _ s8 ⟨σ8, H8, I8, hw8, q8⟩ => ?_
      refine thnF (pt _ s8 σ8 H8 _ I8 q8) fun b s9 ⟨H9, I9, q9⟩ => ?_
      have fin : ∀ {s' : Shared} {H' : Hp}, Inv (X.blk s3 H3 scope ce fp) ([] ++ pinsAt fp s7.heap) σ8 H' s' → Nx H' → ∃ m, m < n ∧ ∃ i H', Inv (X.blk s3 H3 scope ce fp) [] (wipe σ (own.map (·.2))) H' s' ∧ tn i s'.heap ∧ (∀ b ∈ fp, H' b = none) ∧ W i m H' := fun {s' H'} I' nx => by
        obtain ⟨m', hm, w'⟩ := hNx H' nx
        have pin' : ∀ b ∈ fp, ∀ o, s7.heap.get? b = some o → s'.heap.get? b = some o ∧ H' b = none := fun b hb o e =>
          let z := I'.pin (b, o) (List.mem_append_right _ (List.mem_append_right _ (mem_pinsAt hb e)))
          ⟨z.1, z.2.1⟩
        have hl : (wipe σ (own.map (·.2))).length = σ8.length := by rw [← hw8, wipe_length]
        refine ⟨m', hm, i + 1, H', (I'.unpinned (pins := [])).weak hl (fun j v e => ?_), T.keep _ _ _ st7 fun b hb o e => (pin' b hb o e).1, fun b hb => ?_, w'⟩
        · rw [← hw8] at e
          exact (wipe_some e).1
        · obtain ⟨o, e, _⟩ := T.obj _ _ st7 b hb
          exact (pin' b hb o e).2
      cases b with
      | false =>
        simp only [Bool.false_eq_true, if_false] at q9 ⊢
        exact fin I9 q9
      | true =>
        simp only [if_true] at q9 ⊢
        refine thnF (pe _ s9 σ8 H9 _ I9 q9) fun z s10 ⟨yv, H10, I10, r10, acc, hD10, hz10, nx⟩ => ?_
        exact app_ok (X := X.blk s3 H3 scope ce fp) I10 hD10 hz10 r10 fun s11 I11 => fin I11 nx
  exact codeAny_compStart_list loop (T.self X.A 0 _ _ _ st4 loop)
theorem pe_lc {elt tg iter : Expr} {ifs : List Expr} {scope : Scope} {own : List (Str × Nat)} {pos : Pos} {wi : TI} {g : TG} {tt : TT} {te : TE} (hc : X.calm = true) (hN : X.N.Nodup) (hi : PI X tg iter wi) (ok : BlkOk X.N X.env.scope scope own)
    (hg : ∀ (s : Shared) (H : Hp) (C : Addr) (cl : List (Str × Addr)) (fp : List Addr), PG (X.blk s H scope (compEnvC scope cl C X.env) fp) tg g) (ht : ∀ (s : Shared) (H : Hp) (C : Addr) (cl : List (Str × Addr)) (fp : List Addr), PTs (X.blk s H scope (compEnvC scope cl C X.env) fp) ifs tt)
    (he : ∀ (s : Shared) (H : Hp) (C : Addr) (cl : List (Str × Addr)) (fp : List Addr), PE (X.blk s H scope (compEnvC scope cl C X.env) fp) elt te) (hs : ∀ x, foldedSetIterable iter X.env x = pure x := by intro _; rfl) :
    PE X (.ListComp elt [⟨tg, iter, ifs, 0⟩] scope pos) (tLc wi g tt te (own.map (·.2))) := by
  intro pins s σ H Q I h
  rw [eval_ListComp]
  refine lc_core hc hN I hi ok hg ht he hs h fun D C s' m H' I' q hn f => ⟨m, hn, fun h'' sb => ?_⟩
  obtain ⟨f0, f1, f2, f3, f4, f5⟩ := f
  exact ⟨.ref D, H', I'.turned (t' := s'.toks) (fun b o hb e => (sb.2 b hb).trans e) f0 f1 f3 f4 f5, rfl, q⟩
theorem ps_setLc {i : Nat} {y : Str} {py : Pos} {elt tg iter : Expr} {ifs : List Expr} {scope : Scope} {own : List (Str × Nat)} {pos spos : Pos} {wi : TI} {g : TG} {tt : TT} {te : TE} (hc : X.calm = true) (hN : X.N.Nodup) (hy : X.N[i]? = some y) (hyl : X.env.scope.names.lookup y = some .local)
    (hsw : swapsWith (.ListComp elt [⟨tg, iter, ifs, 0⟩] scope pos) (some (.Name y py)) spos.line X.env = pure true) (hi : PI X tg iter wi) (ok : BlkOk X.N X.env.scope scope own)
    (hg : ∀ (s : Shared) (H : Hp) (C : Addr) (cl : List (Str × Addr)) (fp : List Addr), PG (X.blk s H scope (compEnvC scope cl C X.env) fp) tg g) (ht : ∀ (s : Shared) (H : Hp) (C : Addr) (cl : List (Str × Addr)) (fp : List Addr), PTs (X.blk s H scope (compEnvC scope cl C X.env) fp) ifs tt)
    (he : ∀ (s : Shared) (H : Hp) (C : Addr) (cl : List (Str × Addr)) (fp : List Addr), PE (X.blk s H scope (compEnvC scope cl C X.env) fp) elt te) (hs : ∀ x, foldedSetIterable iter X.env x = pure x := by intro _; rfl) :
    PS X (.Assign [.Name y py] (.ListComp elt [⟨tg, iter, ifs, 0⟩] scope pos) spos) (tAsg (tLc wi g tt te (own.map (·.2))) (gName i)) := by
  intro pins s σ H D I h
  rw [exec_Assign_Name_used _ _ _ _ hsw]
  refine wpAny_bind (wpAny_standAt (wpAny_bind ?_))
  show wpAny _ X.A (do let _ ← comprehension (.ListComp elt [⟨tg, iter, ifs, 0⟩] scope pos) scope X.env (firstIterPos [⟨tg, iter, ifs, 0⟩] pos) (newList []) false (eval iter X.env) (some (assign (.Name y py) X.env))) _ _ s
  have h : tLc wi g tt te (own.map (·.2)) σ H (fun x H1 => gName i x σ H1 D.nx) := h
  refine wpAny_bind (thn (lc_core (Qf := fun _ s' => SP X pins D .next s') hc hN I hi ok hg ht he hs h fun L C s' m H' I' q hn f => ?_) fun _ s' hq => wpAny_pure (wpAny_pure hq))
  show wpAny _ _ (assign (.Name y py) X.env (.ref L)) _ _ _
  refine wpAny_assign_Name (store_ok2 (v := V.ref L) I' hN hy (.inl hyl) rfl (fun s2 I2 ⟨a, sb, ha⟩ => ?_) (.inr hyl))
  obtain ⟨f0, f1, f2, f3, f4, f5⟩ := f
  have haC : C ≠ a := by
    rcases ha with z | z
    · rw [z]; exact f1
    · exact fun e => f4 y a z e.symm
  refine ⟨m, hn.sameBut sb haC, fun h3 sb3 => ?_⟩
  exact ⟨_, H', I2.turned (t' := s2.toks) (fun b o hb e => (sb3.2 b hb).trans e) f0 f1 f3 f4 f5, q⟩
theorem sw_true {elt : Expr} {gs : List Comprehension} {scope : Scope} {pos py : Pos} {y : Str} {l : Nat} {env : Env} (hk : env.scope.kind = .function) (hy : env.scope.names.lookup y = some .local) (hl : (py.line == pos.line) = true)
    (ha : (scope.names.any fun (n, k) => n == y && (k == .local || k == .cell)) = false) : swapsWith (.ListComp elt gs scope pos) (some (.Name y py)) l env = pure true := by
  have ky : env.kindOf y = some .local := hy
  have hb : env.blockKind = .function := by unfold Env.blockKind; rw [hk]; rfl
  unfold swapsWith
  simp only [hb, ky, ha, Expr.pos, hl]
  rfl
end
def blkC (N : List Str) (sc scope : Scope) (own : List (Str × Nat)) : Bool :=
  (match scope.kind with | .function => true | _ => false) && (scope.names.all fun y => decide (scope.names.lookup y.1 = some y.2)) && (own.all fun p => decide (N[p.2]? = some p.1)) &&
    (scope.names.all fun y => match y.2 with
      | .free => (match sc.names.lookup y.1 with | some .cell => true | some .free => true | _ => false)
      | .local => decide (y.1 ∈ own.map (·.1)) || decide (y.1 ∉ N)
      | .cell => decide (y.1 ∈ own.map (·.1)) || decide (y.1 ∉ N)
      | _ => true)
theorem blkOk_by {N : List Str} {sc scope : Scope} {own : List (Str × Nat)} (h : blkC N sc scope own = true) : BlkOk N sc scope own := by
  unfold blkC at h
  simp only [Bool.and_eq_true, List.all_eq_true, decide_eq_true_eq] at h
  obtain ⟨⟨⟨h1, h2⟩, h3⟩, h4⟩ := h
  refine ⟨?_, h2, h3, fun y hy e => ?_, fun y hy e => ?_⟩
  · split at h1
    · assumption
    · cases h1
  · have q := h4 y hy
    simp only [e] at q
    split at q <;> first | exact .inl (by assumption) | exact .inr (by assumption) | cases q
  · have q := h4 y hy
    rcases e with e | e <;> (simp only [e, Bool.or_eq_true, decide_eq_true_eq] at q; exact q)
end L2
namespace L2
open PySem PySem.Spec PyProof.Rows
section
variable {prog : Program} {w : World} {A : Around} {R : Result → Shared → Prop} {s : Shared} {elt t0 i0 t1 i1 : Expr} {ifs0 ifs1 : List Expr} {scope : Scope} {pos : Pos} {it acc : Value} {env : Env}
end
section
variable {X : Cx}
end
end L2
namespace L2
open PySem PySem.Spec PyProof.Rows
section
variable {κ : Type} [DecidableEq κ]
def valV (kvs : List (κ × V)) (k : κ) : Option V := (kvs.find? fun kv => decide (kv.1 = k)).map (·.2)
def putK (kvs : List (κ × V)) (k : κ) (v : V) : List (κ × V) :=
  if (kvs.any fun kv => decide (kv.1 = k)) = true then kvs.map (fun kv => if kv.1 = k then (kv.1, v) else kv) else kvs ++ [(k, v)]
theorem valV_pos {p : κ × V} {r : List (κ × V)} {k : κ} (e : p.1 = k) : valV (p :: r) k = some p.2 := by simp [valV, List.find?_cons, e]
theorem valV_neg {p : κ × V} {r : List (κ × V)} {k : κ} (e : ¬ p.1 = k) : valV (p :: r) k = valV r k := by simp [valV, List.find?_cons, e]
theorem valV_any (k : κ) : ∀ kvs : List (κ × V), (kvs.any fun kv => decide (kv.1 = k)) = (valV kvs k).isSome
  | [] => rfl
  | p :: r => by
    rw [List.any_cons]
    by_cases e : p.1 = k
    · simp only [valV_pos e, decide_eq_true e, Bool.true_or, Option.isSome_some]
    · rw [valV_neg e, decide_eq_false e, Bool.false_or]; exact valV_any k r
theorem valV_map (k j : κ) (y : V) : ∀ kvs : List (κ × V), valV (kvs.map fun kv => if kv.1 = k then (kv.1, y) else kv) j = (valV kvs j).map fun x => if j = k then y else x
  | [] => rfl
  | p :: r => by
    have ih := valV_map k j y r
    rw [List.map_cons]
    by_cases h : p.1 = k
    · rw [if_pos h]
      by_cases e : p.1 = j
      · rw [valV_pos (p := (p.1, y)) e, valV_pos e, Option.map_some, if_pos (e.symm.trans h)]
      · rw [valV_neg (p := (p.1, y)) e, valV_neg e, ih]
    · rw [if_neg h]
      by_cases e : p.1 = j
      · rw [valV_pos (p := p) e, valV_pos e, Option.map_some, if_neg (fun z => h (e.trans z))]
      · rw [valV_neg (p := p) e, valV_neg e, ih]
theorem valV_snoc (k j : κ) (y : V) : ∀ kvs : List (κ × V), valV kvs k = none → valV (kvs ++ [(k, y)]) j = if j = k then some y else valV kvs j
  | [], _ => by
    by_cases e : k = j
    · rw [if_pos e.symm]; exact valV_pos (p := (k, y)) e
    · rw [if_neg (fun z => e z.symm)]; exact valV_neg (p := (k, y)) e
  | p :: r, hn => by
    rw [List.cons_append]
    have hk : ¬ p.1 = k := fun z => by rw [valV_pos z] at hn; cases hn
    rw [valV_neg hk] at hn
    have ih := valV_snoc k j y r hn
    by_cases e : p.1 = j
    · rw [valV_pos e, valV_pos e, if_neg (fun z => hk (e.trans z))]
    · rw [valV_neg e, valV_neg e, ih]
theorem valV_put (kvs : List (κ × V)) (k j : κ) (y : V) : valV (putK kvs k y) j = if j = k then some y else valV kvs j := by
  unfold putK
  by_cases a : (kvs.any fun kv => decide (kv.1 = k)) = true
  · rw [if_pos a, valV_map]
    rw [valV_any] at a
    by_cases e : j = k
    · obtain ⟨x, hx⟩ := Option.isSome_iff_exists.mp a
      rw [if_pos e, e, hx, Option.map_some, if_pos rfl]
    · rw [if_neg e]
      cases valV kvs j with
      | none => rfl
      | some x => rw [Option.map_some, if_neg e]
  · rw [if_neg a]
    refine valV_snoc k j y kvs ?_
    rw [valV_any] at a
    cases q : valV kvs k with
    | none => rfl
    | some x => rw [q] at a; exact (a rfl).elim
theorem length_putK (kvs : List (κ × V)) (k : κ) (v : V) : (putK kvs k v).length ≤ kvs.length + 1 := by
  unfold putK
  split
  · rw [List.length_map]; omega
  · rw [List.length_append, List.length_cons, List.length_nil]; omega
theorem RelO.isSome_eq {o : Option V} {u : Option Value} (r : RelO o u) : o.isSome = u.isSome := by
  cases o with
  | none => cases u with
    | none => rfl
    | some _ => exact (show False from r).elim
  | some _ => cases u with
    | none => exact (show False from r).elim
    | some _ => rfl
theorem RelO.getD {o : Option V} {u : Option Value} {d : V} {d' : Value} (r : RelO o u) (rd : RelV d d') : RelV (o.getD d) (u.getD d') := by
  cases o with
  | none => cases u with
    | none => exact rd
    | some _ => exact (show False from r).elim
  | some _ => cases u with
    | none => exact (show False from r).elim
    | some _ => exact r
theorem KV.val {kvs : List (κ × V)} {vs : List (κ × Value)} (r : KV kvs vs) (k : κ) : RelO (valV kvs k) (valueAt vs k) := by
  unfold KV at r
  induction r with
  | nil => exact True.intro
  | @cons p q ps qs h t ih =>
    obtain ⟨h1, h2⟩ := h
    by_cases e : p.1 = k
    · have e' : q.1 = k := h1.symm.trans e
      have b : valueAt (q :: qs) k = some q.2 := by simp [valueAt, List.find?_cons, e']
      rw [valV_pos e, b]; exact h2
    · have e' : ¬ q.1 = k := fun z => e (h1.trans z)
      have b : valueAt (q :: qs) k = valueAt qs k := by simp [valueAt, List.find?_cons, e']
      rw [valV_neg e, b]; exact ih
theorem KV.any {kvs : List (κ × V)} {vs : List (κ × Value)} (r : KV kvs vs) (k : κ) : (kvs.any fun kv => decide (kv.1 = k)) = vs.any fun kv => decide (kv.1 = k) := by
  unfold KV at r
  induction r with
  | nil => rfl
  | cons h t ih => rw [List.any_cons, List.any_cons, ih, h.1]
theorem KV.repl {kvs : List (κ × V)} {vs : List (κ × Value)} (r : KV kvs vs) (k : κ) {y : V} {u : Value} (ry : RelV y u) :
    KV (kvs.map fun kv => if kv.1 = k then (kv.1, y) else kv) (vs.map fun kv => if kv.1 = k then (kv.1, u) else kv) := by
  unfold KV at r ⊢
  induction r with
  | nil => exact .nil
  | @cons p q ps qs h t ih =>
    rw [List.map_cons, List.map_cons]
    refine .cons ?_ ih
    obtain ⟨h1, h2⟩ := h
    by_cases e : p.1 = k
    · rw [if_pos e, if_pos (h1.symm.trans e)]; exact ⟨h1, ry⟩
    · rw [if_neg e, if_neg (fun z => e (h1.trans z))]; exact ⟨h1, h2⟩
theorem KV.put {kvs : List (κ × V)} {vs : List (κ × Value)} (r : KV kvs vs) (k : κ) {y : V} {u : Value} (ry : RelV y u) : KV (putK kvs k y) (stored vs k u) := by
  unfold putK stored
  rw [r.any k]
  by_cases e : (vs.any fun kv => decide (kv.1 = k)) = true
  · rw [if_pos e, if_pos e]; exact r.repl k ry
  · rw [if_neg e, if_neg e]; exact Paired.snoc r ⟨rfl, ry⟩
theorem KV.length {kvs : List (κ × V)} {vs : List (κ × Value)} (r : KV kvs vs) : kvs.length = vs.length := Paired.length r
end
theorem kV_is {P : Program} {w : World} {k : Key} {u : Value} (r : RelV (kV k) u) : (mixKind P w).is k u = true := by
  cases k with
  | inl i => obtain ⟨t, e⟩ := (show ∃ t, u = Value.int i t from r); subst e; exact mixKind_int P w i t
  | inr x => obtain ⟨t, e⟩ := (show ∃ t, u = Value.str x t from r); subst e; exact mixKind_str P w x t
theorem items_are {P : Program} {w : World} : ∀ {ks : List Key} {us : List Value}, Vals (ks.map kV) us → ItemsAre (mixKind P w) ks us
  | [], _, r => by rw [List.map_nil] at r; cases r; exact .nil
  | k :: ks, _, r => by
    rw [List.map_cons] at r
    cases r with
    | cons h t => exact .cons (kV_is h) (items_are t)
abbrev KT (H : Hp) : List (List Key × V) → List (List Key × Addr × Value) → Prop := Paired fun p q => p.1 = q.1 ∧ H q.2.1 = some (.tup (p.1.map kV)) ∧ RelV p.2 q.2.2
theorem KT.val {H : Hp} {kvs : List (List Key × V)} {xs : List (List Key × Addr × Value)} (r : KT H kvs xs) (k : List Key) : RelO (valV kvs k) ((atKey xs k).map (·.2)) := by
  induction r with
  | nil => exact True.intro
  | @cons p q ps qs h t ih =>
    obtain ⟨h1, _, h2⟩ := h
    by_cases e : p.1 = k
    · have e' : q.1 = k := h1.symm.trans e
      have b : atKey (q :: qs) k = some q.2 := by simp [atKey, List.find?_cons, e']
      rw [valV_pos e, b]; exact h2
    · have e' : ¬ q.1 = k := fun z => e (h1.trans z)
      have b : atKey (q :: qs) k = atKey qs k := by simp [atKey, List.find?_cons, e']
      rw [valV_neg e, b]; exact ih
theorem KT.repl {H : Hp} {kvs : List (List Key × V)} {xs : List (List Key × Addr × Value)} (r : KT H kvs xs) (k : List Key) {y : V} {u : Value} (ry : RelV y u) :
    KT H (kvs.map fun kv => if kv.1 = k then (kv.1, y) else kv) (xs.map (putAt k u)) := by
  induction r with
  | nil => exact .nil
  | @cons p q ps qs h t ih =>
    rw [List.map_cons, List.map_cons]
    refine .cons ?_ ih
    obtain ⟨h1, h2, h3⟩ := h
    unfold putAt
    by_cases e : p.1 = k
    · rw [if_pos e, if_pos (h1.symm.trans e)]; exact ⟨h1, h2, ry⟩
    · rw [if_neg e, if_neg (fun z => e (h1.trans z))]; exact ⟨h1, h2, h3⟩
theorem KT.put {H : Hp} {kvs : List (List Key × V)} {xs : List (List Key × Addr × Value)} (r : KT H kvs xs) (k : List Key) {b : Addr} {y : V} {u : Value} (hb : H b = some (.tup (k.map kV))) (ry : RelV y u) :
    KT H (putK kvs k y) (storedH xs k b u) := by
  have e : (kvs.any fun kv => decide (kv.1 = k)) = (atKey xs k).isSome := by
    rw [valV_any, (r.val k).isSome_eq, Option.isSome_map]
  unfold putK storedH
  rw [e]
  by_cases q : (atKey xs k).isSome = true
  · rw [if_pos q, if_pos q]; exact r.repl k ry
  · rw [if_neg q, if_neg q]; exact Paired.snoc r ⟨rfl, hb, ry⟩
theorem KT.keeps {H H' : Hp} {kvs : List (List Key × V)} {xs : List (List Key × Addr × Value)} (r : KT H kvs xs) (ht : ∀ b ys, H b = some (.tup ys) → H' b = some (.tup ys)) : KT H' kvs xs :=
  Paired.mapP r fun _ _ z => ⟨z.1, ht _ _ z.2.1, z.2.2⟩
section
variable {P : Program} {w : World} {H : Hp} {h : Heap} {a : Addr}
theorem rd_of {u : HO} (ok : HOk P w H h) (e : Rd H a u) : ObjOk P w H h a u := e.ok ok
theorem dk_rd {kvs : List (Key × V)} (ok : HOk P w H h) (e : Rd H a (.dK kvs)) : kvs.length ≤ sizeLine ∧ (a == sysModules) = false ∧ ∃ vs, KV kvs vs ∧ h.DictOf (mixKind P w) a vs :=
  show ObjOk P w H h a (.dK kvs) from rd_of ok e
theorem dk_of {kvs : List (Key × V)} (ok : HOk P w H h) (e : H a = some (.dK kvs)) : kvs.length ≤ sizeLine ∧ (a == sysModules) = false ∧ ∃ vs, KV kvs vs ∧ h.DictOf (mixKind P w) a vs := dk_rd ok (.inl e)
theorem key_of {ks : List Key} (ok : HOk P w H h) (e : H a = some (.tup (ks.map kV))) : (tupleKind (mixKind P w)).is h ks a := by
  obtain ⟨_, its, r, o, h1, h2, n, h3⟩ := (show ObjOk P w H h a (.tup (ks.map kV)) from ok a _ e)
  exact ⟨o, its.toArray, n, h1, h2, h3, by simpa using items_are r⟩
theorem dt_rd {kvs : List (List Key × V)} (ok : HOk P w H h) (e : Rd H a (.dT kvs)) : kvs.length ≤ sizeLine ∧ (a == sysModules) = false ∧
    ∃ xs, KT H kvs xs ∧ h.DictOfH (tupleKind (mixKind P w)) a xs := by
  obtain ⟨z, y, xs, r, o, es, ep, h1, h2, h3, h4, h5⟩ := (show ObjOk P w H h a (.dT kvs) from rd_of ok e)
  refine ⟨z, y, xs, r, o, es, ep, h1, h2, h3, h4, fun x hx => ?_, h5⟩
  have all : ∀ {l : List (List Key × V)} {m : List (List Key × Addr × Value)}, KT H l m → ∀ x ∈ m, (tupleKind (mixKind P w)).is h x.1 x.2.1 := by
    intro l m q
    induction q with
    | nil => intro x hx; exact nomatch hx
    | @cons p q ps qs hq t ih =>
      intro x hx
      rcases List.mem_cons.mp hx with e | hx
      · subst e
        exact key_of ok (by rw [← hq.1]; exact hq.2.1)
      · exact ih x hx
  exact all r x hx
theorem dt_of {kvs : List (List Key × V)} (ok : HOk P w H h) (e : H a = some (.dT kvs)) : kvs.length ≤ sizeLine ∧ (a == sysModules) = false ∧
    ∃ xs, KT H kvs xs ∧ h.DictOfH (tupleKind (mixKind P w)) a xs := dt_rd ok (.inl e)
end
def DGet (H : Hp) (a : Addr) (y : V) (r : Option V) : Prop :=
  (∃ kvs k, Rd H a (.dK kvs) ∧ y = kV k ∧ r = valV kvs k) ∨ ∃ kvs k b, Rd H a (.dT kvs) ∧ y = .ref b ∧ H b = some (.tup (k.map kV)) ∧ r = valV kvs k
def DPut (H : Hp) (a : Addr) (y v : V) (H' : Hp) : Prop :=
  (∃ kvs k, H a = some (.dK kvs) ∧ y = kV k ∧ kvs.length < sizeLine ∧ H' = upd H a (.dK (putK kvs k v))) ∨
  ∃ kvs k b, H a = some (.dT kvs) ∧ y = .ref b ∧ H b = some (.tup (k.map kV)) ∧ kvs.length < sizeLine ∧ H' = upd H a (.dT (putK kvs k v))
theorem DGet.k {H : Hp} {a : Addr} {kvs : List (Key × V)} {k : Key} (e : H a = some (.dK kvs)) : DGet H a (kV k) (valV kvs k) := .inl ⟨kvs, k, .inl e, rfl, rfl⟩
theorem DGet.t {H : Hp} {a b : Addr} {kvs : List (List Key × V)} {k : List Key} (e : H a = some (.dT kvs)) (eb : H b = some (.tup (k.map kV))) : DGet H a (.ref b) (valV kvs k) := .inr ⟨kvs, k, b, .inl e, rfl, eb, rfl⟩
theorem DPut.k {H : Hp} {a : Addr} {kvs : List (Key × V)} {k : Key} {v : V} (e : H a = some (.dK kvs)) (hl : kvs.length < sizeLine) : DPut H a (kV k) v (upd H a (.dK (putK kvs k v))) := .inl ⟨kvs, k, e, rfl, hl, rfl⟩
theorem DPut.t {H : Hp} {a b : Addr} {kvs : List (List Key × V)} {k : List Key} {v : V} (e : H a = some (.dT kvs)) (eb : H b = some (.tup (k.map kV))) (hl : kvs.length < sizeLine) :
    DPut H a (.ref b) v (upd H a (.dT (putK kvs k v))) := .inr ⟨kvs, k, b, e, rfl, eb, hl, rfl⟩
section
variable {X : Cx} {pins : List (Addr × Obj)} {σ : St} {H : Hp} {s : Shared} {a : Addr} {y v : V} {u r : Value} {o : Option V} {A : Around} {E : Value → Shared → Prop}
theorem Inv.big (I : Inv X pins σ H s) : sysModules < s.heap.objs.size := by
  have h : mainGlobals < s.heap.objs.size := (I.mod.glob.keeps I.bk).lt
  exact Nat.lt_trans (by decide) h
theorem d_getItem {Q : Value → Shared → Prop} (hu : A.units + 1 < cLine) (I : Inv X pins σ H s) (g : DGet H a y (some v)) (ry : RelV y u) (h : ∀ w' s', Inv X pins σ H s' → RelV v w' → Q w' s') :
    wpAny (model X.prog X.w) A (getItem (.ref a) u) Q E s := by
  rcases g with ⟨kvs, k, e, ey, l⟩ | ⟨kvs, k, b, e, ey, eb, l⟩
  · subst ey
    obtain ⟨z, hd, vs, rel, dd⟩ := dk_rd I.hok e
    obtain ⟨w', hw, rw'⟩ := RelO.some_of (v := v) (o := valueAt vs k) (by rw [l]; exact rel.val k)
    exact wpAny_getItem_of (kV_is ry) dd.mapOf hw (h w' _ (I.tok _) rw')
  · subst ey
    cases (show u = Value.ref b from ry)
    obtain ⟨z, hd, xs, rel, dd⟩ := dt_rd I.hok e
    obtain ⟨w', hw, rw'⟩ := RelO.some_of (v := v) (o := (atKey xs k).map (·.2)) (by rw [l]; exact rel.val k)
    obtain ⟨p, hp, hp2⟩ := Option.map_eq_some_iff.mp hw
    refine wpAny_getItem_heap (tupleKind_room_in1 hu) (key_of I.hok eb) dd hp ?_
    rw [hp2]
    exact h w' _ (I.tok _) rw'
theorem d_in {Q : Value → Shared → Prop} (hu : A.units + 1 < cLine) (I : Inv X pins σ H s) (g : DGet H a y o) (ry : RelV y u) (h : ∀ s', Inv X pins σ H s' → Q (.bool o.isSome) s') :
    wpAny (model X.prog X.w) A (compareOp .In u (.ref a)) Q E s := by
  rcases g with ⟨kvs, k, e, ey, l⟩ | ⟨kvs, k, b, e, ey, eb, l⟩
  · subst ey
    obtain ⟨z, hd, vs, rel, dd⟩ := dk_rd I.hok e
    refine wpAny_in_of (kV_is ry) hd dd.mapOf ?_
    rw [← (rel.val k).isSome_eq, ← l]
    exact h _ (I.tok _)
  · subst ey
    cases (show u = Value.ref b from ry)
    obtain ⟨z, hd, xs, rel, dd⟩ := dt_rd I.hok e
    refine wpAny_in_heap (tupleKind_room_in1 hu) (key_of I.hok eb) hd dd ?_
    have q := (rel.val k).isSome_eq
    rw [Option.isSome_map] at q
    rw [← q, ← l]
    exact h _ (I.tok _)
theorem d_notIn {Q : Value → Shared → Prop} (hu : A.units + 1 < cLine) (I : Inv X pins σ H s) (g : DGet H a y o) (ry : RelV y u) (h : ∀ s', Inv X pins σ H s' → Q (.bool (!o.isSome)) s') :
    wpAny (model X.prog X.w) A (compareOp .NotIn u (.ref a)) Q E s := by
  rcases g with ⟨kvs, k, e, ey, l⟩ | ⟨kvs, k, b, e, ey, eb, l⟩
  · subst ey
    obtain ⟨z, hd, vs, rel, dd⟩ := dk_rd I.hok e
    refine wpAny_notIn_of (kV_is ry) hd dd.mapOf ?_
    rw [← (rel.val k).isSome_eq, ← l]
    exact h _ (I.tok _)
  · subst ey
    cases (show u = Value.ref b from ry)
    obtain ⟨z, hd, xs, rel, dd⟩ := dt_rd I.hok e
    refine wpAny_notIn_heap (tupleKind_room_in1 hu) (key_of I.hok eb) hd dd ?_
    have q := (rel.val k).isSome_eq
    rw [Option.isSome_map] at q
    rw [← q, ← l]
    exact h _ (I.tok _)
theorem d_write {h' : Heap} {t' : Nat} {ob : HO} (I : Inv X pins σ H s) (mu : Mut (H a)) (hs : Heap.SameBut a s.heap h') (he : ∃ q, h'.get? a = some q) (new : ObjOk X.prog X.w (upd H a ob) h' a ob) :
    Inv X pins σ (upd H a ob) { s with heap := h', toks := t' } :=
  I.write (x := a) (e := a) mu (.inl rfl) (fun b q hb z => (hs.2 b hb).trans z) he new
theorem dk_new {P : Program} {w : World} {H' : Hp} {h' : Heap} {kvs : List (Key × V)} {vs : List (Key × Value)} (z : kvs.length ≤ sizeLine) (hd : (a == sysModules) = false) (rel : KV kvs vs) (dd : h'.DictOf (mixKind P w) a vs) :
    ObjOk P w H' h' a (.dK kvs) := ⟨z, hd, vs, rel, dd⟩
theorem d_setItem {H' : Hp} {Q : Unit → Shared → Prop} (hu : A.units + 1 < cLine) (I : Inv X pins σ H s) (g : DPut H a y v H') (ry : RelV y u) (rv : RelV v r) (h : ∀ s', Inv X pins σ H' s' → Q () s') :
    wpAny (model X.prog X.w) A (setItem (.ref a) u r) Q E s := by
  rcases g with ⟨kvs, k, e, ey, l, eH⟩ | ⟨kvs, k, b, e, ey, eb, l, eH⟩
  · subst ey eH
    obtain ⟨z, hd, vs, rel, dd⟩ := dk_of I.hok e
    have hz : vs.length ≤ sizeLine := by rw [← rel.length]; exact z
    have hl : (putK kvs k v).length ≤ sizeLine := by have := length_putK kvs k v; omega
    refine wpAny_setItem_pairs (hsz := hz) (kV_is ry) dd fun h' dd' hs => h _ ?_
    have he : ∃ q, h'.get? a = some q := let ⟨q, _, _, hq, _⟩ := dd'; ⟨q, hq⟩
    exact d_write I (by rw [e]; exact True.intro) hs he (dk_new hl hd (rel.put k rv) dd')
  · subst ey eH
    cases (show u = Value.ref b from ry)
    obtain ⟨z, hd, xs, rel, dd⟩ := dt_of I.hok e
    have hz : xs.length ≤ sizeLine := by rw [← Paired.length rel]; exact z
    have hl : (putK kvs k v).length ≤ sizeLine := by have := length_putK kvs k v; omega
    refine wpAny_setItem_heap (hsz := hz) (tupleKind_room_in1 hu) (key_of I.hok eb) dd fun h' dd' hs => h _ ?_
    obtain ⟨q, es, ep, hq, h2, h3, h4, _, h5⟩ := dd'
    refine d_write I (by rw [e]; exact True.intro) hs ⟨q, hq⟩ ⟨hl, hd, _, (rel.put k eb rv).keeps fun c ys ec => ?_, q, es, ep, hq, h2, h3, h4, h5⟩
    rw [upd_ne (ne_of ec e (fun z => nomatch z))]
    exact ec
end
section
variable {X : Cx} {pins : List (Addr × Obj)} {σ : St} {H : Hp} {s : Shared} {a : Addr} {kvs : List (Key × V)} {k : Key} {u : Value} {A : Around} {E : Value → Shared → Prop}
end
def NoSl (i : Expr) : Prop := ∀ ov iv, subscripted i false ov iv = operate [ov, iv] (getItem ov iv)
theorem subD_of {prog : Program} {w : World} {A : Around} {E : Value → Shared → Prop} {s : Shared} {env : Env} {value slice : Expr} {pos : Pos} {T id : String} {Q : Value → Shared → Prop}
    (hl : typeLookup (.type T) "__getitem__" = pure (some (.builtin id))) (hs : NoSl slice)
    (h : wpAny (model prog w) A (eval value env) (fun o s₁ => wpAny (model prog w) A (eval slice env) (fun i s₂ => s₂.TypeIs o T ∧ wpAny (model prog w) A (getItem o i) Q E s₂) E s₁) E s) :
    wpAny (model prog w) A (eval (.Subscript value slice pos) env) Q E s := by
  refine Subscript_ (wpAny_mono h (fun o s₁ h₁ => wpAny_mono h₁ (fun i s₂ h₂ => ?_) fun _ _ x => x) fun _ _ x => x)
  obtain ⟨hT, h₂⟩ := h₂
  unfold subscriptTail
  refine wpAny_bind ?_
  rw [getitemInPython_of_ne hT.not_modules]
  refine wpAny_bind (wpAny_specialOf hT hl ?_)
  have fin : wpAny (model prog w) A (subscripted slice false o i) (fun r s₃ => wpAny (model prog w) A (letTemporaryGo value o r >>= fun _ => pure r) Q E s₃) E s₂ := by
    rw [hs o i]
    exact wpAny_operating (wpAny_mono h₂ (fun r s₃ h₃ => wpAny_bind (wpAny_letTemporaryGo (wpAny_pure h₃))) fun _ _ x => x)
  first
    | exact wpAny_pure (wpAny_bind fin)
    | exact wpAny_bind (wpAny_pure (wpAny_bind fin))
    | exact wpAny_bind fin
theorem dict_typeIs {X : Cx} {pins : List (Addr × Obj)} {σ : St} {H : Hp} {s : Shared} {a : Addr} {y : V} {o : Option V} (I : Inv X pins σ H s) (g : DGet H a y o) : s.TypeIs (.ref a) "dict" := by
  rcases g with ⟨kvs, k, e, _, _⟩ | ⟨kvs, k, b, e, _, _, _⟩
  · obtain ⟨_, _, vs, _, dd⟩ := dk_rd I.hok e
    exact dd.typeIs
  · obtain ⟨_, _, xs, _, dd⟩ := dt_rd I.hok e
    exact dd.typeIs
def tDGet (td ty : TE) : TE := fun σ H Q => td σ H fun x H1 => ty σ H1 fun y H2 => ∃ a v, x = .ref a ∧ DGet H2 a y (some v) ∧ Q v H2
def tDIn (ty td : TE) : TE := fun σ H Q => ty σ H fun y H1 => td σ H1 fun x H2 => ∃ a o, x = .ref a ∧ DGet H2 a y o ∧ Q (.bl o.isSome) H2
def tDNotIn (ty td : TE) : TE := fun σ H Q => ty σ H fun y H1 => td σ H1 fun x H2 => ∃ a o, x = .ref a ∧ DGet H2 a y o ∧ Q (.bl (!o.isSome)) H2
def sDPut (td ty tv : TE) : TS := fun D σ H => tv σ H fun v H1 => td σ H1 fun x H2 => ty σ H2 fun y H3 => ∃ a H4, x = .ref a ∧ DPut H3 a y v H4 ∧ D.nx σ H4
section
variable {X : Cx} {o i e value : Expr} {pos pos' tpos : Pos} {td ty tv : TE}
theorem pe_dget (hu : X.A.units + 1 < cLine) (ho : PE X o td) (hi : PE X i ty) (hs : NoSl i) : PE X (.Subscript o i pos) (tDGet td ty) := by
  intro pins s σ H Q I h
  refine subD_of PySem.F.slot_dict_getitem.lookup hs (thn (ho pins s σ H _ I h) fun u s1 ⟨x, H1, I1, rx, q1⟩ => thn (hi pins s1 σ H1 _ I1 q1) fun iv s2 ⟨y, H2, I2, ry, a, v, ex, g, q2⟩ => ?_)
  subst ex
  obtain rfl : u = Value.ref a := rx
  exact ⟨dict_typeIs I2 g, d_getItem hu I2 g ry fun w' s3 I3 rw' => ⟨v, H2, I3, rw', q2⟩⟩
theorem pc_din (hu : X.A.units + 1 < cLine) (hi : PE X i ty) (ho : PE X o td) : PC X .In i o (tDIn ty td) := by
  intro pins s σ H Q I h
  refine thn (hi pins s σ H _ I h) fun iv s1 ⟨y, H1, I1, ry, q1⟩ => thn (ho pins s1 σ H1 _ I1 q1) fun u s2 ⟨x, H2, I2, rx, a, ov, ex, g, q2⟩ => ?_
  subst ex
  obtain rfl : u = Value.ref a := rx
  exact d_in hu I2 g ry fun s3 I3 => ⟨.bl ov.isSome, H2, I3, rfl, q2⟩
theorem pc_dnotin (hu : X.A.units + 1 < cLine) (hi : PE X i ty) (ho : PE X o td) : PC X .NotIn i o (tDNotIn ty td) := by
  intro pins s σ H Q I h
  refine thn (hi pins s σ H _ I h) fun iv s1 ⟨y, H1, I1, ry, q1⟩ => thn (ho pins s1 σ H1 _ I1 q1) fun u s2 ⟨x, H2, I2, rx, a, ov, ex, g, q2⟩ => ?_
  subst ex
  obtain rfl : u = Value.ref a := rx
  exact d_notIn hu I2 g ry fun s3 I3 => ⟨.bl (!ov.isSome), H2, I3, rfl, q2⟩
theorem ps_dput (hu : X.A.units + 1 < cLine) (ho : PE X o td) (hi : PE X i ty) (hv : PE X value tv) (hs : swapsWith value (some (.Subscript o i pos')) pos.line X.env = pure false) :
    PS X (.Assign [.Subscript o i pos'] value pos) (sDPut td ty tv) := by
  intro pins s σ H D I h
  refine wpAny_Assign_Subscript (thn (hv pins s σ H _ I h) fun r s1 ⟨v, H1, I1, rv, q1⟩ => thn (ho pins s1 σ H1 _ I1 q1) fun u s2 ⟨x, H2, I2, rx, q2⟩ => thn (hi pins s2 σ H2 _ I2 q2) fun iv s3 ⟨y, H3, I3, ry, a, H4, ex, g, q3⟩ => ?_) hs
  subst ex
  obtain rfl : u = Value.ref a := rx
  exact d_setItem hu I3 g ry rv fun s4 I4 => ⟨σ, H4, I4, q3⟩
end
theorem dk_empty {P : Program} {w : World} {H : Hp} (h : Heap) (hb : sysModules < h.objs.size) : ObjOk P w H (h.push { cls := .type "dict", data := .dict #[] }) h.objs.size (.dK []) :=
  ⟨Nat.zero_le _, beq_eq_false_iff_ne.mpr (Ne.symm (Nat.ne_of_lt hb)), [], .nil, Heap.DictOf.new h⟩
theorem dt_empty {P : Program} {w : World} {H : Hp} (h : Heap) (hb : sysModules < h.objs.size) : ObjOk P w H (h.push { cls := .type "dict", data := .dict #[] }) h.objs.size (.dT []) :=
  ⟨Nat.zero_le _, beq_eq_false_iff_ne.mpr (Ne.symm (Nat.ne_of_lt hb)), [], .nil, _, #[], 0, Heap.get?_push_size _ rfl, ⟨rfl, rfl, rfl⟩, rfl, rfl, List.nodup_nil⟩
def tDNewK : TE := fun _ H Q => ∀ p, H p = none → Q (.ref p) (upd H p (.dK []))
def tDNewT : TE := fun _ H Q => ∀ p, H p = none → Q (.ref p) (upd H p (.dT []))
section
variable {X : Cx} {pos : Pos}
theorem pe_dnewK : PE X (.Dict [] [] pos) tDNewK := fun pins s σ H Q I h =>
  wpAny_Dict_empty ⟨.ref s.heap.objs.size, _, I.laid (a := s.heap.objs.size) (o := .dK []) (t' := s.toks) (fun _ _ q => Heap.get?_push_of_some _ q) (Nat.le_refl _) (dk_empty s.heap I.big), rfl, h _ (I.hok.fresh (Nat.le_refl _))⟩
theorem pe_dnewT : PE X (.Dict [] [] pos) tDNewT := fun pins s σ H Q I h =>
  wpAny_Dict_empty ⟨.ref s.heap.objs.size, _, I.laid (a := s.heap.objs.size) (o := .dT []) (t' := s.toks) (fun _ _ q => Heap.get?_push_of_some _ q) (Nat.le_refl _) (dt_empty s.heap I.big), rfl, h _ (I.hok.fresh (Nat.le_refl _))⟩
end
structure M2 (X : Cx) (o : Expr) (m : Str) (apos : Pos) (e f : Expr) (cpos : Pos) : Prop where
  base : attributeBase o m X.env (eval o X.env) = eval o X.env
  few : ((backTo cpos (starEach [e, f] X.env)).all (fun x => !x.1) && (backToKw cpos (keywordEach [] X.env)).all (fun x => x.1.isSome)
    && decide (([e, f] : List Expr).length + ([] : List Keyword).length + (if ([] : List Keyword).isEmpty then 0 else 1) < 30)) = true
  line : (apos.endLine == cpos.line) = true
  trees : backTo cpos (starEach [e, f] X.env) = [(false, eval e X.env), (false, eval f X.env)]
def IsD (H : Hp) (a : Addr) : Prop := (∃ kvs, Rd H a (.dK kvs)) ∨ ∃ kvs, Rd H a (.dT kvs)
theorem isD_at {X : Cx} {pins : List (Addr × Obj)} {σ : St} {H : Hp} {s : Shared} {a : Addr} (I : Inv X pins σ H s) (d : IsD H a) :
    s.TypeIs (.ref a) "dict" ∧ (∀ b, Value.ref a = .ref b → ∃ ob, s.heap.get? b = some ob ∧ ob.dict = none) ∧ (a == sysModules) = false := by
  rcases d with ⟨kvs, e⟩ | ⟨kvs, e⟩
  · obtain ⟨_, hd, vs, _, dd⟩ := dk_rd I.hok e
    refine ⟨dd.typeIs, fun b q => ?_, hd⟩
    cases q
    obtain ⟨ob, _, _, h1, h2, _⟩ := dd
    exact ⟨ob, h1, h2.2.1⟩
  · obtain ⟨_, hd, xs, _, dd⟩ := dt_rd I.hok e
    refine ⟨dd.typeIs, fun b q => ?_, hd⟩
    cases q
    obtain ⟨ob, _, _, h1, h2, _⟩ := dd
    exact ⟨ob, h1, h2.2.1⟩
section
variable {X : Cx} {pins : List (Addr × Obj)} {σ : St} {H : Hp} {s : Shared} {a : Addr} {y d : V} {u r : Value} {o : Option V} {A : Around} {E : Value → Shared → Prop}
theorem d_get2 {Q : Value → Shared → Prop} (hu : A.units + 1 < cLine) (I : Inv X pins σ H s) (g : DGet H a y o) (ry : RelV y u) (rd : RelV d r) (h : ∀ w' s', Inv X pins σ H s' → RelV (o.getD d) w' → Q w' s') :
    wpAny (model X.prog X.w) A (call (.builtin "dict.get") [.ref a, u, r]) Q E s := by
  rcases g with ⟨kvs, k, e, ey, l⟩ | ⟨kvs, k, b, e, ey, eb, l⟩
  · subst ey
    obtain ⟨z, hd, vs, rel, dd⟩ := dk_rd I.hok e
    refine call_meetsIn PySem.F.slot_dict_get dd.typeIs PySem.F.entry_dict_get (PySem.F.args_dict_get_3 _ _ _) (meets_dict_get_default (mixKind X.prog X.w) a (kV_is ry) hd r) ⟨_, dd.mapOf, h _ _ (I.tok _) ?_⟩
    rw [l]
    exact (rel.val k).getD rd
  · subst ey
    cases (show u = Value.ref b from ry)
    obtain ⟨z, hd, xs, rel, dd⟩ := dt_rd I.hok e
    refine call_meetsIn PySem.F.slot_dict_get dd.typeIs PySem.F.entry_dict_get (PySem.F.args_dict_get_3 _ _ _) (meetsH_dict_get_default (tupleKind (mixKind X.prog X.w)) a b hd r) ⟨tupleKind_room_in1 hu, k, xs, key_of I.hok eb, dd, h _ _ (I.tok _) ?_⟩
    rw [l]
    exact (rel.val k).getD rd
end
def tDGet2 (td ty tx : TE) : TE := fun σ H Q => td σ H fun x H1 => ∃ a, x = .ref a ∧ IsD H1 a ∧ ty σ H1 fun y H2 => tx σ H2 fun z H3 => ∃ o, DGet H3 a y o ∧ Q (o.getD z) H3
section
variable {X : Cx} {o e f : Expr} {apos cpos : Pos} {td ty tx : TE}
theorem pe_dget2 (hu : X.A.units + 1 < cLine) (ho : PE X o td) (he : PE X e ty) (hf : PE X f tx) (m : M2 X o "get" apos e f cpos) : PE X (.Call (.Attribute o "get" apos) [e, f] [] cpos) (tDGet2 td ty tx) := by
  intro pins s σ H Q I h
  refine wpAny_Call_method m.base m.few m.line PySem.F.plainAttrs_dict PySem.F.slot_dict_get PySem.F.type_dict_get (thn (ho pins s σ H _ I h) fun u s1 ⟨x, H1, I1, rx, a, ex, d, q1⟩ => ?_)
  subst ex
  obtain rfl : u = Value.ref a := rx
  obtain ⟨t1, t2, _⟩ := isD_at I1 d
  refine ⟨t1, t2, ?_⟩
  rw [m.trees]
  refine Calls.callWith_builtin rfl (Calls.evalArgs_plain (Calls.spliced_cons (thn (he pins s1 σ H1 _ I1 q1) fun iv s2 ⟨y, H2, I2, ry, q2⟩ =>
    Calls.spliced_cons (thn (hf pins s2 σ H2 _ I2 q2) fun fv s3 ⟨z, H3, I3, rz, ov, g, q3⟩ => Calls.spliced_nil ?_))))
  exact d_get2 hu I3 g ry rz fun w' s4 I4 rw' => ⟨_, H3, I4, rw', q3⟩
end
section
variable {X : Cx} {pins : List (Addr × Obj)} {σ : St} {H : Hp} {s : Shared} {a : Addr} {kvs : List (Key × V)} {A : Around} {E : Value → Shared → Prop}
end
section
variable {X : Cx} {pins : List (Addr × Obj)} {σ : St} {H : Hp} {s : Shared} {a : Addr} {y : V} {u : Value} {A : Around} {E : Value → Shared → Prop}
end
end L2
namespace L2
open PySem PySem.Spec PyProof.Rows
section
variable {prog : Program} {w : World} {A : Around} {E : Value → Shared → Prop}
end
section
variable {X : Cx}
end
end L2
namespace L2
open PySem PySem.Spec PyProof.Rows
section
variable {X : Cx} {pins : List (Addr × Obj)} {σ : St} {H : Hp} {s : Shared} {h' : Heap}
theorem Inv.turnedL {t' : Nat} {ch : List Addr} (I : Inv X pins σ H s) (k : ∀ b o, b ∉ ch → s.heap.get? b = some o → h'.get? b = some o) (hf : ∀ b ∈ ch, FpOk X pins H b) : Inv X pins σ H { s with heap := h', toks := t' } := by
  have nit : ∀ b u, H b = some u → b ∉ ch := fun b u e z => by
    have q := (hf b z).1
    rw [q] at e; cases e
  refine I.step (g' := s.gens) (d' := s.drawn) (ch := ch) (fun b hb => ⟨(hf b hb).2.2.2.1, (hf b hb).2.1, (hf b hb).2.2.2.2.1, (hf b hb).2.2.2.2.2⟩) (fun b o _ _ hc e _ => k b o hc e) (fun b o _ _ hc e _ => ⟨o.slots, k b o hc e⟩)
    (fun _ _ _ _ n => n) (fun b o hc e => ⟨o, k b o hc e⟩) (fun _ _ e => e) (fun _ _ _ e => e) (fun b ps e => ⟨#[], by rw [e]; simp⟩) (fun m hm => ?_) (fun b u e => ?_) I.bare
  · obtain ⟨o, es, ep, ho, r⟩ := hm
    exact ⟨o, es, ep, k _ o (fun z => (hf _ z).2.1 rfl) ho, r⟩
  · refine (I.hok b u e).stay (fun c v hc q => k c v ?_ q) (fun _ q => q) fun _ _ q => q
    rcases hc with z | z
    · rw [z]; exact nit b u e
    · exact nit c _ z
theorem Inv.turnedNew {t' : Nat} {ch : List Addr} {T : Addr} {ob : HO} (I : Inv X pins σ H s) (k : ∀ b o, b ∉ ch → s.heap.get? b = some o → h'.get? b = some o) (hf : ∀ b ∈ ch, FpOk X pins H b) (hT : s.heap.objs.size ≤ T)
    (new : ObjOk X.prog X.w (upd H T ob) h' T ob) : Inv X pins σ (upd H T ob) { s with heap := h', toks := t' } := by
  have hn : H T = none := I.hok.fresh hT
  have nit : ∀ b u, H b = some u → b ∉ ch := fun b u e z => by
    have q := (hf b z).1
    rw [q] at e; cases e
  refine I.step (g' := s.gens) (d' := s.drawn) (ch := ch) (fun b hb => ⟨(hf b hb).2.2.2.1, (hf b hb).2.1, (hf b hb).2.2.2.2.1, (hf b hb).2.2.2.2.2⟩) (fun b o _ _ hc e _ => k b o hc e) (fun b o _ _ hc e _ => ⟨o.slots, k b o hc e⟩)
    (fun b o _ e n => ?_) (fun b o hc e => ⟨o, k b o hc e⟩) (fun b xs e => ?_) (fun b o u e => ?_) (fun b ps e => ⟨#[], ?_⟩) (fun m hm => ?_) (fun b u e => ?_) I.bare
  · rw [upd_ne (Nat.ne_of_lt (Nat.lt_of_lt_of_le (Heap.lt_size e) hT))]; exact n
  · rw [upd_ne (ne_of_none e hn)]; exact e
  · rw [upd_ne (ne_of_none e hn)]; exact e
  · rw [upd_ne (ne_of_none e hn), e]; simp
  · obtain ⟨o, es, ep, ho, r⟩ := hm
    exact ⟨o, es, ep, k _ o (fun z => (hf _ z).2.1 rfl) ho, r⟩
  · by_cases hb : b = T
    · subst hb
      rw [upd_same] at e
      cases e
      exact new
    · rw [upd_ne hb] at e
      refine (I.hok b u e).stay (fun c v hc q => k c v ?_ q) (fun c q => by rw [upd_ne (ne_of_none q hn)]; exact q) fun c xs q => by rw [upd_ne (ne_of_none q hn)]; exact q
      rcases hc with z | z
      · rw [z]; exact nit b u e
      · exact nit c _ z
theorem Inv.lock {d : Addr} {u : HO} (I : Inv X pins σ H s) (h : H d = some u) (mu : Mut (some u)) : ∃ od, Inv X pins σ (upd H d (.frz od u)) s := by
  have x := I.hok d u h
  have ex : ∃ od, s.heap.get? d = some od := by
    cases u with
    | lst xs => obtain ⟨_, _, _, _, e⟩ := x; exact ⟨_, e⟩
    | dK kvs => obtain ⟨_, _, _, _, o, _, _, e, _⟩ := x; exact ⟨o, e⟩
    | dT kvs => obtain ⟨_, _, _, _, o, _, _, e, _⟩ := x; exact ⟨o, e⟩
    | set S n => obtain ⟨o, _, _, _, e, _⟩ := x; exact ⟨o, e⟩
    | ins C dx fs => obtain ⟨_, _, _, e, _⟩ := x; exact ⟨_, e⟩
    | ext φ => obtain ⟨_, ⟨_, e⟩, _⟩ := x; exact ⟨_, e⟩
    | _ => exact False.elim mu
  obtain ⟨od, e⟩ := ex
  have new : ObjOk X.prog X.w (upd H d (.frz od u)) s.heap d (.frz od u) := by
    refine ⟨e, x.stay (fun b v _ q => q) (fun b q => ?_) fun b xs q => ?_⟩
    · rw [upd_ne (fun z => by rw [z, h] at q; cases q; exact mu)]; exact q
    · rw [upd_ne (fun z => by rw [z, h] at q; cases q; exact mu)]; exact q
  exact ⟨od, I.write (x := d) (e := d) (t' := s.toks) (h' := s.heap) (by rw [h]; exact mu) (.inl rfl) (fun b v _ q => q) ⟨od, e⟩ new⟩
theorem Inv.nofrz {d : Addr} {u : HO} (I : Inv X pins σ H s) (h : H d = some u) (mu : Mut (some u)) : ∀ o' u', X.H_0 d ≠ some (.frz o' u') := fun o' u' e => by
  have q := I.base.frzs d o' u' e
  rw [h] at q
  cases q
  exact mu
theorem Inv.unlock {d : Addr} {od : Obj} {u : HO} (I : Inv X pins σ H s) (h : H d = some (.frz od u)) (hn : ∀ o' u', X.H_0 d ≠ some (.frz o' u')) : Inv X pins σ (upd H d u) s := by
  have neH : ∀ b o, H b = some o → (∀ o' u', o ≠ .frz o' u') → b ≠ d := fun b o e hne z => by
    rw [z, h] at e
    cases e
    exact hne _ _ rfl
  have neN : ∀ b, H b = none → b ≠ d := fun b e z => by rw [z, h] at e; cases e
  refine ⟨I.ok, I.os, I.bare, ⟨I.base.keep, I.base.slot, fun b o e n hx => ?_, I.base.there, fun b xs e => ?_, fun b o x e => ?_, fun b ps e => ?_⟩, I.loc, I.cell, ?_, fun x c e => ?_, fun p hp => ?_, fun b o e => ?_, I.len⟩
  · rw [upd_ne (neN b (I.base.free b o e n hx))]; exact I.base.free b o e n hx
  · have q := I.base.tups b xs e
    rw [upd_ne (neH b _ q (fun _ _ z => nomatch z))]; exact q
  · have q := I.base.frzs b o x e
    rw [upd_ne (fun z => by rw [z] at e; exact hn _ _ e)]; exact q
  · obtain ⟨m, q⟩ := I.base.tbls b ps e
    exact ⟨m, by rw [upd_ne (neH b _ q (fun _ _ z => nomatch z))]; exact q⟩
  · rw [upd_ne (neN _ I.free)]; exact I.free
  · rw [upd_ne (neN c (I.freeC x c e))]; exact I.freeC x c e
  · obtain ⟨e, n, r⟩ := I.pin p hp
    exact ⟨e, by rw [upd_ne (neN _ n)]; exact n, r⟩
  · by_cases hb : b = d
    · rw [hb, upd_same] at e
      cases e
      rw [hb]
      obtain ⟨_, x⟩ := I.hok d _ h
      exact x.stay (fun c v _ q => q) (fun c q => by rw [upd_ne (neH c _ q (fun _ _ z => nomatch z))]; exact q) fun c xs q => by rw [upd_ne (neH c _ q (fun _ _ z => nomatch z))]; exact q
    · rw [upd_ne hb] at e
      exact (I.hok b o e).stay (fun c v _ q => q) (fun c q => by rw [upd_ne (neH c _ q (fun _ _ z => nomatch z))]; exact q) fun c xs q => by rw [upd_ne (neH c _ q (fun _ _ z => nomatch z))]; exact q
end
def tLock (t : TS) : TS := fun D σ H => ∃ d u, H d = some u ∧ Mut (some u) ∧ ∀ od, t ⟨fun σ' H' => H' d = some (.frz od u) ∧ D.nx σ' (upd H' d u), fun v H' => H' d = some (.frz od u) ∧ D.rt v (upd H' d u), fun σ' H' => H' d = some (.frz od u) ∧ D.bk σ' (upd H' d u), fun σ' H' => H' d = some (.frz od u) ∧ D.ct σ' (upd H' d u)⟩ σ (upd H d (.frz od u))
section
variable {X : Cx}
theorem ps_lock {st : Stmt} {t : TS} (h : PS X st t) : PS X st (tLock t) := by
  intro pins s σ H D I hw
  obtain ⟨d, u, hd, mu, hw⟩ := hw
  obtain ⟨od, I1⟩ := I.lock hd mu
  refine thn (h pins s σ _ _ I1 (hw od)) fun f s1 q => ?_
  cases f with
  | next => obtain ⟨σ', H', I2, e, q⟩ := q; exact ⟨σ', _, I2.unlock e (I.nofrz hd mu), q⟩
  | brk => obtain ⟨σ', H', I2, e, q⟩ := q; exact ⟨σ', _, I2.unlock e (I.nofrz hd mu), q⟩
  | cont => obtain ⟨σ', H', I2, e, q⟩ := q; exact ⟨σ', _, I2.unlock e (I.nofrz hd mu), q⟩
  | ret v => obtain ⟨x, σ', H', I2, r, e, q⟩ := q; exact ⟨x, σ', _, I2.unlock e (I.nofrz hd mu), r, q⟩
theorem pi_one {tg : Expr} {pins : List (Addr × Obj)} {σ : St} {H : Hp} {s : Shared} {R : It → Hp → Prop} {J : It} {tn : Nat → Heap → Prop} {tk : Nat} (I : Inv X pins σ H s) (o : Obj)
    (T : Turn X.prog X.w X.K tg J [s.heap.objs.size] s.heap.objs.size tn) (st : tn 0 (s.heap.push o)) (q : R J H) : PIE X pins σ tg R (.ref s.heap.objs.size) { s with heap := s.heap.push o, toks := tk } := by
  refine ⟨s.heap.objs.size, [s.heap.objs.size], tn, J, H, rfl, I.kept fun b ob e => Heap.get?_push_of_some _ e, T, st, fun b hb => ?_, q⟩
  have e : b = s.heap.objs.size := by simpa using hb
  subst e
  exact I.fpOk (Nat.le_refl _) (I.hok.fresh (Nat.le_refl _))
end
def Itc (lo c : Int) (n : Nat) : It := ⟨fun i _ => i < n, fun i H x H' => H' = H ∧ x = .int (lo + (i : Nat) * c), fun i _ => n ≤ i⟩
theorem turn_rangeC {P : Program} {w : World} {K : PySem.W.Frag} {tg : Expr} (it : Addr) (lo c : Int) (n : Nat) : Turn P w K tg (Itc lo c n) [it] it (fun i h => IsRangeIter h it (lo + (i : Nat) * c) ((n : Int) - (i : Nat)) c) where
  mem := by simp
  obj := fun i h st b hb => by
    have e : b = it := by simpa using hb
    subst e
    exact ⟨_, st, fun v z => nomatch z⟩
  keep := fun i h h' st k => k it (by simp) _ st
  item := by
    intro X hP hw hK hc i pins s σ H E I hf st hg
    subst hP hw hK
    obtain ⟨f0, f1, f2, f3, f4, f5⟩ := hf it (by simp)
    have W := Walks.range (prog := X.prog) (w := X.w) (I.ok.hd hc) it lo c n
    refine W.item i s _ _ hg st fun v h' tk hv st' kk => ?_
    obtain ⟨t, rfl⟩ := hv
    have I1 : Inv X pins σ H { s with heap := h', toks := tk } := I.turned (fun b o hb e => kk b o (by simpa using hb) e) f0 f1 f3 f4 f5
    exact ⟨_, rfl, go_of (s := { s with heap := h', toks := tk }) (n := "range_iterator") st' rfl rfl (by decide) ⟨.int (lo + (i : Nat) * c), H, I1, ⟨t, rfl⟩, ⟨rfl, rfl⟩, st', fun b hb => (hf b hb).1⟩⟩
  done := by
    intro X hP hw hK hc i pins s σ H E I hf st hg
    subst hP hw hK
    obtain ⟨f0, f1, f2, f3, f4, f5⟩ := hf it (by simp)
    exact wpAny_pyNext_range_end (I.ok.hd hc) st (by have : n ≤ i := hg; omega) fun h' eb => ⟨rfl, I.turned (t' := s.toks) (fun b o hb e => eb b o hb e) f0 f1 f3 f4 f5⟩
  self := fun A i s Q E st h => wpAny_pyIter_rangeiter st h
def RgC (i j c : Int) (n : Nat) : Prop := c ≠ 0 ∧ c.natAbs < 1073741824 ∧ Builtin.Range.small i j c = true ∧ Builtin.Range.rangeSize i j c = n
def iRng3 (ta : TA) : TI := fun σ H R => ta σ H fun vs H1 => ∃ (i j c : Int) (n : Nat), vs = [.int i, .int j, .int c] ∧ RgC i j c n ∧ R (Itc i c n) H1
section
variable {X : Cx} {tg : Expr}
theorem pi_range3 {a b c : Expr} {ta : TA} {p pos : Pos} (hg : Gl X "range") (hm : X.mg "range" = none) (ha : PA X [a, b, c] ta)
    (hs : starEach [a, b, c] X.env = (false, eval a X.env) :: starEach [b, c] X.env := by rfl) (hpl : (backTo pos (starEach [b, c] X.env)).any (·.1) = false := by rfl) :
    PI X tg (.Call (.Name "range" p) [a, b, c] [] pos) (iRng3 ta) := by
  intro pins s σ H R I h
  refine Call_ (ld_blt I hg hm boot_range (PyProof.Rows.callWith_type1 (thn (ha pos pins s σ H _ I h) fun us s1 ⟨vs, H1, I1, r1, q1⟩ => ?_) hs hpl))
  obtain ⟨i, j, k, n, e, ⟨c0, c1, c2, c3⟩, q⟩ := q1
  subst e
  cases r1 with
  | cons r rr =>
    cases rr with
    | cons r' rr =>
      cases rr with
      | cons r'' rr =>
        cases rr
        obtain ⟨t, rfl⟩ := r
        obtain ⟨t', rfl⟩ := r'
        obtain ⟨t'', rfl⟩ := r''
        refine call_range_3 c0 ?_ (.inl (PyProof.noPylong_small c1))
        refine wpAny_pyIter_range (IsRange.new ..) c2 ?_
        have I2 : Inv X pins σ H1 { s1 with heap := s1.heap.push { cls := .type "range", data := .fields #[.int i t, .int j t', .int k t''] } } := I1.kept (t' := s1.toks) fun b o e => Heap.get?_push_of_some _ e
        refine pi_one (tk := s1.toks) I2 _ (turn_rangeC _ i k n) ?_ q
        have e1 : i + ((0 : Nat) : Int) * k = i := by simp
        have e2 : (n : Int) - ((0 : Nat) : Int) = Builtin.Range.rangeSize i j k := by rw [c3]; simp
        show IsRangeIter _ _ (i + ((0 : Nat) : Int) * k) ((n : Int) - ((0 : Nat) : Int)) k
        rw [e1, e2]
        exact Heap.get?_push_size _ rfl
end
section
variable {X : Cx} {tg : Expr}
end
section
variable {prog : Program} {w : World} {A : Around} {E : Value → Shared → Prop} {s : Shared}
theorem iter_keys {d : Addr} {o : Obj} {es : Array DictEntry} {ep : Nat} {Q : Value → Shared → Prop} (hd : (d == sysModules) = false) (ho : s.heap.get? d = some o) (hc : o.ExactDict) (hdat : o.data = .dict es ep)
    (hQ : Q (.ref s.heap.objs.size) { s with heap := s.heap.push { cls := .type "dict_keyiterator", data := .fields #[.ref d, .int 0 0, .int es.size 0, .int ep 0] } }) :
    wpAny (model prog w) A (pyIter (.ref d)) Q E s := by
  have hT : s.TypeIs (.ref d) "dict" := ⟨o, ho, hc.1⟩
  refine wpAny_pyIter_slot hT F.slot_dict_iter (wpAny_call_entry F.slot_dict_iter hT F.entry_dict_iter ?_ (F.args_dict_iter_1 _))
  unfold Builtin.«dict.__iter__»
  refine wpAny_bind ?_
  unfold Builtin.Dict.dictSlotNone
  refine wpAny_bind (wpAny_notOrdered_dict hT ?_)
  show wpAny _ _ (pure (Value.ref d)) _ _ s
  refine wpAny_pure ?_
  show wpAny _ _ (Builtin.Dict.showsAll d >>= _) _ _ s
  unfold Builtin.Dict.showsAll
  rw [if_neg (by rw [hd]; exact Bool.false_ne_true)]
  refine wpAny_bind (wpAny_pure ?_)
  refine wpAny_bind (wpAny_dictEntries ho hdat ?_)
  refine wpAny_bind (wpAny_dictEpoch ho hdat ?_)
  refine wpAny_bind (wpAny_newObj_type (wpAny_pure ⟨_, rfl, "dict_keyiterator", _, ⟨_, Heap.get?_push_size _ rfl, rfl⟩, F.slot_dict_keyiterator_next.lookup, ?_⟩))
  simpa [rawInt] using hQ
theorem next_key_item {it d : Addr} {i n ep : Nat} {od : Obj} {es : Array DictEntry} {en : DictEntry} {Q : Option Value → Shared → Prop} (hit : s.heap.IsKeyIter it d i n ep) (hod : s.heap.get? d = some od) (hdd : od.data = .dict es ep)
    (hsz : es.size = n) (hx : es[i]? = some en) (hQ : ∀ h', h'.IsKeyIter it d (i + 1) n ep → Heap.SameBut it s.heap h' → Q (some en.key) { s with heap := h' }) : wpAny (model prog w) A (pyNext (.ref it)) Q E s := by
  obtain ⟨o, ho, hc, hd⟩ := id hit
  unfold pyNext
  refine wpAny_bind (wpAny_attempt (wpAny_callSpecial?_slot (name := Str.ofString "__next__") hit.typeIs F.slot_dict_keyiterator_next
    (wpAny_call_entry F.slot_dict_keyiterator_next hit.typeIs F.entry_dict_keyiterator_next ?_ (F.args_dict_keyiterator_next_1 _))))
  refine wpAny_bind (wpAny_pure ?_)
  refine wpAny_bind ?_
  refine wpAny_bind ?_
  first | refine wpAny_bind (wpAny_typeNameOfWhole_keyiter hit.typeIs (wpAny_pure ?_)) | refine wpAny_bind (wpAny_typeNameOf_keyiter hit.typeIs (wpAny_pure ?_))
  refine wpAny_bind (wpAny_fieldsOf ho hd ?_)
  have hown : Builtin.Dict_items.ownsTuple "dict_keyiterator" = false := by decide
  simp only [hown, Bool.false_eq_true, if_false]
  show wpAny _ _ (if (Value.ref d == Value.none) = true then _ else _) _ _ s
  rw [if_neg (show ¬ ((Value.ref d == Value.none) = true) from Bool.false_ne_true)]
  refine wpAny_bind (wpAny_pure ?_)
  refine wpAny_bind (wpAny_dictEntries hod hdd ?_)
  rw [if_neg (by rw [hsz]; simp)]
  refine wpAny_bind (wpAny_pure ?_)
  refine wpAny_bind (wpAny_dictEpoch hod hdd ?_)
  rw [if_neg (by simp)]
  refine wpAny_pure ?_
  obtain ⟨hlt', hen⟩ := Array.getElem?_eq_some_iff.mp hx
  simp only [show ¬ ((i : Int) < 0) from by omega, if_false, Int.toNat_natCast, Array.getElem?_eq_getElem hlt']
  refine wpAny_bind ?_
  first | refine wpAny_bind (wpAny_typeNameOfWhole_keyiter hit.typeIs (wpAny_pure ?_)) | refine wpAny_bind (wpAny_typeNameOf_keyiter hit.typeIs (wpAny_pure ?_))
  refine wpAny_bind (wpAny_isOneOf_keyiter hit.typeIs ?_)
  show wpAny _ _ (setField (.ref it) 1 (rawInt ((i : Int) + 1)) >>= _) _ _ s
  refine wpAny_bind (wpAny_setField ho hd (by simp) ?_)
  have hit' : (s.heap.update it (Obj.mapFields (·.setIfInBounds 1 (rawInt ((i : Int) + 1))))).IsKeyIter it d (i + 1) n ep :=
    ⟨_, Heap.get?_update_self _ ho (Obj.isFreed_of_fields (Obj.data_mapFields hd _)), (Obj.cls_mapFields ..).trans hc, by rw [Obj.data_mapFields hd]; simp [rawInt]⟩
  refine wpAny_bind (wpAny_holding ?_)
  refine wpAny_bind (wpAny_isOneOf_keyiter (s := { s with heap := s.heap.update it (Obj.mapFields (·.setIfInBounds 1 (rawInt ((i : Int) + 1)))) }) hit'.typeIs ?_)
  show wpAny _ _ (pure es[i].key) _ _ _
  rw [hen]
  exact wpAny_pure (wpAny_pure ⟨_, rfl, wpAny_pure (hQ _ hit' (Heap.SameBut.update ..))⟩)
theorem next_key_end {it d : Addr} {i n ep : Nat} {od : Obj} {es : Array DictEntry} {Q : Option Value → Shared → Prop} (hh : A.handled = none) (hit : s.heap.IsKeyIter it d i n ep) (hod : s.heap.get? d = some od) (hdd : od.data = .dict es ep)
    (hsz : es.size = n) (hge : n ≤ i) (hQ : ∀ h', Heap.ExtBut it s.heap h' → Q none { s with heap := h' }) : wpAny (model prog w) A (pyNext (.ref it)) Q E s := by
  obtain ⟨o, ho, hc, hd⟩ := id hit
  unfold pyNext
  refine wpAny_bind (wpAny_attempt (wpAny_callSpecial?_slot (name := Str.ofString "__next__") hit.typeIs F.slot_dict_keyiterator_next
    (wpAny_call_entry F.slot_dict_keyiterator_next hit.typeIs F.entry_dict_keyiterator_next ?_ (F.args_dict_keyiterator_next_1 _))))
  refine wpAny_bind (wpAny_pure ?_)
  refine wpAny_bind ?_
  refine wpAny_bind ?_
  first | refine wpAny_bind (wpAny_typeNameOfWhole_keyiter hit.typeIs (wpAny_pure ?_)) | refine wpAny_bind (wpAny_typeNameOf_keyiter hit.typeIs (wpAny_pure ?_))
  refine wpAny_bind (wpAny_fieldsOf ho hd ?_)
  have hown : Builtin.Dict_items.ownsTuple "dict_keyiterator" = false := by decide
  simp only [hown, Bool.false_eq_true, if_false]
  show wpAny _ _ (if (Value.ref d == Value.none) = true then _ else _) _ _ s
  rw [if_neg (show ¬ ((Value.ref d == Value.none) = true) from Bool.false_ne_true)]
  refine wpAny_bind (wpAny_pure ?_)
  refine wpAny_bind (wpAny_dictEntries hod hdd ?_)
  rw [if_neg (by rw [hsz]; simp)]
  refine wpAny_bind (wpAny_pure ?_)
  refine wpAny_bind (wpAny_dictEpoch hod hdd ?_)
  rw [if_neg (by simp)]
  refine wpAny_pure ?_
  have hge' : es.size ≤ i := by rw [hsz]; exact hge
  simp only [show ¬ ((i : Int) < 0) from by omega, if_false, Int.toNat_natCast, Array.getElem?_eq_none hge']
  refine wpAny_bind ?_
  first | refine wpAny_bind (wpAny_typeNameOfWhole_keyiter hit.typeIs (wpAny_pure ?_)) | refine wpAny_bind (wpAny_typeNameOf_keyiter hit.typeIs (wpAny_pure ?_))
  show wpAny _ _ (setField (.ref it) 0 .none >>= _) _ _ s
  refine wpAny_bind (wpAny_setField ho hd (by simp) ?_)
  show wpAny _ _ (newExc (.type "StopIteration") [] >>= _) _ _ _
  refine wpAny_bind ?_
  simp only [newExc, newTuple]
  refine wpAny_bind (wpAny_newObj_type ?_ (by size_fits))
  refine wpAny_bind (m := firstArgMember _ _) (wpAny_of_eq (a := Value.none) (by first | rfl | (simp only [firstArgMember]; rfl)) ?_)
  refine wpAny_newObj_type ?_ (by size_fits)
  simp only [raiseNew]
  refine wpAny_bind (wpAny_handled ?_)
  rw [show A.in1.handled = none from hh]
  refine wpAny_bind (wpAny_pure (wpAny_throw ?_))
  refine wpAny_bind (wpAny_isInstance (T := "StopIteration") (b := true) ⟨_, Heap.get?_push_size _ rfl, rfl⟩ isSubtype_stop ?_)
  exact wpAny_pure (hQ _ (((Heap.SameBut.update ..).extBut.push _).push _))
end
theorem kv_get {κ : Type} {kvs : List (κ × V)} {vs : List (κ × Value)} (h : KV kvs vs) : ∀ {i : Nat} {k : κ} {v : V}, kvs[i]? = some (k, v) → ∃ u, vs[i]? = some (k, u) ∧ RelV v u := by
  unfold KV at h
  induction h with
  | nil => intro i k v e; simp at e
  | @cons a b l₁ l₂ r t ih =>
    intro i k v e
    cases i with
    | zero =>
      simp only [List.getElem?_cons_zero, Option.some.injEq] at e
      subst e
      refine ⟨b.2, ?_, r.2⟩
      simp only [List.getElem?_cons_zero]
      exact congrArg some (Prod.ext r.1.symm rfl)
    | succ j =>
      simp only [List.getElem?_cons_succ] at e ⊢
      exact ih e
theorem paired_get {α β : Type} {G : α → β → Prop} {l₁ : List α} {l₂ : List β} (h : Paired G l₁ l₂) : ∀ {i : Nat} {a : α}, l₁[i]? = some a → ∃ b, l₂[i]? = some b ∧ G a b := by
  induction h with
  | nil => intro i a e; simp at e
  | @cons a b l₁ l₂ r t ih =>
    intro i a' e
    cases i with
    | zero =>
      simp only [List.getElem?_cons_zero, Option.some.injEq] at e
      subst e
      exact ⟨b, rfl, r⟩
    | succ j =>
      simp only [List.getElem?_cons_succ] at e ⊢
      exact ih e
theorem relV_key {k : Key} {u : Value} (h : keyIs k u = true) : RelV (kV k) u := by
  rcases keyIs_shape h with ⟨i, t, rfl, rfl⟩ | ⟨x, t, rfl, rfl⟩
  · exact ⟨t, rfl⟩
  · exact ⟨t, rfl⟩
section
variable {X : Cx} {pins : List (Addr × Obj)} {σ : St} {H : Hp} {s : Shared} {d : Addr} {o : Obj}
theorem Inv.frzK {kvs : List (Key × V)} (I : Inv X pins σ H s) (h : H d = some (.frz o (.dK kvs))) :
    (d == sysModules) = false ∧ s.heap.get? d = some o ∧ o.ExactDict ∧ ∃ (es : Array DictEntry) (ep : Nat) (vs : List (Key × Value)), o.data = .dict es ep ∧ es.size = kvs.length ∧ KV kvs vs ∧ s.heap.DictAt (mixKind X.prog X.w) d vs ep := by
  obtain ⟨hd, z, hs, vs, kv, o', es, ep, ho, hx, hdt, r⟩ := I.hok d _ h
  rw [hd] at ho
  cases ho
  refine ⟨hs, hd, hx, es, ep, vs, hdt, ?_, kv, o, es, hd, hx, hdt, r⟩
  have l1 := r.2.1.length
  have l2 : kvs.length = vs.length := Paired.length kv
  rw [Array.length_toList] at l1
  omega
theorem Inv.frzT {kvs : List (List Key × V)} (I : Inv X pins σ H s) (h : H d = some (.frz o (.dT kvs))) :
    (d == sysModules) = false ∧ s.heap.get? d = some o ∧ o.ExactDict ∧ ∃ (es : Array DictEntry) (ep : Nat), o.data = .dict es ep ∧ es.size = kvs.length ∧
      ∀ (i : Nat) (k : List Key) (v : V), kvs[i]? = some (k, v) → ∃ (en : DictEntry) (q : Addr), es[i]? = some en ∧ en.key = .ref q ∧ H q = some (.tup (k.map kV)) := by
  obtain ⟨hd, z, hs, xs, pr, o', es, ep, ho, hx, hdt, he, _⟩ := I.hok d _ h
  rw [hd] at ho
  cases ho
  refine ⟨hs, hd, hx, es, ep, hdt, ?_, fun i k v e => ?_⟩
  · have l1 : es.size = xs.length := size_of_entries he
    have l2 : kvs.length = xs.length := Paired.length pr
    omega
  · obtain ⟨b, hb, e1, e2, _⟩ := paired_get pr e
    have q := entry_at he i
    rw [hb] at q
    exact ⟨_, b.2.1, q, rfl, e2⟩
end
def Itk (d : Addr) (o : Obj) (kvs : List (Key × V)) : It :=
  ⟨fun i H => H d = some (.frz o (.dK kvs)) ∧ i < kvs.length, fun i H x H' => H' = H ∧ ∃ k v, kvs[i]? = some (k, v) ∧ x = kV k, fun i H => H d = some (.frz o (.dK kvs)) ∧ kvs.length ≤ i⟩
def Itkt (d : Addr) (o : Obj) (kvs : List (List Key × V)) : It :=
  ⟨fun i H => H d = some (.frz o (.dT kvs)) ∧ i < kvs.length, fun i H x H' => H' = H ∧ ∃ (k : List Key) (v : V) (q : Addr), kvs[i]? = some (k, v) ∧ x = .ref q ∧ H q = some (.tup (k.map kV)), fun i H => H d = some (.frz o (.dT kvs)) ∧ kvs.length ≤ i⟩
theorem dict_ep {o : Obj} {es es' : Array DictEntry} {ep ep' : Nat} (h : o.data = .dict es ep) (h' : o.data = .dict es' ep') : es' = es ∧ ep' = ep := by
  rw [h] at h'
  cases h'
  exact ⟨rfl, rfl⟩
section
variable {P : Program} {w : World} {K : PySem.W.Frag} {tg : Expr} {d : Addr} {o : Obj} {es : Array DictEntry} {ep : Nat}
theorem turn_keys {kvs : List (Key × V)} (it : Addr) (hod : o.data = .dict es ep) : Turn P w K tg (Itk d o kvs) [it] it (fun i h => h.IsKeyIter it d i kvs.length ep) where
  mem := by simp
  obj := fun i h st b hb => by
    have e : b = it := by simpa using hb
    subst e
    obtain ⟨oi, e, c, dd⟩ := st
    exact ⟨oi, e, fun v z => by rw [dd] at z; cases z⟩
  keep := fun i h h' st k => st.at fun oi e => k it (by simp) oi e
  item := by
    intro X hP hw hK hc i pins s σ H E I hf st hg
    subst hP hw hK
    obtain ⟨hd, hi⟩ := hg
    obtain ⟨f0, f1, f2, f3, f4, f5⟩ := hf it (by simp)
    obtain ⟨hs, hgd, hx, es', ep', vs, hdt, hsz, kv, hm⟩ := I.frzK hd
    obtain ⟨rfl, rfl⟩ := dict_ep hod hdt
    obtain ⟨⟨k, v⟩, hkv⟩ : ∃ p, kvs[i]? = some p := ⟨kvs[i], List.getElem?_eq_getElem hi⟩
    obtain ⟨u, hu, ru⟩ := kv_get kv hkv
    have hl : kvs.length = vs.length := Paired.length kv
    rw [hl] at st
    refine wpAny_pyNext_dict_item st hm hu fun key h' hkey st' sb => ?_
    have I1 : Inv X pins σ H { s with heap := h' } := I.turned (t' := s.toks) (fun b ob hb e => (sb.2 b hb).trans e) f0 f1 f3 f4 f5
    obtain ⟨oi, e, c, dd⟩ := id st'
    refine ⟨key, rfl, go_of (s := { s with heap := h' }) e c dd (by decide) ⟨kV k, H, I1, relV_key (show keyIs k key = true from hkey), ⟨rfl, k, v, hkv, rfl⟩, ?_, fun b hb => (hf b hb).1⟩⟩
    show h'.IsKeyIter it d (i + 1) kvs.length _
    rw [hl]
    exact st'
  done := by
    intro X hP hw hK hc i pins s σ H E I hf st hg
    subst hP hw hK
    obtain ⟨hd, hi⟩ := hg
    obtain ⟨f0, f1, f2, f3, f4, f5⟩ := hf it (by simp)
    obtain ⟨hs, hgd, hx, es', ep', vs, hdt, hsz, kv, hm⟩ := I.frzK hd
    obtain ⟨rfl, rfl⟩ := dict_ep hod hdt
    exact next_key_end (I.ok.hd hc) st hgd hdt hsz hi fun h' eb => ⟨rfl, I.turned (t' := s.toks) (fun b ob hb e => eb b ob hb e) f0 f1 f3 f4 f5⟩
  self := fun A i s Q E st h => wpAny_pyIter_keyiter st h
theorem turn_keysT {kvs : List (List Key × V)} (it : Addr) (hod : o.data = .dict es ep) : Turn P w K tg (Itkt d o kvs) [it] it (fun i h => h.IsKeyIter it d i kvs.length ep) where
  mem := by simp
  obj := fun i h st b hb => by
    have e : b = it := by simpa using hb
    subst e
    obtain ⟨oi, e, c, dd⟩ := st
    exact ⟨oi, e, fun v z => by rw [dd] at z; cases z⟩
  keep := fun i h h' st k => st.at fun oi e => k it (by simp) oi e
  item := by
    intro X hP hw hK hc i pins s σ H E I hf st hg
    subst hP hw hK
    obtain ⟨hd, hi⟩ := hg
    obtain ⟨f0, f1, f2, f3, f4, f5⟩ := hf it (by simp)
    obtain ⟨hs, hgd, hx, es', ep', hdt, hsz, ent⟩ := I.frzT hd
    obtain ⟨rfl, rfl⟩ := dict_ep hod hdt
    obtain ⟨⟨k, v⟩, hkv⟩ : ∃ p, kvs[i]? = some p := ⟨kvs[i], List.getElem?_eq_getElem hi⟩
    obtain ⟨en, q, hen, hkey, hq⟩ := ent i k v hkv
    refine next_key_item st hgd hdt hsz hen fun h' st' sb => ?_
    have I1 : Inv X pins σ H { s with heap := h' } := I.turned (t' := s.toks) (fun b ob hb e => (sb.2 b hb).trans e) f0 f1 f3 f4 f5
    obtain ⟨oi, e, c, dd⟩ := id st'
    exact ⟨en.key, rfl, go_of (s := { s with heap := h' }) e c dd (by decide) ⟨.ref q, H, I1, hkey, ⟨rfl, k, v, q, hkv, rfl, hq⟩, st', fun b hb => (hf b hb).1⟩⟩
  done := by
    intro X hP hw hK hc i pins s σ H E I hf st hg
    subst hP hw hK
    obtain ⟨hd, hi⟩ := hg
    obtain ⟨f0, f1, f2, f3, f4, f5⟩ := hf it (by simp)
    obtain ⟨hs, hgd, hx, es', ep', hdt, hsz, ent⟩ := I.frzT hd
    obtain ⟨rfl, rfl⟩ := dict_ep hod hdt
    exact next_key_end (I.ok.hd hc) st hgd hdt hsz hi fun h' eb => ⟨rfl, I.turned (t' := s.toks) (fun b ob hb e => eb b ob hb e) f0 f1 f3 f4 f5⟩
  self := fun A i s Q E st h => by
    refine wpAny_pyIter_slot st.typeIs F.slot_dict_keyiterator_iter (wpAny_call_entry F.slot_dict_keyiterator_iter st.typeIs F.entry_dict_keyiterator_iter ?_ (F.args_dict_keyiterator_iter_1 _))
    show wpAny _ _ (ret (.ref it)) _ _ s
    exact wpAny_pure ⟨_, rfl, "dict_keyiterator", _, st.typeIs, F.slot_dict_keyiterator_next.lookup, h⟩
end
def iKeys (td : TE) : TI := fun σ H R => td σ H fun x H1 => ∃ d o, x = .ref d ∧ ((∃ kvs, H1 d = some (.frz o (.dK kvs)) ∧ R (Itk d o kvs) H1) ∨ ∃ kvs, H1 d = some (.frz o (.dT kvs)) ∧ R (Itkt d o kvs) H1)
section
variable {X : Cx} {tg e : Expr} {td : TE} {apos cpos : Pos}
theorem pi_keys (he : PE X e td) : PI X tg e (iKeys td) := by
  intro pins s σ H R I h
  refine thn (he pins s σ H _ I h) fun u s1 ⟨x, H1, I1, rx, d, o, ex, q⟩ => ?_
  subst ex
  obtain rfl : u = Value.ref d := rx
  rcases q with ⟨kvs, hd, q⟩ | ⟨kvs, hd, q⟩
  · obtain ⟨hs, hgd, hx, es, ep, vs, hdt, hsz, kv, hm⟩ := I1.frzK hd
    refine iter_keys hs hgd hx hdt (pi_one (tk := s1.toks) I1 _ (turn_keys _ hdt) ⟨_, Heap.get?_push_size _ rfl, rfl, ?_⟩ q)
    rw [hsz] <;> rfl
  · obtain ⟨hs, hgd, hx, es, ep, hdt, hsz, ent⟩ := I1.frzT hd
    refine iter_keys hs hgd hx hdt (pi_one (tk := s1.toks) I1 _ (turn_keysT _ hdt) ⟨_, Heap.get?_push_size _ rfl, rfl, ?_⟩ q)
    rw [hsz] <;> rfl
end
theorem boot_zip5 : bootBuiltins "zip" = some (.type "zip") := by decide +kernel
def Itz (K : PySem.W.Frag) (a b : Addr) : It :=
  ⟨fun i H => ∃ (xs ys : List V) (x y : V), SqL K H a xs ∧ SqL K H b ys ∧ xs[i]? = some x ∧ ys[i]? = some y,
    fun i H v H' => ∃ T x y, v = .ref T ∧ H T = none ∧ H' = upd H T (.tup [x, y]) ∧ (∀ xs, SqL K H a xs → xs[i]? = some x) ∧ ∀ ys, SqL K H b ys → ys[i]? = some y,
    fun i H => ∃ xs ys : List V, SqL K H a xs ∧ SqL K H b ys ∧ (xs.length ≤ i ∨ ys.length ≤ i)⟩
theorem turn_zip {P : Program} {w : World} {K : PySem.W.Frag} {elts : List Expr} {kk : Nat} {tpos : Pos} {a b z TI TO i1 i2 : Addr} (D : ZipApart z TI TO i1 i2 a b) :
    Turn P w K (.Tuple elts kk tpos) (Itz K a b) [z, TI, TO, i1, i2] z (fun i h => IsZip h z TI TO .none ∧ IsPair h TI (.ref i1) (.ref i2) ∧ (∃ x y, IsPair h TO x y) ∧ h.IsListIter i1 a i ∧ h.IsListIter i2 b i) where
  mem := by simp
  obj := fun i h st c hc => by
    obtain ⟨hz, hTI, ⟨x, y, hTO⟩, ⟨o1, e1, _, d1⟩, ⟨o2, e2, _, d2⟩⟩ := st
    have e' : c = z ∨ c = TI ∨ c = TO ∨ c = i1 ∨ c = i2 := by simpa using hc
    rcases e' with q | q | q | q | q
    · rw [q]; exact ⟨_, hz, fun v q => nomatch q⟩
    · rw [q]; exact ⟨_, hTI, fun v q => nomatch q⟩
    · rw [q]; exact ⟨_, hTO, fun v q => nomatch q⟩
    · rw [q]; exact ⟨o1, e1, fun v q => by rw [d1] at q; cases q⟩
    · rw [q]; exact ⟨o2, e2, fun v q => by rw [d2] at q; cases q⟩
  keep := fun i h h' st k => by
    obtain ⟨hz, hTI, ⟨x, y, hTO⟩, h1, h2⟩ := st
    exact ⟨k z (by simp) _ hz, k TI (by simp) _ hTI, ⟨x, y, k TO (by simp) _ hTO⟩, h1.at fun o q => k i1 (by simp) o q, h2.at fun o q => k i2 (by simp) o q⟩
  item := by
    intro X hP hw hK hc i pins s σ H E I hf st hg
    subst hP hw hK
    obtain ⟨hz, hTI, ⟨x0, y0, hTO⟩, h1, h2⟩ := st
    obtain ⟨xs, ys, x, y, hqx, hqy, hx, hy⟩ := hg
    obtain ⟨its, rv, p, _⟩ := I.list hqx
    obtain ⟨its2, rv2, p2, _⟩ := I.list hqy
    obtain ⟨u, hu, ru⟩ := rv.get hx
    obtain ⟨u2, hu2, ru2⟩ := rv2.get hy
    have hzl : z < s.heap.objs.size := Heap.lt_size hz
    refine wpAny_pyNext_zip_item D hz hTI hTO h1 h2 p.isList p2.isList (x := u) (y := u2) (by simpa using hu) (by simpa using hu2) fun h' z' TO' h1' h2' hT hsz hk => ?_
    refine ⟨_, rfl, wpAny_letOwnedTupleGo_zip (s := { s with heap := h' }) z' fun h'' z'' sb => ?_⟩
    have hT2 : h''.get? s.heap.objs.size = some { cls := .type "tuple", data := .seq #[u, u2] } := (sb.2 _ (Nat.ne_of_gt hzl)).trans hT
    have new : ObjOk X.prog X.w (upd H s.heap.objs.size (.tup [x, y])) h'' s.heap.objs.size (.tup [x, y]) :=
      ⟨by show 2 ≤ sizeLine; decide, [u, u2], .cons ru (.cons ru2 .nil), ⟨_, hT2, rfl, _, rfl⟩⟩
    have I1 : Inv X pins σ (upd H s.heap.objs.size (.tup [x, y])) { s with heap := h'' } :=
      I.turnedNew (t' := s.toks) (ch := [z, TI, TO, i1, i2]) (fun c o hb q => (sb.2 c (fun q' => hb (by simp [q']))).trans (hk c o (fun q' => hb (by simp [q'])) (fun q' => hb (by simp [q'])) (fun q' => hb (by simp [q'])) (fun q' => hb (by simp [q'])) q)) hf (Nat.le_refl _) new
    refine ⟨.ref s.heap.objs.size, _, I1, rfl, ⟨_, x, y, rfl, I.hok.fresh (Nat.le_refl _), rfl, fun l hl => by rw [I.list_inj hl hqx]; exact hx, fun l hl => by rw [I.list_inj hl hqy]; exact hy⟩, ⟨z'', ?_, ⟨u, u2, ?_⟩, ?_, ?_⟩, fun c hcm => ?_⟩
    · exact (sb.2 _ D.TIz).trans (hk _ _ D.TIz D.TITO D.TIi1 D.TIi2 hTI)
    · exact (sb.2 _ D.TOz).trans TO'
    · exact h1'.at fun o q => (sb.2 _ D.i1z).trans q
    · exact h2'.at fun o q => (sb.2 _ D.i2z).trans q
    · have hlt : c < s.heap.objs.size := by
        have e' : c = z ∨ c = TI ∨ c = TO ∨ c = i1 ∨ c = i2 := by simpa using hcm
        rcases e' with q | q | q | q | q
        · rw [q]; exact hzl
        · rw [q]; exact Heap.lt_size hTI
        · rw [q]; exact Heap.lt_size hTO
        · rw [q]; obtain ⟨_, e1, _⟩ := h1; exact Heap.lt_size e1
        · rw [q]; obtain ⟨_, e2, _⟩ := h2; exact Heap.lt_size e2
      rw [upd_ne (Nat.ne_of_lt hlt)]
      exact (hf c hcm).1
  done := by
    intro X hP hw hK hc i pins s σ H E I hf st hg
    subst hP hw hK
    obtain ⟨hz, hTI, ⟨x0, y0, hTO⟩, h1, h2⟩ := st
    obtain ⟨xs, ys, hqx, hqy, hend⟩ := hg
    obtain ⟨its, rv, p, _⟩ := I.list hqx
    obtain ⟨its2, rv2, p2, _⟩ := I.list hqy
    have l1 := rv.length
    have l2 := rv2.length
    have he : its.toArray[i]? = none ∨ its2.toArray[i]? = none := by
      rcases hend with q | q
      · exact .inl (by simp; omega)
      · exact .inr (by simp; omega)
    exact wpAny_pyNext_zip_end (I.ok.hd hc) D hz hTI hTO h1 h2 p.isList p2.isList he fun h' hk => ⟨rfl, I.turnedL (t' := s.toks) (ch := [z, TI, TO, i1, i2]) (fun c o hb q =>
      hk c o (fun q' => hb (by simp [q'])) (fun q' => hb (by simp [q'])) (fun q' => hb (by simp [q'])) (fun q' => hb (by simp [q'])) q) hf⟩
  self := fun A i s Q E st h => wpAny_pyIter_zip st.1 h
def iZip (K : PySem.W.Frag) (ta : TA) : TI := fun σ H R => ta σ H fun vs H1 => ∃ a b xs ys, vs = [.ref a, .ref b] ∧ SqL K H1 a xs ∧ SqL K H1 b ys ∧ R (Itz K a b) H1
theorem pi_zip {X : Cx} {e e2 : Expr} {ta : TA} {p pos tpos : Pos} {elts : List Expr} {kk : Nat} (hg : Gl X "zip") (hm : X.mg "zip" = none) (ha : PA X [e, e2] ta)
    (hs : starEach [e, e2] X.env = (false, eval e X.env) :: starEach [e2] X.env := by rfl) (hpl : (backTo pos (starEach [e2] X.env)).any (·.1) = false := by rfl) :
    PI X (.Tuple elts kk tpos) (.Call (.Name "zip" p) [e, e2] [] pos) (iZip X.K ta) := by
  intro pins s σ H R I h
  refine Call_ (ld_blt I hg hm boot_zip5 (PyProof.Rows.callWith_type1 (thn (ha pos pins s σ H _ I h) fun us s1 ⟨vs, H1, I1, r1, q1⟩ => ?_) hs hpl))
  obtain ⟨a, b, xs, ys, ex, hqx, hqy, q⟩ := q1
  subst ex
  cases r1 with
  | cons r rr =>
    cases rr with
    | cons r' rr =>
      cases rr
      cases r
      cases r'
      obtain ⟨its, rv, p1, _⟩ := I1.list hqx
      obtain ⟨its2, rv2, p2, _⟩ := I1.list hqy
      have la : a < s1.heap.objs.size := p1.lt
      have lb : b < s1.heap.objs.size := p2.lt
      refine call_zip_2 p1.isList p2.isList fun h' hz hTI hTO h1 h2 hsz hk => wpAny_pyIter_zip hz ?_
      have I2 : Inv X pins σ H1 { s1 with heap := h' } := I1.kept (t' := s1.toks) hk
      refine ⟨s1.heap.objs.size + 4, [s1.heap.objs.size + 4, s1.heap.objs.size + 2, s1.heap.objs.size + 3, s1.heap.objs.size, s1.heap.objs.size + 1], _, _, H1, rfl, I2, turn_zip (PySem.W.ktu_apart s1.heap.objs.size a b la lb), ⟨hz, hTI, ⟨_, _, hTO⟩, h1, h2⟩, fun c hcm => ?_, q⟩
      have e' : c = s1.heap.objs.size + 4 ∨ c = s1.heap.objs.size + 2 ∨ c = s1.heap.objs.size + 3 ∨ c = s1.heap.objs.size ∨ c = s1.heap.objs.size + 1 := by simpa using hcm
      have hle : s1.heap.objs.size ≤ c := by
        rcases e' with z | z | z | z | z
        · rw [z]; exact Nat.le_add_right _ _
        · rw [z]; exact Nat.le_add_right _ _
        · rw [z]; exact Nat.le_add_right _ _
        · rw [z]; exact Nat.le_refl _
        · rw [z]; exact Nat.le_add_right _ _
      exact I1.fpOk hle (I1.hok.fresh hle)
end L2
section
set_option maxRecDepth 100000
set_option maxHeartbeats 2000000
namespace L2
open PySem PySem.Spec PyProof.Rows
open PySem.W (WData Codec OpenSpec Well WellAll ReadsW ReadsAllW)
mutual
inductive Dw (K : PySem.W.Frag) (H : Hp) : V → WData → Prop
  | non : Dw K H .non .none
  | bl (b : Bool) : Dw K H (.bl b) (.bool b)
  | int (i : Int) : Dw K H (.int i) (.int i)
  | str (x : Str) : Dw K H (.str x) (.str x)
  | byt (b : Array UInt8) : Dw K H (.byt b) (.bytes b.toList)
  | lst {a : Addr} {xs : List V} {ds : List WData} : SqL K H a xs → DwAll K H xs ds → Dw K H (.ref a) (.list ds)
  | tup {a : Addr} {xs : List V} {ds : List WData} : SqT K H a xs → DwAll K H xs ds → Dw K H (.ref a) (.tuple ds)
inductive DwAll (K : PySem.W.Frag) (H : Hp) : List V → List WData → Prop
  | nil : DwAll K H [] []
  | cons {v : V} {vs : List V} {d : WData} {ds : List WData} : Dw K H v d → DwAll K H vs ds → DwAll K H (v :: vs) (d :: ds)
end
theorem dw_ints {K : PySem.W.Frag} {H : Hp} : ∀ ns : List Int, DwAll K H (ns.map V.int) (ns.map WData.int)
  | [] => .nil
  | n :: r => .cons (.int n) (dw_ints r)
theorem ints_dw {K : PySem.W.Frag} {H : Hp} : ∀ (ns : List Int) (xs : List V), DwAll K H xs (ns.map WData.int) → xs = ns.map V.int
  | [], xs, h => by
    cases h
    rfl
  | n :: r, xs, h => by
    cases h with
    | cons h1 h2 =>
      cases h1
      rw [ints_dw r _ h2] <;> rfl
section
variable {P : Program} {w : World} {K : PySem.W.Frag} {H : Hp} {h : Heap} {R : PySem.W.WRecords} {cl : Str → Option Addr}
theorem sqL_at {a : Addr} {xs : List V} (hok : HOk P w H h) (KX : K.In h) (q : SqL K H a xs) : ∃ (its : List Value) (o : Obj) (n : Nat), Vals xs its ∧ h.get? a = some o ∧ o.cls = .type "list" ∧ o.data = .seq its.toArray n := by
  rcases q with q | ⟨o, its, n, e, hc, _, hd, _, hv⟩
  · obtain ⟨_, its, n, hv, e⟩ := (show ObjOk P w H h a (.lst xs) from q.ok hok)
    exact ⟨its, _, n, hv, e, rfl, rfl⟩
  · exact ⟨its.toList, o, n, hv, KX _ _ e, hc, by simp [hd]⟩
theorem sqT_at {a : Addr} {xs : List V} (hok : HOk P w H h) (KX : K.In h) (q : SqT K H a xs) : ∃ (its : List Value) (o : Obj) (n : Nat), Vals xs its ∧ h.get? a = some o ∧ o.cls = .type "tuple" ∧ o.data = .seq its.toArray n := by
  rcases q with q | ⟨o, its, n, e, hc, hd, _, hv⟩
  · obtain ⟨_, its, hv, o, e, hc, n, hd⟩ := (show ObjOk P w H h a (.tup xs) from q.ok hok)
    exact ⟨its, o, n, hv, e, hc, hd⟩
  · exact ⟨its.toList, o, n, hv, KX _ _ e, hc, by simp [hd]⟩
mutual
theorem Dw.reads (hok : HOk P w H h) (KX : K.In h) : ∀ (d : WData) (v : V) (u : Value), Dw K H v d → RelV v u → ∃ as, ReadsW R cl h u d as
  | .none, _, _, x, r => by
    cases x
    cases r
    exact ⟨_, ReadsW.none⟩
  | .bool b, _, _, x, r => by
    cases x
    cases r
    exact ⟨_, ReadsW.bool b⟩
  | .int i, _, _, x, r => by
    cases x
    obtain ⟨t, rfl⟩ := r
    exact ⟨_, ReadsW.int i t⟩
  | .str s, _, _, x, r => by
    cases x
    obtain ⟨t, rfl⟩ := r
    exact ⟨_, ReadsW.str s t⟩
  | .bytes b, _, _, x, r => by
    cases x
    obtain ⟨t, rfl⟩ := r
    exact ⟨_, ReadsW.bytes _ t⟩
  | .list ds, _, _, x, r => by
    cases x with
    | lst hs ha =>
      cases r
      obtain ⟨its, o, n, rv, ho, hc, hd⟩ := sqL_at hok KX hs
      obtain ⟨as, hr⟩ := Dw.readsAll hok KX ds _ its ha rv
      exact ⟨_, ReadsW.list ho hc hd hr⟩
  | .tuple ds, _, _, x, r => by
    cases x with
    | tup hs ha =>
      cases r
      obtain ⟨its, o, n, rv, ho, hc, hd⟩ := sqT_at hok KX hs
      obtain ⟨as, hr⟩ := Dw.readsAll hok KX ds _ its ha rv
      exact ⟨_, ReadsW.tuple ho hc hd hr⟩
  | .float _, _, _, x, _ => by cases x
  | .dict _, _, _, x, _ => by cases x
  | .bytearray _, _, _, x, _ => by cases x
  | .set _, _, _, x, _ => by cases x
  | .frozenset _, _, _, x, _ => by cases x
  | .obj _ _, _, _, x, _ => by cases x
theorem Dw.readsAll (hok : HOk P w H h) (KX : K.In h) : ∀ (ds : List WData) (vs : List V) (us : List Value), DwAll K H vs ds → Vals vs us → ∃ as, ReadsAllW R cl h us ds as
  | [], _, _, x, r => by
    cases x
    cases r
    exact ⟨_, ReadsAllW.nil⟩
  | d :: ds, _, _, x, r => by
    cases x with
    | cons h1 h2 =>
      cases r with
      | cons r1 r2 =>
        obtain ⟨as, q1⟩ := Dw.reads hok KX d _ _ h1 r1
        obtain ⟨bs, q2⟩ := Dw.readsAll hok KX ds _ _ h2 r2
        exact ⟨_, ReadsAllW.cons q1 q2⟩
end
end
mutual
def plW : WData → Bool
  | .none => true
  | .bool _ => true
  | .int _ => true
  | .str _ => true
  | .bytes _ => true
  | .list xs => plWs xs
  | .tuple xs => plWs xs
  | _ => false
def plWs : List WData → Bool
  | [] => true
  | x :: r => plW x && plWs r
end
theorem plWs_map {α : Type} {f : α → WData} (h : ∀ a, plW (f a) = true) : ∀ l : List α, plWs (l.map f) = true
  | [] => rfl
  | x :: r => by
    show (plW (f x) && plWs (r.map f)) = true
    rw [h x, plWs_map h r] <;> rfl
theorem pl_enc : ∀ (c : Codec) (a : c.denote), plW (c.enc a) = true
  | .unit, _ => rfl
  | .bool, _ => rfl
  | .int _ _, _ => rfl
  | .nat _ _, _ => rfl
  | .u8, _ => rfl
  | .bytes _ _, _ => rfl
  | .text _ _ _ _, _ => rfl
  | .list _ _ c, a => plWs_map (fun x => pl_enc c x) a
  | .pair c d, a => by
    show (plW (c.enc a.1) && (plW (d.enc a.2) && true)) = true
    rw [pl_enc c a.1, pl_enc d a.2] <;> rfl
  | .triple c d e, a => by
    show (plW (c.enc a.1) && (plW (d.enc a.2.1) && (plW (e.enc a.2.2) && true))) = true
    rw [pl_enc c a.1, pl_enc d a.2.1, pl_enc e a.2.2] <;> rfl
  | .option c, none => rfl
  | .option c, some x => pl_enc c x
theorem pl_encAll : ∀ (cs : List Codec) (a : Codec.denoteAll cs), plWs (Codec.encAll cs a) = true
  | [], _ => rfl
  | c :: cs, a => by
    show (plW (c.enc a.1) && plWs (Codec.encAll cs a.2)) = true
    rw [pl_enc c a.1, pl_encAll cs a.2] <;> rfl
theorem weight_mem : ∀ {xs : List WData} {d : WData}, d ∈ xs → d.weight ≤ WData.weightAll xs
  | [], d, h => absurd h (by simp)
  | x :: r, d, h => by
    show d.weight ≤ x.weight + 1 + WData.weightAll r
    rcases List.mem_cons.mp h with e | m
    · rw [e]
      omega
    · have z := weight_mem m
      omega
def toV : Value → V
  | .none => .non
  | .bool b => .bl b
  | .int i _ => .int i
  | .str x _ => .str x
  | .bytes b _ => .byt b
  | .ref a => .ref a
  | _ => .non
def OkU (A : List Addr) : Value → Prop
  | .none => True
  | .bool _ => True
  | .int _ _ => True
  | .str _ _ => True
  | .bytes _ _ => True
  | .ref a => a ∈ A
  | _ => False
theorem OkU.mono {A B : List Addr} (h : ∀ a ∈ A, a ∈ B) : ∀ {u : Value}, OkU A u → OkU B u := fun {u} x => by
  cases u with
  | ref a => exact h a x
  | none => trivial
  | bool b => trivial
  | int i t => trivial
  | str s t => trivial
  | bytes b t => trivial
  | _ => exact False.elim x
theorem relV_toV {A : List Addr} {u : Value} (x : OkU A u) : RelV (toV u) u := by
  cases u with
  | ref a => rfl
  | none => rfl
  | bool b => rfl
  | int i t => exact ⟨t, rfl⟩
  | str s t => exact ⟨t, rfl⟩
  | bytes b t => exact ⟨t, rfl⟩
  | _ => exact False.elim x
theorem vals_toV {A : List Addr} : ∀ {vs : List Value}, (∀ u ∈ vs, OkU A u) → Vals (vs.map toV) vs
  | [], _ => .nil
  | u :: r, h => .cons (relV_toV (h u (List.mem_cons_self ..))) (vals_toV fun x hx => h x (List.mem_cons_of_mem _ hx))
def ArgOb (h : Heap) (A : List Addr) (a : Addr) : Prop := ∃ vs : List Value, vs.length ≤ sizeLine ∧ (∀ u ∈ vs, OkU A u) ∧
  (h.get? a = some { cls := .type "list", data := .seq vs.toArray } ∨ h.get? a = some { cls := .type "tuple", data := .seq vs.toArray })
theorem ArgOb.mono {h : Heap} {A B : List Addr} {a : Addr} (k : ∀ a ∈ A, a ∈ B) (x : ArgOb h A a) : ArgOb h B a := by
  obtain ⟨vs, h1, h2, h3⟩ := x
  exact ⟨vs, h1, fun u hu => (h2 u hu).mono k, h3⟩
theorem wellAll_len {P : Params} {h : Heap} : ∀ {vs : List Value} {ds : List WData}, WellAll P h vs ds → vs.length = ds.length
  | _, _, .nil => rfl
  | _, _, .cons _ b => by
    show _ + 1 = _ + 1
    rw [wellAll_len b]
theorem well_list {P : Params} {h : Heap} {v : Value} {ds : List WData} (x : Well P h v (.list ds)) : ∃ (a : Addr) (vs : List Value), v = .ref a ∧ h.get? a = some { cls := .type "list", data := .seq vs.toArray } ∧ WellAll P h vs ds := by
  cases x with
  | list ho hall => exact ⟨_, _, rfl, ho, hall⟩
theorem well_tuple {P : Params} {h : Heap} {v : Value} {ds : List WData} (x : Well P h v (.tuple ds)) : ∃ (a : Addr) (vs : List Value), v = .ref a ∧ h.get? a = some { cls := .type "tuple", data := .seq vs.toArray } ∧ WellAll P h vs ds := by
  cases x with
  | tuple ho hall => exact ⟨_, _, rfl, ho, hall⟩
theorem well_cons {P : Params} {h : Heap} {us : List Value} {d : WData} {ds : List WData} (x : WellAll P h us (d :: ds)) : ∃ (v : Value) (vs : List Value), us = v :: vs ∧ Well P h v d ∧ WellAll P h vs ds := by
  cases x with
  | cons a b => exact ⟨_, _, rfl, a, b⟩
theorem line_of {n : Nat} (h : n ≤ 1048576) : n ≤ sizeLine := Nat.le_trans h (by decide)
section
variable {P : Params} {h : Heap}
mutual
theorem area_one : ∀ (d : WData) (v : Value), Well P h v d → plW d = true → d.weight ≤ 1048576 → ∃ A : List Addr, OkU A v ∧ ∀ a ∈ A, ArgOb h A a
  | .none, _, x, _, _ => by
    cases x
    exact ⟨[], trivial, fun a m => absurd m (by simp)⟩
  | .bool b, _, x, _, _ => by
    cases x
    exact ⟨[], trivial, fun a m => absurd m (by simp)⟩
  | .int i, _, x, _, _ => by
    cases x
    exact ⟨[], trivial, fun a m => absurd m (by simp)⟩
  | .str s, _, x, _, _ => by
    cases x
    exact ⟨[], trivial, fun a m => absurd m (by simp)⟩
  | .bytes b, _, x, _, _ => by
    cases x
    exact ⟨[], trivial, fun a m => absurd m (by simp)⟩
  | .list ds, _, x, p, z => by
    obtain ⟨a, vs, rfl, ho, hall⟩ := well_list x
    have z2 : WData.weightAll ds ≤ 1048576 := z
    obtain ⟨A, h1, h2⟩ := area_all ds _ hall p fun d hd => Nat.le_trans (weight_mem hd) z2
    have k : ∀ b ∈ A, b ∈ a :: A := fun b hb => List.mem_cons_of_mem _ hb
    refine ⟨a :: A, List.mem_cons_self .., fun b hb => ?_⟩
    rcases List.mem_cons.mp hb with e | m
    · rw [e]
      exact ⟨vs, line_of (by rw [wellAll_len hall]; exact Nat.le_trans (PySem.W.length_le_weightAllW ds) z2), fun u hu => (h1 u hu).mono k, .inl ho⟩
    · exact (h2 b m).mono k
  | .tuple ds, _, x, p, z => by
    obtain ⟨a, vs, rfl, ho, hall⟩ := well_tuple x
    have z2 : WData.weightAll ds ≤ 1048576 := z
    obtain ⟨A, h1, h2⟩ := area_all ds _ hall p fun d hd => Nat.le_trans (weight_mem hd) z2
    have k : ∀ b ∈ A, b ∈ a :: A := fun b hb => List.mem_cons_of_mem _ hb
    refine ⟨a :: A, List.mem_cons_self .., fun b hb => ?_⟩
    rcases List.mem_cons.mp hb with e | m
    · rw [e]
      exact ⟨vs, line_of (by rw [wellAll_len hall]; exact Nat.le_trans (PySem.W.length_le_weightAllW ds) z2), fun u hu => (h1 u hu).mono k, .inr ho⟩
    · exact (h2 b m).mono k
  | .float _, _, _, p, _ => Bool.noConfusion (show false = true from p)
  | .dict _, _, _, p, _ => Bool.noConfusion (show false = true from p)
  | .bytearray _, _, _, p, _ => Bool.noConfusion (show false = true from p)
  | .set _, _, _, p, _ => Bool.noConfusion (show false = true from p)
  | .frozenset _, _, _, p, _ => Bool.noConfusion (show false = true from p)
  | .obj _ _, _, _, p, _ => Bool.noConfusion (show false = true from p)
theorem area_all : ∀ (ds : List WData) (vs : List Value), WellAll P h vs ds → plWs ds = true → (∀ d ∈ ds, d.weight ≤ 1048576) → ∃ A : List Addr, (∀ u ∈ vs, OkU A u) ∧ ∀ a ∈ A, ArgOb h A a
  | [], _, x, _, _ => by
    cases x
    exact ⟨[], fun u m => absurd m (by simp), fun a m => absurd m (by simp)⟩
  | d :: ds, _, x, p, z => by
    obtain ⟨v, vs, rfl, x1, x2⟩ := well_cons x
    have q : plW d = true ∧ plWs ds = true := Bool.and_eq_true_iff.mp p
    obtain ⟨A, a1, a2⟩ := area_one d v x1 q.1 (z d (List.mem_cons_self ..))
    obtain ⟨B, b1, b2⟩ := area_all ds vs x2 q.2 fun e he => z e (List.mem_cons_of_mem _ he)
    have kA : ∀ b ∈ A, b ∈ A ++ B := fun b hb => List.mem_append.mpr (.inl hb)
    have kB : ∀ b ∈ B, b ∈ A ++ B := fun b hb => List.mem_append.mpr (.inr hb)
    refine ⟨A ++ B, fun u hu => ?_, fun b hb => ?_⟩
    · rcases List.mem_cons.mp hu with e | m
      · rw [e]
        exact a1.mono kA
      · exact (b1 u m).mono kB
    · rcases List.mem_append.mp hb with m | m
      · exact (a2 b m).mono kA
      · exact (b2 b m).mono kB
end
end
def hoOf (o : Obj) : Option HO := match o.data with
  | .seq vs _ => if (o.cls == Value.type "list") = true then some (.frz o (.lst (vs.toList.map toV))) else some (.frz o (.tup (vs.toList.map toV)))
  | _ => none
def argH (K : PySem.W.Frag) (h : Heap) (A : List Addr) : Hp := fun b => if b ∈ A then (if (K.lookup b).isNone = true then (h.get? b).bind hoOf else none) else none
def OnlyF (H : Hp) : Prop := ∀ b, H b = none ∨ ∃ o u, H b = some (.frz o u)
theorem hoOf_lst (vs : List Value) : hoOf { cls := .type "list", data := .seq vs.toArray } = some (.frz { cls := .type "list", data := .seq vs.toArray } (.lst (vs.map toV))) := by
  show (if (Value.type "list" == Value.type "list") = true then some (HO.frz { cls := .type "list", data := .seq vs.toArray } (.lst (vs.toArray.toList.map toV))) else some (HO.frz { cls := .type "list", data := .seq vs.toArray } (.tup (vs.toArray.toList.map toV)))) = _
  rw [if_pos (beq_self_eq_true _)]
theorem hoOf_tup (vs : List Value) : hoOf { cls := .type "tuple", data := .seq vs.toArray } = some (.frz { cls := .type "tuple", data := .seq vs.toArray } (.tup (vs.map toV))) := by
  show (if (Value.type "tuple" == Value.type "list") = true then some (HO.frz { cls := .type "tuple", data := .seq vs.toArray } (.lst (vs.toArray.toList.map toV))) else some (HO.frz { cls := .type "tuple", data := .seq vs.toArray } (.tup (vs.toArray.toList.map toV)))) = _
  rw [if_neg (by decide)]
section
variable {P : Program} {w : World} {K : PySem.W.Frag} {h : Heap} {A : List Addr}
theorem argH_at {b : Addr} {o : Obj} (hb : b ∈ A) (hk : K.lookup b = none) (e : h.get? b = some o) : argH K h A b = hoOf o := by
  unfold argH
  rw [if_pos hb, hk, if_pos (show (none : Option Obj).isNone = true from rfl), e] <;> rfl
theorem of_argH {b : Addr} {u : HO} (q : argH K h A b = some u) : b ∈ A ∧ K.lookup b = none := by
  unfold argH at q
  by_cases hb : b ∈ A
  · rw [if_pos hb] at q
    cases hk : K.lookup b with
    | none => exact ⟨hb, rfl⟩
    | some o =>
      rw [hk, if_neg (by simp)] at q
      cases q
  · rw [if_neg hb] at q
    cases q
theorem argH_is (ar : ∀ a ∈ A, ArgOb h A a) {b : Addr} {u : HO} (q : argH K h A b = some u) : K.lookup b = none ∧ ∃ vs : List Value, vs.length ≤ sizeLine ∧ (∀ u ∈ vs, OkU A u) ∧
    ((h.get? b = some { cls := .type "list", data := .seq vs.toArray } ∧ u = .frz { cls := .type "list", data := .seq vs.toArray } (.lst (vs.map toV))) ∨
     (h.get? b = some { cls := .type "tuple", data := .seq vs.toArray } ∧ u = .frz { cls := .type "tuple", data := .seq vs.toArray } (.tup (vs.map toV)))) := by
  obtain ⟨hb, hk⟩ := of_argH q
  obtain ⟨vs, h1, h2, h3⟩ := ar b hb
  refine ⟨hk, vs, h1, h2, ?_⟩
  rcases h3 with e | e
  · rw [argH_at hb hk e, hoOf_lst] at q
    exact .inl ⟨e, (Option.some.inj q).symm⟩
  · rw [argH_at hb hk e, hoOf_tup] at q
    exact .inr ⟨e, (Option.some.inj q).symm⟩
theorem argH_only (ar : ∀ a ∈ A, ArgOb h A a) : OnlyF (argH K h A) := fun b => by
  cases q : argH K h A b with
  | none => exact .inl rfl
  | some u =>
    obtain ⟨_, vs, _, _, ⟨_, e⟩ | ⟨_, e⟩⟩ := argH_is ar q
    · exact .inr ⟨_, _, by rw [e]⟩
    · exact .inr ⟨_, _, by rw [e]⟩
theorem argH_ok (ar : ∀ a ∈ A, ArgOb h A a) : HOk P w (argH K h A) h := fun b u q => by
  obtain ⟨_, vs, h1, h2, ⟨e, rfl⟩ | ⟨e, rfl⟩⟩ := argH_is ar q
  · exact ⟨e, by rw [List.length_map]; exact h1, vs, _, vals_toV h2, e⟩
  · exact ⟨e, by rw [List.length_map]; exact h1, vs, vals_toV h2, _, e, rfl, _, rfl⟩
theorem seq_inj {c c' : Value} {vs us : List Value} (e : (some { cls := c, data := .seq vs.toArray } : Option Obj) = some { cls := c', data := .seq us.toArray }) : c = c' ∧ vs = us := by
  have e1 := Option.some.inj e
  have e2 : c = c' := congrArg Obj.cls e1
  have e3 : Data.seq vs.toArray = Data.seq us.toArray := congrArg Obj.data e1
  injection e3 with e4
  refine ⟨e2, ?_⟩
  have e5 := congrArg Array.toList e4
  simpa using e5
theorem argL (KX : K.In h) (ar : ∀ a ∈ A, ArgOb h A a) {a : Addr} {vs : List Value} (ha : a ∈ A) (e : h.get? a = some { cls := .type "list", data := .seq vs.toArray }) : (∀ u ∈ vs, OkU A u) ∧ SqL K (argH K h A) a (vs.map toV) := by
  obtain ⟨us, h1, h2, h3⟩ := ar a ha
  have hu : us = vs := by
    rcases h3 with q | q
    · rw [e] at q
      exact (seq_inj q).2.symm
    · rw [e] at q
      exact absurd (Value.type.inj (seq_inj q).1) (by decide)
  subst hu
  refine ⟨h2, ?_⟩
  cases hk : K.lookup a with
  | none => exact .inl (.inr ⟨_, by rw [argH_at ha hk e, hoOf_lst]⟩)
  | some o =>
    have e2 := KX a o hk
    rw [e] at e2
    obtain rfl := Option.some.inj e2
    exact .inr ⟨_, us.toArray, _, hk, rfl, rfl, rfl, by rw [List.size_toArray]; exact h1, by simpa using vals_toV h2⟩
theorem argT (KX : K.In h) (ar : ∀ a ∈ A, ArgOb h A a) {a : Addr} {vs : List Value} (ha : a ∈ A) (e : h.get? a = some { cls := .type "tuple", data := .seq vs.toArray }) : (∀ u ∈ vs, OkU A u) ∧ SqT K (argH K h A) a (vs.map toV) := by
  obtain ⟨us, h1, h2, h3⟩ := ar a ha
  have hu : us = vs := by
    rcases h3 with q | q
    · rw [e] at q
      exact absurd (Value.type.inj (seq_inj q).1) (by decide)
    · rw [e] at q
      exact (seq_inj q).2.symm
  subst hu
  refine ⟨h2, ?_⟩
  cases hk : K.lookup a with
  | none => exact .inl (.inr ⟨_, by rw [argH_at ha hk e, hoOf_tup]⟩)
  | some o =>
    have e2 := KX a o hk
    rw [e] at e2
    obtain rfl := Option.some.inj e2
    exact .inr ⟨_, us.toArray, _, hk, rfl, rfl, by rw [List.size_toArray]; exact h1, by simpa using vals_toV h2⟩
mutual
theorem dw_one {Pm : Params} (KX : K.In h) (ar : ∀ a ∈ A, ArgOb h A a) : ∀ (d : WData) (v : Value), Well Pm h v d → plW d = true → OkU A v → Dw K (argH K h A) (toV v) d
  | .none, _, x, _, _ => by
    cases x
    exact .non
  | .bool b, _, x, _, _ => by
    cases x
    exact .bl b
  | .int i, _, x, _, _ => by
    cases x
    exact .int i
  | .str s, _, x, _, _ => by
    cases x
    exact .str s
  | .bytes b, _, x, _, _ => by
    cases x
    have z := Dw.byt (K := K) (H := argH K h A) b.toArray
    exact z
  | .list ds, _, x, p, hu => by
    obtain ⟨a, vs, rfl, ho, hall⟩ := well_list x
    obtain ⟨h2, hs⟩ := argL KX ar hu ho
    exact .lst hs (dw_all KX ar ds _ hall p h2)
  | .tuple ds, _, x, p, hu => by
    obtain ⟨a, vs, rfl, ho, hall⟩ := well_tuple x
    obtain ⟨h2, hs⟩ := argT KX ar hu ho
    exact .tup hs (dw_all KX ar ds _ hall p h2)
  | .float _, _, _, p, _ => Bool.noConfusion (show false = true from p)
  | .dict _, _, _, p, _ => Bool.noConfusion (show false = true from p)
  | .bytearray _, _, _, p, _ => Bool.noConfusion (show false = true from p)
  | .set _, _, _, p, _ => Bool.noConfusion (show false = true from p)
  | .frozenset _, _, _, p, _ => Bool.noConfusion (show false = true from p)
  | .obj _ _, _, _, p, _ => Bool.noConfusion (show false = true from p)
theorem dw_all {Pm : Params} (KX : K.In h) (ar : ∀ a ∈ A, ArgOb h A a) : ∀ (ds : List WData) (vs : List Value), WellAll Pm h vs ds → plWs ds = true → (∀ u ∈ vs, OkU A u) → DwAll K (argH K h A) (vs.map toV) ds
  | [], _, x, _, _ => by
    cases x
    exact .nil
  | d :: ds, _, x, p, hu => by
    obtain ⟨v, vs, rfl, x1, x2⟩ := well_cons x
    have q : plW d = true ∧ plWs ds = true := Bool.and_eq_true_iff.mp p
    exact .cons (dw_one KX ar d v x1 q.1 (hu _ (List.mem_cons_self ..))) (dw_all KX ar ds vs x2 q.2 fun u m => hu u (List.mem_cons_of_mem _ m))
end
end
theorem spec_call {P : Program} {w : World} {K : PySem.W.Frag} {mg mb : Str → Option Value} {CX : CXT} {k : Nat} {fa : Addr} {fd : FuncData} {ps : List Str} {sp : Sp} {s₁ : Shared} {vals : List Value} {ds : List WData} {R : PySem.W.WRecords} {cl : Str → Option Addr} {d0 : WData}
    (KX : K.In s₁.heap) (hns : s₁.heap.Ns mainGlobals mg) (hb : s₁.heap.Ns builtinsNs mb) (hbb : ∀ x : Str, x ≠ "__name__" → mb x = bootBuiltins x) (hlim : s₁.heap.NoLimit) (hg : s₁.gens = #[])
    (hwl : WellAll w.params s₁.heap vals ds) (hpl : plWs ds = true) (hwt : ∀ d ∈ ds, d.weight ≤ 1048576) (hr : Room k callerA)
    (F : ∀ base : Heap, K.In base → base.Ns mainGlobals mg → FnOk P w K mg base CX k fa fd ps sp) (hbind : ∀ (s : Shared) (us : List Value), us.length = ps.length → BindsTo s fd ⟨us, []⟩ (ps.zip us)) (hlen : ds.length = ps.length)
    (hsp : ∀ (H : Hp) (xs : List V), OnlyF H → DwAll K H xs ds → sp xs H (fun v H' => Dw K H' v d0) fun _ _ _ => False)
    (hCX : ∀ H e s', CX [] H s₁ (fun _ _ _ => False) e s' → False) :
    codeAny (model P w) callerA (.call (.ref fa) ⟨vals, []⟩) (fun r s' => ∃ u as, r = .ok (.ret u) ∧ ReadsW R cl s'.heap u d0 as ∧ OldK s₁.heap s'.heap ∧ s'.os = s₁.os ∧ AllBare s'.gens) s₁ := by
  obtain ⟨A, ho, ar⟩ := area_all ds vals hwl hpl hwt
  have hO : OnlyF (argH K s₁.heap A) := argH_only ar
  have hok : HOk P w (argH K s₁.heap A) s₁.heap := argH_ok ar
  have hS := dw_all KX ar ds vals hwl hpl ho
  have hV := vals_toV ho
  have hK : ∀ b u, argH K s₁.heap A b = some u → K.lookup b = none := fun b u q => (argH_is ar q).1
  have noA : ∀ {b : Addr} {o : Obj} {es : Array DictEntry} {ep : Nat}, s₁.heap.get? b = some o → o.data = .dict es ep → argH K s₁.heap A b = none := fun {b o es ep} e d => by
    cases q : argH K s₁.heap A b with
    | none => rfl
    | some u =>
      obtain ⟨_, vs, _, _, ⟨e2, _⟩ | ⟨e2, _⟩⟩ := argH_is ar q
      · rw [e2] at e
        cases e
        have d' : Data.seq vs.toArray _ = Data.dict es ep := d
        cases d'
      · rw [e2] at e
        cases e
        have d' : Data.seq vs.toArray _ = Data.dict es ep := d
        cases d'
  generalize argH K s₁.heap A = H at hO hok hS hK noA
  have base_of : ∀ {b : Addr} {o : Obj}, s₁.heap.get? b = some o → H b = none → (hidT s₁.heap H).get? b = some o := fun e n => hidT_get e n
  have nsK : ∀ {b : Addr} {m : Str → Option Value}, s₁.heap.Ns b m → (hidT s₁.heap H).Ns b m := fun {b m} ⟨o, es, ep, e, d, r⟩ => ⟨o, es, ep, base_of e (noA e d), d, r⟩
  have nK : ∀ b o, K.lookup b = some o → H b = none := fun b o e => by
    cases q : H b with
    | none => rfl
    | some u =>
      rw [hK b u q] at e
      cases e
  have hKb : K.In (hidT s₁.heap H) := fun b o e => base_of (KX b o e) (nK b o e)
  have hM : Mod K mg (hidT s₁.heap H) := ⟨hKb, nsK hns, ⟨mb, nsK hb, hbb⟩, let ⟨mc, h1, h2⟩ := hlim; ⟨mc, nsK h1, h2⟩⟩
  have e0 : Env0 P w K mg (hidT s₁.heap H) callerA [] s₁ H := ⟨rfl, hM, fun b o e => of_hidT e, Nat.le_of_eq (hidT_size _ _), trivial, fun b hb => absurd (show b ∈ ([] : List Addr) from hb) (by simp), hok, .of_eq hg⟩
  have hl : vals.length = ps.length := by rw [wellAll_len hwl]; exact hlen
  refine codeAny_mono ((F _ hKb (nsK hns)).run callerA [] s₁ H ⟨vals, []⟩ vals (vals.map toV) _ _ hr e0 (hbind s₁ vals hl) hV (hsp H _ hO hS)) fun r s' x => ?_
  cases r with
  | error e => exact (hCX H e s' x).elim
  | ok fl =>
    cases fl with
    | next => exact False.elim x
    | brk => exact False.elim x
    | cont => exact False.elim x
    | ret u =>
      obtain ⟨v, H', os, bare, un, hok', r', q⟩ := x
      have kept : ∀ b o, s₁.heap.get? b = some o → s'.heap.get? b = some o := fun b o e => by
        cases q2 : H b with
        | none => exact un.keep b o e q2 (by intro z; exact absurd (show b ∈ ([] : List Addr) from z) (by simp)) (by simp)
        | some u2 =>
          rcases hO b with z | ⟨ob, u3, z⟩
          · rw [q2] at z
            cases z
          · have z2 := un.frzs b ob _ z
            obtain ⟨e1, _⟩ := hok b _ z
            obtain ⟨e2, _⟩ := hok' b _ z2
            rw [e] at e1
            cases e1
            exact e2
      have KX' : K.In s'.heap := fun b o e => kept b o (KX b o e)
      obtain ⟨as, hrd⟩ := Dw.reads (R := R) (cl := cl) hok' KX' d0 v u q r'
      exact ⟨u, as, rfl, hrd, OldK.of_keep kept, os, bare⟩
theorem layable_weight {ds : List WData} (h : WData.layableAll ds = true) : ∀ d ∈ ds, d.weight ≤ 1048576 := fun d hd =>
  (PySem.W.layableW_iff.mp (List.all_eq_true.mp h d hd)).2.2
theorem encAll_len : ∀ (cs : List Codec) (a : Codec.denoteAll cs), (Codec.encAll cs a).length = cs.length
  | [], _ => rfl
  | c :: cs, a => by
    show (Codec.encAll cs a.2).length + 1 = cs.length + 1
    rw [encAll_len cs a.2]
theorem walk_spec {r : OpenSpec} {k : Nat} {q : Program} {loose : List Str} {XP : (Str → Option Value) → Heap → Prop} {YP : World → Heap → Prop} {d : DefRec} {K : Params → PySem.W.Frag} {CX : World → CXT} {ps : List Str} {sp : World → Sp}
    (hwell : r.wellSaid = true) (hdf : d.params.defaults = []) (hlen : r.args.length = ps.length) (hr : Room k callerA)
    (hY : ∀ (w : World) (h : Heap), YP w h → (K w.params).In h)
    (F : ∀ (w : World) (mg : Str → Option Value) (fa : Addr) (h : Heap), YP w h → (K w.params).In h → h.Ns mainGlobals mg → mg d.name = some (.ref fa) →
      ∃ fd : FuncData, (∀ (s : Shared) (us : List Value), us.length = ps.length → BindsTo s fd ⟨us, []⟩ (ps.zip us)) ∧
        ∀ base : Heap, (K w.params).In base → base.Ns mainGlobals mg → FnOk r.prog w (K w.params) mg base (CX w) k fa fd ps (sp w))
    (hsp : ∀ (w : World) (H : Hp) (xs : List V) (a : Codec.denoteAll r.args), OnlyF H → Codec.withinAll r.args a = true → Codec.app r.args r.asked a = true → DwAll (K w.params) H xs (Codec.encAll r.args a) →
      sp w xs H (fun v H' => Dw (K w.params) H' v (r.ret.enc (Codec.app r.args r.f a))) fun _ _ _ => False)
    (hCX : ∀ (w : World) (H : Hp) (s : Shared) (e : Value) (s' : Shared), CX w [] H s (fun _ _ _ => False) e s' → False) :
    PySem.W.WalkOS q loose XP YP r d [] (fun f vs => PySem.call f vs) := by
  intro w s_0 s₁ mg mb G Y fa o pm cd doc dV kV ho hd hcd hD hmg hg args vals as hpre hlay hrd hwl hlo
  obtain ⟨a, e1, e2⟩ := PySem.W.os_pre_some hpre
  obtain ⟨e3, hwi⟩ := Codec.encAll_of_decAll r.args args a e1
  subst e3
  have KX := hY w _ Y
  obtain ⟨fd, hb, hF⟩ := F w mg fa _ Y KX G.T.g hmg
  refine PySem.W.enter_call (codeAny_mono (spec_call (R := []) (cl := classAt s_0.heap) (d0 := r.ret.enc (Codec.app r.args r.f a)) KX G.T.g G.T.b G.T.builtins G.T.nolimit hg hwl (pl_encAll _ _) (layable_weight hlay) hr hF hb (by rw [encAll_len]; exact hlen)
    (fun H xs hO hS => hsp w H xs a hO hwi e2 hS) fun H e s' => hCX w H s₁ e s') fun r' s' hq => ?_)
  obtain ⟨u, as', rfl, h1, h2, h3, h4⟩ := hq
  exact ⟨.inl ⟨u, _, as', rfl, fun _ => rfl, h1, (OpenSpec.post_iff hwell hwi _ _).mpr rfl, fun z => Bool.noConfusion (show false = true from z)⟩, h2, h3, h4⟩
theorem walk_specK {r : OpenSpec} {k : Nat} {q : Program} {loose : List Str} {XP : (Str → Option Value) → Heap → Prop} {YP : World → Heap → Prop} {d : DefRec} {K : Params → PySem.W.Frag} {CX : CXT} {ps : List Str} {sp : PySem.W.Frag → Sp}
    (hwell : r.wellSaid = true) (hdf : d.params.defaults = []) (hlen : r.args.length = ps.length) (hr : Room k callerA)
    (hY : ∀ (w : World) (h : Heap), YP w h → (K w.params).In h)
    (F : ∀ (w : World) (mg : Str → Option Value) (fa : Addr) (h : Heap), YP w h → (K w.params).In h → h.Ns mainGlobals mg → mg d.name = some (.ref fa) →
      ∃ fd : FuncData, (∀ (s : Shared) (us : List Value), us.length = ps.length → BindsTo s fd ⟨us, []⟩ (ps.zip us)) ∧
        ∀ base : Heap, (K w.params).In base → base.Ns mainGlobals mg → FnOk r.prog w (K w.params) mg base CX k fa fd ps (sp (K w.params)))
    (hsp : ∀ (K : PySem.W.Frag) (H : Hp) (xs : List V) (a : Codec.denoteAll r.args), OnlyF H → Codec.withinAll r.args a = true → Codec.app r.args r.asked a = true → DwAll K H xs (Codec.encAll r.args a) →
      sp K xs H (fun v H' => Dw K H' v (r.ret.enc (Codec.app r.args r.f a))) fun _ _ _ => False)
    (hCX : ∀ (H : Hp) (s : Shared) (e : Value) (s' : Shared), CX [] H s (fun _ _ _ => False) e s' → False) :
    PySem.W.WalkOS q loose XP YP r d [] (fun f vs => PySem.call f vs) :=
  walk_spec (K := K) (CX := fun _ => CX) (sp := fun w => sp (K w.params)) hwell hdf hlen hr hY F (fun w H xs a h1 h2 h3 h4 => hsp (K w.params) H xs a h1 h2 h3 h4) fun _ H s e s' => hCX H s e s'
end L2
end
namespace L2
open PySem PySem.Spec PyProof.Rows
def inClass (s : Stmt) (j : Nat) : Stmt := match s with
  | .ClassDef _ _ _ body _ _ _ _ _ _ _ => body.getD j (.Pass ⟨0, 0, 0, 0⟩)
  | _ => .Pass ⟨0, 0, 0, 0⟩
def defArgs (s : Stmt) : Arguments := match s with
  | .FunctionDef _ a _ _ _ _ _ _ _ _ => a
  | _ => { posonlyargs := [], args := [], vararg := none, kwonlyargs := [], kw_defaults := [], kwarg := none, defaults := [] }
def defBody (s : Stmt) : List Stmt := match s with
  | .FunctionDef _ _ b _ _ _ _ _ _ _ => b
  | _ => []
def defScope (s : Stmt) : Scope := match s with
  | .FunctionDef _ _ _ _ _ _ sc _ _ _ => sc
  | _ => { kind := .function, names := [], isGenerator := false, isCoroutine := false }
abbrev CX0 : CXT := fun _ _ _ _ _ _ => False
abbrev E0 : XK := fun _ _ _ => False
theorem pass0 {X : Cx} : Passes CX0 X E0 := fun _ _ _ _ _ _ _ h => h.elim
structure Fun (K : PySem.W.Frag) (x qual : Str) (st : Stmt) (f : Addr) (fd : FuncData) : Prop where
  ex : ∃ (oc : Value) (od : Option Addr) (kV doc pm : Value) (an : Option Addr) (cdv ct : Value) (osl : Array (Option Value)),
    fd = PySem.W.fnOf x qual (defArgs st) (defBody st) (defScope st) .none kV doc pm an cdv ct ∧ K.lookup f = some ⟨oc, od, .func fd, osl⟩ ∧ PySem.W.codeIn K cdv qual = true
  kp : PySem.W.keepIn K (.ref f) = true
section
variable {P : Program} {w : World} {K : PySem.W.Frag} {mg : Str → Option Value} {base : Heap}
theorem Fun.ok {x qual : Str} {st : Stmt} {f : Addr} {fd : FuncData} {N ps : List Str} {k : Nat} {sp : Sp} (F : Fun K x qual st f fd) (S : FnScope N ps (defScope st)) (len : ∀ vs H Q E, sp vs H Q E → vs.length = ps.length)
    (hbody : ∀ (cdv : Value) (A : Around) (outer : List Env) (s : Shared) (H : Hp) (vs : List V) (Q : VK) (E : XK), Room k (A.deeper (envOfC qual (defScope st) s.heap.objs.size f cdv)) → sp vs H Q E →
      ∃ t, PSs (cxOf CX0 P w K mg base N qual (defScope st) f cdv A outer s H E).nox (defBody st) t ∧ t { nx := fun _ H' => Q .non H', rt := Q } (start N vs) H) : FnOk P w K mg base CX0 (k + 1) f fd ps sp := by
  obtain ⟨oc, od, kV, doc, pm, an, cdv, ct, osl, rfl, lk, hcd⟩ := F.ex
  refine fn_of lk hcd S len fun A outer s H vs Q E hr hsp => ?_
  obtain ⟨t, h, q⟩ := hbody cdv A outer s H vs Q E hr hsp
  exact ⟨t, h.nox, q⟩
theorem Fun.binds {x qual : Str} {st : Stmt} {f : Addr} {fd : FuncData} {ps : List Str} (F : Fun K x qual st f fd)
    (h : ∀ (kV doc pm : Value) (an : Option Addr) (cdv ct : Value) (us : List Value), us.length = ps.length → bindArgs (PySem.W.fnOf x qual (defArgs st) (defBody st) (defScope st) .none kV doc pm an cdv ct) ⟨us, []⟩ = pure (ps.zip us)) : Binds K fd ps [] := by
  obtain ⟨oc, od, kV, doc, pm, an, cdv, ct, osl, rfl, lk, hcd⟩ := F.ex
  exact .all (h kV doc pm an cdv ct)
theorem fun_mk {x qual : Str} {st : Stmt} {f : Addr} {oc : Value} {od an : Option Addr} {osl : Array (Option Value)} {kV doc pm cdv ct : Value} (l : K.lookup f = some ⟨oc, od, .func (PySem.W.fnOf x qual (defArgs st) (defBody st) (defScope st) .none kV doc pm an cdv ct), osl⟩)
    (c : PySem.W.codeIn K cdv qual = true) (k : PySem.W.keepIn K (.ref f) = true) : Fun K x qual st f (PySem.W.fnOf x qual (defArgs st) (defBody st) (defScope st) .none kV doc pm an cdv ct) := ⟨⟨oc, od, kV, doc, pm, an, cdv, ct, osl, rfl, l, c⟩, k⟩
end
theorem hu_of {A : Around} {k : Nat} (hr : Room k A) : A.units + 1 < cLine := Nat.lt_of_le_of_lt (Nat.add_le_add_left (by decide : 1 ≤ 64) _) hr.units
theorem small1000 {n : Nat} (h : n ≤ 1000) : n < sizeLine := Nat.lt_of_le_of_lt h (by decide)
section
variable {X : Cx}
theorem pv (i : Nat) {x : Str} {pos : Pos} (hN : X.N[i]? = some x := by rfl) (hv : Vis X.env.scope x := by first | exact Or.inl rfl | exact Or.inr (Or.inl rfl) | exact Or.inr (Or.inr rfl)) (hd : (x == ("__debug__" : Str)) = false := by decide)
    (hcd : (x == ("__classdict__" : Str)) = false := by decide) : PE X (.Name x pos) (tVar i) := pe_var hN hv hd hcd
end
theorem iteF {A B : Prop} (h : B) : if false = true then A else B := by
  rw [if_neg Bool.false_ne_true]
  exact h
theorem iteT {A B : Prop} (h : A) : if true = true then A else B := by
  rw [if_pos rfl]
  exact h
def Same (H H' : Hp) : Prop := ∀ b o, H b = some o → H' b = some o
theorem Same.refl (H : Hp) : Same H H := fun _ _ h => h
theorem Same.trans {H H1 H2 : Hp} (a : Same H H1) (b : Same H1 H2) : Same H H2 := fun c o h => b c o (a c o h)
theorem Same.free {H H' : Hp} (e : Same H H') {l : Addr} (h : H' l = Option.none) : H l = Option.none := by
  cases q : H l with
  | none => rfl
  | some o =>
    rw [e l o q] at h
    cases h
theorem Same.seq {K : PySem.W.Frag} {H H' : Hp} {a : Addr} {xs : List V} (e : Same H H') (h : SqL K H a xs) : SqL K H' a xs := by
  rcases h with (h | ⟨o, h⟩) | h
  · exact .inl (.inl (e _ _ h))
  · exact .inl (.inr ⟨o, e _ _ h⟩)
  · exact .inr h
section
variable {κ : Type} [DecidableEq κ]
end
theorem nd_ix {α : Type} {l : List α} (hN : l.Nodup) {i j : Nat} {x : α} (a : l[i]? = some x) (b : l[j]? = some x) : i = j := by
  obtain ⟨h1, e1⟩ := List.getElem?_eq_some_iff.mp a
  obtain ⟨h2, e2⟩ := List.getElem?_eq_some_iff.mp b
  exact (List.getElem_inj hN).mp (e1.trans e2.symm)
theorem Same.made {H H1 : Hp} {x dx C : Addr} (nx : H x = Option.none) (nd : H dx = Option.none) (k : ∀ b o, (upd (upd H dx (.own x)) x (.ins C dx [])) b = some o → b ≠ x → H1 b = some o) : Same H H1 := fun b o e =>
  k b o (by rw [upd_ne (ne_of_none e nx), upd_ne (ne_of_none e nd)]; exact e) (ne_of_none e nx)
end L2
namespace My
open Kg58
abbrev PosL (l : List Pen) : Prop := ∀ p, p ∈ l → 0 < p.left
theorem runs_length : ∀ (l : List Pen) (seen : List Nat) (n : Nat), (runs seen n l).length = l.length
  | [], _, _ => rfl
  | p :: l, seen, n => by
    show (runs _ _ l).length + 1 = l.length + 1
    rw [runs_length l]
theorem runs_cons (p : Pen) (l : List Pen) (seen : List Nat) (n : Nat) : runs seen n (p :: l) = (!seen.contains p.player && (!p.counts || decide (n < 2))) ::
    runs (seen ++ [p.player]) (if ((!seen.contains p.player && (!p.counts || decide (n < 2))) && p.counts) = true then n + 1 else n) l := rfl
theorem running_length (l : List Pen) : (running l).length = l.length := by
  unfold running
  rw [List.length_zip, runs_length, Nat.min_self]
theorem running_get {l : List Pen} {i : Nat} {p : Pen} {b : Bool} (hp : l[i]? = some p) (hb : (runs [] 0 l)[i]? = some b) : (running l)[i]? = some (p, b) := by
  unfold running
  rw [List.getElem?_zip_eq_some]
  exact ⟨hp, hb⟩
theorem runs_get {l : List Pen} {i : Nat} (h : i < l.length) : ∃ b, (runs [] 0 l)[i]? = some b :=
  ⟨_, List.getElem?_eq_getElem (by rw [runs_length]; exact h)⟩
theorem take_snoc {α : Type} {l : List α} {i : Nat} {x : α} (h : l[i]? = some x) : l.take (i + 1) = l.take i ++ [x] := by
  rw [List.take_add_one, h]
  rfl
def lefts (l : List (Pen × Bool)) : List Nat := (l.filter fun x => x.2).map fun x => x.1.left
def sFold (m : Option Nat) (x : Pen × Bool) : Option Nat := match m with
  | none => some x.1.left
  | some n => some (min n x.1.left)
theorem sFold_some : ∀ (L : List (Pen × Bool)) (a : Nat), ∃ b, L.foldl sFold (some a) = some b ∧ (b = a ∨ ∃ x ∈ L, x.1.left = b) ∧ b ≤ a ∧ ∀ x ∈ L, b ≤ x.1.left
  | [], a => ⟨a, rfl, Or.inl rfl, Nat.le_refl _, fun x h => by cases h⟩
  | y :: L, a => by
    obtain ⟨b, h1, h2, h3, h4⟩ := sFold_some L (min a y.1.left)
    refine ⟨b, h1, ?_, by omega, fun x hx => ?_⟩
    · rcases h2 with h2 | ⟨x, hx, e⟩
      · rcases Nat.le_total a y.1.left with q | q
        · exact Or.inl (by omega)
        · exact Or.inr ⟨y, List.mem_cons_self, by omega⟩
      · exact Or.inr ⟨x, List.mem_cons_of_mem _ hx, e⟩
    · rcases List.mem_cons.mp hx with rfl | hx
      · omega
      · exact h4 x hx
theorem soonest_eq (l : List Pen) : soonest l = ((running l).filter fun x => x.2).foldl sFold none := rfl
theorem soonest_some {l : List Pen} {m : Nat} (h1 : m ∈ lefts (running l)) (h2 : ∀ y, y ∈ lefts (running l) → m ≤ y) : soonest l = some m := by
  rw [soonest_eq]
  unfold lefts at h1 h2
  generalize ((running l).filter fun x => x.2) = L at h1 h2
  cases L with
  | nil => cases h1
  | cons y L =>
    obtain ⟨b, e1, e2, e3, e4⟩ := sFold_some L y.1.left
    show L.foldl sFold (some y.1.left) = some m
    rw [e1]
    have q1 : m ≤ b := by
      rcases e2 with e2 | ⟨x, hx, e⟩
      · rw [e2]; exact h2 _ (List.mem_map.mpr ⟨y, List.mem_cons_self, rfl⟩)
      · rw [← e]; exact h2 _ (List.mem_map.mpr ⟨x, List.mem_cons_of_mem _ hx, rfl⟩)
    have q2 : b ≤ m := by
      obtain ⟨x, hx, e⟩ := List.mem_map.mp h1
      rcases List.mem_cons.mp hx with rfl | hx
      · omega
      · have := e4 x hx; omega
    rw [Nat.le_antisymm q2 q1]
theorem soonest_spec {l : List Pen} {m : Nat} (h : soonest l = some m) : m ∈ lefts (running l) ∧ ∀ y, y ∈ lefts (running l) → m ≤ y := by
  rw [soonest_eq] at h
  unfold lefts
  generalize ((running l).filter fun x => x.2) = L at h ⊢
  cases L with
  | nil => cases h
  | cons y L =>
    obtain ⟨b, e1, e2, e3, e4⟩ := sFold_some L y.1.left
    have e : L.foldl sFold (some y.1.left) = some m := h
    rw [e1] at e
    cases e
    refine ⟨?_, fun z hz => ?_⟩
    · rcases e2 with e2 | ⟨x, hx, e⟩
      · rw [e2]; exact List.mem_map.mpr ⟨y, List.mem_cons_self, rfl⟩
      · exact List.mem_map.mpr ⟨x, List.mem_cons_of_mem _ hx, e⟩
    · obtain ⟨x, hx, rfl⟩ := List.mem_map.mp hz
      rcases List.mem_cons.mp hx with rfl | hx
      · exact e3
      · exact e4 x hx
theorem running_cons (p : Pen) (l : List Pen) : ∃ r, running (p :: l) = (p, true) :: r := by
  refine ⟨l.zip (runs ([] ++ [p.player]) (if (true && p.counts) = true then 1 else 0) l), ?_⟩
  have e : (!([] : List Nat).contains p.player && (!p.counts || decide (0 < 2))) = true := by simp
  show (p :: l).zip (runs [] 0 (p :: l)) = _
  rw [runs_cons, e]
  rfl
theorem lefts_ne {l : List Pen} (h : l ≠ []) : 0 < (lefts (running l)).length := by
  cases l with
  | nil => exact absurd rfl h
  | cons p l =>
    obtain ⟨r, e⟩ := running_cons p l
    rw [e]
    show 0 < (((p, true) :: r).filter fun x => x.2).length |> fun _ => 0 < (lefts ((p, true) :: r)).length
    unfold lefts
    rw [List.filter_cons]
    simp
theorem lefts_mem {l : List Pen} {m : Nat} (h : m ∈ lefts (running l)) : ∃ p, p ∈ l ∧ p.left = m := by
  unfold lefts at h
  obtain ⟨x, hx, e⟩ := List.mem_map.mp h
  have h2 := (List.mem_filter.mp hx).1
  unfold running at h2
  have := List.of_mem_zip (a := x.1) (b := x.2) h2
  exact ⟨x.1, this.1, e⟩
theorem soonest_pos {l : List Pen} {m : Nat} (hp : PosL l) (h : soonest l = some m) : 0 < m := by
  obtain ⟨p, hp1, e⟩ := lefts_mem (soonest_spec h).1
  have := hp p hp1
  omega
def cut1 (n : Nat) (x : Pen × Bool) : Pen := if x.2 = true then { x.1 with left := x.1.left - n } else x.1
def lessAll (l : List Pen) (n : Nat) : List Pen := (running l).map (cut1 n)
theorem minus_eq (l : List Pen) (n : Nat) : minus l n = (lessAll l n).filter fun p => decide (0 < p.left) := rfl
theorem lessAll_length (l : List Pen) (n : Nat) : (lessAll l n).length = l.length := by
  unfold lessAll
  rw [List.length_map, running_length]
theorem minus_pos (l : List Pen) (n : Nat) : PosL (minus l n) := by
  intro p hp
  rw [minus_eq] at hp
  exact of_decide_eq_true (List.mem_filter.mp hp).2
theorem minus_lt {l : List Pen} {m : Nat} (h : soonest l = some m) : (minus l m).length < l.length := by
  obtain ⟨h1, _⟩ := soonest_spec h
  unfold lefts at h1
  obtain ⟨x, hx, e⟩ := List.mem_map.mp h1
  obtain ⟨h2, h3⟩ := List.mem_filter.mp hx
  rw [← running_length l, minus_eq]
  unfold lessAll
  have k : ∀ L : List (Pen × Bool), x ∈ L → ((L.map (cut1 m)).filter fun p => decide (0 < p.left)).length < L.length := by
    intro L
    induction L with
    | nil => intro q; cases q
    | cons y L ih =>
      intro q
      have le : ((L.map (cut1 m)).filter fun p => decide (0 < p.left)).length ≤ L.length := by
        have := List.length_filter_le (fun p : Pen => decide (0 < p.left)) (L.map (cut1 m))
        rwa [List.length_map] at this
      rw [List.map_cons, List.filter_cons]
      rcases List.mem_cons.mp q with rfl | q
      · have : (cut1 m x).left = 0 := by
          unfold cut1
          rw [if_pos h3]
          show x.1.left - m = 0
          omega
        rw [if_neg (by rw [this]; decide), List.length_cons]
        omega
      · have := ih q
        split
        · rw [List.length_cons, List.length_cons]; omega
        · rw [List.length_cons]; omega
  exact k _ h2
theorem lessAll_zero (l : List Pen) : lessAll l 0 = l := by
  unfold lessAll
  have : ∀ x : Pen × Bool, cut1 0 x = x.1 := by
    intro x
    unfold cut1
    split <;> rfl
  rw [List.map_congr_left (fun x _ => this x)]
  unfold running
  rw [List.map_fst_zip (by rw [runs_length]; exact Nat.le_refl _)]
theorem minus_zero {l : List Pen} (h : PosL l) : minus l 0 = l := by
  rw [minus_eq, lessAll_zero, List.filter_eq_self]
  intro p hp
  exact decide_eq_true (h p hp)
theorem pass_nil (f n : Nat) : pass f n [] = [] := by
  cases f <;> rfl
theorem pass_succ {f n m : Nat} {l : List Pen} (h : soonest l = some m) : pass (f + 1) n l = if n ≤ m then minus l n else pass f (n - m) (minus l m) := by
  show (match soonest l with | none => l | some m => if n ≤ m then minus l n else pass f (n - m) (minus l m)) = _
  rw [h]
theorem soonest_none {l : List Pen} (h : soonest l = none) : l = [] := by
  cases l with
  | nil => rfl
  | cons p l =>
    obtain ⟨r, e⟩ := running_cons p l
    rw [soonest_eq, e, List.filter_cons, if_pos rfl] at h
    obtain ⟨b, q, _⟩ := sFold_some (r.filter fun x => x.2) p.left
    have q2 : (r.filter fun x => x.2).foldl sFold (some p.left) = none := h
    rw [q] at q2
    cases q2
theorem pass_fuel : ∀ (f g n : Nat) (l : List Pen), l.length < f → l.length < g → pass f n l = pass g n l
  | 0, _, _, _, h, _ => absurd h (Nat.not_lt_zero _)
  | _ + 1, 0, _, _, _, h => absurd h (Nat.not_lt_zero _)
  | f + 1, g + 1, n, l, h1, h2 => by
    cases e : soonest l with
    | none => rw [soonest_none e, pass_nil, pass_nil]
    | some m =>
      rw [pass_succ e, pass_succ e]
      split
      · rfl
      · have := minus_lt e
        exact pass_fuel f g (n - m) (minus l m) (by omega) (by omega)
theorem pass_zero {f : Nat} {l : List Pen} (h : PosL l) (hf : 0 < f) : pass f 0 l = l := by
  cases f with
  | zero => cases hf
  | succ f =>
    cases e : soonest l with
    | none => rw [soonest_none e, pass_nil]
    | some m => rw [pass_succ e, if_pos (Nat.zero_le _), minus_zero h]
theorem after_zero {l : List Pen} (h : PosL l) : after 0 l = l := pass_zero h (Nat.succ_pos _)
theorem after_step {l : List Pen} {n m : Nat} (h : soonest l = some m) : after n l = after (n - min n m) (minus l (min n m)) := by
  unfold after
  rw [pass_succ h]
  split
  · rename_i q
    rw [Nat.min_eq_left q, Nat.sub_self, pass_zero (minus_pos l n) (Nat.succ_pos _)]
  · rename_i q
    have e : min n m = m := Nat.min_eq_right (by omega)
    rw [e]
    exact pass_fuel _ _ _ _ (minus_lt h) (Nat.lt_succ_self _)
theorem pass_pos : ∀ (f n : Nat) (l : List Pen), PosL l → PosL (pass f n l)
  | 0, _, _, h => h
  | f + 1, n, l, h => by
    cases e : soonest l with
    | none => rw [soonest_none e, pass_nil]; intro p hp; cases hp
    | some m =>
      rw [pass_succ e]
      split
      · exact minus_pos l n
      · exact pass_pos f (n - m) _ (minus_pos l m)
theorem after_pos {l : List Pen} {n : Nat} (h : PosL l) : PosL (after n l) := pass_pos _ _ _ h
theorem pass_length : ∀ (f n : Nat) (l : List Pen), (pass f n l).length ≤ l.length
  | 0, _, _ => Nat.le_refl _
  | f + 1, n, l => by
    have k : ∀ j, (minus l j).length ≤ l.length := fun j => by
      rw [minus_eq, ← lessAll_length l j]
      exact List.length_filter_le _ _
    cases e : soonest l with
    | none => rw [soonest_none e, pass_nil]; exact Nat.le_refl _
    | some m =>
      rw [pass_succ e]
      split
      · exact k n
      · exact Nat.le_trans (pass_length f (n - m) _) (k m)
theorem after_length (n : Nat) (l : List Pen) : (after n l).length ≤ l.length := pass_length _ _ _
end My
namespace My
open Kg58
def cutZ (m : Nat) (x : (Pen × Nat) × Bool) : Pen × Nat := (if x.2 = true then ({ x.1.1 with left := x.1.1.left - m } : Pen) else x.1.1, x.1.2)
def lessZ (l : List (Pen × Nat)) (m : Nat) : List (Pen × Nat) := (l.zip (runs [] 0 (l.map fun x => x.1))).map (cutZ m)
def alive (x : Pen × Nat) : Bool := decide (0 < x.1.left)
theorem zip_map_fst {α β γ : Type} (f : α → γ) : ∀ (l : List α) (r : List β), (l.zip r).map (fun x => (f x.1, x.2)) = (l.map f).zip r
  | [], r => by simp
  | a :: l, [] => by simp
  | a :: l, b :: r => by
    show (f a, b) :: (l.zip r).map _ = (f a, b) :: (l.map f).zip r
    rw [zip_map_fst f l r]
theorem lessZ_fst (l : List (Pen × Nat)) (m : Nat) : (lessZ l m).map (fun x => x.1) = lessAll (l.map fun x => x.1) m := by
  unfold lessZ lessAll running
  rw [← zip_map_fst (fun x : Pen × Nat => x.1), List.map_map, List.map_map]
  rfl
theorem lessZ_snd (l : List (Pen × Nat)) (m : Nat) : (lessZ l m).map (fun x => x.2) = l.map fun x => x.2 := by
  unfold lessZ
  rw [List.map_map]
  have : ((fun x : Pen × Nat => x.2) ∘ cutZ m) = (fun y => y.2) ∘ (fun x : (Pen × Nat) × Bool => x.1) := rfl
  rw [this, ← List.map_map, List.map_fst_zip (by rw [runs_length, List.length_map]; exact Nat.le_refl _)]
theorem lessZ_length (l : List (Pen × Nat)) (m : Nat) : (lessZ l m).length = l.length := by
  have := congrArg List.length (lessZ_snd l m)
  rwa [List.length_map, List.length_map] at this
theorem filter_map_len {α β : Type} (f : α → β) (q : β → Bool) : ∀ l : List α, ((l.map f).filter q).length = (l.filter fun x => q (f x)).length
  | [] => rfl
  | a :: l => by
    rw [List.map_cons, List.filter_cons, List.filter_cons]
    split
    · rw [List.length_cons, List.length_cons, filter_map_len f q l]
    · exact filter_map_len f q l
theorem lessZ_lt {l : List (Pen × Nat)} {m : Nat} (h : soonest (l.map fun x => x.1) = some m) : ((lessZ l m).filter alive).length < l.length := by
  have h1 := minus_lt h
  rw [minus_eq, ← lessZ_fst, filter_map_len, List.length_map] at h1
  exact h1
theorem ends_succ {l : List (Pen × Nat)} {f t m : Nat} (h : soonest (l.map fun x => x.1) = some m) :
    ends (f + 1) t l = (((lessZ l m).filter fun x => decide (x.1.left = 0)).map fun x => (x.2, t + m)) ++ ends f (t + m) ((lessZ l m).filter alive) := by
  show (match soonest (l.map fun x => x.1) with
    | none => []
    | some m => _) = _
  rw [h]
  rfl
theorem ends_nil (f t : Nat) : ends f t [] = [] := by
  cases f <;> rfl
theorem ends_fuel : ∀ (f g t : Nat) (l : List (Pen × Nat)), l.length < f → l.length < g → ends f t l = ends g t l
  | 0, _, _, _, h, _ => absurd h (Nat.not_lt_zero _)
  | _ + 1, 0, _, _, _, h => absurd h (Nat.not_lt_zero _)
  | f + 1, g + 1, t, l, h1, h2 => by
    cases e : soonest (l.map fun x => x.1) with
    | none =>
      have := soonest_none e
      have : l = [] := List.map_eq_nil_iff.mp this
      rw [this, ends_nil, ends_nil]
    | some m =>
      rw [ends_succ e, ends_succ e]
      have := lessZ_lt e
      rw [ends_fuel f g (t + m) _ (by omega) (by omega)]
theorem lookup_app {l r : List (Nat × Nat)} {i : Nat} : (l ++ r).lookup i = match l.lookup i with
    | some x => some x
    | none => r.lookup i := by
  induction l with
  | nil => rfl
  | cons a l ih =>
    obtain ⟨k, v⟩ := a
    rw [List.cons_append, List.lookup_cons, List.lookup_cons]
    cases i == k
    · exact ih
    · rfl
theorem lookup_const {l : List (Pen × Nat)} {v i : Nat} : ((l.map fun x => (x.2, v)).lookup i) = if i ∈ l.map (fun x => x.2) then some v else none := by
  induction l with
  | nil => simp
  | cons a l ih =>
    rw [List.map_cons, List.lookup_cons, List.map_cons]
    by_cases e : i = a.2
    · rw [e]
      simp
    · have : (i == a.2) = false := beq_eq_false_iff_ne.mpr e
      rw [this]
      refine ih.trans ?_
      by_cases q : i ∈ l.map (fun x => x.2)
      · rw [if_pos q, if_pos (List.mem_cons_of_mem _ q)]
      · rw [if_neg q, if_neg (fun z => (List.mem_cons.mp z).elim e q)]
def setAll (times : List Int) (places : List Nat) (v : Int) : List Int := places.foldl (fun ts p => ts.set p v) times
theorem setAll_length (v : Int) : ∀ (places : List Nat) (times : List Int), (setAll times places v).length = times.length
  | [], _ => rfl
  | p :: r, times => by
    show (setAll (times.set p v) r v).length = _
    rw [setAll_length v r, List.length_set]
theorem setAll_out (v : Int) {i : Nat} : ∀ (places : List Nat) (times : List Int), i ∉ places → (setAll times places v)[i]? = times[i]?
  | [], _, _ => rfl
  | p :: r, times, h => by
    show (setAll (times.set p v) r v)[i]? = _
    rw [setAll_out v r _ (fun q => h (List.mem_cons_of_mem _ q)), List.getElem?_set_ne (fun q => h (by rw [q]; exact List.mem_cons_self))]
theorem setAll_in (v : Int) {i : Nat} : ∀ (places : List Nat) (times : List Int), i ∈ places → i < times.length → (setAll times places v)[i]? = some v
  | [], _, h, _ => by cases h
  | p :: r, times, h, hl => by
    show (setAll (times.set p v) r v)[i]? = _
    by_cases q : i ∈ r
    · exact setAll_in v r _ q (by rw [List.length_set]; exact hl)
    · rw [setAll_out v r _ q]
      rcases List.mem_cons.mp h with rfl | h
      · rw [List.getElem?_set_self hl]
      · exact absurd h q
theorem setAll_snoc (times : List Int) (places : List Nat) (p : Nat) (v : Int) : setAll times (places ++ [p]) v = (setAll times places v).set p v := by
  unfold setAll
  rw [List.foldl_append]
  rfl
structure TInv (l0 : List Pen) (T0 : Nat) (cur : List (Pen × Nat)) (t : Nat) (times : List Int) : Prop where
  len : times.length = l0.length
  nd : (cur.map fun x => x.2).Nodup
  lt : ∀ i, i ∈ cur.map (fun x => x.2) → i < l0.length
  out : ∀ i, i < l0.length → i ∉ cur.map (fun x => x.2) → times[i]? = some ((T0 + endOf l0 i : Nat) : Int)
  inn : ∀ i, i ∈ cur.map (fun x => x.2) → endOf l0 i = ((ends (cur.length + 1) t cur).lookup i).getD 0
  pos : PosL (cur.map fun x => x.1)
theorem zipIdx_snd {α : Type} : ∀ (l : List α) (k : Nat), (l.zipIdx k).map (fun x => x.2) = List.range' k l.length
  | [], _ => rfl
  | a :: l, k => by
    rw [List.zipIdx_cons, List.map_cons, zipIdx_snd l (k + 1)]
    rfl
theorem zipIdx_fst {α : Type} : ∀ (l : List α) (k : Nat), (l.zipIdx k).map (fun x => x.1) = l
  | [], _ => rfl
  | a :: l, k => by
    rw [List.zipIdx_cons, List.map_cons, zipIdx_fst l (k + 1)]
theorem TInv.start {l0 : List Pen} {T0 : Nat} {times : List Int} (hl : times.length = l0.length) (hp : PosL l0) : TInv l0 T0 l0.zipIdx 0 times := by
  refine ⟨hl, ?_, ?_, ?_, ?_, ?_⟩
  · rw [zipIdx_snd]
    exact List.nodup_range'
  · intro i hi
    rw [zipIdx_snd] at hi
    have := List.mem_range'.mp hi
    omega
  · intro i h1 h2
    refine absurd ?_ h2
    rw [zipIdx_snd]
    exact List.mem_range'.mpr ⟨i, h1, by omega⟩
  · intro i _
    unfold endOf
    rw [List.length_zipIdx]
  · rw [zipIdx_fst]
    exact hp
theorem filter_nd {l : List (Pen × Nat)} {q : Pen × Nat → Bool} (h : (l.map fun x => x.2).Nodup) : ((l.filter q).map fun x => x.2).Nodup :=
  List.Sublist.nodup (List.Sublist.map _ List.filter_sublist) h
theorem nd_both {l : List (Pen × Nat)} {q r : Pen × Nat → Bool} (h : (l.map fun x => x.2).Nodup) (hq : ∀ x, q x = true → r x = false) {i : Nat}
    (h1 : i ∈ (l.filter q).map fun x => x.2) (h2 : i ∈ (l.filter r).map fun x => x.2) : False := by
  obtain ⟨x, hx, e1⟩ := List.mem_map.mp h1
  obtain ⟨y, hy, e2⟩ := List.mem_map.mp h2
  obtain ⟨a1, a2⟩ := List.mem_filter.mp hx
  obtain ⟨b1, b2⟩ := List.mem_filter.mp hy
  have e : x = y := by
    clear hx hy h1 h2
    induction l with
    | nil => cases a1
    | cons z l ih =>
      rw [List.map_cons, List.nodup_cons] at h
      rcases List.mem_cons.mp a1 with a0 | a1
      · rcases List.mem_cons.mp b1 with b0 | b1
        · rw [a0, b0]
        · exact absurd (List.mem_map.mpr ⟨y, b1, by show y.2 = z.2; rw [e2, ← e1, a0]⟩) h.1
      · rcases List.mem_cons.mp b1 with b0 | b1
        · exact absurd (List.mem_map.mpr ⟨x, a1, by show x.2 = z.2; rw [e1, ← e2, b0]⟩) h.1
        · exact ih h.2 a1 b1
  rw [e] at a2
  rw [hq _ a2] at b2
  cases b2
theorem TInv.step {l0 : List Pen} {T0 t m : Nat} {cur : List (Pen × Nat)} {times : List Int} (I : TInv l0 T0 cur t times) (h : soonest (cur.map fun x => x.1) = some m) :
    TInv l0 T0 ((lessZ cur m).filter alive) (t + m) (setAll times (cur.map fun x => x.2) ((T0 + (t + m) : Nat) : Int)) := by
  have hsub : ∀ i, i ∈ ((lessZ cur m).filter alive).map (fun x => x.2) → i ∈ cur.map fun x => x.2 := fun i hi => by
    rw [← lessZ_snd cur m]
    obtain ⟨x, hx, e⟩ := List.mem_map.mp hi
    exact List.mem_map.mpr ⟨x, (List.mem_filter.mp hx).1, e⟩
  have ndz : ((lessZ cur m).map fun x => x.2).Nodup := by rw [lessZ_snd]; exact I.nd
  have hlk : ∀ i, i ∈ cur.map (fun x => x.2) → endOf l0 i = ((((((lessZ cur m).filter fun x => decide (x.1.left = 0)).map fun x => (x.2, t + m)) ++
      ends (((lessZ cur m).filter alive).length + 1) (t + m) ((lessZ cur m).filter alive)).lookup i).getD 0) := fun i hi => by
    rw [I.inn i hi, ends_succ h, ends_fuel cur.length (((lessZ cur m).filter alive).length + 1) (t + m) _ (lessZ_lt h) (Nat.lt_succ_self _)]
  refine ⟨by rw [setAll_length]; exact I.len, filter_nd ndz, fun i hi => I.lt i (hsub i hi), fun i h1 h2 => ?_, fun i hi => ?_, ?_⟩
  · by_cases hi : i ∈ cur.map fun x => x.2
    · rw [setAll_in _ _ _ hi (by rw [I.len]; exact h1)]
      have k := hlk i hi
      have hz : i ∈ ((lessZ cur m).filter fun x => decide (x.1.left = 0)).map fun x => x.2 := by
        rw [← lessZ_snd cur m] at hi
        obtain ⟨x, hx, e⟩ := List.mem_map.mp hi
        by_cases q : 0 < x.1.left
        · exact absurd (List.mem_map.mpr ⟨x, List.mem_filter.mpr ⟨hx, decide_eq_true q⟩, e⟩) h2
        · exact List.mem_map.mpr ⟨x, List.mem_filter.mpr ⟨hx, decide_eq_true (by omega)⟩, e⟩
      rw [lookup_app, lookup_const, if_pos hz] at k
      rw [k]
      rfl
    · rw [setAll_out _ _ _ hi]
      exact I.out i h1 hi
  · have k := hlk i (hsub i hi)
    have hz : ¬ i ∈ ((lessZ cur m).filter fun x => decide (x.1.left = 0)).map fun x => x.2 := fun q =>
      nd_both ndz (fun x hx => decide_eq_false (by have := of_decide_eq_true hx; omega)) q hi
    rw [lookup_app, lookup_const, if_neg hz] at k
    exact k
  · intro p hp
    obtain ⟨x, hx, rfl⟩ := List.mem_map.mp hp
    exact of_decide_eq_true (List.mem_filter.mp hx).2
def eFold (b : Option (Nat × Nat)) (x : (Pen × Bool) × Nat) : Option (Nat × Nat) := match b with
  | none => some (x.2, x.1.1.left)
  | some y => if x.1.1.left < y.2 then some (x.2, x.1.1.left) else some y
def eOk (x : (Pen × Bool) × Nat) : Bool := x.1.2 && (x.1.1.counts && x.1.1.kind == 0)
def eAt (l : List Pen) (i : Nat) : Option (Nat × Nat) := (((running l).zipIdx.take i).filter eOk).foldl eFold none
theorem ended_eq (l : List Pen) : ended l = (eAt l l.length).map fun x => x.1 := by
  unfold eAt
  rw [List.take_of_length_le (by rw [List.length_zipIdx, running_length]; exact Nat.le_refl _)]
  rfl
theorem eAt_succ {l : List Pen} {i : Nat} {p : Pen} {b : Bool} (hp : l[i]? = some p) (hb : (runs [] 0 l)[i]? = some b) :
    eAt l (i + 1) = if (b && (p.counts && p.kind == 0)) = true then eFold (eAt l i) ((p, b), i) else eAt l i := by
  have g : (running l).zipIdx[i]? = some ((p, b), i) := by
    rw [List.getElem?_zipIdx, running_get hp hb]
    simp
  unfold eAt
  rw [take_snoc g, List.filter_append, List.foldl_append, List.filter_cons]
  show _ = if eOk ((p, b), i) = true then _ else _
  split
  · rfl
  · rfl
theorem eAt_some {l : List Pen} : ∀ {i j n : Nat}, i ≤ l.length → eAt l i = some (j, n) → j < i ∧ ∃ p, l[j]? = some p ∧ p.left = n
  | 0, j, n, _, h => by cases h
  | i + 1, j, n, hi, h => by
    obtain ⟨b, hb⟩ := runs_get (l := l) (i := i) (by omega)
    obtain ⟨p, hp⟩ : ∃ p, l[i]? = some p := ⟨_, List.getElem?_eq_getElem (by omega)⟩
    rw [eAt_succ hp hb] at h
    have new : ∀ {j n : Nat}, some (i, p.left) = some (j, n) → j < i + 1 ∧ ∃ p, l[j]? = some p ∧ p.left = n := fun e => by
      cases e
      exact ⟨by omega, p, hp, rfl⟩
    have old : eAt l i = some (j, n) → j < i + 1 ∧ ∃ p, l[j]? = some p ∧ p.left = n := fun e => by
      obtain ⟨a, c⟩ := eAt_some (by omega) e
      exact ⟨by omega, c⟩
    split at h
    · cases e : eAt l i with
      | none =>
        rw [e] at h
        exact new h
      | some y =>
        rw [e] at h
        unfold eFold at h
        split at h
        · rename_i q; cases q
        · rename_i y' q
          cases q
          split at h
          · exact new h
          · exact old (e.trans h)
    · exact old h
end My
namespace My
open Kg58
def mk1 (x : Nat × Nat) : Pen := ⟨x.1, x.2, lengthOf x.2, decide (¬ x.2 = 2)⟩
theorem singles_snoc (l : List Told) (x : Told) (t : Nat) : singles (l ++ [x]) t = singles l t ++ if x.team = t then (parts x.kind).map (fun k => (x.player, k)) else [] := by
  unfold singles
  rw [List.filter_append, List.flatMap_append, List.filter_cons]
  by_cases h : x.team = t
  · rw [if_pos (by rw [h]; exact beq_self_eq_true t), if_pos h]
    simp
  · rw [if_neg (fun q => h (eq_of_beq q)), if_neg h]
    rfl
theorem parts_le {k : Nat} (hk : k ≤ 5) : ∀ z ∈ parts k, z ≤ 2 := by
  intro z hz
  match k, hk with
  | 0, _ => simp [parts] at hz; omega
  | 1, _ => simp [parts] at hz; omega
  | 2, _ => simp [parts] at hz; omega
  | 3, _ => simp [parts] at hz; omega
  | 4, _ => simp [parts] at hz; omega
  | 5, _ => simp [parts] at hz
theorem singles_le {l : List Told} {t : Nat} (h : ∀ x ∈ l, x.kind ≤ 5) : ∀ y ∈ singles l t, y.2 ≤ 2 := by
  intro y hy
  unfold singles at hy
  obtain ⟨x, hx, hy⟩ := List.mem_flatMap.mp hy
  obtain ⟨k, hk, rfl⟩ := List.mem_map.mp hy
  exact parts_le (h x (List.mem_filter.mp hx).1) k hk
def noCount (p : Pen) : Pen := { p with counts := false }
def unc (k : Nat) : Nat → List Pen → List Pen
  | _, [] => []
  | 0, p :: l => p :: l
  | j + 1, p :: l => if p.kind = k then noCount p :: unc k j l else p :: unc k (j + 1) l
theorem unc_zero (k : Nat) (l : List Pen) : unc k 0 l = l := by
  cases l <;> rfl
def kIx (k : Nat) : List Pen → List Nat
  | [] => []
  | p :: l => if p.kind = k then 0 :: (kIx k l).map (· + 1) else (kIx k l).map (· + 1)
theorem kIx_cons_pos {k : Nat} {p : Pen} {l : List Pen} (h : p.kind = k) : kIx k (p :: l) = 0 :: (kIx k l).map (· + 1) := if_pos h
theorem kIx_cons_neg {k : Nat} {p : Pen} {l : List Pen} (h : ¬ p.kind = k) : kIx k (p :: l) = (kIx k l).map (· + 1) := if_neg h
theorem unc_length (k : Nat) : ∀ (j : Nat) (l : List Pen), (unc k j l).length = l.length
  | _, [] => by cases ‹Nat› <;> rfl
  | 0, p :: l => rfl
  | j + 1, p :: l => by
    show (if p.kind = k then noCount p :: unc k j l else p :: unc k (j + 1) l).length = _
    split
    · rw [List.length_cons, List.length_cons, unc_length k j l]
    · rw [List.length_cons, List.length_cons, unc_length k (j + 1) l]
theorem unc_set {k : Nat} : ∀ (l : List Pen) (i pos : Nat), (kIx k l)[i]? = some pos → ∃ p, (unc k i l)[pos]? = some p ∧ unc k (i + 1) l = (unc k i l).set pos (noCount p)
  | [], i, pos, h => by cases h
  | p :: l, i, pos, h => by
    by_cases e : p.kind = k
    · rw [kIx_cons_pos e] at h
      cases i with
      | zero =>
        have e0 : 0 = pos := Option.some.inj h
        subst e0
        refine ⟨p, by rw [unc_zero]; rfl, ?_⟩
        show (if p.kind = k then noCount p :: unc k 0 l else _) = _
        rw [if_pos e, unc_zero, unc_zero]
        rfl
      | succ i =>
        rw [List.getElem?_cons_succ, List.getElem?_map] at h
        cases q : (kIx k l)[i]? with
        | none => rw [q] at h; cases h
        | some c =>
          rw [q] at h
          have e0 : c + 1 = pos := Option.some.inj h
          subst e0
          obtain ⟨p', h1, h2⟩ := unc_set l i c q
          have u1 : unc k (i + 1) (p :: l) = noCount p :: unc k i l := if_pos e
          have u2 : unc k (i + 1 + 1) (p :: l) = noCount p :: unc k (i + 1) l := if_pos e
          rw [u1, u2, h2]
          exact ⟨p', h1, rfl⟩
    · rw [kIx_cons_neg e, List.getElem?_map] at h
      cases q : (kIx k l)[i]? with
      | none => rw [q] at h; cases h
      | some c =>
        rw [q] at h
        have e0 : c + 1 = pos := Option.some.inj h
        subst e0
        obtain ⟨p', h1, h2⟩ := unc_set l i c q
        have u2 : unc k (i + 1) (p :: l) = p :: unc k (i + 1) l := if_neg e
        have u1 : unc k i (p :: l) = p :: unc k i l := by
          cases i with
          | zero => rw [unc_zero, unc_zero]
          | succ i => exact if_neg e
        rw [u1, u2, h2]
        exact ⟨p', h1, rfl⟩
theorem kIx_len (k : Nat) : ∀ l : List (Nat × Nat), (kIx k (l.map mk1)).length = (l.filter fun x => x.2 == k).length
  | [] => rfl
  | x :: l => by
    rw [List.map_cons, List.filter_cons]
    by_cases e : x.2 = k
    · rw [kIx_cons_pos (show (mk1 x).kind = k from e), if_pos (by rw [e]; exact beq_self_eq_true k), List.length_cons, List.length_cons, List.length_map, kIx_len k l]
    · rw [kIx_cons_neg (show ¬ (mk1 x).kind = k from e), if_neg (fun q => e (eq_of_beq q)), List.length_map, kIx_len k l]
theorem unc_kind (k k' : Nat) : ∀ (j : Nat) (l : List Pen), kIx k' (unc k j l) = kIx k' l
  | _, [] => by cases ‹Nat› <;> rfl
  | 0, p :: l => rfl
  | j + 1, p :: l => by
    show kIx k' (if p.kind = k then noCount p :: unc k j l else p :: unc k (j + 1) l) = kIx k' (p :: l)
    split
    · by_cases e : p.kind = k'
      · rw [kIx_cons_pos (show (noCount p).kind = k' from e), kIx_cons_pos e, unc_kind k k' j l]
      · rw [kIx_cons_neg (show ¬ (noCount p).kind = k' from e), kIx_cons_neg e, unc_kind k k' j l]
    · by_cases e : p.kind = k'
      · rw [kIx_cons_pos e, kIx_cons_pos e, unc_kind k k' (j + 1) l]
      · rw [kIx_cons_neg e, kIx_cons_neg e, unc_kind k k' (j + 1) l]
theorem unc_cons_pos {k j : Nat} {p : Pen} {l : List Pen} (h : p.kind = k) : unc k (j + 1) (p :: l) = noCount p :: unc k j l := if_pos h
theorem unc_cons_neg {k j : Nat} {p : Pen} {l : List Pen} (h : ¬ p.kind = k) : unc k j (p :: l) = p :: unc k j l := by
  cases j with
  | zero => rw [unc_zero, unc_zero]
  | succ j => exact if_neg h
theorem marked_eq : ∀ (l : List (Nat × Nat)) (m n : Nat), (∀ x ∈ l, x.2 ≤ 2) → unc 1 n (unc 0 m (l.map mk1)) = marked m n l
  | [], m, n, _ => by cases m <;> cases n <;> rfl
  | x :: l, m, n, h => by
    have hl : ∀ y ∈ l, y.2 ≤ 2 := fun y hy => h y (List.mem_cons_of_mem _ hy)
    have hx := h x List.mem_cons_self
    obtain ⟨a, k⟩ := x
    have hx : k ≤ 2 := hx
    show unc 1 n (unc 0 m (mk1 (a, k) :: l.map mk1)) = if k = 0 then (⟨a, 0, lengthOf 0, decide (m = 0)⟩ : Pen) :: marked (m - 1) n l
      else if k = 1 then ⟨a, 1, lengthOf 1, decide (n = 0)⟩ :: marked m (n - 1) l else ⟨a, k, lengthOf k, false⟩ :: marked m n l
    match k, hx with
    | 0, _ =>
      rw [if_pos rfl]
      cases m with
      | zero => rw [unc_zero, unc_cons_neg (show ¬ (mk1 (a, 0)).kind = 1 by show ¬ (0 = 1); omega), ← marked_eq l (0 - 1) n hl, unc_zero]; rfl
      | succ m =>
        rw [unc_cons_pos (show (mk1 (a, 0)).kind = 0 from rfl), unc_cons_neg (show ¬ (noCount (mk1 (a, 0))).kind = 1 by show ¬ (0 = 1); omega), marked_eq l m n hl]
        rfl
    | 1, _ =>
      rw [if_neg (by omega), if_pos rfl, unc_cons_neg (show ¬ (mk1 (a, 1)).kind = 0 by show ¬ (1 = 0); omega)]
      cases n with
      | zero => rw [unc_zero, ← marked_eq l m (0 - 1) hl, unc_zero]; rfl
      | succ n => rw [unc_cons_pos (show (mk1 (a, 1)).kind = 1 from rfl), marked_eq l m n hl]; rfl
    | 2, _ =>
      rw [if_neg (by omega), if_neg (by omega), unc_cons_neg (show ¬ (mk1 (a, 2)).kind = 0 by show ¬ (2 = 0); omega), unc_cons_neg (show ¬ (mk1 (a, 2)).kind = 1 by show ¬ (2 = 1); omega), marked_eq l m n hl]
      rfl
theorem marked_pos : ∀ (l : List (Nat × Nat)) (m n : Nat), PosL (marked m n l)
  | [], _, _ => fun p hp => by cases hp
  | x :: l, m, n => by
    show PosL (if x.2 = 0 then _ else if x.2 = 1 then _ else _)
    have k : ∀ z, 0 < lengthOf z := fun z => by unfold lengthOf; split <;> (try split) <;> omega
    split
    · intro p hp
      rcases List.mem_cons.mp hp with rfl | hp
      · exact k 0
      · exact marked_pos l _ _ p hp
    · split
      · intro p hp
        rcases List.mem_cons.mp hp with rfl | hp
        · exact k 1
        · exact marked_pos l _ _ p hp
      · intro p hp
        rcases List.mem_cons.mp hp with rfl | hp
        · exact k _
        · exact marked_pos l _ _ p hp
theorem marked_length : ∀ (l : List (Nat × Nat)) (m n : Nat), (marked m n l).length = l.length
  | [], _, _ => rfl
  | x :: l, m, n => by
    show (if x.2 = 0 then _ else if x.2 = 1 then _ else _ : List Pen).length = _
    split
    · rw [List.length_cons, List.length_cons, marked_length l]
    · split
      · rw [List.length_cons, List.length_cons, marked_length l]
      · rw [List.length_cons, List.length_cons, marked_length l]
theorem washed_none {t : Nat} : ∀ {l : List Told}, (∀ x ∈ l, ¬ (x.team = t ∧ (x.kind = 0 ∨ x.kind = 3))) → washed t l = l
  | [], _ => rfl
  | x :: l, h => by
    have h0 := h x List.mem_cons_self
    show (if x.team = t ∧ x.kind = 0 then l else if x.team = t ∧ x.kind = 3 then { x with kind := 0 } :: l else x :: washed t l) = _
    rw [if_neg (fun q => h0 ⟨q.1, .inl q.2⟩), if_neg (fun q => h0 ⟨q.1, .inr q.2⟩), washed_none fun y hy => h y (List.mem_cons_of_mem _ hy)]
theorem washed_at {t : Nat} : ∀ {l : List Told} {k : Nat} {x : Told}, l[k]? = some x → x.team = t → (x.kind = 0 ∨ x.kind = 3) → (∀ y ∈ l.take k, ¬ (y.team = t ∧ (y.kind = 0 ∨ y.kind = 3))) →
    washed t l = l.take k ++ (if x.kind = 3 then [{ x with kind := 0 }] else []) ++ l.drop (k + 1)
  | [], k, x, h, _, _, _ => by cases h
  | y :: l, 0, x, h, ht, hk, _ => by
    have e : y = x := Option.some.inj h
    subst e
    show (if y.team = t ∧ y.kind = 0 then l else if y.team = t ∧ y.kind = 3 then { y with kind := 0 } :: l else y :: washed t l) = _
    rcases hk with hk | hk
    · rw [if_pos ⟨ht, hk⟩, if_neg (by omega)]
      rfl
    · rw [if_neg (by omega), if_pos ⟨ht, hk⟩, if_pos hk]
      rfl
  | y :: l, k + 1, x, h, ht, hk, hb => by
    have h0 := hb y (by rw [List.take_succ_cons]; exact List.mem_cons_self)
    show (if y.team = t ∧ y.kind = 0 then l else if y.team = t ∧ y.kind = 3 then { y with kind := 0 } :: l else y :: washed t l) = _
    rw [if_neg (fun q => h0 ⟨q.1, .inl q.2⟩), if_neg (fun q => h0 ⟨q.1, .inr q.2⟩),
      washed_at (l := l) (k := k) h ht hk (fun z hz => hb z (by rw [List.take_succ_cons]; exact List.mem_cons_of_mem _ hz))]
    rfl
def okT (x : Int × Int × Int) : Bool := within x.1 0 1 && (within x.2.1 0 99 && within x.2.2 0 5)
def toldI (x : Int × Int × Int) : Told := ⟨x.1.toNat, x.2.1.toNat, x.2.2.toNat⟩
def thr : List Int → List (Int × Int × Int)
  | a :: b :: c :: l => (a, b, c) :: thr l
  | _ => []
theorem thr_len : ∀ {l : List Int}, l.length % 3 = 0 → 3 * (thr l).length = l.length
  | [], _ => rfl
  | [_], h => by simp at h
  | [_, _], h => by simp at h
  | a :: b :: c :: l, h => by
    have := thr_len (l := l) (by simp only [List.length_cons] at h; omega)
    show 3 * ((thr l).length + 1) = l.length + 1 + 1 + 1
    omega
theorem thr_get : ∀ {l : List Int} {i : Nat} {x : Int × Int × Int}, (thr l)[i]? = some x → l[3 * i]? = some x.1 ∧ l[3 * i + 1]? = some x.2.1 ∧ l[3 * i + 2]? = some x.2.2
  | [], i, x, h => by cases h
  | [_], i, x, h => by cases h
  | [_, _], i, x, h => by cases h
  | a :: b :: c :: l, 0, x, h => by
    have e : (a, b, c) = x := Option.some.inj h
    subst e
    exact ⟨rfl, rfl, rfl⟩
  | a :: b :: c :: l, i + 1, x, h => by
    have h2 : (thr l)[i]? = some x := h
    have := thr_get h2
    have e : 3 * (i + 1) = 3 * i + 1 + 1 + 1 := by omega
    rw [e]
    exact this
theorem toldOf_thr : ∀ {l : List Int}, l.length % 3 = 0 → (thr l).all okT = true → toldOf l = some ((thr l).map toldI)
  | [], _, _ => rfl
  | [_], h, _ => by simp at h
  | [_, _], h, _ => by simp at h
  | a :: b :: c :: l, h, hk => by
    have h2 : (okT (a, b, c) && (thr l).all okT) = true := hk
    rw [Bool.and_eq_true] at h2
    have ih := toldOf_thr (l := l) (by simp only [List.length_cons] at h; omega) h2.2
    show (if (within a 0 1 && (within b 0 99 && within c 0 5)) = true then (toldOf l).map fun r => (⟨a.toNat, b.toNat, c.toNat⟩ : Told) :: r else none) = _
    have h3 : (within a 0 1 && (within b 0 99 && within c 0 5)) = true := h2.1
    rw [if_pos h3, ih]
    rfl
theorem toldOf_none : ∀ {l : List Int}, ¬ (l.length % 3 = 0 ∧ (thr l).all okT = true) → toldOf l = none
  | [], h => absurd ⟨rfl, rfl⟩ h
  | [_], _ => rfl
  | [_, _], _ => rfl
  | a :: b :: c :: l, h => by
    show (if (within a 0 1 && (within b 0 99 && within c 0 5)) = true then (toldOf l).map fun r => (⟨a.toNat, b.toNat, c.toNat⟩ : Told) :: r else none) = _
    split
    · rename_i q
      have : toldOf l = none := toldOf_none fun z => h ⟨by simp only [List.length_cons]; omega, by
        show (okT (a, b, c) && (thr l).all okT) = true
        rw [Bool.and_eq_true]
        exact ⟨q, z.2⟩⟩
      rw [this]
      rfl
    · rfl
abbrev Tab := List ((Nat × Nat) × Nat)
def valD (d : Tab) (k : Nat × Nat) : Option Nat := (d.find? fun e => decide (e.1 = k)).map (·.2)
def putD (d : Tab) (k : Nat × Nat) (v : Nat) : Tab :=
  if (d.any fun e => decide (e.1 = k)) = true then d.map (fun e => if e.1 = k then (e.1, v) else e) else d ++ [(k, v)]
theorem valD_any (k : Nat × Nat) : ∀ d : Tab, (d.any fun e => decide (e.1 = k)) = (valD d k).isSome
  | [] => rfl
  | e :: d => by
    unfold valD
    rw [List.any_cons, List.find?_cons]
    by_cases h : e.1 = k
    · rw [decide_eq_true h]
      rfl
    · rw [decide_eq_false h, Bool.false_or]
      exact valD_any k d
theorem valD_put_same (k : Nat × Nat) (v : Nat) : ∀ d : Tab, valD (putD d k v) k = some v := by
  intro d
  unfold putD
  split
  · rename_i h
    revert h
    unfold valD
    induction d with
    | nil => intro h; cases h
    | cons e d ih =>
      intro h
      rw [List.map_cons, List.find?_cons]
      by_cases q : e.1 = k
      · rw [if_pos q, decide_eq_true q]
        rfl
      · rw [if_neg q, decide_eq_false q]
        rw [List.any_cons, decide_eq_false q, Bool.false_or] at h
        exact ih h
  · rename_i h
    have h2 : (valD d k).isSome = false := by rw [← valD_any]; exact Bool.eq_false_iff.mpr h
    unfold valD at h2 ⊢
    rw [List.find?_append]
    cases q : d.find? (fun e => decide (e.1 = k)) with
    | none => simp
    | some y => rw [q] at h2; cases h2
theorem valD_put_ne {k j : Nat × Nat} (v : Nat) (hj : ¬ j = k) : ∀ d : Tab, valD (putD d k v) j = valD d j := by
  intro d
  unfold putD
  split
  · rename_i h
    clear h
    unfold valD
    induction d with
    | nil => rfl
    | cons e d ih =>
      rw [List.map_cons, List.find?_cons, List.find?_cons]
      by_cases q : e.1 = k
      · rw [if_pos q]
        have : ¬ e.1 = j := fun z => hj (z.symm.trans q)
        rw [decide_eq_false (show ¬ ((e.1, v) : (Nat × Nat) × Nat).1 = j from this)]
        exact ih
      · rw [if_neg q]
        by_cases z : e.1 = j
        · rw [decide_eq_true z]
        · rw [decide_eq_false z]
          exact ih
  · unfold valD
    rw [List.find?_append]
    cases q : d.find? (fun e => decide (e.1 = j)) with
    | none =>
      simp
      exact fun z => hj z.symm
    | some y => rfl
theorem putD_keys (d : Tab) (k : Nat × Nat) (v : Nat) : (putD d k v).map (·.1) = if (valD d k).isSome = true then d.map (·.1) else d.map (·.1) ++ [k] := by
  unfold putD
  rw [valD_any]
  split
  · rw [List.map_map]
    refine List.map_congr_left fun e _ => ?_
    show (if e.1 = k then (e.1, v) else e).1 = e.1
    split <;> rfl
  · rw [List.map_append]
    rfl
theorem valD_mem {d : Tab} {k : Nat × Nat} : (valD d k).isSome = true ↔ k ∈ d.map (·.1) := by
  rw [← valD_any, List.any_eq_true]
  constructor
  · rintro ⟨e, h1, h2⟩
    exact List.mem_map.mpr ⟨e, h1, of_decide_eq_true h2⟩
  · intro h
    obtain ⟨e, h1, h2⟩ := List.mem_map.mp h
    exact ⟨e, h1, decide_eq_true h2⟩
theorem putD_nd {d : Tab} {k : Nat × Nat} {v : Nat} (h : (d.map (·.1)).Nodup) : ((putD d k v).map (·.1)).Nodup := by
  rw [putD_keys]
  split
  · exact h
  · rename_i q
    rw [List.nodup_append]
    refine ⟨h, by simp, fun a ha b hb e => q (valD_mem.mpr ?_)⟩
    have : b = k := by simpa using hb
    rw [← this, ← e]
    exact ha
def ofTeam (t : Nat) (d : Tab) : List (Nat × Nat) := (d.filter fun e => e.1.1 == t).map fun e => (e.1.2, e.2)
theorem valD_nd : ∀ {d : Tab} {e : (Nat × Nat) × Nat}, (d.map (·.1)).Nodup → e ∈ d → valD d e.1 = some e.2
  | [], _, _, h => by cases h
  | a :: d, e, hn, h => by
    rw [List.map_cons, List.nodup_cons] at hn
    unfold valD
    rw [List.find?_cons]
    rcases List.mem_cons.mp h with rfl | h
    · rw [decide_eq_true rfl]
      rfl
    · have : ¬ a.1 = e.1 := fun q => hn.1 (by rw [q]; exact List.mem_map.mpr ⟨e, h, rfl⟩)
      rw [decide_eq_false this]
      exact valD_nd hn.2 h
theorem ofTeam_put_other {t t' p v : Nat} (h : ¬ t' = t) (d : Tab) : ofTeam t' (putD d (t, p) v) = ofTeam t' d := by
  unfold putD
  split
  · rename_i q
    clear q
    unfold ofTeam
    induction d with
    | nil => rfl
    | cons e d ih =>
      rw [List.map_cons, List.filter_cons, List.filter_cons]
      by_cases q : e.1 = (t, p)
      · rw [if_pos q]
        have e1 : (e.1.1 == t') = false := beq_eq_false_iff_ne.mpr (fun z => h (by rw [← z, q]))
        rw [e1]
        exact ih
      · rw [if_neg q]
        split
        · rw [List.map_cons, List.map_cons, ih]
        · exact ih
  · unfold ofTeam
    rw [List.filter_append, List.filter_cons, if_neg (fun z => h (eq_of_beq z).symm), List.map_append]
    simp
theorem ofTeam_put {t p n : Nat} {d : Tab} (hn : (d.map (·.1)).Nodup) : ofTeam t (putD d (t, p) ((valD d (t, p)).getD 0 + n)) = added (ofTeam t d) p n := by
  have ha : ((ofTeam t d).any fun x => x.1 == p) = (valD d (t, p)).isSome := by
    rw [← valD_any, Bool.eq_iff_iff, List.any_eq_true, List.any_eq_true]
    unfold ofTeam
    constructor
    · rintro ⟨x, hx, h2⟩
      obtain ⟨e, he, rfl⟩ := List.mem_map.mp hx
      obtain ⟨a1, a2⟩ := List.mem_filter.mp he
      exact ⟨e, a1, decide_eq_true (Prod.ext (eq_of_beq a2) (eq_of_beq h2))⟩
    · rintro ⟨e, he, h2⟩
      have h3 := of_decide_eq_true h2
      exact ⟨(e.1.2, e.2), List.mem_map.mpr ⟨e, List.mem_filter.mpr ⟨he, by rw [h3]; exact beq_self_eq_true t⟩, rfl⟩, by rw [h3]; exact beq_self_eq_true p⟩
  unfold putD added
  rw [valD_any, ha]
  split
  · rename_i hz
    unfold ofTeam
    have hv : ∀ e, e ∈ d → e.1 = (t, p) → (valD d (t, p)).getD 0 = e.2 := fun e he q => by
      rw [← q, valD_nd hn he]
      rfl
    generalize (valD d (t, p)).getD 0 = w at hv
    clear ha hn hz
    induction d with
    | nil => rfl
    | cons e d ih =>
      have ih' := ih fun e' he' => hv e' (List.mem_cons_of_mem _ he')
      rw [List.map_cons, List.filter_cons, List.filter_cons]
      by_cases q : e.1 = (t, p)
      · have e1 : (e.1.1 == t) = true := by rw [q]; exact beq_self_eq_true t
        have e2 : e.1.2 = p := by rw [q]
        rw [if_pos q]
        show ((if (e.1.1 == t) = true then _ else _ : Tab).map _) = _
        rw [if_pos e1, if_pos e1, List.map_cons, List.map_cons, List.map_cons, if_pos e2, ih', hv e List.mem_cons_self q]
      · rw [if_neg q]
        by_cases e1 : (e.1.1 == t) = true
        · have e2 : ¬ e.1.2 = p := fun z => q (Prod.ext (eq_of_beq e1) z)
          rw [if_pos e1, if_pos e1, List.map_cons, List.map_cons, List.map_cons, if_neg e2, ih']
        · rw [if_neg e1, if_neg e1]
          exact ih'
  · rename_i q
    have : valD d (t, p) = none := by
      cases z : valD d (t, p) with
      | none => rfl
      | some y => rw [z] at q; exact absurd rfl q
    rw [this]
    unfold ofTeam
    rw [List.filter_append, List.filter_cons, if_pos (beq_self_eq_true t), List.map_append]
    simp
end My
namespace My
open Kg58
structure TabOk (d : Tab) : Prop where
  nd : (d.map (·.1)).Nodup
  rg : ∀ k, k ∈ d.map (·.1) → k.1 < 2 ∧ k.2 < 100
theorem TabOk.put {d : Tab} (h : TabOk d) {k : Nat × Nat} (hk : k.1 < 2 ∧ k.2 < 100) (v : Nat) : TabOk (putD d k v) := by
  refine ⟨putD_nd h.nd, fun j hj => ?_⟩
  rw [putD_keys] at hj
  split at hj
  · exact h.rg j hj
  · rcases List.mem_append.mp hj with hj | hj
    · exact h.rg j hj
    · have : j = k := by simpa using hj
      rw [this]; exact hk
theorem pigeon : ∀ (n : Nat) (l : List Nat), l.Nodup → (∀ x ∈ l, x < n) → l.length ≤ n
  | 0, l, _, h => by
    cases l with
    | nil => exact Nat.le_refl _
    | cons a l => exact absurd (h a List.mem_cons_self) (Nat.not_lt_zero _)
  | n + 1, l, hn, h => by
    have h1 : (l.erase n).length ≤ n := by
      refine pigeon n _ (hn.sublist List.erase_sublist) fun x hx => ?_
      have h2 := h x (List.mem_of_mem_erase hx)
      have h3 : x ≠ n := by
        intro e
        rw [e] at hx
        exact (List.Nodup.not_mem_erase hn) hx
      omega
    rw [List.length_erase] at h1
    split at h1 <;> omega
theorem map_nd {α β : Type} (f : α → β) : ∀ {l : List α}, l.Nodup → (∀ a ∈ l, ∀ b ∈ l, f a = f b → a = b) → (l.map f).Nodup
  | [], _, _ => List.nodup_nil
  | a :: l, h, hi => by
    rw [List.nodup_cons] at h
    rw [List.map_cons, List.nodup_cons]
    refine ⟨fun q => ?_, map_nd f h.2 fun x hx y hy => hi x (List.mem_cons_of_mem _ hx) y (List.mem_cons_of_mem _ hy)⟩
    obtain ⟨b, hb, e⟩ := List.mem_map.mp q
    have := hi b (List.mem_cons_of_mem _ hb) a List.mem_cons_self e
    rw [this] at hb
    exact h.1 hb
theorem TabOk.len {d : Tab} (h : TabOk d) : d.length ≤ 200 := by
  have k := pigeon 200 ((d.map (·.1)).map fun k => k.1 * 100 + k.2) (map_nd _ h.nd fun a ha b hb e => by
      have h1 := h.rg a ha
      have h2 := h.rg b hb
      have e : a.1 * 100 + a.2 = b.1 * 100 + b.2 := e
      exact Prod.ext (by omega) (by omega)) (fun x hx => by
      obtain ⟨a, ha, rfl⟩ := List.mem_map.mp hx
      have h1 := h.rg a ha
      show a.1 * 100 + a.2 < 200
      omega)
  rwa [List.length_map, List.length_map] at k
structure NSt where
  noted : Tab
  majors : Tab
  outs : Tab
def majOf (k : Nat) : Nat := if k = 1 ∨ k = 4 then 1 else 0
def noteStep (st : NSt) (x : Told) : NSt :=
  let k := (x.team, x.player)
  let mj := (valD st.majors k).getD 0 + majOf x.kind
  ⟨putD st.noted k ((valD st.noted k).getD 0 + minutesOf x.kind), putD st.majors k mj, if 4 ≤ x.kind ∨ 3 ≤ mj then putD st.outs k 1 else st.outs⟩
structure StOk (st : NSt) : Prop where
  n : TabOk st.noted
  m : TabOk st.majors
  o : TabOk st.outs
def ToldOk (x : Told) : Prop := x.team < 2 ∧ x.player < 100 ∧ x.kind ≤ 5
theorem StOk.step {st : NSt} (h : StOk st) {x : Told} (hx : ToldOk x) : StOk (noteStep st x) := by
  refine ⟨h.n.put ⟨hx.1, hx.2.1⟩ _, h.m.put ⟨hx.1, hx.2.1⟩ _, ?_⟩
  show TabOk (if _ then _ else _)
  split
  · exact h.o.put ⟨hx.1, hx.2.1⟩ _
  · exact h.o
theorem StOk.fold : ∀ {l : List Told} {st : NSt}, StOk st → (∀ x ∈ l, ToldOk x) → StOk (l.foldl noteStep st)
  | [], _, h, _ => h
  | x :: l, st, h, hl => StOk.fold (l := l) (h.step (hl x List.mem_cons_self)) fun y hy => hl y (List.mem_cons_of_mem _ hy)
def own (t : Nat) (l : List Told) : List Told := l.filter fun y => y.team == t
def majL (t : Nat) (l : List Told) : List Nat := ((own t l).filter fun y => y.kind == 1 || y.kind == 4).map Told.player
def cnt (p : Nat) (l : List Nat) : Nat := (l.filter fun q => q == p).length
theorem own_snoc (t : Nat) (l : List Told) (y : Told) : own t (l ++ [y]) = if y.team = t then own t l ++ [y] else own t l := by
  unfold own
  rw [List.filter_append, List.filter_cons]
  by_cases h : y.team = t
  · rw [if_pos (by rw [h]; exact beq_self_eq_true t), if_pos h]
    rfl
  · rw [if_neg (fun q => h (eq_of_beq q)), if_neg h]
    simp
theorem cnt_app (p : Nat) (a b : List Nat) : cnt p (a ++ b) = cnt p a + cnt p b := by
  unfold cnt
  rw [List.filter_append, List.length_append]
theorem cnt_one (p q : Nat) : cnt p [q] = if q = p then 1 else 0 := by
  unfold cnt
  rw [List.filter_cons]
  by_cases h : q = p
  · rw [if_pos (by rw [h]; exact beq_self_eq_true p), if_pos h]
    rfl
  · rw [if_neg (fun z => h (eq_of_beq z)), if_neg h]
    rfl
theorem majL_snoc (t : Nat) (l : List Told) (y : Told) (p : Nat) : cnt p (majL t (l ++ [y])) = cnt p (majL t l) + if y.team = t ∧ y.player = p then majOf y.kind else 0 := by
  unfold majL
  rw [own_snoc]
  by_cases h : y.team = t
  · rw [if_pos h, List.filter_append, List.map_append, cnt_app, List.filter_cons]
    congr 1
    unfold majOf
    by_cases h2 : y.kind = 1 ∨ y.kind = 4
    · rw [if_pos h2, if_pos (by rcases h2 with h2 | h2 <;> rw [h2] <;> rfl)]
      show cnt p [y.player] = _
      rw [cnt_one]
      by_cases h3 : y.player = p
      · rw [if_pos h3, if_pos ⟨h, h3⟩]
      · rw [if_neg h3, if_neg (fun q => h3 q.2)]
    · rw [if_neg h2, if_neg (fun q => h2 (by
        rw [Bool.or_eq_true] at q
        exact q.imp eq_of_beq eq_of_beq))]
      split <;> rfl
  · rw [if_neg h, if_neg (fun q => h q.1)]
    rfl
structure NInv (x : Team) (t : Nat) (pre : List Told) (st : NSt) : Prop where
  nd : (st.noted.map (·.1)).Nodup
  min : ofTeam t st.noted = (own t pre).foldl (fun m y => added m y.player (minutesOf y.kind)) x.minutes
  maj : ∀ p, (valD st.majors (t, p)).getD 0 = cnt p x.majors + cnt p (majL t pre)
  out : ∀ p, (valD st.outs (t, p)).isSome = true ↔ p ∈ x.out ∨ (∃ y, y ∈ pre ∧ y.team = t ∧ y.player = p ∧ 4 ≤ y.kind) ∨ ((∃ y, y ∈ pre ∧ y.team = t ∧ y.player = p) ∧ 3 ≤ cnt p x.majors + cnt p (majL t pre))
theorem valD_put (d : Tab) (k j : Nat × Nat) (v : Nat) : valD (putD d k v) j = if j = k then some v else valD d j := by
  split
  · rename_i h; rw [h]; exact valD_put_same k v d
  · rename_i h; exact valD_put_ne v h d
theorem NInv.snoc {x : Team} {t : Nat} {pre : List Told} {st : NSt} (I : NInv x t pre st) (y : Told) : NInv x t (pre ++ [y]) (noteStep st y) := by
  have key : ∀ p, ((t, p) = (y.team, y.player)) ↔ (y.team = t ∧ y.player = p) := fun p =>
    ⟨fun e => ⟨(Prod.mk.inj e).1.symm, (Prod.mk.inj e).2.symm⟩, fun e => by rw [e.1, e.2]⟩
  have hm : ∀ p, (valD (noteStep st y).majors (t, p)).getD 0 = cnt p x.majors + cnt p (majL t (pre ++ [y])) := fun p => by
    rw [majL_snoc, ← Nat.add_assoc, ← I.maj p]
    show (valD (putD st.majors (y.team, y.player) _) (t, p)).getD 0 = _
    rw [valD_put]
    by_cases h : y.team = t ∧ y.player = p
    · rw [if_pos ((key p).mpr h), if_pos h, h.1, h.2]
      rfl
    · rw [if_neg (fun q => h ((key p).mp q)), if_neg h]
      rfl
  refine ⟨putD_nd I.nd, ?_, hm, fun p => ?_⟩
  · rw [own_snoc]
    show ofTeam t (putD st.noted (y.team, y.player) _) = _
    by_cases h : y.team = t
    · rw [if_pos h, List.foldl_append, ← I.min, h, ofTeam_put I.nd]
      rfl
    · rw [if_neg h, ofTeam_put_other (fun q => h q.symm), I.min]
  · have mem : ∀ z, z ∈ pre ++ [y] ↔ z ∈ pre ∨ z = y := fun z => by simp
    rw [← hm p]
    by_cases h : y.team = t ∧ y.player = p
    · have e1 : (valD (noteStep st y).majors (t, p)).getD 0 = (valD st.majors (y.team, y.player)).getD 0 + majOf y.kind := by
        show (valD (putD st.majors (y.team, y.player) _) (t, p)).getD 0 = _
        rw [valD_put, if_pos ((key p).mpr h)]
        rfl
      have e2 : (valD st.majors (y.team, y.player)).getD 0 = cnt p x.majors + cnt p (majL t pre) := by
        rw [← I.maj p, h.1, h.2]
      rw [e1]
      show (valD (if 4 ≤ y.kind ∨ 3 ≤ (valD st.majors (y.team, y.player)).getD 0 + majOf y.kind then putD st.outs (y.team, y.player) 1 else st.outs) (t, p)).isSome = true ↔ _
      by_cases hc : 4 ≤ y.kind ∨ 3 ≤ (valD st.majors (y.team, y.player)).getD 0 + majOf y.kind
      · rw [if_pos hc, valD_put, if_pos ((key p).mpr h)]
        refine ⟨fun _ => ?_, fun _ => rfl⟩
        rcases hc with hc | hc
        · exact .inr (.inl ⟨y, (mem y).mpr (.inr rfl), h.1, h.2, hc⟩)
        · exact .inr (.inr ⟨⟨y, (mem y).mpr (.inr rfl), h.1, h.2⟩, hc⟩)
      · rw [if_neg hc, I.out p]
        constructor
        · rintro (a | ⟨z, z1, z2⟩ | ⟨a, b⟩)
          · exact .inl a
          · exact .inr (.inl ⟨z, (mem z).mpr (.inl z1), z2⟩)
          · exact absurd (.inr (by omega)) hc
        · rintro (a | ⟨z, z1, z2, z3, z4⟩ | ⟨a, b⟩)
          · exact .inl a
          · rcases (mem z).mp z1 with z1 | rfl
            · exact .inr (.inl ⟨z, z1, z2, z3, z4⟩)
            · exact absurd (.inl z4) hc
          · exact absurd (.inr b) hc
    · have e1 : (valD (noteStep st y).majors (t, p)).getD 0 = cnt p x.majors + cnt p (majL t pre) := by
        rw [hm p, majL_snoc, if_neg h]
        rfl
      have e3 : (valD (noteStep st y).outs (t, p)) = valD st.outs (t, p) := by
        show valD (if _ then _ else _) (t, p) = _
        split
        · rw [valD_put, if_neg (fun q => h ((key p).mp q))]
        · rfl
      rw [e1, e3, I.out p]
      constructor
      · rintro (a | ⟨z, z1, z2⟩ | ⟨⟨z, z1, z2⟩, b⟩)
        · exact .inl a
        · exact .inr (.inl ⟨z, (mem z).mpr (.inl z1), z2⟩)
        · exact .inr (.inr ⟨⟨z, (mem z).mpr (.inl z1), z2⟩, b⟩)
      · rintro (a | ⟨z, z1, z2, z3, z4⟩ | ⟨⟨z, z1, z2, z3⟩, b⟩)
        · exact .inl a
        · rcases (mem z).mp z1 with z1 | rfl
          · exact .inr (.inl ⟨z, z1, z2, z3, z4⟩)
          · exact absurd ⟨z2, z3⟩ h
        · rcases (mem z).mp z1 with z1 | rfl
          · exact .inr (.inr ⟨⟨z, z1, z2, z3⟩, b⟩)
          · exact absurd ⟨z2, z3⟩ h
structure RepT (x : Team) (t : Nat) (st : NSt) : Prop where
  min : ofTeam t st.noted = x.minutes
  maj : ∀ p, (valD st.majors (t, p)).getD 0 = cnt p x.majors
  out : ∀ p, (valD st.outs (t, p)).isSome = true ↔ p ∈ x.out
theorem RepT.start {x : Team} {t : Nat} {st : NSt} (h : RepT x t st) (hn : (st.noted.map (·.1)).Nodup) : NInv x t [] st :=
  ⟨hn, h.min, h.maj, fun p => by rw [h.out p]; simp⟩
theorem NInv.fold {x : Team} {t : Nat} : ∀ (rest pre : List Told) (st : NSt), NInv x t pre st → NInv x t (pre ++ rest) (rest.foldl noteStep st)
  | [], pre, st, h => by rw [List.append_nil]; exact h
  | y :: r, pre, st, h => by
    have := NInv.fold r (pre ++ [y]) _ (h.snoc y)
    rw [List.append_assoc] at this
    exact this
theorem RepT.told {x : Team} {t : Nat} {st : NSt} {l : List Told} (h : RepT x t st) (hn : (st.noted.map (·.1)).Nodup) : RepT (x.told l t) t (l.foldl noteStep st) := by
  have I := NInv.fold l [] st (h.start hn)
  rw [List.nil_append] at I
  have ec : ∀ p, cnt p (x.majors ++ majL t l) = cnt p x.majors + cnt p (majL t l) := fun p => cnt_app p _ _
  refine ⟨I.min, fun p => ?_, fun p => ?_⟩
  · rw [I.maj p, ← ec p]
    rfl
  · rw [I.out p]
    show _ ↔ p ∈ (x.out ++ (((own t l).filter fun y => decide (4 ≤ y.kind)).map Told.player ++
      (((own t l).map Told.player).filter fun p => decide (3 ≤ cnt p (x.majors ++ majL t l))))).eraseDups
    rw [List.mem_eraseDups, List.mem_append, List.mem_append]
    have e1 : (∃ y, y ∈ l ∧ y.team = t ∧ y.player = p ∧ 4 ≤ y.kind) ↔ p ∈ ((own t l).filter fun y => decide (4 ≤ y.kind)).map Told.player := by
      constructor
      · rintro ⟨y, h1, h2, h3, h4⟩
        exact List.mem_map.mpr ⟨y, List.mem_filter.mpr ⟨List.mem_filter.mpr ⟨h1, by rw [h2]; exact beq_self_eq_true t⟩, decide_eq_true h4⟩, h3⟩
      · intro q
        obtain ⟨y, h1, h2⟩ := List.mem_map.mp q
        obtain ⟨h3, h4⟩ := List.mem_filter.mp h1
        obtain ⟨h5, h6⟩ := List.mem_filter.mp h3
        exact ⟨y, h5, eq_of_beq h6, h2, of_decide_eq_true h4⟩
    have e2 : ((∃ y, y ∈ l ∧ y.team = t ∧ y.player = p) ∧ 3 ≤ cnt p x.majors + cnt p (majL t l)) ↔ p ∈ ((own t l).map Told.player).filter fun p => decide (3 ≤ cnt p (x.majors ++ majL t l)) := by
      rw [← ec p, List.mem_filter]
      refine and_congr ?_ ⟨fun h => decide_eq_true h, fun h => of_decide_eq_true h⟩
      constructor
      · rintro ⟨y, h1, h2, h3⟩
        exact List.mem_map.mpr ⟨y, List.mem_filter.mpr ⟨h1, by rw [h2]; exact beq_self_eq_true t⟩, h3⟩
      · intro q
        obtain ⟨y, h1, h2⟩ := List.mem_map.mp q
        obtain ⟨h5, h6⟩ := List.mem_filter.mp h1
        exact ⟨y, h5, eq_of_beq h6, h2⟩
    rw [e1, e2]
theorem skaters_int {b n : Nat} (hb : 3 ≤ b) : (if (b : Int) - (n : Int) > 3 then (b : Int) - n else 3) = ((b - min n (b - 3) : Nat) : Int) := by
  split <;> omega
theorem singles_washed (t t' : Nat) : ∀ l : List Told, (singles (washed t l) t').length ≤ (singles l t').length
  | [] => Nat.le_refl _
  | x :: l => by
    have c : ∀ (y : Told) (r : List Told), singles (y :: r) t' = (if y.team = t' then (parts y.kind).map (fun k => (y.player, k)) else []) ++ singles r t' := fun y r => by
      unfold singles
      rw [List.filter_cons]
      by_cases h : y.team = t'
      · rw [if_pos (by rw [h]; exact beq_self_eq_true t'), if_pos h]
        rfl
      · rw [if_neg (fun q => h (eq_of_beq q)), if_neg h]
        rfl
    show (singles (if x.team = t ∧ x.kind = 0 then l else if x.team = t ∧ x.kind = 3 then { x with kind := 0 } :: l else x :: washed t l) t').length ≤ _
    split
    · rw [c, List.length_append]; omega
    · split
      · rename_i h
        rw [c, c, List.length_append, List.length_append]
        by_cases q : x.team = t'
        · rw [if_pos (show ({ x with kind := 0 } : Told).team = t' from q), if_pos q, List.length_map, List.length_map, h.2]
          show ([0] : List Nat).length + _ ≤ ([0, 0] : List Nat).length + _
          simp only [List.length_cons, List.length_nil]
          omega
        · rw [if_neg (show ¬ ({ x with kind := 0 } : Told).team = t' from q), if_neg q]
          exact Nat.le_refl _
      · rw [c, c, List.length_append, List.length_append]
        have := singles_washed t t' l
        omega
theorem washed_ok (t : Nat) : ∀ l : List Told, (∀ x ∈ l, ToldOk x) → ∀ x ∈ washed t l, ToldOk x
  | [], _ => fun x hx => by cases hx
  | y :: l, h => by
    have h0 := h y List.mem_cons_self
    have hl : ∀ x ∈ l, ToldOk x := fun x hx => h x (List.mem_cons_of_mem _ hx)
    show ∀ x ∈ (if y.team = t ∧ y.kind = 0 then l else if y.team = t ∧ y.kind = 3 then { y with kind := 0 } :: l else y :: washed t l), ToldOk x
    split
    · exact hl
    · split
      · intro x hx
        rcases List.mem_cons.mp hx with rfl | hx
        · exact ⟨h0.1, h0.2.1, Nat.zero_le _⟩
        · exact hl x hx
      · intro x hx
        rcases List.mem_cons.mp hx with rfl | hx
        · exact h0
        · exact washed_ok t l hl x hx
theorem washed_length (t : Nat) : ∀ l : List Told, (washed t l).length ≤ l.length
  | [] => Nat.le_refl _
  | y :: l => by
    show (if y.team = t ∧ y.kind = 0 then l else if y.team = t ∧ y.kind = 3 then { y with kind := 0 } :: l else y :: washed t l).length ≤ _
    have := washed_length t l
    split
    · rw [List.length_cons]; omega
    · split
      · rw [List.length_cons, List.length_cons]; omega
      · rw [List.length_cons, List.length_cons]; omega
end My
namespace My
open Kg58
structure RC where
  call : Int
  nums : List Int
  row : List Int
def RC.flat (r : RC) : List Int := r.call :: (r.nums ++ if r.call = 3 then (r.row.length : Int) :: r.row else [])
def RC.c (r : RC) : List (List Int) := (r.call :: r.nums) :: (if r.call = 3 then [r.row] else [])
inductive RC.Ok : RC → Prop where
  | c1 (n : Int) : Ok ⟨1, [n], []⟩
  | c2 (n : Int) : Ok ⟨2, [n], []⟩
  | c3 (n : Int) (l : List Int) : Ok ⟨3, [n], l⟩
  | c4 (a b c : Int) : Ok ⟨4, [a, b, c], []⟩
  | c5 (a b : Int) : Ok ⟨5, [a, b], []⟩
  | c6 : Ok ⟨6, [], []⟩
  | c7 (n : Int) : Ok ⟨7, [n], []⟩
  | c8 (n : Int) : Ok ⟨8, [n], []⟩
  | c9 (n : Int) : Ok ⟨9, [n], []⟩
theorem row_inv' {l x s : List Int} (h : PyFlat.row l = some (x, s)) : l = (x.length : Int) :: (x ++ s) := by
  cases l with
  | nil => cases h
  | cons n r =>
    have h' : (if 0 ≤ n ∧ n.toNat ≤ r.length then some (r.take n.toNat, r.drop n.toNat) else none) = some (x, s) := h
    split at h'
    · rename_i k
      have e := Option.some.inj h'
      have e1 : r.take n.toNat = x := congrArg Prod.fst e
      have e2 : r.drop n.toNat = s := congrArg Prod.snd e
      rw [← e1, ← e2, List.take_append_drop, List.length_take, Nat.min_eq_left k.2]
      congr 1
      omega
    · cases h'
theorem rows1_inv {l : List Int} {xs : List (List Int)} {s : List Int} (h : PyFlat.rows 1 l = some (xs, s)) : ∃ x, xs = [x] ∧ l = (x.length : Int) :: (x ++ s) := by
  have h' : (match PyFlat.row l with
    | none => none
    | some (x, s) => match PyFlat.rows 0 s with
      | none => none
      | some (xs, t) => some (x :: xs, t)) = some (xs, s) := h
  cases e : PyFlat.row l with
  | none => rw [e] at h'; cases h'
  | some q =>
    obtain ⟨y, t⟩ := q
    rw [e] at h'
    have h2 : some ([y], t) = some (xs, s) := h'
    cases h2
    exact ⟨y, rfl, row_inv' e⟩
theorem ite_go {α : Type} {P Q : Prop} [Decidable P] {a b x : Option α} (h : (if P then a else b) = x) (f : P → a = x → Q) (g : b = x → Q) : Q := by
  by_cases p : P
  · rw [if_pos p] at h; exact f p h
  · rw [if_neg p] at h; exact g h
abbrev Inv (p : Int) (r : List Int) (c : List (List Int)) (t : List Int) : Prop := ∃ q : RC, q.Ok ∧ c = q.c ∧ p :: r = q.flat ++ t
abbrev after (p : Int) (r : List Int) (n k : Nat) : Option (List (List Int) × List Int) := if r.length < n then none else match PyFlat.rows k (r.drop n) with
  | none => none
  | some (xs, t) => some ((p :: r.take n) :: xs, t)
theorem sh_call {p : Int} {r : List Int} {c : List (List Int)} {t : List Int} (h : PyFlat.call PyKg58.shape (p :: r) = some (c, t)) : ∃ q, PyKg58.shape p = some q ∧ after p r q.1 q.2 = some (c, t) := by
  have h1 : (match PyKg58.shape p with
    | none => none
    | some (n, k) => after p r n k) = some (c, t) := h
  cases e : PyKg58.shape p with
  | none => rw [e] at h1; cases h1
  | some q => rw [e] at h1; exact ⟨q, rfl, h1⟩
theorem sh0 {p : Int} {r : List Int} {c : List (List Int)} {t : List Int} {n : Nat} (h : after p r n 0 = some (c, t)) (f : n ≤ r.length → Inv p r [p :: r.take n] (r.drop n)) : Inv p r c t :=
  ite_go h (fun _ e => nomatch e) fun e => by
    by_cases q : n ≤ r.length
    · have e : some ([p :: r.take n], r.drop n) = some (c, t) := e
      cases e
      exact f q
    · rw [show after p r n 0 = none from if_pos (Nat.lt_of_not_le q)] at h
      cases h
theorem sh0_1 {p : Int} {r : List Int} {c : List (List Int)} {t : List Int} (h3 : p ≠ 3) (f : ∀ x, RC.Ok ⟨p, [x], []⟩) (h : after p r 1 0 = some (c, t)) : Inv p r c t :=
  sh0 h fun l => by
    cases r with
    | nil => cases l
    | cons x r => exact ⟨_, f x, by unfold RC.c; rw [if_neg h3]; rfl, by unfold RC.flat; rw [if_neg h3]; rfl⟩
theorem call_inv' {l : List Int} {c : List (List Int)} {t : List Int} (h : PyFlat.call PyKg58.shape l = some (c, t)) : ∃ r : RC, r.Ok ∧ c = r.c ∧ l = r.flat ++ t := by
  cases l with
  | nil => cases h
  | cons p r =>
    obtain ⟨q, e, h2⟩ := sh_call h
    clear h
    refine ite_go e (fun hp h => ?_) fun e => ite_go e (fun hp h => ?_) fun e => ite_go e (fun hp h => ?_) fun e => ite_go e (fun hp h => ?_) fun e => ite_go e (fun hp h => ?_) fun e =>
      ite_go e (fun hp h => ?_) fun e => ite_go e (fun hp h => ?_) fun e => ite_go e (fun hp h => ?_) fun e => ite_go e (fun hp h => ?_) fun e => nomatch e
    all_goals cases h; cases hp; clear e
    · exact sh0_1 (by decide) .c1 h2
    · exact sh0_1 (by decide) .c2 h2
    · exact ite_go h2 (fun _ e => nomatch e) fun h2 => by
        cases e4 : PyFlat.rows 1 (r.drop 1) with
        | none => rw [e4] at h2; cases h2
        | some q =>
          obtain ⟨x, ex, e5⟩ := rows1_inv (xs := q.1) (s := q.2) e4
          rw [e4] at h2
          cases h2
          rw [ex]
          cases r with
          | nil => cases e5
          | cons y r => exact ⟨_, .c3 y x, rfl, congrArg (fun z => (3 : Int) :: y :: z) e5⟩
    · exact sh0 h2 fun l => by
        cases r with
        | nil => cases l
        | cons x r => cases r with
          | nil => exact absurd l (by show ¬ 3 ≤ 1; decide)
          | cons y r => cases r with
            | nil => exact absurd l (by show ¬ 3 ≤ 2; decide)
            | cons z r => exact ⟨_, .c4 x y z, rfl, rfl⟩
    · exact sh0 h2 fun l => by
        cases r with
        | nil => cases l
        | cons x r => cases r with
          | nil => exact absurd l (by show ¬ 2 ≤ 1; decide)
          | cons y r => exact ⟨_, .c5 x y, rfl, rfl⟩
    · exact sh0 h2 fun l => ⟨_, .c6, rfl, rfl⟩
    · exact sh0_1 (by decide) .c7 h2
    · exact sh0_1 (by decide) .c8 h2
    · exact sh0_1 (by decide) .c9 h2
theorem calls_inv : ∀ (f : Nat) (l : List Int) (cs : List (List (List Int))), PyFlat.calls PyKg58.shape f l = some cs → ∃ rs : List RC, (∀ r ∈ rs, r.Ok) ∧ cs = rs.map RC.c ∧ l = rs.flatMap RC.flat
  | f, [], cs, h => by
    have h2 : some [] = some cs := by
      cases f <;> exact h
    cases h2
    exact ⟨[], fun r hr => (by cases hr), rfl, rfl⟩
  | 0, _ :: _, cs, h => by cases h
  | f + 1, p :: r, cs, h => by
    have h1 : (match PyFlat.call PyKg58.shape (p :: r) with
      | none => none
      | some (c, t) => match PyFlat.calls PyKg58.shape f t with
        | none => none
        | some cs => some (c :: cs)) = some cs := h
    cases e : PyFlat.call PyKg58.shape (p :: r) with
    | none => rw [e] at h1; cases h1
    | some q =>
      obtain ⟨c, t⟩ := q
      rw [e] at h1
      have h2 : (match PyFlat.calls PyKg58.shape f t with
        | none => none
        | some cs => some (c :: cs)) = some cs := h1
      cases e2 : PyFlat.calls PyKg58.shape f t with
      | none => rw [e2] at h2; cases h2
      | some ds =>
        rw [e2] at h2
        have h3 : some (c :: ds) = some cs := h2
        cases h3
        obtain ⟨x, hx, ec, el⟩ := call_inv' e
        obtain ⟨rs, h4, h5, h6⟩ := calls_inv f t ds e2
        refine ⟨x :: rs, fun y hy => ?_, ?_, ?_⟩
        · rcases List.mem_cons.mp hy with rfl | hy
          · exact hx
          · exact h4 y hy
        · rw [ec, h5]; rfl
        · rw [el, h6]; rfl
theorem whole_ok {r : RC} (h : r.Ok) : PyKg58.whole r.c = r.c := by
  cases h <;> rfl
def stepR (s : State) (r : RC) : State × List Int := Kg58Neutral.step s r.c
def toldR (s : State) (rs : List RC) : List Int := PyFlat.told (PyFlat.played Kg58Neutral.step s (rs.map RC.c))
theorem toldR_nil (s : State) : toldR s [] = [] := rfl
theorem toldR_cons (s : State) (r : RC) (rs : List RC) : toldR s (r :: rs) = (((stepR s r).2.length : Nat) : Int) :: ((stepR s r).2 ++ toldR (stepR s r).1 rs) := rfl
theorem asked_inv {l : List Int} (h : PyKg58.answers_asked l = true) : ∃ rs : List RC, (∀ r ∈ rs, r.Ok) ∧ l = rs.flatMap RC.flat ∧ rs.length ≤ 150 ∧ PyKg58.answers l = toldR Kg58.init rs := by
  unfold PyKg58.answers_asked PyKg58.calls at h
  unfold PyKg58.answers PyKg58.calls
  cases e : PyFlat.calls PyKg58.shape l.length l with
  | none => rw [e] at h; cases h
  | some cs =>
    rw [e] at h
    have h1 : (PyFlat.atMost 150 (cs.map PyKg58.whole) && Kg58Neutral.asked (cs.map PyKg58.whole)) = true := h
    obtain ⟨rs, h2, h3, h4⟩ := calls_inv _ _ _ e
    have ew : cs.map PyKg58.whole = rs.map RC.c := by
      rw [h3, List.map_map]
      exact List.map_congr_left fun r hr => whole_ok (h2 r hr)
    rw [ew] at h1
    rw [Bool.and_eq_true] at h1
    refine ⟨rs, h2, h4, ?_, ?_⟩
    · have := of_decide_eq_true (show decide ((rs.map RC.c).length ≤ 150) = true from h1.1)
      rwa [List.length_map] at this
    · show PyFlat.told (PyFlat.played Kg58Neutral.step Kg58Neutral.start (cs.map PyKg58.whole)) = _
      rw [ew]
      rfl
end My
namespace My
open Kg58
theorem parts_len (k : Nat) : (parts k).length ≤ 2 := by
  unfold parts
  split
  · exact Nat.le_refl _
  · split
    · exact Nat.le_succ _
    · split
      · exact Nat.zero_le _
      · exact Nat.le_succ _
theorem singles_len (t : Nat) (l : List Told) : (singles l t).length ≤ 2 * l.length := by
  unfold singles
  induction l with
  | nil => exact Nat.le_refl _
  | cons x l ih =>
    rw [List.filter_cons, List.length_cons]
    split
    · rw [List.flatMap_cons, List.length_append, List.length_map]
      have := parts_len x.kind
      omega
    · omega
def uncs (m0 m1 : Nat) (i : Nat) (l : List Pen) : List Pen := match i with
  | 0 => l
  | 1 => unc 0 m0 l
  | _ => unc 1 m1 (unc 0 m0 l)
theorem kIx_uncs (m0 m1 k i : Nat) (l : List Pen) : kIx k (uncs m0 m1 i l) = kIx k l := by
  unfold uncs
  split
  · rfl
  · rw [unc_kind]
  · rw [unc_kind, unc_kind]
theorem uncs_succ (m0 m1 : Nat) {i : Nat} (h : i < 2) (l : List Pen) : uncs m0 m1 (i + 1) l = unc i (if i = 0 then m0 else m1) (uncs m0 m1 i l) := by
  match i, h with
  | 0, _ => rfl
  | 1, _ => rfl
theorem cancel_eq (xs : List Told) {i : Nat} (h : i < 2) : (if i = 0 then cancel xs 0 else cancel xs 1) = min (kIx i ((singles xs 0).map mk1)).length (kIx i ((singles xs 1).map mk1)).length := by
  rw [kIx_len, kIx_len]
  match i, h with
  | 0, _ => rfl
  | 1, _ => rfl
theorem uncs_length (m0 m1 i : Nat) (l : List Pen) : (uncs m0 m1 i l).length = l.length := by
  unfold uncs
  split
  · rfl
  · rw [unc_length]
  · rw [unc_length, unc_length]
end My
namespace My
open Kg58
structure Good (s : State) (st : NSt) : Prop where
  base3 : 3 ≤ s.base
  base6 : s.base ≤ 6
  t6 : s.time ≤ 6000
  posA : PosL s.a.pens
  posB : PosL s.b.pens
  told : ∀ x, x ∈ s.signalled → ToldOk x
  fewA : s.a.pens.length + (singles s.signalled 0).length ≤ 12
  fewB : s.b.pens.length + (singles s.signalled 1).length ≤ 12
  repA : RepT s.a 0 st
  repB : RepT s.b 1 st
  st : StOk st
theorem Good.to {s : State} {st : NSt} (h : Good s st) {t : Nat} (ht : t ≤ 6000) : Good (s.to t) st :=
  ⟨h.base3, h.base6, ht, after_pos h.posA, after_pos h.posB, h.told,
    Nat.le_trans (Nat.add_le_add_right (after_length _ _) _) h.fewA, Nat.le_trans (Nat.add_le_add_right (after_length _ _) _) h.fewB,
    ⟨h.repA.min, h.repA.maj, h.repA.out⟩, ⟨h.repB.min, h.repB.maj, h.repB.out⟩, h.st⟩
theorem Good.give {s : State} {st : NSt} (h : Good s st) {l : List Told} (hl : ∀ x, x ∈ l → ToldOk x) (h0 : s.a.pens.length + (singles l 0).length ≤ 12) (h1 : s.b.pens.length + (singles l 1).length ≤ 12) :
    Good { (s.give l) with signalled := [] } (l.foldl noteStep st) := by
  have rA := h.repA.told (l := l) h.st.n.nd
  have rB := h.repB.told (l := l) h.st.n.nd
  refine ⟨h.base3, h.base6, h.t6, ?_, ?_, fun x hx => (by cases hx), ?_, ?_, rA, rB, h.st.fold hl⟩
  · intro p hp
    rcases List.mem_append.mp (show p ∈ s.a.pens ++ marked (cancel l 0) (cancel l 1) (singles l 0) from hp) with hp | hp
    · exact h.posA p hp
    · exact marked_pos _ _ _ p hp
  · intro p hp
    rcases List.mem_append.mp (show p ∈ s.b.pens ++ marked (cancel l 0) (cancel l 1) (singles l 1) from hp) with hp | hp
    · exact h.posB p hp
    · exact marked_pos _ _ _ p hp
  · show (s.a.pens ++ marked (cancel l 0) (cancel l 1) (singles l 0)).length + 0 ≤ 12
    rw [List.length_append, marked_length]
    exact h0
  · show (s.b.pens ++ marked (cancel l 0) (cancel l 1) (singles l 1)).length + 0 ≤ 12
    rw [List.length_append, marked_length]
    exact h1
theorem Good.signal {s : State} {st : NSt} (h : Good s st) {x : Told} (hx : ToldOk x) (h0 : s.a.pens.length + (singles (s.signalled ++ [x]) 0).length ≤ 12) (h1 : s.b.pens.length + (singles (s.signalled ++ [x]) 1).length ≤ 12) :
    Good { s with signalled := s.signalled ++ [x] } st :=
  ⟨h.base3, h.base6, h.t6, h.posA, h.posB, fun y hy => by
    rcases List.mem_append.mp hy with hy | hy
    · exact h.told y hy
    · have : y = x := by simpa using hy
      rw [this]; exact hx, h0, h1, ⟨h.repA.min, h.repA.maj, h.repA.out⟩, ⟨h.repB.min, h.repB.maj, h.repB.out⟩, h.st⟩
theorem Good.goals {s : State} {st : NSt} (h : Good s st) (i j : Nat) : Good { s with a := { s.a with goals := i }, b := { s.b with goals := j } } st :=
  ⟨h.base3, h.base6, h.t6, h.posA, h.posB, h.told, h.fewA, h.fewB, ⟨h.repA.min, h.repA.maj, h.repA.out⟩, ⟨h.repB.min, h.repB.maj, h.repB.out⟩, h.st⟩
theorem Good.pens {s : State} {st : NSt} (h : Good s st) {p q : List Pen} (hp : ∀ x, x ∈ p → x ∈ s.a.pens) (hq : ∀ x, x ∈ q → x ∈ s.b.pens) (lp : p.length ≤ s.a.pens.length) (lq : q.length ≤ s.b.pens.length) :
    Good { s with a := { s.a with pens := p }, b := { s.b with pens := q } } st :=
  ⟨h.base3, h.base6, h.t6, fun x hx => h.posA x (hp x hx), fun x hx => h.posB x (hq x hx), h.told, Nat.le_trans (Nat.add_le_add_right lp _) h.fewA, Nat.le_trans (Nat.add_le_add_right lq _) h.fewB,
    ⟨h.repA.min, h.repA.maj, h.repA.out⟩, ⟨h.repB.min, h.repB.maj, h.repB.out⟩, h.st⟩
theorem Good.washed {s : State} {st : NSt} (h : Good s st) (t : Nat) : Good { s with signalled := washed t s.signalled } st :=
  ⟨h.base3, h.base6, h.t6, h.posA, h.posB, washed_ok t _ h.told, Nat.le_trans (Nat.add_le_add_left (singles_washed t 0 _) _) h.fewA, Nat.le_trans (Nat.add_le_add_left (singles_washed t 1 _) _) h.fewB,
    ⟨h.repA.min, h.repA.maj, h.repA.out⟩, ⟨h.repB.min, h.repB.maj, h.repB.out⟩, h.st⟩
def st0 : NSt := ⟨[], [], []⟩
theorem Good.start {b : Nat} (h3 : 3 ≤ b) (h6 : b ≤ 6) : Good { init with base := b } st0 :=
  ⟨h3, h6, Nat.zero_le _, fun p hp => (by cases hp), fun p hp => (by cases hp), fun p hp => (by cases hp), Nat.zero_le _, Nat.zero_le _,
    ⟨rfl, fun p => rfl, fun p => ⟨fun h => (by cases h), fun h => (by cases h)⟩⟩, ⟨rfl, fun p => rfl, fun p => ⟨fun h => (by cases h), fun h => (by cases h)⟩⟩,
    ⟨⟨List.nodup_nil, fun k hk => (by cases hk)⟩, ⟨List.nodup_nil, fun k hk => (by cases hk)⟩, ⟨List.nodup_nil, fun k hk => (by cases hk)⟩⟩⟩
def strI (s : State) (t : Nat) : Int := if s.skaters t = s.skaters (1 - t) then 0 else if s.skaters (1 - t) < s.skaters t then 1 else 2
theorem strI_eq (s : State) (t : Nat) : strI s t = if s.skaters t < s.skaters (1 - t) then 2 else if s.skaters (1 - t) < s.skaters t then 1 else 0 := by
  unfold strI
  by_cases h : s.skaters t = s.skaters (1 - t)
  · rw [if_pos h, if_neg (by omega), if_neg (by omega)]
  · rw [if_neg h]
    by_cases h2 : s.skaters (1 - t) < s.skaters t
    · rw [if_pos h2, if_neg (by omega), if_pos h2]
    · rw [if_neg h2, if_pos (by omega)]
theorem begun_eq {s : State} (h : 3 ≤ s.base) (f : Unit → State × Ans) : begun s f = f () := by
  unfold begun
  rw [if_neg (by omega)]
theorem anyOut_eq {s : State} {st : NSt} (h : Good s st) {l : List Told} (hl : ∀ x, x ∈ l → ToldOk x) : anyOut s l = l.any fun x => (valD st.outs (x.team, x.player)).isSome := by
  unfold anyOut
  rw [Bool.eq_iff_iff, List.any_eq_true, List.any_eq_true]
  have key : ∀ x, x ∈ l → ((s.team x.team).out.contains x.player = true ↔ (valD st.outs (x.team, x.player)).isSome = true) := fun x hx => by
    obtain ⟨team, player, kind⟩ := x
    have : team = 0 ∨ team = 1 := by
      have := (hl _ hx).1
      have : team < 2 := this
      omega
    rcases this with rfl | rfl
    · rw [h.repA.out]
      show (s.a.out.contains player = true ↔ _)
      simp
    · rw [h.repB.out]
      show (s.b.out.contains player = true ↔ _)
      simp
  exact ⟨fun ⟨x, h1, h2⟩ => ⟨x, h1, (key x h1).mp h2⟩, fun ⟨x, h1, h2⟩ => ⟨x, h1, (key x h1).mpr h2⟩⟩
theorem mem_erase_at {α : Type} {l : List α} {i : Nat} {x : α} (h : x ∈ l.eraseIdx i) : x ∈ l := List.mem_of_mem_eraseIdx h
end My
namespace My
open Kg58
def res (s : State) (c : Call) : State × List Int := ((spec s c).1, (spec s c).2.value :: (spec s c).2.out)
def given (s : State) (xs : List Told) : State := { (s.give xs) with signalled := [] }
theorem res_clock_no {s : State} {z : Int} (h3 : 3 ≤ s.base) (h : okTime s z = false) : res s (.clock z) = (s, [-1]) := by
  have e : spec s (.clock z) = (s, num (-1)) := by
    unfold spec
    dsimp only
    rw [begun_eq h3, if_pos h]
  unfold res
  rw [e]
  rfl
theorem res_clock_yes {s : State} {z : Int} (h3 : 3 ≤ s.base) (h : ¬ okTime s z = false) : res s (.clock z) = (s.to z.toNat, [0, ((s.to z.toNat).skaters 0 : Int), ((s.to z.toNat).skaters 1 : Int)]) := by
  have e : spec s (.clock z) = (s.to z.toNat, ⟨0, whole [(s.to z.toNat).skaters 0, (s.to z.toNat).skaters 1]⟩) := by
    unfold spec
    dsimp only
    rw [begun_eq h3, if_neg h]
  unfold res
  rw [e]
  rfl
theorem res_halt_row {s : State} {z : Int} {l : List Int} (h3 : 3 ≤ s.base) (h : toldOf l = none) : res s (.halt_ z l) = (s, [-1]) := by
  have e : spec s (.halt_ z l) = (s, num (-1)) := by
    unfold spec
    dsimp only
    rw [begun_eq h3, h]
  unfold res
  rw [e]
  rfl
theorem res_halt_time {s : State} {z : Int} {l : List Int} {r : List Told} (h3 : 3 ≤ s.base) (hr : toldOf l = some r) (h : okTime s z = false) : res s (.halt_ z l) = (s, [-1]) := by
  have e : spec s (.halt_ z l) = (s, num (-1)) := by
    unfold spec
    dsimp only
    rw [begun_eq h3, hr]
    show (if okTime s z = false then _ else _) = _
    rw [if_pos h]
  unfold res
  rw [e]
  rfl
theorem spec_halt {s : State} {z : Int} {l : List Int} {r : List Told} (h3 : 3 ≤ s.base) (hr : toldOf l = some r) (h : ¬ okTime s z = false) : spec s (.halt_ z l) =
    if anyOut s (s.signalled ++ r) = true then (s, num (-4)) else if tooMany (s.to z.toNat) (s.signalled ++ r) = true then (s, num (-5)) else
      (given (s.to z.toNat) (s.signalled ++ r), ⟨((s.signalled ++ r).length : Nat), whole [(given (s.to z.toNat) (s.signalled ++ r)).skaters 0, (given (s.to z.toNat) (s.signalled ++ r)).skaters 1]⟩) := by
  unfold spec
  dsimp only
  rw [begun_eq h3, hr]
  show (if okTime s z = false then _ else _) = _
  rw [if_neg h]
  rfl
theorem res_halt_out {s : State} {z : Int} {l : List Int} {r : List Told} (h3 : 3 ≤ s.base) (hr : toldOf l = some r) (h : ¬ okTime s z = false) (ho : anyOut s (s.signalled ++ r) = true) : res s (.halt_ z l) = (s, [-4]) := by
  unfold res
  rw [spec_halt h3 hr h, if_pos ho]
  rfl
theorem res_halt_many {s : State} {z : Int} {l : List Int} {r : List Told} (h3 : 3 ≤ s.base) (hr : toldOf l = some r) (h : ¬ okTime s z = false) (ho : ¬ anyOut s (s.signalled ++ r) = true) (hm : tooMany (s.to z.toNat) (s.signalled ++ r) = true) :
    res s (.halt_ z l) = (s, [-5]) := by
  unfold res
  rw [spec_halt h3 hr h, if_neg ho, if_pos hm]
  rfl
theorem res_halt_yes {s : State} {z : Int} {l : List Int} {r : List Told} (h3 : 3 ≤ s.base) (hr : toldOf l = some r) (h : ¬ okTime s z = false) (ho : ¬ anyOut s (s.signalled ++ r) = true) (hm : ¬ tooMany (s.to z.toNat) (s.signalled ++ r) = true) :
    res s (.halt_ z l) = (given (s.to z.toNat) (s.signalled ++ r), [((s.signalled ++ r).length : Int), ((given (s.to z.toNat) (s.signalled ++ r)).skaters 0 : Int), ((given (s.to z.toNat) (s.signalled ++ r)).skaters 1 : Int)]) := by
  unfold res
  rw [spec_halt h3 hr h, if_neg ho, if_neg hm]
  rfl
theorem tooMany_eq (s : State) (l : List Told) : tooMany s l = (decide (12 < s.a.pens.length + (singles l 0).length) || decide (12 < s.b.pens.length + (singles l 1).length)) := by
  show (decide (12 < s.a.pens.length + (singles l 0).length) || (decide (12 < s.b.pens.length + (singles l 1).length) || false)) = _
  rw [Bool.or_false]
theorem tooMany_no {s : State} {l : List Told} (h : ¬ tooMany s l = true) : s.a.pens.length + (singles l 0).length ≤ 12 ∧ s.b.pens.length + (singles l 1).length ≤ 12 := by
  rw [tooMany_eq, Bool.or_eq_true] at h
  constructor
  · exact Nat.le_of_not_lt fun z => h (.inl (decide_eq_true z))
  · exact Nat.le_of_not_lt fun z => h (.inr (decide_eq_true z))
theorem spec_signal {s : State} {t p k : Int} (h3 : 3 ≤ s.base) : spec s (.signal t p k) = if okT (t, p, k) = false then (s, num (-1)) else
    if anyOut s [toldI (t, p, k)] = true then (s, num (-4)) else if tooMany s (s.signalled ++ [toldI (t, p, k)]) = true then (s, num (-5)) else ({ s with signalled := s.signalled ++ [toldI (t, p, k)] }, num ((s.signalled.length + 1 : Nat) : Int)) := by
  unfold spec
  dsimp only
  rw [begun_eq h3]
  rfl
theorem spec_goal {s : State} {z t : Int} (h3 : 3 ≤ s.base) : spec s (.goal z t) = if (okTime s z && within t 0 1) = false then (s, num (-1)) else
    (((s.to z.toNat).goal t.toNat).1, ⟨if (s.to z.toNat).skaters t.toNat < (s.to z.toNat).skaters (1 - t.toNat) then 2 else if (s.to z.toNat).skaters (1 - t.toNat) < (s.to z.toNat).skaters t.toNat then 1 else 0,
      (match ((s.to z.toNat).goal t.toNat).2 with
        | some p => [(p : Int)]
        | none => [-1]) ++ whole [((s.to z.toNat).goal t.toNat).1.skaters 0, ((s.to z.toNat).goal t.toNat).1.skaters 1]⟩) := by
  unfold spec
  dsimp only
  rw [begun_eq h3]
  rfl
theorem res_now {s : State} (h3 : 3 ≤ s.base) : res s .now = (s, [(s.time : Int), (s.skaters 0 : Int), (s.skaters 1 : Int), (s.a.goals : Int), (s.b.goals : Int), (s.signalled.length : Int)]) := by
  have e : spec s .now = (s, ⟨s.time, whole [s.skaters 0, s.skaters 1, s.a.goals, s.b.goals, s.signalled.length]⟩) := by
    unfold spec
    dsimp only
    rw [begun_eq h3]
  unfold res
  rw [e]
  rfl
theorem res_box_no {s : State} {t : Int} (h3 : 3 ≤ s.base) (h : within t 0 1 = false) : res s (.box t) = (s, [-1]) := by
  have e : spec s (.box t) = (s, num (-1)) := by
    unfold spec
    dsimp only
    rw [begun_eq h3, if_pos h]
  unfold res
  rw [e]
  rfl
theorem res_minutes_no {s : State} {t : Int} (h3 : 3 ≤ s.base) (h : within t 0 1 = false) : res s (.minutes t) = (s, [-1]) := by
  have e : spec s (.minutes t) = (s, num (-1)) := by
    unfold spec
    dsimp only
    rw [begun_eq h3, if_pos h]
  unfold res
  rw [e]
  rfl
theorem res_till_no {s : State} {t : Int} (h3 : 3 ≤ s.base) (h : within t 0 1 = false) : res s (.till t) = (s, [-1]) := by
  have e : spec s (.till t) = (s, num (-1)) := by
    unfold spec
    dsimp only
    rw [begun_eq h3, if_pos h]
  unfold res
  rw [e]
  rfl
def boxAns (l : List Pen) : List Int := ((running l).length : Int) :: whole ((running l).flatMap fun x => [x.1.player, x.1.kind, x.1.left, truth x.1.counts, truth x.2])
theorem res_box {s : State} {t : Int} (h3 : 3 ≤ s.base) (h : ¬ within t 0 1 = false) : res s (.box t) = (s, boxAns (s.team t.toNat).pens) := by
  have e : spec s (.box t) = (s, ⟨(running (s.team t.toNat).pens).length, whole ((running (s.team t.toNat).pens).flatMap fun x => [x.1.player, x.1.kind, x.1.left, truth x.1.counts, truth x.2])⟩) := by
    unfold spec
    dsimp only
    rw [begun_eq h3, if_neg h]
  unfold res
  rw [e]
  rfl
def minAns (x : Team) : List Int := (x.minutes.map fun y => (y.2 : Int)).sum :: whole (x.minutes.flatMap fun y => [y.1, y.2, truth (x.out.contains y.1)])
theorem res_minutes {s : State} {t : Int} (h3 : 3 ≤ s.base) (h : ¬ within t 0 1 = false) : res s (.minutes t) = (s, minAns (s.team t.toNat)) := by
  have e : spec s (.minutes t) = (s, ⟨((s.team t.toNat).minutes.map fun y => (y.2 : Int)).sum, whole ((s.team t.toNat).minutes.flatMap fun y => [y.1, y.2, truth ((s.team t.toNat).out.contains y.1)])⟩) := by
    unfold spec
    dsimp only
    rw [begun_eq h3, if_neg h]
  unfold res
  rw [e]
  rfl
def tillAns (s : State) (l : List Pen) : List Int := (l.length : Int) :: whole (l.zipIdx.flatMap fun x => [x.1.player, s.time + endOf l x.2])
theorem res_till {s : State} {t : Int} (h3 : 3 ≤ s.base) (h : ¬ within t 0 1 = false) : res s (.till t) = (s, tillAns s (s.team t.toNat).pens) := by
  have e : spec s (.till t) = (s, ⟨(s.team t.toNat).pens.length, whole ((s.team t.toNat).pens.zipIdx.flatMap fun x => [x.1.player, s.time + endOf (s.team t.toNat).pens x.2])⟩) := by
    unfold spec
    dsimp only
    rw [begun_eq h3, if_neg h]
  unfold res
  rw [e]
  rfl
theorem within01 {t : Int} (h : ¬ within t 0 1 = false) : ∃ n : Nat, n < 2 ∧ t = (n : Int) ∧ t.toNat = n := by
  have h2 : (decide (0 ≤ t) && decide (t ≤ 1)) = true := by
    cases e : (decide (0 ≤ t) && decide (t ≤ 1))
    · exact absurd e h
    · rfl
  rw [Bool.and_eq_true] at h2
  have h3 := of_decide_eq_true h2.1
  have h4 := of_decide_eq_true h2.2
  exact ⟨t.toNat, by omega, by omega, rfl⟩
theorem okTime_yes {s : State} {z : Int} (h : ¬ okTime s z = false) : ∃ n : Nat, s.time ≤ n ∧ n ≤ 6000 ∧ z = (n : Int) ∧ z.toNat = n := by
  have h2 : (decide ((s.time : Int) ≤ z) && decide (z ≤ 6000)) = true := by
    cases e : (decide ((s.time : Int) ≤ z) && decide (z ≤ 6000))
    · exact absurd e h
    · rfl
  rw [Bool.and_eq_true] at h2
  have h3 := of_decide_eq_true h2.1
  have h4 := of_decide_eq_true h2.2
  exact ⟨z.toNat, by omega, by omega, by omega, rfl⟩
theorem okT_told {x : Int × Int × Int} (h : okT x = true) : ToldOk (toldI x) ∧ x.1 = ((toldI x).team : Int) ∧ x.2.1 = ((toldI x).player : Int) ∧ x.2.2 = ((toldI x).kind : Int) := by
  obtain ⟨a, b, c⟩ := x
  have h2 : ((decide (0 ≤ a) && decide (a ≤ 1)) && ((decide (0 ≤ b) && decide (b ≤ 99)) && (decide (0 ≤ c) && decide (c ≤ 5)))) = true := h
  simp only [Bool.and_eq_true, decide_eq_true_eq] at h2
  obtain ⟨⟨h1, h2⟩, ⟨h3, h4⟩, h5, h6⟩ := h2
  show (a.toNat < 2 ∧ b.toNat < 100 ∧ c.toNat ≤ 5) ∧ a = (a.toNat : Int) ∧ b = (b.toNat : Int) ∧ c = (c.toNat : Int)
  omega
end My
namespace My
open Kg58
def setPens (s : State) (t : Nat) (p : List Pen) : State := if t = 0 then { s with a := { s.a with pens := p } } else { s with b := { s.b with pens := p } }
def setGoals (s : State) (t : Nat) : State := if t = 0 then { s with a := { s.a with goals := s.a.goals + 1 } } else { s with b := { s.b with goals := s.b.goals + 1 } }
def endsAt (s : State) (t : Nat) : Option Nat := if s.skaters (1 - t) < s.skaters t then ended (s.team (1 - t)).pens else none
theorem goal_none {s : State} {t : Nat} (ht : t < 2) (h : endsAt s t = none) : s.goal t = (given (setGoals s t) (washed (1 - t) s.signalled), none) := by
  unfold endsAt at h
  unfold State.goal
  dsimp only
  rw [h]
  match t, ht with
  | 0, _ => rfl
  | 1, _ => rfl
theorem goal_some {s : State} {t i : Nat} {p : Pen} (ht : t < 2) (h : endsAt s t = some i) (hp : (s.team (1 - t)).pens[i]? = some p) :
    s.goal t = (given (setPens (setGoals s t) (1 - t) ((s.team (1 - t)).pens.eraseIdx i)) s.signalled, some p.player) := by
  unfold endsAt at h
  unfold State.goal
  dsimp only
  rw [h]
  dsimp only [Option.bind]
  rw [hp]
  match t, ht with
  | 0, _ => rfl
  | 1, _ => rfl
def whoI : Option Nat → Int
  | some p => (p : Int)
  | none => -1
theorem res_goal_no {s : State} {z t : Int} (h3 : 3 ≤ s.base) (h : (okTime s z && within t 0 1) = false) : res s (.goal z t) = (s, [-1]) := by
  unfold res
  rw [spec_goal h3, if_pos h]
  rfl
theorem res_goal_yes {s : State} {z t : Int} {n m : Nat} {u : State} {o : Option Nat} (h3 : 3 ≤ s.base) (h : ¬ (okTime s z && within t 0 1) = false) (hz : z.toNat = n) (hm : t.toNat = m) (hg : (s.to n).goal m = (u, o)) :
    res s (.goal z t) = (u, [strI (s.to n) m, whoI o, (u.skaters 0 : Int), (u.skaters 1 : Int)]) := by
  unfold res
  rw [spec_goal h3, if_neg h, hz, hm, hg, strI_eq]
  cases o <;> rfl
theorem strI_goals (s : State) {t : Nat} (ht : t < 2) : strI (setGoals s t) t = strI s t := by
  match t, ht with
  | 0, _ => rfl
  | 1, _ => rfl
theorem endsAt_one {s : State} {t : Nat} (h : strI s t = 1) : endsAt s t = ended (s.team (1 - t)).pens := by
  unfold strI at h
  unfold endsAt
  by_cases h1 : s.skaters (1 - t) < s.skaters t
  · rw [if_pos h1]
  · rw [if_neg h1] at h
    split at h <;> omega
theorem endsAt_not {s : State} {t : Nat} (h : ¬ strI s t = 1) : endsAt s t = none := by
  unfold strI at h
  unfold endsAt
  by_cases h1 : s.skaters (1 - t) < s.skaters t
  · rw [if_neg (by omega), if_pos h1] at h
    exact absurd rfl h
  · rw [if_neg h1]
theorem Good.setGoals {s : State} {st : NSt} (h : Good s st) {t : Nat} (ht : t < 2) : Good (setGoals s t) st := by
  match t, ht with
  | 0, _ => exact h.goals (s.a.goals + 1) s.b.goals
  | 1, _ => exact h.goals s.a.goals (s.b.goals + 1)
end My
namespace My
open Kg58
def WN : List (Int × Int) := [(1, 1), (2, 1), (3, 1), (4, 3), (5, 2), (6, 0), (7, 1), (8, 1), (9, 1)]
theorem wn_get {r : RC} (h : r.Ok) : (WN.find? fun e => decide (e.1 = r.call)).map (·.2) = some (r.nums.length : Int) := by
  cases h <;> rfl
theorem flat_stop {r : RC} (h : r.Ok) (h3 : r.call = 3) : r.flat = r.call :: (r.nums ++ ((r.row.length : Int) :: r.row)) := by
  unfold RC.flat
  rw [if_pos h3]
theorem flat_not {r : RC} (h : r.Ok) (h3 : ¬ r.call = 3) : r.flat = r.call :: (r.nums ++ []) ∧ r.row = [] := by
  unfold RC.flat
  rw [if_neg h3]
  refine ⟨rfl, ?_⟩
  cases h <;> first | rfl | exact absurd rfl h3
theorem flat_pos (r : RC) : 0 < r.flat.length := by
  unfold RC.flat
  rw [List.length_cons]
  exact Nat.succ_pos _
theorem get_mid {α : Type} {l pre post : List α} {x : α} (h : l = pre ++ x :: post) : l[pre.length]? = some x := by
  rw [h, List.getElem?_append_right (Nat.le_refl _), Nat.sub_self]
  rfl
theorem whole_length (l : List Nat) : (whole l).length = l.length := List.length_map _
theorem flatMap_len {α : Type} {f : α → List Nat} {c : Nat} (h : ∀ x, (f x).length = c) : ∀ l : List α, (l.flatMap f).length = c * l.length
  | [] => rfl
  | x :: l => by
    rw [List.flatMap_cons, List.length_append, h, flatMap_len h l, List.length_cons, Nat.mul_succ, Nat.add_comm]
theorem ofTeam_len {t : Nat} {d : Tab} (h : TabOk d) : (ofTeam t d).length ≤ 200 := by
  unfold ofTeam
  rw [List.length_map]
  exact Nat.le_trans (List.length_filter_le _ _) h.len
theorem res_none {s : State} {c : Call} (h : s.base = 0) (hc : ∀ n, c ≠ .begin_ n) : res s c = (s, [-2]) := by
  have e : ∀ f, begun s f = (s, num (-2)) := fun f => by
    unfold begun
    rw [if_pos h]
  unfold res
  cases c with
  | begin_ n => exact absurd rfl (hc n)
  | _ =>
    unfold spec
    dsimp only
    rw [e]
    rfl
theorem res_begin {s : State} {n : Int} : res s (.begin_ n) = if within n 3 6 = false then (s, [-1]) else ({ init with base := n.toNat }, [0]) := by
  unfold res spec
  dsimp only
  split <;> rfl
theorem res_len {s : State} {st : NSt} (h : Good s st) (c : Call) : (res s c).2.length ≤ 1000 := by
  have h3 := h.base3
  have hA := h.fewA
  have hB := h.fewB
  cases c with
  | begin_ n => rw [res_begin]; split <;> (show 1 ≤ 1000; decide)
  | clock z =>
    by_cases q : okTime s z = false
    · rw [res_clock_no h3 q]; show 1 ≤ 1000; decide
    · rw [res_clock_yes h3 q]; show 3 ≤ 1000; decide
  | halt_ z l =>
    cases e : toldOf l with
    | none => rw [res_halt_row h3 e]; show 1 ≤ 1000; decide
    | some r =>
      by_cases q : okTime s z = false
      · rw [res_halt_time h3 e q]; show 1 ≤ 1000; decide
      · by_cases q1 : anyOut s (s.signalled ++ r) = true
        · rw [res_halt_out h3 e q q1]; show 1 ≤ 1000; decide
        · by_cases q2 : tooMany (s.to z.toNat) (s.signalled ++ r) = true
          · rw [res_halt_many h3 e q q1 q2]; show 1 ≤ 1000; decide
          · rw [res_halt_yes h3 e q q1 q2]; show 3 ≤ 1000; decide
  | signal t p k =>
    unfold res
    rw [spec_signal h3]
    split
    · show 1 ≤ 1000; decide
    · split
      · show 1 ≤ 1000; decide
      · split
        · show 1 ≤ 1000; decide
        · show 1 ≤ 1000; decide
  | goal z t =>
    unfold res
    rw [spec_goal h3]
    split
    · show 1 ≤ 1000; decide
    · show (_ :: (_ ++ _) : List Int).length ≤ 1000
      rw [List.length_cons, List.length_append, whole_length]
      split
      · show 1 + 2 + 1 ≤ 1000; decide
      · show 1 + 2 + 1 ≤ 1000; decide
  | now => rw [res_now h3]; show 6 ≤ 1000; decide
  | box t =>
    by_cases q : within t 0 1 = false
    · rw [res_box_no h3 q]; show 1 ≤ 1000; decide
    · rw [res_box h3 q]
      obtain ⟨n, hn, _, e⟩ := within01 q
      rw [e]
      show (boxAns _).length ≤ 1000
      unfold boxAns
      rw [List.length_cons, whole_length, flatMap_len (c := 5) (fun _ => rfl), running_length]
      match n, hn with
      | 0, _ => show 5 * s.a.pens.length + 1 ≤ 1000; omega
      | 1, _ => show 5 * s.b.pens.length + 1 ≤ 1000; omega
  | minutes t =>
    by_cases q : within t 0 1 = false
    · rw [res_minutes_no h3 q]; show 1 ≤ 1000; decide
    · rw [res_minutes h3 q]
      obtain ⟨n, hn, _, e⟩ := within01 q
      rw [e]
      show (minAns _).length ≤ 1000
      unfold minAns
      rw [List.length_cons, whole_length, flatMap_len (c := 3) (fun _ => rfl)]
      match n, hn with
      | 0, _ =>
        show 3 * s.a.minutes.length + 1 ≤ 1000
        rw [← h.repA.min]
        have := ofTeam_len (t := 0) h.st.n
        omega
      | 1, _ =>
        show 3 * s.b.minutes.length + 1 ≤ 1000
        rw [← h.repB.min]
        have := ofTeam_len (t := 1) h.st.n
        omega
  | till t =>
    by_cases q : within t 0 1 = false
    · rw [res_till_no h3 q]; show 1 ≤ 1000; decide
    · rw [res_till h3 q]
      obtain ⟨n, hn, _, e⟩ := within01 q
      rw [e]
      show (tillAns _ _).length ≤ 1000
      unfold tillAns
      rw [List.length_cons, whole_length, flatMap_len (c := 2) (fun _ => rfl), List.length_zipIdx]
      match n, hn with
      | 0, _ => show 2 * s.a.pens.length + 1 ≤ 1000; omega
      | 1, _ => show 2 * s.b.pens.length + 1 ≤ 1000; omega
def RC.call' (r : RC) : Call := match r.call, r.nums, r.row with
  | 1, [n], _ => .begin_ n
  | 2, [n], _ => .clock n
  | 3, [n], l => .halt_ n l
  | 4, [a, b, c], _ => .signal a b c
  | 5, [a, b], _ => .goal a b
  | 6, _, _ => .now
  | 7, [n], _ => .box n
  | 8, [n], _ => .minutes n
  | 9, [n], _ => .till n
  | _, _, _ => .now
theorem stepR_eq {s : State} {r : RC} (h : r.Ok) : stepR s r = res s r.call' := by
  cases h <;> rfl
theorem res_sig {s : State} {st : NSt} (h : Good s st) (c : Call) : (res s c).1.signalled.length ≤ s.signalled.length + 1 := by
  have h3 := h.base3
  cases c with
  | begin_ n => rw [res_begin]; split <;> first | exact Nat.le_succ _ | exact Nat.zero_le _
  | clock z =>
    by_cases q : okTime s z = false
    · rw [res_clock_no h3 q]; exact Nat.le_succ _
    · rw [res_clock_yes h3 q]; exact Nat.le_succ _
  | halt_ z l =>
    cases e : toldOf l with
    | none => rw [res_halt_row h3 e]; exact Nat.le_succ _
    | some r =>
      by_cases q : okTime s z = false
      · rw [res_halt_time h3 e q]; exact Nat.le_succ _
      · by_cases q1 : anyOut s (s.signalled ++ r) = true
        · rw [res_halt_out h3 e q q1]; exact Nat.le_succ _
        · by_cases q2 : tooMany (s.to z.toNat) (s.signalled ++ r) = true
          · rw [res_halt_many h3 e q q1 q2]; exact Nat.le_succ _
          · rw [res_halt_yes h3 e q q1 q2]; exact Nat.zero_le _
  | signal t p k =>
    unfold res
    rw [spec_signal h3]
    split
    · exact Nat.le_succ _
    · split
      · exact Nat.le_succ _
      · split
        · exact Nat.le_succ _
        · show (s.signalled ++ [_]).length ≤ _
          rw [List.length_append]
          exact Nat.le_refl _
  | goal z t =>
    unfold res
    rw [spec_goal h3]
    split
    · exact Nat.le_succ _
    · exact Nat.zero_le _
  | now => rw [res_now h3]; exact Nat.le_succ _
  | box t =>
    by_cases q : within t 0 1 = false
    · rw [res_box_no h3 q]; exact Nat.le_succ _
    · rw [res_box h3 q]; exact Nat.le_succ _
  | minutes t =>
    by_cases q : within t 0 1 = false
    · rw [res_minutes_no h3 q]; exact Nat.le_succ _
    · rw [res_minutes h3 q]; exact Nat.le_succ _
  | till t =>
    by_cases q : within t 0 1 = false
    · rw [res_till_no h3 q]; exact Nat.le_succ _
    · rw [res_till h3 q]; exact Nat.le_succ _
end My
namespace L2
open PySem PySem.Spec PyProof.Rows
section
variable {X : Cx}
theorem gi {x : Str} {i : Int} {pos : Pos} (h : ∃ t, X.mg x = some (.int i t)) (hg : Gl X x := by rfl) (hd : (x == ("__debug__" : Str)) = false := by decide) : PE X (.Name x pos) (tC (.int i)) := by
  obtain ⟨t, h⟩ := h
  exact pe_glob hg h ⟨t, rfl⟩ hd
theorem gt {x : Str} {a : Addr} {pos : Pos} (h : X.mg x = some (.ref a)) (hg : Gl X x := by rfl) (hd : (x == ("__debug__" : Str)) = false := by decide) : PE X (.Name x pos) (tC (.ref a)) :=
  pe_glob hg h rfl hd
def rCountT (K : PySem.W.Frag) : V → List V → Hp → VK → Prop := fun x xs H Q => ∃ (a : Addr) (ys : List V) (y : V), x = V.ref a ∧ xs = [y] ∧ SqT K H a ys ∧ flatV y = true ∧ ys.all flatV = true ∧ Q (.int ((ys.countP fun z => eqV z y : Nat) : Int)) H
theorem countP_eqU {y : V} : ∀ {ys : List V} {us : List Value}, Vals ys us → ys.all flatV = true → us.countP (eqU y) = ys.countP fun z => eqV z y
  | [], _, .nil, _ => rfl
  | z :: ys, _, .cons r rs, f => by
    rw [List.all_cons, Bool.and_eq_true] at f
    rw [List.countP_cons, List.countP_cons, countP_eqU rs f.2, eqU_of r f.1]
theorem mt_countT : MtR X "tuple.count" (rCountT X.K) := by
  intro pins s σ H x xs v us Q I rx rxs h
  obtain ⟨a, ys, y, rfl, rfl, hs, fy, fys, q⟩ := h
  cases rx
  cases rxs with
  | cons ry rt =>
    rename_i uy ut
    cases rt
    obtain ⟨its, rv, ⟨⟨cls, dd, data, sl⟩, ho, hc, n, hd⟩, hlen⟩ := I.tuple hs
    simp only at hc hd
    subst hc hd
    refine call_meets PySem.F.slot_tuple_count ⟨_, ho, rfl⟩ PySem.F.entry_tuple_count (PySem.F.args_tuple_count_2 _ _)
      (SeqAt.tuple_countAt a its.toArray n dd sl uy (eqU y)) ⟨ho, fun u' hu' => mem_eqAt ry fy rv fys u' (by simpa using hu'), ?_⟩
    refine ⟨.int ((its.toArray.toList.countP (eqU y) : Nat) : Int), H, I.tok _, ⟨_, rfl⟩, ?_⟩
    have e : (its.toArray.toList.countP (eqU y)) = ys.countP fun z => eqV z y := countP_eqU rv fys
    rw [e]
    exact q
theorem call_range1 : CallR X (.type "range") (fun xs H Q => ∃ j : Int, xs = [.int j] ∧ ∀ p, H p = none → Q (.ref p) (upd H p (.rng 0 j))) := by
  intro pins s σ H xs us Q I r h
  obtain ⟨j, rfl, q⟩ := h
  obtain ⟨u, rfl, rx⟩ := vals1 r
  obtain ⟨t, rfl⟩ := rx
  refine call_range_1 ?_
  refine ⟨.ref s.heap.objs.size, _, I.laid (o := .rng 0 j) (fun b o e => Heap.get?_push_of_some _ e) (Nat.le_refl _) ?_, rfl, q _ (I.hok.fresh (Nat.le_refl _))⟩
  exact ⟨_, _, _, Heap.get?_push_size _ rfl⟩
theorem call_list_rng (hh : X.A.handled = none) : CallR X (.type "list") (fun xs H Q => ∃ (p : Addr) (n : Nat), xs = [.ref p] ∧ H p = some (.rng 0 (n : Int)) ∧ n ≤ sizeLine ∧ ∀ l, H l = none → Q (.ref l) (upd H l (.lst ((List.range n).map fun (k : Nat) => V.int (k : Int))))) := by
  intro pins s σ H xs us Q I r h
  obtain ⟨p, n, rfl, hp, hn, q⟩ := h
  obtain ⟨u, rfl, rx⟩ := vals1 r
  cases rx
  obtain ⟨t1, t2, t3, ho⟩ := I.hok p _ hp
  have hsl : sizeLine = 2 ^ 24 := sizeLine_eq
  refine call_list_range hh ho (small_one (by omega) (by omega) (by omega) (by omega)) (n := n) (by rw [rangeSize_one]; split <;> omega) (by omega) fun h' tk acc' c' hk hS' hacc => ?_
  refine ⟨.ref s.heap.objs.size, _, I.laid (o := .lst ((List.range n).map fun (k : Nat) => V.int (k : Int))) hk (Nat.le_refl _) ?_, rfl, q _ (I.hok.fresh (Nat.le_refl _))⟩
  refine ⟨by rw [List.length_map, List.length_range]; exact hn, acc'.toList, c', ?_, by simpa using hS'⟩
  have key : ∀ (l : List Value) (m : Nat), (∀ (j : Nat) (v : Value), l[j]? = some v → ∃ t, v = .int (((m + j : Nat) : Nat) : Int) t) → Vals ((List.range' m l.length).map fun (k : Nat) => V.int (k : Int)) l := by
    intro l
    induction l with
    | nil => intro m _; exact .nil
    | cons a l ih =>
      intro m hm
      refine .cons ?_ (ih (m + 1) fun j v hv => ?_)
      · obtain ⟨t, e⟩ := hm 0 a rfl
        exact ⟨t, e⟩
      · obtain ⟨t, e⟩ := hm (j + 1) v hv
        exact ⟨t, by rw [e]; congr 2; omega⟩
  have k2 := key acc'.toList 0 fun j v hv => by
    obtain ⟨t, e⟩ := hacc.2 j v (by simpa using hv)
    exact ⟨t, by rw [e]; congr 1; omega⟩
  have e3 : acc'.toList.length = n := by
    have := hacc.1
    simpa using this
  rw [e3, ← List.range_eq_range'] at k2
  exact k2
theorem get_list : PGet X (rIxL X.K) := by
  intro pins s σ H o i ov iv Q I ro ri h
  obtain ⟨p, xs, i, z, rfl, rfl, hq, he, q⟩ := h
  cases ro
  obtain ⟨t, rfl⟩ := ri
  obtain ⟨its, r, pl, hz⟩ := I.list hq
  obtain ⟨j, h1, h2, h3, h4, h5⟩ := atI_get he
  obtain ⟨w, ew, rw'⟩ := r.get h2
  have hl := r.length
  have hn := line63
  have fin : EP X pins σ Q w s := ⟨z, H, I, rw', q⟩
  by_cases h0 : 0 ≤ i
  · have hj : i.toNat = j := by
      rw [seqIndex_of h0 h5] at h1
      exact Option.some.inj h1
    exact wpAny_getItem_list pl.isList h0 (by omega) (by rw [hj]; simpa using ew) fin
  · have hj : (i + (its.toArray.size : Int)).toNat = j := by
      rw [seqIndex_neg (by omega) h4] at h1
      rw [List.size_toArray, ← hl]
      exact Option.some.inj h1
    exact wpAny_getItem_list_neg pl.isList (by omega) (by rw [List.size_toArray] <;> omega) (by omega) (by rw [hj]; simpa using ew) fin
structure GDict (K : PySem.W.Frag) (a : Addr) (kvs : List (Int × Int)) : Prop where
  at_ : ∃ (o : Obj) (es : Array DictEntry) (ep : Nat), K.lookup a = some o ∧ o.ExactDict ∧ o.data = .dict es ep ∧ Paired (fun (p : Int × Int) (e : DictEntry) => e.hash = hashInt p.1 ∧ (∃ t, e.key = .int p.1 t) ∧ ∃ t, e.val = .int p.2 t) kvs es.toList
  nd : (kvs.map (·.1)).Nodup
theorem gd_of {P : Program} {w : World} {K : PySem.W.Frag} {h : Heap} {a : Addr} {kvs : List (Int × Int)} (G : GDict K a kvs) (KX : K.In h) :
    ∃ vs : List (Int × Value), h.DictOf (intKind P w) a vs ∧ ∀ i v, (kvs.find? fun e => decide (e.1 = i)).map (·.2) = some v → ∃ t, valueAt vs i = some (.int v t) := by
  obtain ⟨o, es, ep, ho, ex, hd, hp⟩ := G.at_
  have key : ∀ (kvs : List (Int × Int)) (l : List DictEntry), Paired (fun (p : Int × Int) (e : DictEntry) => e.hash = hashInt p.1 ∧ (∃ t, e.key = .int p.1 t) ∧ ∃ t, e.val = .int p.2 t) kvs l →
      ∃ vs : List (Int × Value), Pairs (intKind P w) l vs ∧ vs.map (·.1) = kvs.map (·.1) ∧ (∀ e ∈ l, ∃ k, (intKind P w).is k e.key = true ∧ e.hash = (intKind P w).hash k) ∧
        ∀ i v, (kvs.find? fun e => decide (e.1 = i)).map (·.2) = some v → ∃ t, valueAt vs i = some (.int v t) := by
    intro kvs l hp
    induction hp with
    | nil => exact ⟨[], .nil, rfl, fun e he => (by cases he), fun i v h => (by cases h)⟩
    | cons h1 h2 ih =>
      rename_i p e kvs l
      obtain ⟨hh, ⟨t, hk⟩, u, hv⟩ := h1
      obtain ⟨vs, i1, i2, i3, i4⟩ := ih
      refine ⟨(p.1, e.val) :: vs, .cons (by rw [hk]; exact intKind_is P w p.1 t) rfl i1, by rw [List.map_cons, List.map_cons, i2], fun e' he' => ?_, fun i v h => ?_⟩
      · rcases List.mem_cons.mp he' with rfl | he'
        · exact ⟨p.1, by rw [hk]; exact intKind_is P w p.1 t, hh⟩
        · exact i3 e' he'
      · unfold valueAt
        rw [List.find?_cons] at h ⊢
        by_cases q : p.1 = i
        · rw [decide_eq_true q] at h
          rw [decide_eq_true (show ((p.1, e.val) : Int × Value).1 = i from q)]
          have ev : p.2 = v := Option.some.inj h
          exact ⟨u, by rw [← ev]; exact congrArg some hv⟩
        · rw [decide_eq_false q] at h
          rw [decide_eq_false (show ¬ ((p.1, e.val) : Int × Value).1 = i from q)]
          exact i4 i v h
  obtain ⟨vs, i1, i2, i3, i4⟩ := key kvs es.toList hp
  exact ⟨vs, ⟨o, es, ep, KX a o ho, ex, hd, fun e he => i3 e (by simpa using he), i1, by rw [i2]; exact G.nd⟩, i4⟩
def tGd (a : Addr) (kvs : List (Int × Int)) (ty : TE) : TE := fun σ H Q => ty σ H fun y H1 => ∃ i v, y = .int i ∧ (kvs.find? fun e => decide (e.1 = i)).map (·.2) = some v ∧ Q (.int v) H1
theorem gd {x : Str} {a : Addr} {kvs : List (Int × Int)} {i : Expr} {ty : TE} {p pos : Pos} (h : X.mg x = some (.ref a)) (G : GDict X.K a kvs) (hi : PE X i ty) (hs : NoSl i) (hg : Gl X x := by rfl) (hd : (x == ("__debug__" : Str)) = false := by decide) :
    PE X (.Subscript (.Name x p) i pos) (tGd a kvs ty) := by
  intro pins s σ H Q I q
  refine subD_of PySem.F.slot_dict_getitem.lookup hs (thn (gt h hg hd pins s σ H (fun v H' => v = .ref a ∧ ty σ H' fun y H1 => ∃ i v, y = .int i ∧ (kvs.find? fun e => decide (e.1 = i)).map (·.2) = some v ∧ Q (.int v) H1) I ⟨rfl, q⟩)
    fun u s1 ⟨x, H1, I1, rx, ex, q1⟩ => thn (hi pins s1 σ H1 _ I1 q1) fun iv s2 ⟨y, H2, I2, ry, j, v, ey, hv, q2⟩ => ?_)
  subst ex ey
  obtain rfl : u = Value.ref a := rx
  obtain ⟨t, rfl⟩ := ry
  obtain ⟨vs, hdd, hf⟩ := gd_of (P := X.prog) (w := X.w) G I2.kIn
  obtain ⟨t', hv'⟩ := hf j v hv
  have m := hdd.mapOf
  exact ⟨m.typeIs, wpAny_getItem_of (intKind_is X.prog X.w j t) m hv' ⟨.int v, H2, I2.tok _, ⟨_, rfl⟩, q2⟩⟩
end
section
variable {X : Cx}
theorem pe_fldK (K : PySem.W.Frag) {e : Expr} {f : Str} {pos : Pos} {ta : TE} (he : PE X e ta) (hb : attributeBase e f X.env (eval e X.env) = eval e X.env) (hK : X.K = K := by rfl) : PE X (.Attribute e f pos) (tFld K ta f) := by
  subst hK
  exact pe_fld he hb
theorem ix_listK (K : PySem.W.Frag) (hK : X.K = K := by rfl) : IxR X (rIxL K) := by
  subst hK
  exact ix_list
theorem ix_tupK (K : PySem.W.Frag) (hK : X.K = K := by rfl) : IxR X (rIxT K) := by
  subst hK
  exact ix_tup
theorem call_len_seqK (K : PySem.W.Frag) (hK : X.K = K := by rfl) : CallR X (.builtin "len") (fun xs H Q => ∃ p ys, xs = [.ref p] ∧ (SqL K H p ys ∨ SqT K H p ys) ∧ Q (.int ys.length) H) := by
  subst hK
  exact call_len_seq
theorem pg_tupK (K : PySem.W.Frag) {es : List Expr} {k : Nat} {t : TGs} {n : Nat} {pos : Pos} (hc : X.calm = true) (h : PGs X es t) (hK : X.K = K := by rfl)
    (hn : (assignEach es X.env).length = n := by rfl) (hst : (assignEach es X.env).findIdx? (·.1) = none := by rfl) : PG X (.Tuple es k pos) (gTup K n t) := by
  subst hK
  exact pg_tup hc h hn hst
end
theorem for_it {J : It} {n : Nat} {g : TG} {tb : TS} {D : Ends} {σ : St} {H : Hp} (Pv : Nat → St → Hp → Prop) (h0 : Pv 0 σ H) (hgo : ∀ i σ H, i < n → Pv i σ H → J.go i H) (hst : ∀ σ H, Pv n σ H → J.stop n H)
    (hs : ∀ i σ H x H', i < n → Pv i σ H → J.yld i H x H' → g x σ H' fun σ2 H2 => tb { D with nx := Pv (i + 1), ct := Pv (i + 1), bk := D.nx } σ2 H2) (hd : ∀ σ H, Pv n σ H → D.nx σ H) :
    ∃ W : Nat → Nat → St → Hp → Prop, (∃ m, W 0 m σ H) ∧ ∀ i m σ H, W i m σ H →
      (J.stop i H ∧ D.nx σ H) ∨ (J.go i H ∧ ∃ N : St → Hp → Prop, (∀ σ' H', N σ' H' → ∃ m', m' < m ∧ W (i + 1) m' σ' H') ∧ ∀ x H', J.yld i H x H' → g x σ H' fun σ2 H2 => tb { D with nx := N, ct := N, bk := D.nx } σ2 H2) := by
  refine ⟨fun i m σ H => m = n - i ∧ i ≤ n ∧ Pv i σ H, ⟨n, by simp, Nat.zero_le _, h0⟩, ?_⟩
  rintro i m σ H ⟨rfl, hi, p⟩
  by_cases hlt : i < n
  · exact .inr ⟨hgo i σ H hlt p, Pv (i + 1), fun σ' H' p' => ⟨n - (i + 1), by omega, rfl, hlt, p'⟩, fun x H' y => hs i σ H x H' hlt p y⟩
  · have e : i = n := by omega
    subst e
    exact .inl ⟨hst σ H p, hd σ H p⟩
theorem lc_it {J : It} {n : Nat} {g : TG} {tt : TT} {te : TE} {vs : List Nat} {σ : St} {H1 : Hp} {D : Addr} {Qd : Hp → Prop} (Pv : Nat → Hp → Prop) (h0 : Pv 0 (upd H1 D (.lst []))) (hgo : ∀ i H, i < n → Pv i H → J.go i H) (hst : ∀ H, Pv n H → J.stop n H)
    (hs : ∀ i H x H', i < n → Pv i H → J.yld i H x H' → g x (wipe σ vs) H' fun σ2 H2 => wipe σ2 vs = wipe σ vs ∧ tt σ2 H2 fun b H3 =>
      if b = true then te σ2 H3 fun y H4 => ∃ acc, H4 D = some (.lst acc) ∧ acc.length < sizeLine ∧ Pv (i + 1) (upd H4 D (.lst (acc ++ [y]))) else Pv (i + 1) H3) (hd : ∀ H, Pv n H → Qd H) :
    ∃ W : Nat → Nat → Hp → Prop, (∃ m, W 0 m (upd H1 D (.lst []))) ∧ ∀ i m H, W i m H →
      (J.stop i H ∧ Qd H) ∨ (J.go i H ∧ ∃ Nx : Hp → Prop, (∀ H', Nx H' → ∃ m', m' < m ∧ W (i + 1) m' H') ∧ ∀ x H', J.yld i H x H' → g x (wipe σ vs) H' fun σ2 H2 => wipe σ2 vs = wipe σ vs ∧ tt σ2 H2 fun b H3 =>
        if b = true then te σ2 H3 fun y H4 => ∃ acc, H4 D = some (.lst acc) ∧ acc.length < sizeLine ∧ Nx (upd H4 D (.lst (acc ++ [y]))) else Nx H3) := by
  refine ⟨fun i m H => m = n - i ∧ i ≤ n ∧ Pv i H, ⟨n, by simp, Nat.zero_le _, h0⟩, ?_⟩
  rintro i m H ⟨rfl, hi, p⟩
  by_cases hlt : i < n
  · exact .inr ⟨hgo i H hlt p, Pv (i + 1), fun H' p' => ⟨n - (i + 1), by omega, rfl, hlt, p'⟩, fun x H' y => hs i H x H' hlt p y⟩
  · have e : i = n := by omega
    subst e
    exact .inl ⟨hst H p, hd H p⟩
theorem for_itN {J : It} {n : Nat} {g : TG} {tb : TS} {D : Ends} {σ : St} {H : Hp} (Pv : Nat → St → Hp → Prop) (h0 : Pv 0 σ H) (hgo : ∀ i σ H, i < n → Pv i σ H → J.go i H) (hst : ∀ σ H, Pv n σ H → J.stop n H)
    (hs : ∀ (D' : Ends) i σ H x H', (∀ σ' H', Pv (i + 1) σ' H' → D'.nx σ' H') → i < n → Pv i σ H → J.yld i H x H' → g x σ H' (tb D')) (hd : ∀ σ H, Pv n σ H → D.nx σ H) :
    ∃ W : Nat → Nat → St → Hp → Prop, (∃ m, W 0 m σ H) ∧ ∀ i m σ H, W i m σ H →
      (J.stop i H ∧ D.nx σ H) ∨ (J.go i H ∧ ∃ N : St → Hp → Prop, (∀ σ' H', N σ' H' → ∃ m', m' < m ∧ W (i + 1) m' σ' H') ∧ ∀ x H', J.yld i H x H' → g x σ H' fun σ2 H2 => tb { D with nx := N, ct := N, bk := D.nx } σ2 H2) :=
  for_it Pv h0 hgo hst (fun i σ H x H' hi p y => hs _ i σ H x H' (fun _ _ z => z) hi p y) hd
theorem for_listN {K : PySem.W.Frag} {a : Addr} {xs : List V} {g : TG} {tb : TS} {D : Ends} {σ : St} {H : Hp} (Pv : Nat → St → Hp → Prop) (h0 : Pv 0 σ H) (hl : ∀ i σ H, i ≤ xs.length → Pv i σ H → SqL K H a xs)
    (hs : ∀ (D' : Ends) i x σ H, (∀ σ' H', Pv (i + 1) σ' H' → D'.nx σ' H') → xs[i]? = some x → Pv i σ H → g x σ H (tb D')) (hd : ∀ σ H, Pv xs.length σ H → D.nx σ H) :
    ∃ W : Nat → Nat → St → Hp → Prop, (∃ m, W 0 m σ H) ∧ ∀ i m σ H, W i m σ H →
      ((Itl K a).stop i H ∧ D.nx σ H) ∨ ((Itl K a).go i H ∧ ∃ N : St → Hp → Prop, (∀ σ' H', N σ' H' → ∃ m', m' < m ∧ W (i + 1) m' σ' H') ∧ ∀ x H', (Itl K a).yld i H x H' → g x σ H' fun σ2 H2 => tb { D with nx := N, ct := N, bk := D.nx } σ2 H2) :=
  for_list Pv h0 hl (fun i x σ H e p => hs _ i x σ H (fun _ _ z => z) e p) hd
theorem for_tupN {K : PySem.W.Frag} {a : Addr} {xs : List V} {g : TG} {tb : TS} {D : Ends} {σ : St} {H : Hp} (Pv : Nat → St → Hp → Prop) (h0 : Pv 0 σ H) (hl : ∀ i σ H, i ≤ xs.length → Pv i σ H → SqT K H a xs)
    (hs : ∀ (D' : Ends) i x σ H, (∀ σ' H', Pv (i + 1) σ' H' → D'.nx σ' H') → xs[i]? = some x → Pv i σ H → g x σ H (tb D')) (hd : ∀ σ H, Pv xs.length σ H → D.nx σ H) :
    ∃ W : Nat → Nat → St → Hp → Prop, (∃ m, W 0 m σ H) ∧ ∀ i m σ H, W i m σ H →
      ((Itt K a).stop i H ∧ D.nx σ H) ∨ ((Itt K a).go i H ∧ ∃ N : St → Hp → Prop, (∀ σ' H', N σ' H' → ∃ m', m' < m ∧ W (i + 1) m' σ' H') ∧ ∀ x H', (Itt K a).yld i H x H' → g x σ H' fun σ2 H2 => tb { D with nx := N, ct := N, bk := D.nx } σ2 H2) :=
  for_tup Pv h0 hl (fun i x σ H e p => hs _ i x σ H (fun _ _ z => z) e p) hd
theorem while_byN {c : TT} {tb : TS} {D : Ends} {σ : St} {H : Hp} (Pv : St → Hp → Prop) (μ : St → Hp → Nat) (h0 : Pv σ H)
    (hs : ∀ (D' : Ends) σ H, (∀ σ' H', Pv σ' H' → μ σ' H' < μ σ H → D'.nx σ' H') → Pv σ H → c σ H fun b H1 => if b = true then tb D' σ H1 else D.nx σ H1)
    (mono : ∀ σ H Q Q', (∀ b H1, Q b H1 → Q' b H1) → c σ H Q → c σ H Q') : tWhile c tb D σ H :=
  while_by Pv μ h0 (fun σ H p => hs _ σ H (fun _ _ a b => ⟨a, b⟩) p) mono
theorem for_tupR {K : PySem.W.Frag} {a : Addr} {xs : List V} {g : TG} {tb : TS} {D : Ends} {σ : St} {H : Hp} (Rt : VK) (Pv : Nat → St → Hp → Prop) (h0 : Pv 0 σ H) (hR : ∀ v H, Rt v H → D.rt v H) (hl : ∀ i σ H, i ≤ xs.length → Pv i σ H → SqT K H a xs)
    (hs : ∀ (D' : Ends) i x σ H, (∀ v H, Rt v H → D'.rt v H) → (∀ σ' H', Pv (i + 1) σ' H' → D'.nx σ' H') → xs[i]? = some x → Pv i σ H → g x σ H (tb D')) (hd : ∀ σ H, Pv xs.length σ H → D.nx σ H) :
    ∃ W : Nat → Nat → St → Hp → Prop, (∃ m, W 0 m σ H) ∧ ∀ i m σ H, W i m σ H →
      ((Itt K a).stop i H ∧ D.nx σ H) ∨ ((Itt K a).go i H ∧ ∃ N : St → Hp → Prop, (∀ σ' H', N σ' H' → ∃ m', m' < m ∧ W (i + 1) m' σ' H') ∧ ∀ x H', (Itt K a).yld i H x H' → g x σ H' fun σ2 H2 => tb { D with nx := N, ct := N, bk := D.nx } σ2 H2) :=
  for_tup Pv h0 hl (fun i x σ H e p => hs _ i x σ H hR (fun _ _ z => z) e p) hd
theorem for_rangeR {lo : Int} {n : Nat} {g : TG} {tb : TS} {D : Ends} {σ : St} {H : Hp} (Rt : VK) (Pv : Nat → St → Hp → Prop) (h0 : Pv 0 σ H) (hR : ∀ v H, Rt v H → D.rt v H)
    (hs : ∀ (D' : Ends) i σ H, (∀ v H, Rt v H → D'.rt v H) → (∀ σ' H', Pv (i + 1) σ' H' → D'.nx σ' H') → i < n → Pv i σ H → g (.int (lo + i)) σ H (tb D')) (hd : ∀ σ H, Pv n σ H → D.nx σ H) :
    ∃ W : Nat → Nat → St → Hp → Prop, (∃ m, W 0 m σ H) ∧ ∀ i m σ H, W i m σ H →
      ((Itr lo n).stop i H ∧ D.nx σ H) ∨ ((Itr lo n).go i H ∧ ∃ N : St → Hp → Prop, (∀ σ' H', N σ' H' → ∃ m', m' < m ∧ W (i + 1) m' σ' H') ∧ ∀ x H', (Itr lo n).yld i H x H' → g x σ H' fun σ2 H2 => tb { D with nx := N, ct := N, bk := D.nx } σ2 H2) :=
  for_range Pv h0 (fun i σ H e p => hs _ i σ H hR (fun _ _ z => z) e p) hd
theorem hideN {g : (St → Hp → Prop) → Prop} {N : St → Hp → Prop} (h : ∀ N', N' = N → g N') : g N := h N rfl
theorem sp_eq {sp : Sp} {vs vs' : List V} {H : Hp} {Q : VK} {E : XK} (e : vs = vs') (h : sp vs' H Q E) : sp vs H Q E := e ▸ h
theorem sqP {t u : TS} {D : Ends} {σ : St} {H : Hp} {R : (St → Hp → Prop) → Prop} (r : R (u D)) (m : ∀ D' : Ends, R D'.nx → t D' σ H) : tSeq t u D σ H := m { D with nx := u D } r
theorem notin1 {a b : Addr} (h : a ≠ b) : a ∉ [b] := fun z => h (List.mem_singleton.mp z)
theorem Same.upd {H H' : Hp} {a : Addr} {o : HO} (s : Same H H') (h : H a = Option.none) : Same H (upd H' a o) := fun b u e => by
  rw [upd_ne (ne_of_none e h)]
  exact s b u e
theorem Same.new {H : Hp} {a : Addr} {o : HO} (h : H a = Option.none) : Same H (L2.upd H a o) := (Same.refl H).upd h
def Keep (own : List Addr) (H H' : Hp) : Prop := ∀ b o, H b = some o → b ∉ own → H' b = some o
theorem Same.keep {H H' : Hp} (s : Same H H') (own : List Addr) : Keep own H H' := fun b o e _ => s b o e
theorem Keep.trans {own : List Addr} {H H1 H2 : Hp} (a : Keep own H H1) (b : Keep own H1 H2) : Keep own H H2 := fun c o e n => b c o (a c o e n) n
theorem Keep.upd {own : List Addr} {H H' : Hp} {a : Addr} {o : HO} (k : Keep own H H') (h : a ∈ own ∨ H a = Option.none) : Keep own H (L2.upd H' a o) := fun b u e n => by
  rw [upd_ne (fun q => ?_)]
  · exact k b u e n
  · subst q
    rcases h with h | h
    · exact n h
    · rw [h] at e
      cases e
structure Refs {α : Type} (R : Addr → α → Prop) (as : List Addr) (xs : List α) : Prop where
  len : as.length = xs.length
  at_ : ∀ (j : Nat) (a : Addr) (x : α), as[j]? = some a → xs[j]? = some x → R a x
section
variable {α : Type} {R R' : Addr → α → Prop} {as bs : List Addr} {xs ys : List α}
theorem Refs.nil : Refs R [] [] := ⟨rfl, fun j a x h => (by cases h)⟩
theorem Refs.imp (h : Refs R as xs) (f : ∀ a x, R a x → R' a x) : Refs R' as xs := ⟨h.len, fun j a x h1 h2 => f a x (h.at_ j a x h1 h2)⟩
theorem Refs.get {j : Nat} {x : α} (h : Refs R as xs) (hx : xs[j]? = some x) : ∃ a, as[j]? = some a ∧ R a x := by
  have hj := (List.getElem?_eq_some_iff.mp hx).1
  have hj' : j < as.length := by rw [h.len]; exact hj
  have e : as[j]? = some as[j] := List.getElem?_eq_getElem hj'
  exact ⟨_, e, h.at_ j _ x e hx⟩
theorem Refs.getA {j : Nat} {a : Addr} (h : Refs R as xs) (ha : as[j]? = some a) : ∃ x, xs[j]? = some x ∧ R a x := by
  have hj := (List.getElem?_eq_some_iff.mp ha).1
  have hj' : j < xs.length := by rw [← h.len]; exact hj
  have e : xs[j]? = some xs[j] := List.getElem?_eq_getElem hj'
  exact ⟨_, e, h.at_ j a _ ha e⟩
theorem Refs.append (h : Refs R as xs) (h' : Refs R bs ys) : Refs R (as ++ bs) (xs ++ ys) := by
  refine ⟨by rw [List.length_append, List.length_append, h.len, h'.len], fun j a x h1 h2 => ?_⟩
  by_cases q : j < as.length
  · rw [List.getElem?_append_left q] at h1
    rw [List.getElem?_append_left (by rw [← h.len]; exact q)] at h2
    exact h.at_ j a x h1 h2
  · rw [List.getElem?_append_right (by omega)] at h1
    rw [List.getElem?_append_right (by rw [← h.len]; omega), ← h.len] at h2
    exact h'.at_ _ a x h1 h2
theorem Refs.one {a : Addr} {x : α} (h : R a x) : Refs R [a] [x] := ⟨rfl, fun j b y h1 h2 => by
  cases j with
  | zero =>
    have e1 : a = b := Option.some.inj h1
    have e2 : x = y := Option.some.inj h2
    rw [← e1, ← e2]
    exact h
  | succ j => cases h1⟩
theorem Refs.snoc {a : Addr} {x : α} (h : Refs R as xs) (hx : R a x) : Refs R (as ++ [a]) (xs ++ [x]) := h.append (Refs.one hx)
theorem Refs.take (h : Refs R as xs) (n : Nat) : Refs R (as.take n) (xs.take n) := by
  refine ⟨by rw [List.length_take, List.length_take, h.len], fun j a x h1 h2 => ?_⟩
  rw [List.getElem?_take] at h1 h2
  split at h1
  · rename_i q
    rw [if_pos q] at h2
    exact h.at_ j a x h1 h2
  · cases h1
theorem Refs.drop (h : Refs R as xs) (n : Nat) : Refs R (as.drop n) (xs.drop n) := by
  refine ⟨by rw [List.length_drop, List.length_drop, h.len], fun j a x h1 h2 => ?_⟩
  rw [List.getElem?_drop] at h1 h2
  exact h.at_ _ a x h1 h2
end
def LstOf {α : Type} (H : Hp) (l : Addr) (R : Addr → α → Prop) (xs : List α) : Prop := ∃ as, H l = some (.lst (as.map V.ref)) ∧ Refs R as xs
theorem map_get {α β : Type} {f : α → β} {l : List α} {i : Nat} {y : β} (h : (l.map f)[i]? = some y) : ∃ x, l[i]? = some x ∧ y = f x := by
  rw [List.getElem?_map] at h
  cases e : l[i]? with
  | none => rw [e] at h; cases h
  | some x => rw [e] at h; exact ⟨x, rfl, (Option.some.inj h).symm⟩
theorem get_map' {α β : Type} {f : α → β} {l : List α} {i : Nat} {x : α} (h : l[i]? = some x) : (l.map f)[i]? = some (f x) := by
  rw [List.getElem?_map, h]
  rfl
theorem iteB {b : Bool} {A B : Prop} (h1 : b = true → A) (h2 : b = false → B) : if b = true then A else B := by
  cases b
  · exact iteF (h2 rfl)
  · exact iteT (h1 rfl)
end L2
namespace L2
open PySem PySem.Spec PyProof.Rows
def Ev (t : TE) (σ : St) (H : Hp) (v : V) : Prop := ∀ Q : VK, Q v H → t σ H Q
def EvA (t : TA) (σ : St) (H : Hp) (vs : List V) : Prop := ∀ Q : List V → Hp → Prop, Q vs H → t σ H Q
def EvT (t : TT) (σ : St) (H : Hp) (b : Bool) : Prop := ∀ Q : Bool → Hp → Prop, Q b H → t σ H Q
section
variable {K : PySem.W.Frag} {σ : St} {H : Hp} {ta tb tc td ty : TE} {tt tu : TT} {tr : TA} {v x y : V} {a C dx : Addr} {fs : List (Str × V)} {f : Str} {i j : Int} {xs ys : List V} {b c : Bool}
theorem ev_var {n : Nat} (h : σ[n]? = some (some v)) : Ev (tVar n) σ H v := fun Q q => ⟨v, h, q⟩
theorem ev_c : Ev (tC v) σ H v := fun Q q => q
theorem ev_fld (h : Ev ta σ H (.ref a)) (ha : H a = some (.ins C dx fs)) (c : Cls K C) (n : NoAttr K C f) (l : fs.lookup f = some v) : Ev (tFld K ta f) σ H v :=
  fun Q q => h _ ⟨a, C, dx, fs, v, rfl, ha, c, n, l, q⟩
theorem ev_i {g : Int → Int → V} (h1 : Ev ta σ H (.int i)) (h2 : Ev tb σ H (.int j)) : Ev (tOp (rI0 g) ta tb) σ H (g i j) := fun Q q => h1 _ (h2 _ ⟨i, j, rfl, rfl, q⟩)
theorem ev_neg (h1 : Ev ta σ H (.int i)) : Ev (tUn (rU fun i => .int (-i)) ta) σ H (.int (-i)) := fun Q q => h1 _ ⟨i, rfl, q⟩
theorem ev_eqI (h1 : Ev ta σ H (.int i)) (h2 : Ev tb σ H (.int j)) : Ev (tOp rEq ta tb) σ H (.bl (decide (i = j))) := fun Q q => h1 _ (h2 _ ⟨rfl, by
  have e : decide (V.int i = V.int j) = decide (i = j) := by
    by_cases h : i = j
    · rw [h]; simp
    · rw [decide_eq_false h, decide_eq_false (fun z => h (V.int.inj z))]
  rw [e]
  exact q⟩)
theorem ev_neI (h1 : Ev ta σ H (.int i)) (h2 : Ev tb σ H (.int j)) : Ev (tOp rNe ta tb) σ H (.bl (!decide (i = j))) := fun Q q => h1 _ (h2 _ ⟨rfl, by
  have e : decide (V.int i = V.int j) = decide (i = j) := by
    by_cases h : i = j
    · rw [h]; simp
    · rw [decide_eq_false h, decide_eq_false (fun z => h (V.int.inj z))]
  rw [e]
  exact q⟩)
theorem ev_isN (h1 : Ev ta σ H x) : Ev (tOp (fun x y H Q => y = .non ∧ Q (.bl (decide (x = .non))) H) ta (tC .non)) σ H (.bl (decide (x = .non))) := fun Q q => h1 _ ⟨rfl, q⟩
theorem ev_ixL (h1 : Ev ta σ H (.ref a)) (h2 : Ev tb σ H (.int i)) (hs : SqL K H a xs) (hx : atI xs i = some v) : Ev (tOp (rIxL K) ta tb) σ H v := fun Q q => h1 _ (h2 _ ⟨a, xs, i, v, rfl, rfl, hs, hx, q⟩)
theorem ev_ixT (h1 : Ev ta σ H (.ref a)) (h2 : Ev tb σ H (.int i)) (hs : SqT K H a xs) (hx : atI xs i = some v) : Ev (tOp (rIxT K) ta tb) σ H v := fun Q q => h1 _ (h2 _ ⟨a, xs, i, v, rfl, rfl, hs, hx, q⟩)
theorem ev_and (h1 : Ev ta σ H (.bl b)) (h2 : b = true → Ev tb σ H (.bl c)) : Ev (tAndV ta tb) σ H (.bl (b && c)) := fun Q q => h1 _ ⟨b, rfl, by
  cases b
  · exact iteF q
  · exact iteT (h2 rfl _ q)⟩
theorem ev_not (h1 : Ev ta σ H (.bl b)) : Ev (tNotV ta) σ H (.bl (!b)) := fun Q q => h1 _ ⟨b, rfl, q⟩
theorem ev_in (h1 : Ev ta σ H x) (h2 : Ev tb σ H (.ref a)) (hs : SqL K H a xs ∨ SqT K H a xs) (fx : flatV x = true) (fs : xs.all flatV = true) : Ev (tOp (rIn K false) ta tb) σ H (.bl (inV x xs)) := fun Q q => h1 _ (h2 _ ⟨a, xs, rfl, hs, fx, fs, q⟩)
theorem ev_notin (h1 : Ev ta σ H x) (h2 : Ev tb σ H (.ref a)) (hs : SqL K H a xs ∨ SqT K H a xs) (fx : flatV x = true) (fs : xs.all flatV = true) : Ev (tOp (rIn K true) ta tb) σ H (.bl (!inV x xs)) := fun Q q => h1 _ (h2 _ ⟨a, xs, rfl, hs, fx, fs, q⟩)
theorem ev_chain {g g' : Int → Int → Bool} {k : Int} (h1 : Ev ta σ H (.int i)) (h2 : Ev tb σ H (.int j)) (h3 : Ev tc σ H (.int k)) : Ev (tChain (rI0 fun i j => .bl (g i j)) (rI0 fun i j => .bl (g' i j)) ta tb tc) σ H (.bl (g i j && g' j k)) :=
  fun Q q => h1 _ (h2 _ ⟨i, j, rfl, rfl, g i j, rfl, by
    cases e : g i j
    · rw [e] at q; exact iteF q
    · rw [e] at q; exact iteT (h3 _ ⟨j, k, rfl, rfl, q⟩)⟩)
theorem ev_din {o : Option V} (h1 : Ev ty σ H y) (h2 : Ev td σ H (.ref a)) (g : DGet H a y o) : Ev (tDIn ty td) σ H (.bl o.isSome) := fun Q q => h1 _ (h2 _ ⟨a, o, rfl, g, q⟩)
theorem ev_dnotin {o : Option V} (h1 : Ev ty σ H y) (h2 : Ev td σ H (.ref a)) (g : DGet H a y o) : Ev (tDNotIn ty td) σ H (.bl (!o.isSome)) := fun Q q => h1 _ (h2 _ ⟨a, o, rfl, g, q⟩)
theorem ev_dget (h1 : Ev td σ H (.ref a)) (h2 : Ev ty σ H y) (g : DGet H a y (some v)) : Ev (tDGet td ty) σ H v := fun Q q => h1 _ (h2 _ ⟨a, v, rfl, g, q⟩)
theorem eva_nil : EvA tNil σ H [] := fun Q q => q
theorem eva_cons (h1 : Ev ta σ H v) (h2 : EvA tr σ H xs) : EvA (tCons ta tr) σ H (v :: xs) := fun Q q => h1 _ (h2 _ q)
theorem eva1 (h1 : Ev ta σ H v) : EvA (tCons ta tNil) σ H [v] := eva_cons h1 eva_nil
theorem ev_len (h : EvA tr σ H [.ref a]) (hs : SqL K H a xs ∨ SqT K H a xs) : Ev (tCB (fun xs H Q => ∃ p ys, xs = [.ref p] ∧ (SqL K H p ys ∨ SqT K H p ys) ∧ Q (.int ys.length) H) tr) σ H (.int xs.length) := fun Q q => h _ ⟨a, xs, rfl, hs, q⟩
theorem ev_int1 (h : EvA tr σ H [.bl b]) : Ev (tCB (fun xs H Q => (∃ i, xs = [.int i] ∧ Q (.int i) H) ∨ ∃ k, xs = [.bl k] ∧ Q (.int (if k then 1 else 0)) H) tr) σ H (.int (if b then 1 else 0)) := fun Q q => h _ (.inr ⟨b, rfl, q⟩)
theorem ev_gd {kvs : List (Int × Int)} {z : Int} (h : Ev ty σ H (.int i)) (hv : (kvs.find? fun e => decide (e.1 = i)).map (·.2) = some z) : Ev (tGd a kvs ty) σ H (.int z) := fun Q q => h _ ⟨i, z, rfl, hv, q⟩
theorem et_b (h : Ev ta σ H (.bl b)) : EvT (tB ta) σ H b := fun Q q => h _ ⟨b, rfl, q⟩
theorem et_t (h : Ev ta σ H (.bl b)) : EvT (tTest ta) σ H b := fun Q q => h _ ⟨b, rfl, q⟩
theorem et_and (h1 : EvT tt σ H b) (h2 : b = true → EvT tu σ H c) : EvT (tAnd tt tu) σ H (b && c) := fun Q q => h1 _ (by
  cases b
  · exact iteF q
  · exact iteT (h2 rfl _ q))
theorem et_or (h1 : EvT tt σ H b) (h2 : b = false → EvT tu σ H c) : EvT (tOr tt tu) σ H (b || c) := fun Q q => h1 _ (by
  cases b
  · exact iteF (h2 rfl _ q)
  · exact iteT q)
theorem et_lst (h : Ev ta σ H (.ref a)) (hs : SqL K H a xs) : EvT (fun σ H Q => ta σ H fun x H' => ∃ k, TruV K x H' k ∧ Q k H') σ H (!xs.isEmpty) := fun Q q => h _ ⟨_, .inl ⟨xs, hs, rfl⟩, q⟩
theorem gn_of {n : Nat} {Q : L2.St → Hp → Prop} (q : Q (σ.set n (some v)) H) : gName n v σ H Q := q
theorem te_of {Q : VK} (h : Ev ta σ H v) (q : Q v H) : ta σ H Q := h _ q
theorem tt_of {Q : Bool → Hp → Prop} (h : EvT tt σ H b) (q : Q b H) : tt σ H Q := h _ q
theorem tc_of {sp : Sp} {dvs : List V} {E : XK} {Q : VK} (h : EvA tr σ H xs) (q : sp (xs ++ dvs) H Q E) : tCall sp dvs E tr σ H Q := h _ q
theorem tm_of {sp : Sp} {dvs : List V} {E : XK} {Q : VK} {m : Str} (h : Ev ta σ H (.ref a)) (ha : H a = some (.ins C dx fs)) (hl : fs.lookup m = none) (h2 : EvA tr σ H xs) (q : sp (.ref a :: (xs ++ dvs)) H Q E) : tMeth C m sp dvs E ta tr σ H Q := h _ ⟨a, dx, fs, rfl, ha, hl, h2 _ q⟩
theorem tk_of {sp : Sp} {dvs : List V} {E : XK} {Q : VK} (h : EvA tr σ H xs) (q : ∀ x dx, H x = none → H dx = none → dx ≠ x → sp (.ref x :: (xs ++ dvs)) (upd (upd H dx (.own x)) x (.ins C dx [])) (fun v H2 => v = .non ∧ Q (.ref x) H2) E) : tMake C sp dvs E tr σ H Q := h _ q
theorem st_if {t u : TS} {D : Ends} (h : EvT tt σ H b) (h1 : b = true → t D σ H) (h2 : b = false → u D σ H) : tIfS tt t u D σ H := h _ (iteB h1 h2)
variable {D : Ends} {n k : Nat} {te tv to ti : TE} {z : V} {l : Addr}
theorem st_set (h : Ev te σ H v) (q : D.nx (σ.set n (some v)) H) : tAsg te (gName n) D σ H := h _ q
theorem st_ret (h : Ev te σ H v) (q : D.rt v H) : tRet te D σ H := h _ q
theorem st_augI {g : Int → Int → Int} (hx : σ[n]? = some (some (.int i))) (h : Ev te σ H (.int j)) (q : D.nx (σ.set n (some (.int (g i j)))) H) : tAug n te (ipI g) D σ H := ⟨_, hx, h _ ⟨i, j, rfl, rfl, q⟩⟩
theorem st_dput {H4 : Hp} (hv : Ev tv σ H v) (hd : Ev td σ H (.ref a)) (hy : Ev ty σ H y) (g : DPut H a y v H4) (q : D.nx σ H4) : sDPut td ty tv D σ H := hv _ (hd _ (hy _ ⟨a, H4, rfl, g, q⟩))
theorem st_fld (hv : Ev tv σ H y) (ha : Ev ta σ H (.ref a)) (e : H a = some (.ins C dx fs)) (c : Cls K C) (nn : NoAttr K C f) (hl : fs.length < 1000) (q : D.nx σ (upd H a (.ins C dx (putF f y fs)))) : sFld K ta tv f D σ H :=
  hv _ (ha _ ⟨a, C, dx, fs, rfl, e, c, nn, hl, q⟩)
theorem st_append (ho : Ev to σ H (.ref l)) (hl : H l = some (.lst xs)) (ha : Ev te σ H y) (hz : xs.length < sizeLine) (q : D.nx σ (upd H l (.lst (xs ++ [y])))) : tDrop (tBM K "list" rAppend to (tCons te tNil)) D σ H :=
  ho _ ⟨.inl ⟨rfl, xs, SqL.of hl⟩, ha _ ⟨l, xs, y, rfl, rfl, hl, hz, q⟩⟩
theorem st_setitem {k : Int} {j : Nat} (hv : Ev tv σ H v) (ho : Ev to σ H (.ref a)) (hi : Ev ti σ H (.int k)) (hp : H a = some (.lst xs)) (hj : ixN xs.length k = some j) (q : D.nx σ (upd H a (.lst (xs.set j v)))) : tAsg tv (gSub to ti rSetL) D σ H :=
  hv _ (ho _ (hi _ ⟨a, xs, k, j, rfl, rfl, hp, hj, q⟩))
theorem st_if_and {t u : TS} (h : EvT tt σ H b) (h1 : b = true → tu σ H fun c H1 => if c = true then t D σ H1 else u D σ H1) (h2 : b = false → u D σ H) : tIfS (tAnd tt tu) t u D σ H :=
  h _ (by
    cases b
    · exact iteF (iteF (h2 rfl))
    · exact iteT (h1 rfl))
theorem st_set_if (h : EvT tt σ H b) (h1 : b = true → ta σ H fun x H1 => D.nx (σ.set n (some x)) H1) (h2 : b = false → tb σ H fun x H1 => D.nx (σ.set n (some x)) H1) : tAsg (tIf tt ta tb) (gName n) D σ H :=
  h _ (iteB h1 h2)
theorem cutV_take {xs : List V} {k : Nat} (h : k ≤ xs.length) : cutV xs none (some (k : Int)) = xs.take k := by
  unfold cutV
  rw [HT.sIx_none, HT.sIx_nat, Nat.min_eq_left h]
  rfl
theorem cutV_drop {xs : List V} {k : Nat} (h : k ≤ xs.length) : cutV xs (some (k : Int)) none = xs.drop k := by
  unfold cutV
  rw [HT.sIx_none, HT.sIx_nat, Nat.min_eq_left h]
  exact List.take_of_length_le (by rw [List.length_drop]; exact Nat.le_refl _)
theorem cutV_mid {xs : List V} {i j : Nat} (h : j ≤ xs.length) (hi : i ≤ j) : cutV xs (some (i : Int)) (some (j : Int)) = (xs.drop i).take (j - i) := by
  unfold cutV
  rw [HT.sIx_nat, HT.sIx_nat, Nat.min_eq_left h, Nat.min_eq_left (Nat.le_trans hi h)]
theorem st_extend {ys : List V} (ho : Ev to σ H (.ref l)) (hl : H l = some (.lst xs)) (ha : EvA tr σ H ys) (hz : xs.length + ys.length ≤ sizeLine) (q : ∀ p, H p = none → D.nx σ (upd (upd H p (.lst ys)) l (.lst (xs ++ ys)))) :
    tDrop (tBM K "list" rExtend to (tCons (tLst tr) tNil)) D σ H :=
  ho _ ⟨.inl ⟨rfl, xs, SqL.of hl⟩, ha _ ⟨by omega, fun p hp => ⟨l, p, xs, ys, rfl, rfl, by rw [upd_ne (ne_of_none hl hp)]; exact hl, upd_same, hz, q p hp⟩⟩⟩
theorem ixN_nat {m j : Nat} (h : j < m) : ixN m (j : Int) = some j := by
  unfold ixN
  rw [if_pos (by omega), if_pos (by omega)]
  simp
end
end L2
namespace L2
open PySem PySem.Spec PyProof.Rows
theorem big_line {n i : Nat} (h : n ≤ 1000000) (hi : i < n) : i < sizeLine := by
  have := sizeLine_eq
  omega
section
variable {K : PySem.W.Frag} {a : Addr} {xs : List V} {g : TG} {tt : TT} {te : TE} {vs : List Nat} {σ : St} {H1 : Hp} {Qd : Addr → Hp → Prop}
theorem lcG {J : It} {n : Nat} (hb : n ≤ 1000000) (hgo : ∀ i H', i < n → Same H1 H' → J.go i H') (hst : ∀ H', Same H1 H' → J.stop n H') (R : Nat → List V → Hp → Prop) (h0 : ∀ D, H1 D = Option.none → R 0 [] (upd H1 D (.lst [])))
    (turn : ∀ D i x acc H' H'' (Nx : Hp → Prop), H1 D = Option.none → i < n → Same H1 H' → H' D = some (.lst acc) → R i acc H' → J.yld i H' x H'' →
      (∀ y H4, Same H' H4 → R (i + 1) (acc ++ [y]) (upd H4 D (.lst (acc ++ [y]))) → ∃ acc, H4 D = some (.lst acc) ∧ acc.length < sizeLine ∧ Nx (upd H4 D (.lst (acc ++ [y])))) →
      (∀ H3, Same H' H3 → R (i + 1) acc H3 → Nx H3) →
      g x (wipe σ vs) H'' fun σ2 H2 => wipe σ2 vs = wipe σ vs ∧ tt σ2 H2 fun b H3 =>
        if b = true then te σ2 H3 fun y H4 => ∃ acc, H4 D = some (.lst acc) ∧ acc.length < sizeLine ∧ Nx (upd H4 D (.lst (acc ++ [y]))) else Nx H3)
    (fin : ∀ D acc H', H1 D = Option.none → Same H1 H' → H' D = some (.lst acc) → acc.length ≤ n → R n acc H' → Qd D H') :
    ∀ D, H1 D = Option.none → ∃ W : Nat → Nat → Hp → Prop, (∃ m, W 0 m (upd H1 D (.lst []))) ∧ ∀ i m H, W i m H →
      (J.stop i H ∧ Qd D H) ∨ (J.go i H ∧ ∃ Nx : Hp → Prop, (∀ H', Nx H' → ∃ m', m' < m ∧ W (i + 1) m' H') ∧ ∀ x H', J.yld i H x H' → g x (wipe σ vs) H' fun σ2 H2 => wipe σ2 vs = wipe σ vs ∧ tt σ2 H2 fun b H3 =>
        if b = true then te σ2 H3 fun y H4 => ∃ acc, H4 D = some (.lst acc) ∧ acc.length < sizeLine ∧ Nx (upd H4 D (.lst (acc ++ [y]))) else Nx H3) := by
  intro D hD
  refine lc_it (n := n) (Qd := fun H => Qd D H) (fun i H' => ∃ acc, Same H1 H' ∧ H' D = some (.lst acc) ∧ acc.length ≤ i ∧ R i acc H') ⟨[], Same.new hD, upd_same, Nat.le_refl _, h0 D hD⟩
    (fun i H' hi ⟨acc, s, _⟩ => hgo i H' hi s) (fun H' ⟨acc, s, _⟩ => hst H' s) ?_ (fun H' ⟨acc, s, h, hl, r⟩ => fin D acc H' hD s h hl r)
  rintro i H' x H'' hi ⟨acc, s, h, hl, r⟩ y
  refine turn D i x acc H' H'' _ hD hi s h r y (fun z H4 s4 r4 => ?_) (fun H3 s3 r3 => ?_)
  · exact ⟨acc, s4 _ _ h, big_line hb (by omega), acc ++ [z], (s.trans s4).upd hD, upd_same, by rw [List.length_append, List.length_singleton]; omega, r4⟩
  · exact ⟨acc, s.trans s3, s3 _ _ h, by omega, r3⟩
theorem lcL (hs : SqL K H1 a xs) (hb : xs.length ≤ 1000000) (R : Nat → List V → Hp → Prop) (h0 : ∀ D, H1 D = Option.none → R 0 [] (upd H1 D (.lst [])))
    (turn : ∀ D i x acc H' (Nx : Hp → Prop), H1 D = Option.none → xs[i]? = some x → Same H1 H' → H' D = some (.lst acc) → R i acc H' →
      (∀ y H4, Same H' H4 → R (i + 1) (acc ++ [y]) (upd H4 D (.lst (acc ++ [y]))) → ∃ acc, H4 D = some (.lst acc) ∧ acc.length < sizeLine ∧ Nx (upd H4 D (.lst (acc ++ [y])))) →
      (∀ H3, Same H' H3 → R (i + 1) acc H3 → Nx H3) →
      g x (wipe σ vs) H' fun σ2 H2 => wipe σ2 vs = wipe σ vs ∧ tt σ2 H2 fun b H3 =>
        if b = true then te σ2 H3 fun y H4 => ∃ acc, H4 D = some (.lst acc) ∧ acc.length < sizeLine ∧ Nx (upd H4 D (.lst (acc ++ [y]))) else Nx H3)
    (fin : ∀ D acc H', H1 D = Option.none → Same H1 H' → H' D = some (.lst acc) → acc.length ≤ xs.length → R xs.length acc H' → Qd D H') :
    ∀ D, H1 D = Option.none → ∃ W : Nat → Nat → Hp → Prop, (∃ m, W 0 m (upd H1 D (.lst []))) ∧ ∀ i m H, W i m H →
      ((Itl K a).stop i H ∧ Qd D H) ∨ ((Itl K a).go i H ∧ ∃ Nx : Hp → Prop, (∀ H', Nx H' → ∃ m', m' < m ∧ W (i + 1) m' H') ∧ ∀ x H', (Itl K a).yld i H x H' → g x (wipe σ vs) H' fun σ2 H2 => wipe σ2 vs = wipe σ vs ∧ tt σ2 H2 fun b H3 =>
        if b = true then te σ2 H3 fun y H4 => ∃ acc, H4 D = some (.lst acc) ∧ acc.length < sizeLine ∧ Nx (upd H4 D (.lst (acc ++ [y]))) else Nx H3) :=
  lcG (n := xs.length) hb (fun i H' hi s => ⟨xs, xs[i], s.seq hs, List.getElem?_eq_getElem hi⟩) (fun H' s => ⟨xs, s.seq hs, Nat.le_refl _⟩) R h0
    (fun D i x acc H' H'' Nx hD hi s h r y k1 k2 => by
      obtain ⟨rfl, y⟩ := y
      exact turn D i x acc _ Nx hD (y xs (s.seq hs)) s h r k1 k2) fin
theorem lcR {n : Nat} (hb : n ≤ 1000000) (R : Nat → List V → Hp → Prop) (h0 : ∀ D, H1 D = Option.none → R 0 [] (upd H1 D (.lst [])))
    (turn : ∀ D i acc H' (Nx : Hp → Prop), H1 D = Option.none → i < n → Same H1 H' → H' D = some (.lst acc) → R i acc H' →
      (∀ y H4, Same H' H4 → R (i + 1) (acc ++ [y]) (upd H4 D (.lst (acc ++ [y]))) → ∃ acc, H4 D = some (.lst acc) ∧ acc.length < sizeLine ∧ Nx (upd H4 D (.lst (acc ++ [y])))) →
      (∀ H3, Same H' H3 → R (i + 1) acc H3 → Nx H3) →
      g (.int ((i : Nat) : Int)) (wipe σ vs) H' fun σ2 H2 => wipe σ2 vs = wipe σ vs ∧ tt σ2 H2 fun b H3 =>
        if b = true then te σ2 H3 fun y H4 => ∃ acc, H4 D = some (.lst acc) ∧ acc.length < sizeLine ∧ Nx (upd H4 D (.lst (acc ++ [y]))) else Nx H3)
    (fin : ∀ D acc H', H1 D = Option.none → Same H1 H' → H' D = some (.lst acc) → acc.length ≤ n → R n acc H' → Qd D H') :
    ∀ D, H1 D = Option.none → ∃ W : Nat → Nat → Hp → Prop, (∃ m, W 0 m (upd H1 D (.lst []))) ∧ ∀ i m H, W i m H →
      ((Itr 0 n).stop i H ∧ Qd D H) ∨ ((Itr 0 n).go i H ∧ ∃ Nx : Hp → Prop, (∀ H', Nx H' → ∃ m', m' < m ∧ W (i + 1) m' H') ∧ ∀ x H', (Itr 0 n).yld i H x H' → g x (wipe σ vs) H' fun σ2 H2 => wipe σ2 vs = wipe σ vs ∧ tt σ2 H2 fun b H3 =>
        if b = true then te σ2 H3 fun y H4 => ∃ acc, H4 D = some (.lst acc) ∧ acc.length < sizeLine ∧ Nx (upd H4 D (.lst (acc ++ [y]))) else Nx H3) :=
  lcG (n := n) hb (fun i H' hi s => hi) (fun H' s => Nat.le_refl _) R h0
    (fun D i x acc H' H'' Nx hD hi s h r y k1 k2 => by
      obtain ⟨rfl, rfl⟩ := y
      rw [Int.zero_add]
      exact turn D i acc _ Nx hD hi s h r k1 k2) fin
end
theorem ty_of {σ : St} {H : Hp} {F G : Hp → Prop} (q : F H) : tYes σ H (fun b H3 => if b = true then F H3 else G H3) := by
  show if true = true then F H else G H
  exact iteT q
end L2
namespace Ice
open PySem PySem.Spec PyProof.Rows L2
open Kg58 (Pen Told State Team runs running soonest minus after short ended singles marked cancel parts washed lengthOf minutesOf)
open My (PosL lefts lessAll Tab TabOk NSt StOk ToldOk RepT)
def top (i : Nat) : Stmt := PySem.Challenge.pw_icepenalties_s01_answers.main.body.getD i (.Pass ⟨0, 0, 0, 0⟩)
abbrev s_Penalty_init : Stmt := inClass (top 32) 0
abbrev s_Penalty_less : Stmt := inClass (top 32) 1
abbrev s_running : Stmt := top 33
abbrev s_until_one_is_over : Stmt := top 34
abbrev s_with_less_left : Stmt := top 35
abbrev s_box_after : Stmt := top 36
abbrev s_times_over : Stmt := top 37
abbrev s_skaters_with : Stmt := top 38
abbrev s_minor_to_end : Stmt := top 39
abbrev s_of_kind : Stmt := top 40
abbrev s_boxes_of : Stmt := top 41
abbrev s_too_many : Stmt := top 42
abbrev s_without_first_minor : Stmt := top 43
abbrev s_threes : Stmt := top 44
abbrev s_well_told : Stmt := top 45
abbrev s_row_well_told : Stmt := top 46
abbrev s_Game_init : Stmt := inClass (top 47) 0
abbrev s_Game_clock : Stmt := inClass (top 47) 1
abbrev s_Game_stop : Stmt := inClass (top 47) 2
abbrev s_Game_signal : Stmt := inClass (top 47) 3
abbrev s_Game_goal : Stmt := inClass (top 47) 4
abbrev s_Game_now : Stmt := inClass (top 47) 5
abbrev s_Game_box : Stmt := inClass (top 47) 6
abbrev s_Game_minutes : Stmt := inClass (top 47) 7
abbrev s_Game_till : Stmt := inClass (top 47) 8
abbrev s_Game_may_be : Stmt := inClass (top 47) 9
abbrev s_Game_boxes_at : Stmt := inClass (top 47) 10
abbrev s_Game_pass_to : Stmt := inClass (top 47) 11
abbrev s_Game_both_skaters : Stmt := inClass (top 47) 12
abbrev s_Game_strength : Stmt := inClass (top 47) 13
abbrev s_Game_end_minor : Stmt := inClass (top 47) 14
abbrev s_Game_tells_of_one_out : Stmt := inClass (top 47) 15
abbrev s_Game_bring : Stmt := inClass (top 47) 16
abbrev s_Game_note : Stmt := inClass (top 47) 17
abbrev s_may_begin : Stmt := top 48
abbrev s_read_calls : Stmt := top 49
abbrev s_answer_of_team : Stmt := top 50
abbrev s_answer_in_game : Stmt := top 51
abbrev s_answers : Stmt := top 52
theorem sc_Penalty_init : FnScope ["self", "player", "kind", "left", "counts"] ["self", "player", "kind", "left", "counts"] (defScope s_Penalty_init) := ⟨rfl, rfl, rfl, by decide +kernel, rfl, by decide +kernel, by decide +kernel⟩
theorem sc_Penalty_less : FnScope ["self", "seconds"] ["self", "seconds"] (defScope s_Penalty_less) := ⟨rfl, rfl, rfl, by decide +kernel, rfl, by decide +kernel, by decide +kernel⟩
theorem sc_running : FnScope ["box", "answer", "players", "counting", "penalty", "runs"] ["box"] (defScope s_running) := ⟨rfl, rfl, rfl, by decide +kernel, rfl, by decide +kernel, by decide +kernel⟩
theorem sc_until_one_is_over : FnScope ["box", "runs", "k"] ["box"] (defScope s_until_one_is_over) := ⟨rfl, rfl, rfl, by decide +kernel, rfl, by decide +kernel, by decide +kernel⟩
theorem sc_with_less_left : FnScope ["box", "seconds", "runs", "k"] ["box", "seconds"] (defScope s_with_less_left) := ⟨rfl, rfl, rfl, by decide +kernel, rfl, by decide +kernel, by decide +kernel⟩
theorem sc_box_after : FnScope ["box", "seconds", "step", "penalty"] ["box", "seconds"] (defScope s_box_after) := ⟨rfl, rfl, rfl, by decide +kernel, rfl, by decide +kernel, by decide +kernel⟩
theorem sc_times_over : FnScope ["box", "time", "times", "places", "step", "place", "served", "kept", "penalty", "k"] ["box", "time"] (defScope s_times_over) := ⟨rfl, rfl, rfl, by decide +kernel, rfl, by decide +kernel, by decide +kernel⟩
theorem sc_skaters_with : FnScope ["box", "skaters", "runs", "counting", "k"] ["box", "skaters"] (defScope s_skaters_with) := ⟨rfl, rfl, rfl, by decide +kernel, rfl, by decide +kernel, by decide +kernel⟩
theorem sc_minor_to_end : FnScope ["box", "runs", "found", "k"] ["box"] (defScope s_minor_to_end) := ⟨rfl, rfl, rfl, by decide +kernel, rfl, by decide +kernel, by decide +kernel⟩
theorem sc_of_kind : FnScope ["box", "kind", "penalty"] ["box", "kind"] (defScope s_of_kind) := ⟨rfl, rfl, rfl, by decide +kernel, rfl, by decide +kernel, by decide +kernel⟩
theorem sc_boxes_of : FnScope ["coming", "boxes", "team", "player", "told", "kind", "one", "other"] ["coming"] (defScope s_boxes_of) := ⟨rfl, rfl, rfl, by decide +kernel, rfl, by decide +kernel, by decide +kernel⟩
theorem sc_too_many : FnScope ["boxes", "coming", "team", "more", "against", "player", "kind"] ["boxes", "coming"] (defScope s_too_many) := ⟨rfl, rfl, rfl, by decide +kernel, rfl, by decide +kernel, by decide +kernel⟩
theorem sc_without_first_minor : FnScope ["signalled", "team", "k", "told", "kept"] ["signalled", "team"] (defScope s_without_first_minor) := ⟨rfl, rfl, rfl, by decide +kernel, rfl, by decide +kernel, by decide +kernel⟩
theorem sc_threes : FnScope ["row", "k"] ["row"] (defScope s_threes) := ⟨rfl, rfl, rfl, by decide +kernel, rfl, by decide +kernel, by decide +kernel⟩
theorem sc_well_told : FnScope ["team", "player", "kind"] ["team", "player", "kind"] (defScope s_well_told) := ⟨rfl, rfl, rfl, by decide +kernel, rfl, by decide +kernel, by decide +kernel⟩
theorem sc_row_well_told : FnScope ["row", "told"] ["row"] (defScope s_row_well_told) := ⟨rfl, rfl, rfl, by decide +kernel, rfl, by decide +kernel, by decide +kernel⟩
theorem sc_Game_init : FnScope ["self", "skaters"] ["self", "skaters"] (defScope s_Game_init) := ⟨rfl, rfl, rfl, by decide +kernel, rfl, by decide +kernel, by decide +kernel⟩
theorem sc_Game_clock : FnScope ["self", "time"] ["self", "time"] (defScope s_Game_clock) := ⟨rfl, rfl, rfl, by decide +kernel, rfl, by decide +kernel, by decide +kernel⟩
theorem sc_Game_stop : FnScope ["self", "time", "row", "coming"] ["self", "time", "row"] (defScope s_Game_stop) := ⟨rfl, rfl, rfl, by decide +kernel, rfl, by decide +kernel, by decide +kernel⟩
theorem sc_Game_signal : FnScope ["self", "team", "player", "kind", "told"] ["self", "team", "player", "kind"] (defScope s_Game_signal) := ⟨rfl, rfl, rfl, by decide +kernel, rfl, by decide +kernel, by decide +kernel⟩
theorem sc_Game_goal : FnScope ["self", "time", "team", "strength", "ended"] ["self", "time", "team"] (defScope s_Game_goal) := ⟨rfl, rfl, rfl, by decide +kernel, rfl, by decide +kernel, by decide +kernel⟩
theorem sc_Game_now : FnScope ["self"] ["self"] (defScope s_Game_now) := ⟨rfl, rfl, rfl, by decide +kernel, rfl, by decide +kernel, by decide +kernel⟩
theorem sc_Game_box : FnScope ["self", "team", "penalties", "answer", "penalty", "runs"] ["self", "team"] (defScope s_Game_box) := ⟨rfl, rfl, rfl, by decide +kernel, rfl, by decide +kernel, by decide +kernel⟩
theorem sc_Game_minutes : FnScope ["self", "team", "players", "answer", "player", "who", "of_team"] ["self", "team"] (defScope s_Game_minutes) := ⟨rfl, rfl, rfl, by decide +kernel, rfl, by decide +kernel, by decide +kernel⟩
theorem sc_Game_till : FnScope ["self", "team", "penalties", "answer", "penalty", "time"] ["self", "team"] (defScope s_Game_till) := ⟨rfl, rfl, rfl, by decide +kernel, rfl, by decide +kernel, by decide +kernel⟩
theorem sc_Game_may_be : FnScope ["self", "time"] ["self", "time"] (defScope s_Game_may_be) := ⟨rfl, rfl, rfl, by decide +kernel, rfl, by decide +kernel, by decide +kernel⟩
theorem sc_Game_boxes_at : FnScope ["self", "time", "box"] ["self", "time"] (defScope s_Game_boxes_at) := ⟨rfl, rfl, rfl, by decide +kernel, rfl, by decide +kernel, by decide +kernel⟩
theorem sc_Game_pass_to : FnScope ["self", "time"] ["self", "time"] (defScope s_Game_pass_to) := ⟨rfl, rfl, rfl, by decide +kernel, rfl, by decide +kernel, by decide +kernel⟩
theorem sc_Game_both_skaters : FnScope ["self", "box"] ["self"] (defScope s_Game_both_skaters) := ⟨rfl, rfl, rfl, by decide +kernel, rfl, by decide +kernel, by decide +kernel⟩
theorem sc_Game_strength : FnScope ["self", "team", "skaters"] ["self", "team"] (defScope s_Game_strength) := ⟨rfl, rfl, rfl, by decide +kernel, rfl, by decide +kernel, by decide +kernel⟩
theorem sc_Game_end_minor : FnScope ["self", "team", "box", "k"] ["self", "team"] (defScope s_Game_end_minor) := ⟨rfl, rfl, rfl, by decide +kernel, rfl, by decide +kernel, by decide +kernel⟩
theorem sc_Game_tells_of_one_out : FnScope ["self", "coming", "team", "player", "kind"] ["self", "coming"] (defScope s_Game_tells_of_one_out) := ⟨rfl, rfl, rfl, by decide +kernel, rfl, by decide +kernel, by decide +kernel⟩
theorem sc_Game_bring : FnScope ["self", "coming", "boxes", "team", "player", "kind"] ["self", "coming"] (defScope s_Game_bring) := ⟨rfl, rfl, rfl, by decide +kernel, rfl, by decide +kernel, by decide +kernel⟩
theorem sc_Game_note : FnScope ["self", "who", "kind"] ["self", "who", "kind"] (defScope s_Game_note) := ⟨rfl, rfl, rfl, by decide +kernel, rfl, by decide +kernel, by decide +kernel⟩
theorem sc_may_begin : FnScope ["skaters"] ["skaters"] (defScope s_may_begin) := ⟨rfl, rfl, rfl, by decide +kernel, rfl, by decide +kernel, by decide +kernel⟩
theorem sc_read_calls : FnScope ["calls", "read", "k", "call", "end", "numbers", "row"] ["calls"] (defScope s_read_calls) := ⟨rfl, rfl, rfl, by decide +kernel, rfl, by decide +kernel, by decide +kernel⟩
theorem sc_answer_of_team : FnScope ["game", "call", "team"] ["game", "call", "team"] (defScope s_answer_of_team) := ⟨rfl, rfl, rfl, by decide +kernel, rfl, by decide +kernel, by decide +kernel⟩
theorem sc_answer_in_game : FnScope ["game", "call", "numbers", "row"] ["game", "call", "numbers", "row"] (defScope s_answer_in_game) := ⟨rfl, rfl, rfl, by decide +kernel, rfl, by decide +kernel, by decide +kernel⟩
theorem sc_answers : FnScope ["calls", "told", "game", "call", "numbers", "row", "answer"] ["calls"] (defScope s_answers) := ⟨rfl, rfl, rfl, by decide +kernel, rfl, by decide +kernel, by decide +kernel⟩
structure Ad where
  CP : Addr
  CG : Addr
  tTEAMS : Addr
  tSERVED : Addr
  tMIN : Addr
  tSEC : Addr
  dWN : Addr
  srv : List Addr
structure Txt (K : PySem.W.Frag) (mg : Str → Option Value) (A : Ad) : Prop where
  clP : Cls K A.CP
  clG : Cls K A.CG
  p_player : NoAttr K A.CP "player"
  p_kind : NoAttr K A.CP "kind"
  p_left : NoAttr K A.CP "left"
  p_counts : NoAttr K A.CP "counts"
  g_skaters : NoAttr K A.CG "skaters"
  g_time : NoAttr K A.CG "time"
  g_boxes : NoAttr K A.CG "boxes"
  g_signalled : NoAttr K A.CG "signalled"
  g_goals : NoAttr K A.CG "goals"
  g_noted : NoAttr K A.CG "noted"
  g_majors : NoAttr K A.CG "majors"
  g_out : NoAttr K A.CG "out"
  mgP : mg "Penalty" = some (.ref A.CP)
  mgG : mg "Game" = some (.ref A.CG)
  BEGIN : ∃ t, mg "BEGIN" = some (.int (1) t)
  CLOCK : ∃ t, mg "CLOCK" = some (.int (2) t)
  STOP : ∃ t, mg "STOP" = some (.int (3) t)
  SIGNAL : ∃ t, mg "SIGNAL" = some (.int (4) t)
  GOAL : ∃ t, mg "GOAL" = some (.int (5) t)
  NOW : ∃ t, mg "NOW" = some (.int (6) t)
  BOX : ∃ t, mg "BOX" = some (.int (7) t)
  MINUTES : ∃ t, mg "MINUTES" = some (.int (8) t)
  WRONG : ∃ t, mg "WRONG" = some (.int (-1) t)
  NO_GAME : ∃ t, mg "NO_GAME" = some (.int (-2) t)
  OUT_OF_GAME : ∃ t, mg "OUT_OF_GAME" = some (.int (-4) t)
  TOO_MANY : ∃ t, mg "TOO_MANY" = some (.int (-5) t)
  FEWEST_SKATERS : ∃ t, mg "FEWEST_SKATERS" = some (.int (3) t)
  MOST_SKATERS : ∃ t, mg "MOST_SKATERS" = some (.int (6) t)
  LAST_PLAYER : ∃ t, mg "LAST_PLAYER" = some (.int (99) t)
  LAST_TIME : ∃ t, mg "LAST_TIME" = some (.int (6000) t)
  MOST_COUNTING : ∃ t, mg "MOST_COUNTING" = some (.int (2) t)
  MOST_PENALTIES : ∃ t, mg "MOST_PENALTIES" = some (.int (12) t)
  MAJORS_TO_BE_OUT : ∃ t, mg "MAJORS_TO_BE_OUT" = some (.int (3) t)
  NOBODY : ∃ t, mg "NOBODY" = some (.int (-1) t)
  MINOR : ∃ t, mg "MINOR" = some (.int (0) t)
  MAJOR : ∃ t, mg "MAJOR" = some (.int (1) t)
  MISCONDUCT : ∃ t, mg "MISCONDUCT" = some (.int (2) t)
  DOUBLE_MINOR : ∃ t, mg "DOUBLE_MINOR" = some (.int (3) t)
  MATCH : ∃ t, mg "MATCH" = some (.int (4) t)
  EXPULSION : ∃ t, mg "EXPULSION" = some (.int (5) t)
  len_ : mg "len" = none
  min_ : mg "min" = none
  max_ : mg "max" = none
  sum_ : mg "sum" = none
  any_ : mg "any" = none
  all_ : mg "all" = none
  zip_ : mg "zip" = none
  range_ : mg "range" = none
  list_ : mg "list" = none
  int_ : mg "int" = none
  TEAMS : mg "TEAMS" = some (.ref A.tTEAMS)
  sqTEAMS : ∀ H, SqT K H A.tTEAMS [.int 0, .int 1]
  SERVED : mg "SERVED" = some (.ref A.tSERVED)
  sqSERVED : ∀ H, SqT K H A.tSERVED (A.srv.map V.ref)
  srvAt : ∀ k, k ≤ 5 → ∃ r, A.srv[k]? = some r ∧ (∀ H, SqT K H r ((parts k).map fun (n : Nat) => V.int (n : Int))) ∧ ∃ o, K.lookup r = some o ∧ o.cls = .type "tuple" ∧ o.dict = none
  MINUTES_NOTED : mg "MINUTES_NOTED" = some (.ref A.tMIN)
  sqMIN : ∀ H, SqT K H A.tMIN [.int 2, .int 5, .int 10, .int 4, .int 25, .int 20]
  SECONDS : mg "SECONDS" = some (.ref A.tSEC)
  sqSEC : ∀ H, SqT K H A.tSEC [.int 120, .int 300, .int 600]
  WHOLE_NUMBERS : mg "WHOLE_NUMBERS" = some (.ref A.dWN)
  gdWHOLE_NUMBERS : GDict K A.dWN [(1, 1), (2, 1), (3, 1), (4, 3), (5, 2), (6, 0), (7, 1), (8, 1), (9, 1)]
structure Def (K : PySem.W.Frag) (mg : Str → Option Value) (x : Str) (st : Stmt) (ps : List Str) (f : Addr) (fd : FuncData) : Prop where
  fn : Fun K x x st f fd
  mg : mg x = some (.ref f)
  b : Binds K fd ps []
structure MDef (K : PySem.W.Frag) (C : Addr) (m qual : Str) (st : Stmt) (ps : List Str) (f : Addr) (fd : FuncData) : Prop where
  fn : Fun K m qual st f fd
  me : Meth K C m f
  b : Binds K fd ps []
theorem bt_len : bootBuiltins "len" = some (.builtin "len") := PySem.boot_len
theorem bt_min : bootBuiltins "min" = some (.builtin "min") := boot_min
theorem bt_max : bootBuiltins "max" = some (.builtin "max") := boot_max
theorem bt_sum : bootBuiltins "sum" = some (.builtin "sum") := boot_sum
theorem bt_any : bootBuiltins "any" = some (.builtin "any") := boot_any
theorem bt_all : bootBuiltins "all" = some (.builtin "all") := boot_all
theorem bt_list : bootBuiltins "list" = some (.type "list") := PyProof.Rows.boot_list
theorem bt_int : bootBuiltins "int" = some (.type "int") := PyProof.Rows.boot_int
def pf (p : Pen) : List (Str × V) := putF "counts" (.bl p.counts) (putF "left" (.int p.left) (putF "kind" (.int p.kind) (putF "player" (.int p.player) [])))
theorem pf_player (p : Pen) : (pf p).lookup ("player" : Str) = some (.int p.player) := by
  unfold pf
  rw [lookup_putF, if_neg (by decide +kernel), lookup_putF, if_neg (by decide +kernel), lookup_putF, if_neg (by decide +kernel), lookup_putF, if_pos rfl]
theorem pf_kind (p : Pen) : (pf p).lookup ("kind" : Str) = some (.int p.kind) := by
  unfold pf
  rw [lookup_putF, if_neg (by decide +kernel), lookup_putF, if_neg (by decide +kernel), lookup_putF, if_pos rfl]
theorem pf_left (p : Pen) : (pf p).lookup ("left" : Str) = some (.int p.left) := by
  unfold pf
  rw [lookup_putF, if_neg (by decide +kernel), lookup_putF, if_pos rfl]
theorem pf_counts (p : Pen) : (pf p).lookup ("counts" : Str) = some (.bl p.counts) := by
  unfold pf
  rw [lookup_putF, if_pos rfl]
theorem pf_less (p : Pen) : (pf p).lookup ("less" : Str) = none := by
  unfold pf
  rw [lookup_putF, if_neg (by decide +kernel), lookup_putF, if_neg (by decide +kernel), lookup_putF, if_neg (by decide +kernel), lookup_putF, if_neg (by decide +kernel)]
  rfl
theorem putF_cons_ne {f g : Str} {v x : V} {r : List (Str × V)} (h : ¬ g = f) : putF f v ((g, x) :: r) = (g, x) :: putF f v r := if_neg h
theorem putF_cons_eq {f : Str} {v x : V} {r : List (Str × V)} : putF f v ((f, x) :: r) = (f, v) :: r := if_pos rfl
theorem pf_eq (p : Pen) : pf p = [(("player" : Str), V.int p.player), (("kind" : Str), V.int p.kind), (("left" : Str), V.int p.left), (("counts" : Str), V.bl p.counts)] := by
  have n1 : ¬ ("player" : Str) = "kind" := by decide +kernel
  have n2 : ¬ ("player" : Str) = "left" := by decide +kernel
  have n3 : ¬ ("player" : Str) = "counts" := by decide +kernel
  have n4 : ¬ ("kind" : Str) = "left" := by decide +kernel
  have n5 : ¬ ("kind" : Str) = "counts" := by decide +kernel
  have n6 : ¬ ("left" : Str) = "counts" := by decide +kernel
  have e1 : putF "kind" (.int p.kind) [(("player" : Str), V.int p.player)] = [(("player" : Str), V.int p.player), (("kind" : Str), V.int p.kind)] := putF_cons_ne n1
  have e2 : putF "left" (.int p.left) [(("player" : Str), V.int p.player), (("kind" : Str), V.int p.kind)] = [(("player" : Str), V.int p.player), (("kind" : Str), V.int p.kind), (("left" : Str), V.int p.left)] := (putF_cons_ne n2).trans (congrArg _ (putF_cons_ne n4))
  have e3 : putF "counts" (.bl p.counts) [(("player" : Str), V.int p.player), (("kind" : Str), V.int p.kind), (("left" : Str), V.int p.left)] = [(("player" : Str), V.int p.player), (("kind" : Str), V.int p.kind), (("left" : Str), V.int p.left), (("counts" : Str), V.bl p.counts)] :=
    (putF_cons_ne n3).trans (congrArg _ ((putF_cons_ne n5).trans (congrArg _ (putF_cons_ne n6))))
  show putF "counts" (.bl p.counts) (putF "left" (.int p.left) (putF "kind" (.int p.kind) [(("player" : Str), V.int p.player)])) = _
  rw [e1, e2, e3]
theorem pf_uncount (p : Pen) : putF "counts" (.bl false) (pf p) = pf (My.noCount p) := by
  rw [pf_eq, pf_eq, putF_cons_ne (by decide +kernel), putF_cons_ne (by decide +kernel), putF_cons_ne (by decide +kernel), putF_cons_eq]
  rfl
def PenAt (C : Addr) (H : Hp) (a : Addr) (p : Pen) : Prop := ∃ dx, H a = some (.ins C dx (pf p))
def TupAt (H : Hp) (a : Addr) (x : Told) : Prop := H a = some (.tup [.int x.team, .int x.player, .int x.kind])
def TupI (H : Hp) (a : Addr) (x : Int × Int × Int) : Prop := H a = some (.tup [.int x.1, .int x.2.1, .int x.2.2])
abbrev BoxAt (C : Addr) (H : Hp) (l : Addr) (ps : List Pen) : Prop := LstOf H l (PenAt C H) ps
abbrev ToldsAt (H : Hp) (l : Addr) (xs : List Told) : Prop := LstOf H l (TupAt H) xs
theorem PenAt.same {C : Addr} {H H' : Hp} {a : Addr} {p : Pen} (s : Same H H') (h : PenAt C H a p) : PenAt C H' a p := h.imp fun _ e => s _ _ e
theorem TupAt.same {H H' : Hp} {a : Addr} {x : Told} (s : Same H H') (h : TupAt H a x) : TupAt H' a x := s _ _ h
theorem BoxAt.same {C : Addr} {H H' : Hp} {l : Addr} {ps : List Pen} (s : Same H H') (h : BoxAt C H l ps) : BoxAt C H' l ps := by
  obtain ⟨as, h1, h2⟩ := h
  exact ⟨as, s _ _ h1, h2.imp fun a x => PenAt.same s⟩
theorem ToldsAt.same {H H' : Hp} {l : Addr} {xs : List Told} (s : Same H H') (h : ToldsAt H l xs) : ToldsAt H' l xs := by
  obtain ⟨as, h1, h2⟩ := h
  exact ⟨as, s _ _ h1, h2.imp fun a x => TupAt.same s⟩
end Ice
namespace Ice
open PySem PySem.Spec PyProof.Rows L2
open Kg58 (Pen Told State Team runs running soonest minus after short ended singles marked cancel parts washed lengthOf minutesOf)
open My (PosL lefts lessAll Tab TabOk NSt StOk ToldOk RepT)
theorem fput {f : Str} {v : V} {fs : List (Str × V)} {n : Nat} (h : fs.length ≤ n) : (putF f v fs).length ≤ n + 1 := Nat.le_trans (length_putF _ _ _) (Nat.succ_le_succ h)
theorem PenAt.updL {C : Addr} {H : Hp} {a D : Addr} {p : Pen} {acc acc' : List V} (h : PenAt C H a p) (hD : H D = some (.lst acc)) : PenAt C (upd H D (.lst acc')) a p := by
  obtain ⟨dx, e⟩ := h
  exact ⟨dx, by rw [upd_ne (ne_of e hD (by intro z; cases z))]; exact e⟩
theorem TupI.updL {H : Hp} {a D : Addr} {p : Int × Int × Int} {acc acc' : List V} (h : TupI H a p) (hD : H D = some (.lst acc)) : TupI (upd H D (.lst acc')) a p := by
  unfold TupI at h ⊢
  rw [upd_ne (ne_of h hD (by intro z; cases z))]
  exact h
inductive spPII (C : Addr) (H : Hp) (Q : VK) : List V → Prop
  | mk (x dx : Addr) (p : Pen) (h0 : H x = some (.ins C dx [])) (h1 : ∀ H' : Hp, PenAt C H' x p → (∀ b o, H b = some o → b ≠ x → H' b = some o) → Q .non H') : spPII C H Q [.ref x, .int p.player, .int p.kind, .int p.left, .bl p.counts]
def spPI (C : Addr) : Sp := fun vs H Q _ => spPII C H Q vs
inductive spLessI (C : Addr) (H : Hp) (Q : VK) : List V → Prop
  | mk (a : Addr) (p : Pen) (n : Nat) (h0 : PenAt C H a p) (h1 : n ≤ p.left) (h2 : ∀ (r : Addr) (H' : Hp), Same H H' → PenAt C H' r { p with left := p.left - n } → Q (.ref r) H') : spLessI C H Q [.ref a, .int n]
def spLess (C : Addr) : Sp := fun vs H Q _ => spLessI C H Q vs
inductive spRunI (C : Addr) (H : Hp) (Q : VK) : List V → Prop
  | mk (l : Addr) (ps : List Pen) (h0 : BoxAt C H l ps) (h1 : ps.length ≤ 1000) (h2 : ∀ (r : Addr) (H' : Hp), Same H H' → H' r = some (.lst ((runs [] 0 ps).map V.bl)) → Q (.ref r) H') : spRunI C H Q [.ref l]
def spRun (C : Addr) : Sp := fun vs H Q _ => spRunI C H Q vs
inductive spUntilI (C : Addr) (H : Hp) (Q : VK) : List V → Prop
  | mk (l : Addr) (ps : List Pen) (h0 : BoxAt C H l ps) (h1 : ps.length ≤ 1000) (h2 : ps ≠ []) (h3 : ∀ (m : Nat) (H' : Hp), Same H H' → soonest ps = some m → Q (.int m) H') : spUntilI C H Q [.ref l]
def spUntil (C : Addr) : Sp := fun vs H Q _ => spUntilI C H Q vs
inductive spWithI (C : Addr) (H : Hp) (Q : VK) : List V → Prop
  | mk (l : Addr) (ps : List Pen) (n m : Nat) (h0 : BoxAt C H l ps) (h1 : ps.length ≤ 1000) (h2 : soonest ps = some m) (h3 : n ≤ m) (h4 : ∀ (r : Addr) (H' : Hp), Same H H' → H r = Option.none → BoxAt C H' r (lessAll ps n) → Q (.ref r) H') : spWithI C H Q [.ref l, .int n]
def spWith (C : Addr) : Sp := fun vs H Q _ => spWithI C H Q vs
section
variable {P : Program} {w : World} {K : PySem.W.Frag} {mg : Str → Option Value} {base : Heap} {A : Ad}
theorem ok_PI {f : Addr} {fd : FuncData} (F : Fun K "__init__" "Penalty.__init__" s_Penalty_init f fd) (T : Txt K mg A) : FnOk P w K mg base CX0 1 f fd ["self", "player", "kind", "left", "counts"] (spPI A.CP) := by
  refine F.ok sc_Penalty_init (fun vs H Q E h => ?_) (fun cdv Ar outer s H vs Q E hr h => ?_)
  · obtain ⟨x, dx, p, _⟩ := h
    rfl
  · obtain ⟨x, dx, p, hx, k⟩ := h
    refine ⟨_, pss_cons (ps_fld (pv 0) (pv 1) rfl) (pss_cons (ps_fld (pv 0) (pv 2) rfl) (pss_cons (ps_fld (pv 0) (pv 3) rfl) (pss_one (ps_fld (pv 0) (pv 4) rfl)))), ?_⟩
    refine ⟨_, rfl, _, rfl, x, A.CP, dx, _, rfl, hx, T.clP, T.p_player, by decide, ?_⟩
    refine ⟨_, rfl, _, rfl, x, A.CP, dx, _, rfl, upd_same, T.clP, T.p_kind, Nat.lt_of_le_of_lt (fput (Nat.le_refl 0)) (by decide), ?_⟩
    refine ⟨_, rfl, _, rfl, x, A.CP, dx, _, rfl, upd_same, T.clP, T.p_left, Nat.lt_of_le_of_lt (fput (fput (Nat.le_refl 0))) (by decide), ?_⟩
    refine ⟨_, rfl, _, rfl, x, A.CP, dx, _, rfl, upd_same, T.clP, T.p_counts, Nat.lt_of_le_of_lt (fput (fput (fput (Nat.le_refl 0)))) (by decide), ?_⟩
    exact k _ ⟨dx, upd_same⟩ fun b o e hb => by rw [upd_ne hb, upd_ne hb, upd_ne hb, upd_ne hb]; exact e
theorem ok_less {f fI : Addr} {fd fdI : FuncData} (F : Fun K "less" "Penalty.less" s_Penalty_less f fd) (T : Txt K mg A) (mkP : Mk K A.CP fI) (G_Penalty_init : FnOk P w K mg base CX0 1 fI fdI ["self", "player", "kind", "left", "counts"] (spPI A.CP))
    (bI : Binds K fdI ["self", "player", "kind", "left", "counts"] []) : FnOk P w K mg base CX0 3 f fd ["self", "seconds"] (spLess A.CP) := by
  refine F.ok sc_Penalty_less (fun vs H Q E h => ?_) (fun cdv Ar outer s H vs Q E hr h => ?_)
  · obtain ⟨x, p, n, _⟩ := h
    rfl
  · obtain ⟨a, p, n, ⟨dx, ha⟩, hn, k⟩ := h
    refine ⟨_, (pss_one (ps_ret (pe_make mkP G_Penalty_init hr rfl T.mgP bI .nil pass0 (pa_cons (pe_fld (pv 0) rfl) (pa_cons (pe_fld (pv 0) rfl) (pa_cons (pe_op op_sub (pe_fld (pv 0) rfl) (pv 1)) (pa_cons (pe_fld (pv 0) rfl) pa_nil))))))), ?_⟩
    have e0 : Ev (tVar 0) (start ["self", "seconds"] [V.ref a, V.int n]) H (.ref a) := ev_var rfl
    refine tk_of (eva_cons (ev_fld e0 ha T.clP T.p_player (pf_player p)) (eva_cons (ev_fld e0 ha T.clP T.p_kind (pf_kind p)) (eva_cons (ev_i (ev_fld e0 ha T.clP T.p_left (pf_left p)) (ev_var rfl)) (eva1 (ev_fld e0 ha T.clP T.p_counts (pf_counts p)))))) ?_
    intro x dx' nx nd nex
    refine sp_eq (vs' := [V.ref x, V.int p.player, V.int p.kind, V.int ((p.left - n : Nat) : Int), V.bl p.counts]) ?_ ⟨x, dx', { p with left := p.left - n }, upd_same, fun H' hA kp => ⟨rfl, ?_⟩⟩
    · have e : ((p.left - n : Nat) : Int) = (p.left : Int) - n := by omega
      show [V.ref x, V.int p.player, V.int p.kind, V.int ((p.left : Int) - n), V.bl p.counts] = [V.ref x, V.int p.player, V.int p.kind, V.int ((p.left - n : Nat) : Int), V.bl p.counts]
      rw [e]
    · exact k x H' (Same.made nx nd kp) hA
end
end Ice
namespace Ice
open PySem PySem.Spec PyProof.Rows L2
open Kg58 (Pen Told State Team runs running soonest minus after short ended singles marked cancel parts washed lengthOf minutesOf)
open My (PosL lefts lessAll Tab TabOk NSt StOk ToldOk RepT)
section
variable {P : Program} {w : World} {K : PySem.W.Frag} {mg : Str → Option Value} {base : Heap} {A : Ad}
theorem small1 {n : Nat} (h : n ≤ 1000) : n < sizeLine := small1000 h
inductive RunI (H : Hp) (ps : List Pen) (l r d : Addr) (i : Nat) (H' : Hp) : L2.St → Prop
  | mk (v4 v5 : Option V) (kvs : List (Key × V)) (n : Nat) (acc : List Bool) (s5 : Same H H') (hr : H' r = some (.lst (acc.map V.bl))) (hd : H' d = some (.dK kvs)) (hk : kvs.length ≤ i) (ha : acc.length = i) (hn : n ≤ 2)
    (hs : ∀ q : Nat, (valV kvs (Sum.inl (q : Int))).isSome = ((ps.take i).map (·.player)).contains q) (he : runs [] 0 ps = acc ++ runs ((ps.take i).map (·.player)) n (ps.drop i)) : RunI H ps l r d i H' [some (.ref l), some (.ref r), some (.ref d), some (.int n), v4, v5]
theorem ok_run {f : Addr} {fd : FuncData} (F : Fun K "running" "running" s_running f fd) (T : Txt K mg A) : FnOk P w K mg base CX0 1 f fd ["box"] (spRun A.CP) := by
  refine F.ok sc_running (fun vs H Q E h => ?_) (fun cdv Ar outer s H vs Q E hr h => ?_)
  · obtain ⟨l, ps, _⟩ := h
    rfl
  · obtain ⟨l, ps, ⟨as, hl, hR⟩, hlen, k⟩ := h
    have hu := hu_of hr
    have nd := sc_running.nd
    refine ⟨_, (pss_cons (ps_set (i := 1) nd rfl (Or.inl rfl) (pe_lst pa_nil))
    (pss_cons (ps_set (i := 2) nd rfl (Or.inl rfl) pe_dnewK)
    (pss_cons (ps_set (i := 3) nd rfl (Or.inl rfl) pe_int)
    (pss_cons (ps_for PassesOwn.never rfl (pi_list (pv 0)) (pg_name (i := 4) nd rfl (Or.inl rfl))
      (pss_cons (ps_set (i := 5) nd rfl (Or.inl rfl) (pe_and (pe_cmp (pc_dnotin hu (pe_fld (pv 4) rfl) (pv 2))) (pe_one (pe_not (pe_and (pe_fld (pv 4) rfl) (pe_one (pe_cmpR op_eq (pv 3) (gi T.MOST_COUNTING) (nomark _))))))))
      (pss_cons (ps_if (pw_and (pt_val (pv 5)) (pw_and1 (pt_val (pe_fld (pv 4) rfl)))).pt
        (pss_one (ps_aug (i := 3) nd rfl (Or.inl rfl) pe_int ip_add))
        pss_nil)
      (pss_cons (ps_dput hu (pv 2) (pe_fld (pv 4) rfl) pe_bl rfl)
      (pss_one (ps_expr (pe_bm PySem.F.plainAttrs_list PySem.F.slot_list_append PySem.F.type_list_append mt_append (pv 1) (pa_cons (pv 5) pa_nil))))))))
    (pss_one (ps_ret (pv 1))))))), ?_⟩
    refine ⟨Nat.zero_le _, fun r hr1 => ?_⟩
    intro d hd
    have s1 : Same H (upd (upd H r (.lst [])) d (.dK [])) := (Same.new hr1).upd ((Same.new hr1).free hd)
    have hrd : r ≠ d := ne_of_none upd_same hd
    refine ⟨_, rfl, l, rfl, ⟨_, SqL.of (s1 _ _ hl)⟩, for_listN (K := K) (a := l) (xs := as.map V.ref) (fun i σ H' => RunI H ps l r d i H' σ)
      ⟨none, none, [], 0, [], s1, by rw [upd_ne hrd]; exact upd_same, upd_same, Nat.le_refl _, rfl, by omega, fun q => rfl, rfl⟩ (fun i σ H' _ h => by cases h with | mk _ _ _ _ _ s5 => exact SqL.of (s5 _ _ hl)) ?_ ?_⟩
    · intro D i y σ H' hD hi hI
      refine hideN fun N hN => ?_
      obtain ⟨v4, v5, kvs, n, acc, s5, hr5, hd5, hkl, hal, hn2, hseen, hruns⟩ := hI
      obtain ⟨a, ha, rfl⟩ := map_get hi
      obtain ⟨p, hp, dx, hpa⟩ := hR.getA ha
      subst hN
      have hpa' := s5 _ _ hpa
      have hil : i < ps.length := (List.getElem?_eq_some_iff.mp hp).1
      have hdr : ps.drop i = p :: ps.drop (i + 1) := by
        rw [List.drop_eq_getElem_cons hil]
        congr 1
        exact (List.getElem?_eq_some_iff.mp hp).2
      have htk : (ps.take (i + 1)).map (·.player) = (ps.take i).map (·.player) ++ [p.player] := by
        rw [My.take_snoc hp, List.map_append]
        rfl
      generalize hsn : (ps.take i).map (·.player) = seen at hseen hruns htk
      have eb : ((!(valV kvs (Sum.inl (p.player : Int))).isSome) && !(p.counts && decide ((n : Int) = 2))) = (!seen.contains p.player && (!p.counts || decide (n < 2))) := by
        rw [hseen p.player]
        have : decide ((n : Int) = 2) = !decide (n < 2) := by
          by_cases q : n < 2
          · rw [decide_eq_true q, decide_eq_false (by omega)]; rfl
          · rw [decide_eq_false q, decide_eq_true (by omega)]; rfl
        rw [this]
        cases p.counts <;> cases decide (n < 2) <;> rfl
      refine st_set (v := .bl (!seen.contains p.player && (!p.counts || decide (n < 2)))) ?_ ?_
      · rw [← eb]
        exact ev_and (ev_dnotin (ev_fld (ev_var rfl) hpa' T.clP T.p_player (pf_player p)) (ev_var rfl) (DGet.k (k := Sum.inl (p.player : Int)) hd5))
          (fun _ => ev_not (ev_and (ev_fld (ev_var rfl) hpa' T.clP T.p_counts (pf_counts p)) (fun _ => ev_eqI (ev_var rfl) ev_c)))
      · rw [hdr, My.runs_cons] at hruns
        generalize hrb : (!seen.contains p.player && (!p.counts || decide (n < 2))) = rb at hruns
        have fin : ∀ n' : Nat, n' ≤ 2 → n' = (if (rb && p.counts) = true then n + 1 else n) →
            D.nx [some (V.ref l), some (V.ref r), some (V.ref d), some (V.int (n' : Int)), some (V.ref a), some (V.bl rb)] (upd (upd H' d (.dK (putK kvs (Sum.inl (p.player : Int)) (.bl true)))) r (.lst (acc.map V.bl ++ [.bl rb]))) := by
          intro n' hn' en
          refine hD _ _ ⟨_, _, putK kvs (Sum.inl (p.player : Int)) (.bl true), n', acc ++ [rb], ?_, ?_, ?_, ?_, ?_, hn', fun q => ?_, ?_⟩
          · exact (s5.upd ((Same.new hr1).free hd)).upd hr1
          · rw [upd_same, List.map_append]; rfl
          · rw [upd_ne hrd.symm, upd_same]
          · exact Nat.le_trans (length_putK _ _ _) (by omega)
          · rw [List.length_append, List.length_singleton, hal]
          · rw [htk, valV_put]
            by_cases e : q = p.player
            · rw [e, if_pos rfl]
              simp
            · rw [if_neg (fun z => e (by have := Sum.inl.inj z; omega)), hseen q]
              simp [e]
          · rw [hruns, htk, en]
            simp
        refine st_if (et_and (et_b (ev_var rfl)) (fun _ => et_b (ev_fld (ev_var rfl) hpa' T.clP T.p_counts (pf_counts p)))) (fun hc => ?_) (fun hc => ?_)
        · refine st_augI rfl ev_c ?_
          refine st_dput ev_c (ev_var rfl) (ev_fld (ev_var rfl) hpa' T.clP T.p_player (pf_player p)) (DPut.k (k := Sum.inl (p.player : Int)) hd5 (Nat.lt_of_le_of_lt hkl (small1 (by omega)))) ?_
          refine st_append (ev_var rfl) (by rw [upd_ne hrd]; exact hr5) (ev_var rfl) (by rw [List.length_map, hal]; exact small1 (by omega)) ?_
          have hn : n < 2 := by
            rw [← hrb] at hc
            simp at hc
            rcases hc with ⟨⟨_, h1⟩, h2⟩
            rw [h2] at h1
            simpa using h1
          exact fin (n + 1) (by omega) (by rw [if_pos hc])
        · refine st_dput ev_c (ev_var rfl) (ev_fld (ev_var rfl) hpa' T.clP T.p_player (pf_player p)) (DPut.k (k := Sum.inl (p.player : Int)) hd5 (Nat.lt_of_le_of_lt hkl (small1 (by omega)))) ?_
          refine st_append (ev_var rfl) (by rw [upd_ne hrd]; exact hr5) (ev_var rfl) (by rw [List.length_map, hal]; exact small1 (by omega)) ?_
          exact fin n (by omega) (by rw [if_neg (by rw [hc]; decide)])
    · rintro σ H' ⟨v4, v5, kvs, n, acc, s5, hr5, hd5, hkl, hal, hn2, hseen, hruns⟩
      refine st_ret (ev_var rfl) ?_
      rw [List.length_map, hR.len, List.drop_length] at hruns
      have e : acc = runs [] 0 ps := by
        rw [hruns]
        show acc = acc ++ []
        rw [List.append_nil]
      rw [e] at hr5
      exact k r H' s5 hr5
end
end Ice
namespace Ice
open PySem PySem.Spec PyProof.Rows L2
open Kg58 (Pen Told State Team runs running soonest minus after short ended singles marked cancel parts washed lengthOf minutesOf)
open My (PosL lefts lessAll Tab TabOk NSt StOk ToldOk RepT)
section
variable {P : Program} {w : World} {K : PySem.W.Frag} {mg : Str → Option Value} {base : Heap} {A : Ad}
theorem bools_get {l : List Bool} {i : Nat} {b : Bool} (h : l[i]? = some b) : atI (l.map V.bl) (i : Int) = some (.bl b) := atI_nat (get_map' h)
theorem refs_get {l : List Addr} {i : Nat} {a : Addr} (h : l[i]? = some a) : atI (l.map V.ref) (i : Int) = some (.ref a) := atI_nat (get_map' h)
theorem ints_get {l : List Int} {i : Nat} {a : Int} (h : l[i]? = some a) : atI (l.map V.int) (i : Int) = some (.int a) := atI_nat (get_map' h)
theorem pen_get {C : Addr} {H : Hp} {as : List Addr} {ps : List Pen} {i : Nat} (hR : Refs (PenAt C H) as ps) (hi : i < ps.length) :
    ∃ a p b dx, as[i]? = some a ∧ ps[i]? = some p ∧ (runs [] 0 ps)[i]? = some b ∧ H a = some (.ins C dx (pf p)) := by
  obtain ⟨b, hb⟩ := My.runs_get hi
  have hp : ps[i]? = some ps[i] := List.getElem?_eq_getElem hi
  obtain ⟨a, ha, dx, e⟩ := hR.get hp
  exact ⟨a, _, b, dx, ha, hp, hb, e⟩
theorem ok_until {f fR : Addr} {fd fdR : FuncData} (F : Fun K "until_one_is_over" "until_one_is_over" s_until_one_is_over f fd) (T : Txt K mg A)
    (D_running : Def K mg "running" s_running ["box"] fR fdR) (G_running : FnOk P w K mg base CX0 1 fR fdR ["box"] (spRun A.CP)) : FnOk P w K mg base CX0 2 f fd ["box"] (spUntil A.CP) := by
  refine F.ok sc_until_one_is_over (fun vs H Q E h => ?_) (fun cdv Ar outer s H vs Q E hr h => ?_)
  · obtain ⟨l, ps, _⟩ := h
    rfl
  · obtain ⟨l, ps, ⟨as, hl, hR⟩, hlen, hne, k⟩ := h
    have nd := sc_until_one_is_over.nd
    refine ⟨_, (pss_cons (ps_set (i := 1) nd rfl (Or.inr rfl) (pe_call G_running (hr.mono (by decide)) rfl D_running.mg D_running.fn.kp D_running.b .nil pass0 (pa_cons (pv 0) pa_nil)))
    (pss_one (ps_ret (pe_callB (cr_min rfl) (by rfl) T.min_ bt_min (pa_cons (pe_lc rfl nd (pi_range1 rfl T.range_ (pa_cons (pe_callB call_len_seq (by rfl) T.len_ bt_len (pa_cons (pv 0) pa_nil)) pa_nil)) (blkOk_by (own := [("k", 2)]) (by show blkC ["box", "runs", "k"] (defScope s_until_one_is_over) _ _ = true; decide +kernel)) (fun _ _ _ _ _ => (pg_name (i := 2) nd rfl (Or.inl rfl))) (fun _ _ _ _ _ => (pts_one (pt_val (pe_ix (ix_listK K) (pv 1) (pv 2) (fun _ _ => rfl))))) (fun _ _ _ _ _ => (pe_fldK K (pe_ix (ix_listK K) (pv 0) (pv 2) (fun _ _ => rfl)) rfl))) pa_nil))))), ?_⟩
    refine tc_of (eva1 (ev_var rfl)) ⟨l, ps, ⟨as, hl, hR⟩, hlen, fun r H1 s1 hr1 => ?_⟩
    have hl1 := s1 _ _ hl
    have hln : (as.map V.ref).length = ps.length := by rw [List.length_map, hR.len]
    refine ⟨_, rfl, _, _, rfl, .inl (SqL.of hl1), _, rfl, by omega, by omega, ?_⟩
    refine lcR (n := (as.map V.ref).length) (by omega)
      (fun i acc H' => acc = (lefts ((running ps).take i)).map fun (n : Nat) => V.int (n : Int)) (fun D hD => rfl) ?_ ?_
    · intro D i acc H' Nx hD hi s h hacc k1 k2
      obtain ⟨a, p, b, dx, ha, hp, hb, e⟩ := pen_get hR (show i < ps.length by omega)
      have e1 := s _ _ (s1 _ _ e)
      have snoc : lefts ((running ps).take (i + 1)) = lefts ((running ps).take i) ++ if b = true then [p.left] else [] := by
        unfold lefts
        rw [My.take_snoc (My.running_get hp hb), List.filter_append, List.map_append, List.filter_cons]
        cases b <;> rfl
      refine ⟨rfl, tt_of (et_b (ev_ixL (ev_var rfl) (ev_var rfl) (SqL.of (s _ _ hr1)) (bools_get hb))) (iteB (fun q => ?_) (fun q => ?_))⟩
      · refine te_of (ev_fld (ev_ixL (ev_var rfl) (ev_var rfl) (SqL.of (s _ _ hl1)) (refs_get ha)) e1 T.clP T.p_left (pf_left p)) ?_
        refine k1 _ _ (Same.refl _) ?_
        rw [snoc, if_pos q, hacc, List.map_append]
        rfl
      · refine k2 _ (Same.refl _) ?_
        rw [snoc, if_neg (by rw [q]; decide), hacc, List.append_nil]
    · intro D acc H' hD s h _ hacc
      rw [hln, List.take_of_length_le (by rw [My.running_length]; exact Nat.le_refl _)] at hacc
      refine ⟨D, (lefts (running ps)).map fun (n : Nat) => (n : Int), rfl, ?_, ?_, ?_⟩
      · rw [List.map_map]
        rw [hacc] at h
        exact SqL.of h
      · rw [List.length_map]
        exact My.lefts_ne hne
      · intro m hm hmin
        obtain ⟨m', hm', rfl⟩ := List.mem_map.mp hm
        refine k m' H' (s1.trans s) (My.soonest_some hm' fun y hy => ?_)
        have := hmin (y : Int) (List.mem_map.mpr ⟨y, hy, rfl⟩)
        omega
theorem ok_with {f fR fL : Addr} {fd fdR fdL : FuncData} (F : Fun K "with_less_left" "with_less_left" s_with_less_left f fd) (T : Txt K mg A)
    (D_running : Def K mg "running" s_running ["box"] fR fdR) (G_running : FnOk P w K mg base CX0 1 fR fdR ["box"] (spRun A.CP))
    (D_Penalty_less : MDef K A.CP "less" "Penalty.less" s_Penalty_less ["self", "seconds"] fL fdL) (G_Penalty_less : FnOk P w K mg base CX0 3 fL fdL ["self", "seconds"] (spLess A.CP)) : FnOk P w K mg base CX0 4 f fd ["box", "seconds"] (spWith A.CP) := by
  refine F.ok sc_with_less_left (fun vs H Q E h => ?_) (fun cdv Ar outer s H vs Q E hr h => ?_)
  · obtain ⟨l, ps, n, m, _⟩ := h
    rfl
  · obtain ⟨l, ps, n, m, ⟨as, hl, hR⟩, hlen, hm, hnm, k⟩ := h
    have nd := sc_with_less_left.nd
    refine ⟨_, (pss_cons (ps_set (i := 2) nd rfl (Or.inr rfl) (pe_call G_running (hr.mono (by decide)) rfl D_running.mg D_running.fn.kp D_running.b .nil pass0 (pa_cons (pv 0) pa_nil)))
    (pss_one (ps_ret (pe_lc rfl nd (pi_range1 rfl T.range_ (pa_cons (pe_callB call_len_seq (by rfl) T.len_ bt_len (pa_cons (pv 0) pa_nil)) pa_nil)) (blkOk_by (own := [("k", 3)]) (by show blkC ["box", "seconds", "runs", "k"] (defScope s_with_less_left) _ _ = true; decide +kernel)) (fun _ _ _ _ _ => (pg_name (i := 3) nd rfl (Or.inl rfl))) (fun _ _ _ _ _ => pts_nil) (fun _ _ _ _ _ => (pe_ifExp (pt_val (pe_ix (ix_listK K) (pv 2) (pv 3) (fun _ _ => rfl))) (pe_meth (pe_ix (ix_listK K) (pv 0) (pv 3) (fun _ _ => rfl)) T.clP D_Penalty_less.me G_Penalty_less (hr.mono (by decide)) D_Penalty_less.b .nil pass0 (pa_cons (pv 1) pa_nil)) (pe_ix (ix_listK K) (pv 0) (pv 3) (fun _ _ => rfl)))))))), ?_⟩
    refine tc_of (eva1 (ev_var rfl)) ⟨l, ps, ⟨as, hl, hR⟩, hlen, fun r H1 s1 hr1 => ?_⟩
    have hl1 := s1 _ _ hl
    have hln : (as.map V.ref).length = ps.length := by rw [List.length_map, hR.len]
    refine ⟨_, rfl, _, _, rfl, .inl (SqL.of hl1), _, rfl, by omega, by omega, ?_⟩
    refine lcR (n := (as.map V.ref).length) (by omega)
      (fun i acc H' => ∃ bs : List Addr, acc = bs.map V.ref ∧ Refs (PenAt A.CP H') bs ((lessAll ps n).take i)) (fun D hD => ⟨[], rfl, Refs.nil⟩) ?_ ?_
    · intro D i acc H' Nx hD hi s h hacc k1 k2
      obtain ⟨bs, rfl, hB⟩ := hacc
      obtain ⟨a, p, b, dx, ha, hp, hb, e⟩ := pen_get hR (show i < ps.length by omega)
      have e1 := s _ _ (s1 _ _ e)
      have hg : (lessAll ps n)[i]? = some (My.cut1 n (p, b)) := get_map' (My.running_get hp hb)
      have last : ∀ (c : Addr) (H4 : Hp), Same H' H4 → PenAt A.CP H4 c (My.cut1 n (p, b)) → ∃ acc, H4 D = some (.lst acc) ∧ acc.length < sizeLine ∧ Nx (upd H4 D (.lst (acc ++ [.ref c]))) := fun c H4 s4 hc => by
        refine k1 _ _ s4 ⟨bs ++ [c], by rw [List.map_append]; rfl, ?_⟩
        rw [My.take_snoc hg]
        have h4 := s4 _ _ h
        exact (hB.imp fun x y z => (z.same s4).updL h4).snoc (hc.updL h4)
      refine ⟨rfl, ty_of ?_⟩
      refine tt_of (et_b (ev_ixL (ev_var rfl) (ev_var rfl) (SqL.of (s _ _ hr1)) (bools_get hb))) (iteB (fun q => ?_) (fun q => ?_))
      · refine tm_of (ev_ixL (ev_var rfl) (ev_var rfl) (SqL.of (s _ _ hl1)) (refs_get ha)) e1 (pf_less p) (eva1 (ev_var rfl)) ?_
        have hle : n ≤ p.left := Nat.le_trans hnm ((My.soonest_spec hm).2 _ (by
          unfold lefts
          exact List.mem_map.mpr ⟨(p, b), List.mem_filter.mpr ⟨List.mem_of_getElem? (My.running_get hp hb), q⟩, rfl⟩))
        refine ⟨a, p, n, ⟨dx, e1⟩, hle, fun c H4 s4 hc => last c H4 s4 ?_⟩
        unfold My.cut1
        rw [if_pos q]
        exact hc
      · refine te_of (ev_ixL (ev_var rfl) (ev_var rfl) (SqL.of (s _ _ hl1)) (refs_get ha)) ?_
        refine last a _ (Same.refl _) ?_
        unfold My.cut1
        rw [if_neg (show ¬ b = true by rw [q]; decide)]
        exact ⟨dx, e1⟩
    · intro D acc H' hD s h _ hacc
      obtain ⟨bs, rfl, hB⟩ := hacc
      rw [hln, List.take_of_length_le (by rw [My.lessAll_length]; exact Nat.le_refl _)] at hB
      exact k D H' (s1.trans s) (s1.free hD) ⟨bs, h, hB⟩
end
end Ice
namespace Ice
open PySem PySem.Spec PyProof.Rows L2
open Kg58 (Pen Told State Team runs running soonest minus after short ended singles marked cancel parts washed lengthOf minutesOf)
open My (PosL lefts lessAll Tab TabOk NSt StOk ToldOk RepT)
inductive spAfterI (C : Addr) (H : Hp) (Q : VK) : List V → Prop
  | mk (l : Addr) (ps : List Pen) (n : Nat) (h0 : BoxAt C H l ps) (h1 : ps.length ≤ 1000) (h2 : PosL ps) (h3 : ∀ (r : Addr) (H' : Hp), Same H H' → (r = l ∨ H r = Option.none) → BoxAt C H' r (after n ps) → Q (.ref r) H') : spAfterI C H Q [.ref l, .int n]
def spAfter (C : Addr) : Sp := fun vs H Q _ => spAfterI C H Q vs
inductive spSkatersI (C : Addr) (H : Hp) (Q : VK) : List V → Prop
  | mk (l : Addr) (ps : List Pen) (b : Nat) (h0 : BoxAt C H l ps) (h1 : ps.length ≤ 1000) (h2 : 3 ≤ b) (h3 : ∀ (H' : Hp), Same H H' → Q (.int ((b - min (short ps) (b - 3) : Nat) : Int)) H') : spSkatersI C H Q [.ref l, .int b]
def spSkaters (C : Addr) : Sp := fun vs H Q _ => spSkatersI C H Q vs
inductive spMinorI (C : Addr) (H : Hp) (Q : VK) : List V → Prop
  | mk (l : Addr) (ps : List Pen) (h0 : BoxAt C H l ps) (h1 : ps.length ≤ 1000) (h2 : ∀ (H' : Hp), Same H H' → Q (.int (match ended ps with | none => -1 | some k => (k : Int))) H') : spMinorI C H Q [.ref l]
def spMinor (C : Addr) : Sp := fun vs H Q _ => spMinorI C H Q vs
inductive spOfKindI (C : Addr) (H : Hp) (Q : VK) : List V → Prop
  | mk (l : Addr) (as : List Addr) (ps : List Pen) (k : Nat) (h0 : H l = some (.lst (as.map V.ref))) (h1 : Refs (PenAt C H) as ps) (h2 : ps.length ≤ 20000) (h3 : ∀ (r : Addr) (bs : List Addr) (H' : Hp), Same H H' → H' r = some (.lst (bs.map V.ref)) → bs.map some = (My.kIx k ps).map (fun i => as[i]?) → Q (.ref r) H') : spOfKindI C H Q [.ref l, .int k]
def spOfKind (C : Addr) : Sp := fun vs H Q _ => spOfKindI C H Q vs
inductive spTimesI (C : Addr) (H : Hp) (Q : VK) : List V → Prop
  | mk (l : Addr) (ps : List Pen) (t : Nat) (h0 : BoxAt C H l ps) (h1 : ps.length ≤ 1000) (h2 : PosL ps) (h3 : ∀ (r : Addr) (ts : List Int) (H' : Hp), Same H H' → H r = Option.none → H' r = some (.lst (ts.map V.int)) → ts.length = ps.length → (∀ i, i < ps.length → ts[i]? = some ((t + Kg58.endOf ps i : Nat) : Int)) → Q (.ref r) H') : spTimesI C H Q [.ref l, .int t]
def spTimes (C : Addr) : Sp := fun vs H Q _ => spTimesI C H Q vs
section
variable {P : Program} {w : World} {K : PySem.W.Frag} {mg : Str → Option Value} {base : Heap} {A : Ad}
inductive AfterI (CP : Addr) (H : Hp) (ps : List Pen) (l : Addr) (n : Nat) (H' : Hp) : L2.St → Prop
  | mk (v2 v3 : Option V) (r : Addr) (cur : List Pen) (sec : Nat) (s : Same H H') (hr : r = l ∨ H r = Option.none) (hb : BoxAt CP H' r cur) (hl : cur.length ≤ ps.length) (hp : PosL cur) (ha : after sec cur = after n ps) : AfterI CP H ps l n H' [some (.ref r), some (.int sec), v2, v3]
theorem ok_after {f fU fW : Addr} {fd fdU fdW : FuncData} (F : Fun K "box_after" "box_after" s_box_after f fd) (T : Txt K mg A)
    (D_until_one_is_over : Def K mg "until_one_is_over" s_until_one_is_over ["box"] fU fdU) (G_until_one_is_over : FnOk P w K mg base CX0 2 fU fdU ["box"] (spUntil A.CP))
    (D_with_less_left : Def K mg "with_less_left" s_with_less_left ["box", "seconds"] fW fdW) (G_with_less_left : FnOk P w K mg base CX0 4 fW fdW ["box", "seconds"] (spWith A.CP)) : FnOk P w K mg base CX0 5 f fd ["box", "seconds"] (spAfter A.CP) := by
  refine F.ok sc_box_after (fun vs H Q E h => ?_) (fun cdv Ar outer s H vs Q E hr h => ?_)
  · obtain ⟨l, ps, n, _⟩ := h
    rfl
  · obtain ⟨l, ps, n, hB, hlen, hpos, k⟩ := h
    have nd := sc_box_after.nd
    refine ⟨_, (pss_cons (ps_while PassesOwn.never (pw_and (pt_truth (pv 0) (fun _ => rfl)) (pw_and1 (pt_cmpR op_gt (pv 1) pe_int (nomark _)))).pt
      (pss_cons (ps_set (i := 2) nd rfl (Or.inl rfl) (pe_callB (call_min2 rfl) (by rfl) T.min_ bt_min (pa_cons (pv 1) (pa_cons (pe_call G_until_one_is_over (hr.mono (by decide)) rfl D_until_one_is_over.mg D_until_one_is_over.fn.kp D_until_one_is_over.b .nil pass0 (pa_cons (pv 0) pa_nil)) pa_nil))))
      (pss_cons (ps_setLc (i := 0) rfl nd rfl rfl (sw_true rfl rfl rfl (by decide +kernel)) (pi_list (pe_call G_with_less_left (hr.mono (by decide)) rfl D_with_less_left.mg D_with_less_left.fn.kp D_with_less_left.b .nil pass0 (pa_cons (pv 0) (pa_cons (pv 2) pa_nil)))) (blkOk_by (own := [("penalty", 3)]) (by show blkC ["box", "seconds", "step", "penalty"] (defScope s_box_after) _ _ = true; decide +kernel)) (fun _ _ _ _ _ => (pg_name (i := 3) nd rfl (Or.inl rfl))) (fun _ _ _ _ _ => (pts_one (pt_cmpR op_gt (pe_fldK K (pv 3) rfl) pe_int (nomark _)))) (fun _ _ _ _ _ => (pv 3)))
      (pss_one (ps_aug (i := 1) nd rfl (Or.inl rfl) (pv 2) ip_sub)))))
    (pss_one (ps_ret (pv 0)))), ?_⟩
    refine while_byN (fun σ H' => AfterI A.CP H ps l n H' σ)
      (fun σ _ => match σ with | _ :: some (.int z) :: _ => z.toNat | _ => 0) ⟨none, none, l, ps, n, Same.refl _, .inl rfl, hB, Nat.le_refl _, hpos, rfl⟩ ?_ ?_
    · rintro D0 σ H' hD0 ⟨v2, v3, r, cur, sec, s1, hrl, ⟨as, hl, hR⟩, hcl, hcp, haft⟩
      refine tt_of (et_and (et_lst (ev_var rfl) (SqL.of hl)) (fun _ => et_t (ev_i (ev_var rfl) ev_c))) (iteB (fun q => ?_) (fun q => ?_))
      · have hne : cur ≠ [] := by
          rintro rfl
          have : as = [] := List.eq_nil_of_length_eq_zero hR.len
          rw [this] at q
          simp at q
        have hsec : 0 < sec := by
          rw [Bool.and_eq_true] at q
          have := of_decide_eq_true q.2
          omega
        refine ⟨_, rfl, ?_⟩
        refine tc_of (eva1 (ev_var rfl)) ⟨r, cur, ⟨as, hl, hR⟩, by omega, hne, fun m H1 s2 hm => ?_⟩
        refine ⟨_, _, rfl, ?_⟩
        have hm0 := My.soonest_pos hcp hm
        have emin : (if (m : Int) < (sec : Int) then (m : Int) else sec) = ((min sec m : Nat) : Int) := by
          split <;> omega
        rw [emin]
        refine tc_of (eva_cons (ev_var rfl) (eva1 (ev_var rfl))) ⟨r, cur, min sec m, m, ⟨as, s2 _ _ hl, hR.imp fun _ _ => PenAt.same s2⟩, by omega, hm, Nat.min_le_right _ _, fun r2 H2 s3 hr2 hB2 => ?_⟩
        obtain ⟨bs, hl2, hR2⟩ := hB2
        refine ⟨r2, rfl, ⟨_, SqL.of hl2⟩, lcL (xs := bs.map V.ref) (SqL.of hl2) (by rw [List.length_map, hR2.len, My.lessAll_length]; omega)
          (fun i acc H4 => ∃ cs : List Addr, acc = cs.map V.ref ∧ Refs (PenAt A.CP H4) cs (((lessAll cur (min sec m)).take i).filter fun p => decide (0 < p.left))) (fun D hD => ⟨[], rfl, Refs.nil⟩) ?_ ?_⟩
        · intro D i x acc H4 Nx hD hx s4 hDl hacc k1 k2
          obtain ⟨c, hc, rfl⟩ := map_get hx
          obtain ⟨cs, rfl, hcs⟩ := hacc
          obtain ⟨p, hp, dx, hpa⟩ := hR2.getA hc
          have hpa4 := s4 _ _ hpa
          refine ⟨rfl, tt_of (et_t (ev_i (ev_fld (ev_var rfl) hpa4 T.clP T.p_left (pf_left p)) ev_c)) (iteB (fun q => ?_) (fun q => ?_))⟩
          · refine te_of (ev_var rfl) (k1 _ _ (Same.refl _) ⟨cs ++ [c], by rw [List.map_append]; rfl, ?_⟩)
            have q' : 0 < p.left := by have := of_decide_eq_true q; omega
            rw [My.take_snoc hp, List.filter_append, List.filter_cons, if_pos (decide_eq_true q')]
            exact (hcs.imp fun _ _ z => z.updL hDl).snoc (PenAt.updL ⟨dx, hpa4⟩ hDl)
          · refine k2 _ (Same.refl _) ⟨cs, rfl, ?_⟩
            have q' : ¬ 0 < p.left := by have := of_decide_eq_false q; omega
            rw [My.take_snoc hp, List.filter_append, List.filter_cons, if_neg (by rw [decide_eq_false q']; decide)]
            simpa using hcs
        · intro D acc H4 hD s4 hDl _ hacc
          obtain ⟨cs, rfl, hcs⟩ := hacc
          rw [List.take_of_length_le (by rw [List.length_map, hR2.len]; exact Nat.le_refl _)] at hcs
          have emin2 : min sec m ≤ sec := Nat.min_le_left _ _
          refine st_augI rfl (ev_var rfl) ?_
          have sH : Same H H2 := (s1.trans s2).trans s3
          have e : (sec : Int) - ((min sec m : Nat) : Int) = ((sec - min sec m : Nat) : Int) := by omega
          rw [e]
          refine hD0 _ _ ⟨some (.int ((min sec m : Nat) : Int)), v3, D, minus cur (min sec m), sec - min sec m, sH.trans s4, .inr (sH.free hD), ⟨cs, hDl, hcs⟩, ?_, My.minus_pos _ _, ?_⟩ ?_
          · refine Nat.le_trans ?_ hcl
            rw [My.minus_eq, ← My.lessAll_length cur (min sec m)]
            exact List.length_filter_le _ _
          · rw [← haft, My.after_step hm]
          · show (((sec - min sec m : Nat) : Int)).toNat < ((sec : Nat) : Int).toNat
            have : 0 < min sec m := by omega
            omega
      · refine st_ret (ev_var rfl) ?_
        have e : after n ps = cur := by
          rw [← haft]
          rw [Bool.and_eq_false_iff] at q
          rcases q with q | q
          · have : as = [] := by
              cases as with
              | nil => rfl
              | cons _ _ => cases q
            have : cur = [] := List.eq_nil_of_length_eq_zero (by rw [← hR.len, this]; rfl)
            rw [this]
            rfl
          · have := of_decide_eq_false q
            have : sec = 0 := by omega
            rw [this]
            exact My.after_zero hcp
        exact k r H' s1 hrl (by rw [e]; exact ⟨as, hl, hR⟩)
    · intro σ H' Q1 Q2 hq h
      exact (show tAnd _ _ σ H' Q2 from by
        obtain ⟨v, hv, kk, hk, hh⟩ := h
        refine ⟨v, hv, kk, hk, ?_⟩
        cases kk
        · exact hq _ _ hh
        · obtain ⟨x, hx, i, j, e1, e2, b, hb, h3⟩ := hh
          exact ⟨x, hx, i, j, e1, e2, b, hb, hq _ _ h3⟩)
end
end Ice
namespace Ice
open PySem PySem.Spec PyProof.Rows L2
open Kg58 (Pen Told State Team runs running soonest minus after short ended singles marked cancel parts washed lengthOf minutesOf)
open My (PosL lefts lessAll Tab TabOk NSt StOk ToldOk RepT)
section
variable {P : Program} {w : World} {K : PySem.W.Frag} {mg : Str → Option Value} {base : Heap} {A : Ad}
theorem ok_skaters {f fR : Addr} {fd fdR : FuncData} (F : Fun K "skaters_with" "skaters_with" s_skaters_with f fd) (T : Txt K mg A)
    (D_running : Def K mg "running" s_running ["box"] fR fdR) (G_running : FnOk P w K mg base CX0 1 fR fdR ["box"] (spRun A.CP)) : FnOk P w K mg base CX0 2 f fd ["box", "skaters"] (spSkaters A.CP) := by
  refine F.ok sc_skaters_with (fun vs H Q E h => ?_) (fun cdv Ar outer s H vs Q E hr h => ?_)
  · obtain ⟨l, ps, b, _⟩ := h
    rfl
  · obtain ⟨l, ps, b, ⟨as, hl, hR⟩, hlen, hb3, k⟩ := h
    have nd := sc_skaters_with.nd
    refine ⟨_, (pss_cons (ps_set (i := 2) nd rfl (Or.inr rfl) (pe_call G_running (hr.mono (by decide)) rfl D_running.mg D_running.fn.kp D_running.b .nil pass0 (pa_cons (pv 0) pa_nil)))
    (pss_cons (ps_setLc (i := 3) rfl nd rfl rfl (sw_true rfl rfl rfl (by decide +kernel)) (pi_range1 rfl T.range_ (pa_cons (pe_callB call_len_seq (by rfl) T.len_ bt_len (pa_cons (pv 0) pa_nil)) pa_nil)) (blkOk_by (own := [("k", 4)]) (by show blkC ["box", "skaters", "runs", "counting", "k"] (defScope s_skaters_with) _ _ = true; decide +kernel)) (fun _ _ _ _ _ => (pg_name (i := 4) nd rfl (Or.inl rfl))) (fun _ _ _ _ _ => (pts_one (pw_and (pt_val (pe_ix (ix_listK K) (pv 2) (pv 4) (fun _ _ => rfl))) (pw_and1 (pt_val (pe_fldK K (pe_ix (ix_listK K) (pv 0) (pv 4) (fun _ _ => rfl)) rfl)))).pt)) (fun _ _ _ _ _ => (pv 4)))
    (pss_one (ps_ret (pe_callB (call_max2 rfl) (by rfl) T.max_ bt_max (pa_cons (gi T.FEWEST_SKATERS) (pa_cons (pe_op op_sub (pv 1) (pe_callB call_len_seq (by rfl) T.len_ bt_len (pa_cons (pv 3) pa_nil))) pa_nil))))))), ?_⟩
    refine tc_of (eva1 (ev_var rfl)) ⟨l, ps, ⟨as, hl, hR⟩, hlen, fun r H1 s1 hr1 => ?_⟩
    have hl1 := s1 _ _ hl
    have hln : (as.map V.ref).length = ps.length := by rw [List.length_map, hR.len]
    refine ⟨_, rfl, _, _, rfl, .inl (SqL.of hl1), _, rfl, by omega, by omega, ?_⟩
    refine lcR (n := (as.map V.ref).length) (by omega)
      (fun i acc H' => acc.length = (((running ps).take i).filter fun x => x.2 && x.1.counts).length) (fun D hD => rfl) ?_ ?_
    · intro D i acc H' Nx hD hi s h hacc k1 k2
      obtain ⟨a, p, b, dx, ha, hp, hb, e⟩ := pen_get hR (show i < ps.length by omega)
      have e1 := s _ _ (s1 _ _ e)
      refine ⟨rfl, tt_of (et_and (et_b (ev_ixL (ev_var rfl) (ev_var rfl) (SqL.of (s _ _ hr1)) (bools_get hb))) (fun _ => et_b (ev_fld (ev_ixL (ev_var rfl) (ev_var rfl) (SqL.of (s _ _ hl1)) (refs_get ha)) e1 T.clP T.p_counts (pf_counts p)))) (iteB (fun q => ?_) (fun q => ?_))⟩
      · refine te_of (ev_var rfl) (k1 _ _ (Same.refl _) ?_)
        rw [My.take_snoc (My.running_get hp hb), List.filter_append, List.filter_cons, if_pos (show (((p, b) : Pen × Bool).2 && ((p, b) : Pen × Bool).1.counts) = true from q), List.length_append, List.length_append, hacc]
        rfl
      · refine k2 _ (Same.refl _) ?_
        rw [My.take_snoc (My.running_get hp hb), List.filter_append, List.filter_cons, if_neg (show ¬ (((p, b) : Pen × Bool).2 && ((p, b) : Pen × Bool).1.counts) = true by show ¬ (b && p.counts) = true; rw [q]; decide), List.length_append, hacc]
        rfl
    · intro D acc H' hD s h _ hacc
      rw [hln, List.take_of_length_le (by rw [My.running_length]; exact Nat.le_refl _)] at hacc
      have e : (acc.length : Int) = (short ps : Int) := by rw [hacc]; rfl
      refine ⟨_, rfl, _, rfl, D, _, rfl, .inl (SqL.of h), _, _, rfl, rfl, _, _, rfl, ?_⟩
      rw [e, My.skaters_int hb3]
      exact k H' (s1.trans s)
theorem ok_minor {f fR : Addr} {fd fdR : FuncData} (F : Fun K "minor_to_end" "minor_to_end" s_minor_to_end f fd) (T : Txt K mg A)
    (D_running : Def K mg "running" s_running ["box"] fR fdR) (G_running : FnOk P w K mg base CX0 1 fR fdR ["box"] (spRun A.CP)) : FnOk P w K mg base CX0 2 f fd ["box"] (spMinor A.CP) := by
  refine F.ok sc_minor_to_end (fun vs H Q E h => ?_) (fun cdv Ar outer s H vs Q E hr h => ?_)
  · obtain ⟨l, ps, _⟩ := h
    rfl
  · obtain ⟨l, ps, ⟨as, hl, hR⟩, hlen, k⟩ := h
    have nd := sc_minor_to_end.nd
    refine ⟨_, (pss_cons (ps_set (i := 1) nd rfl (Or.inl rfl) (pe_call G_running (hr.mono (by decide)) rfl D_running.mg D_running.fn.kp D_running.b .nil pass0 (pa_cons (pv 0) pa_nil)))
    (pss_cons (ps_set (i := 2) nd rfl (Or.inl rfl) (pe_un un_neg pe_int))
    (pss_cons (ps_for PassesOwn.never rfl (pi_range1 rfl T.range_ (pa_cons (pe_callB call_len_seq (by rfl) T.len_ bt_len (pa_cons (pv 0) pa_nil)) pa_nil)) (pg_name (i := 3) nd rfl (Or.inl rfl))
      (pss_one (ps_if (pw_and (pt_val (pe_ix ix_list (pv 1) (pv 3) (fun _ _ => rfl))) (pw_and (pt_val (pe_fld (pe_ix ix_list (pv 0) (pv 3) (fun _ _ => rfl)) rfl)) (pw_and1 (pt_cmpR op_eq (pe_fld (pe_ix ix_list (pv 0) (pv 3) (fun _ _ => rfl)) rfl) (gi T.MINOR) (nomark _))))).pt
        (pss_one (ps_if (pw_or (pt_cmpR op_lt (pv 2) pe_int (nomark _)) (pw_or1 (pt_cmpR op_lt (pe_fld (pe_ix ix_list (pv 0) (pv 3) (fun _ _ => rfl)) rfl) (pe_fld (pe_ix ix_list (pv 0) (pv 2) (fun _ _ => rfl)) rfl) (nomark _)))).pt
          (pss_one (ps_set (i := 2) nd rfl (Or.inl rfl) (pv 3)))
          pss_nil))
        pss_nil)))
    (pss_one (ps_ret (pv 2)))))), ?_⟩
    refine tc_of (eva1 (ev_var rfl)) ⟨l, ps, ⟨as, hl, hR⟩, hlen, fun r H1 s1 hr1 => ?_⟩
    have hl1 := s1 _ _ hl
    have hln : (as.map V.ref).length = ps.length := by rw [List.length_map, hR.len]
    refine st_set (ev_neg ev_c) ?_
    let fd : Option (Nat × Nat) → Int := fun o => match o with | none => -1 | some x => (x.1 : Int)
    refine ⟨_, rfl, _, _, rfl, .inl (SqL.of hl1), _, rfl, by omega, by omega, ?_⟩
    refine for_rangeR (lo := 0) Q (fun i σ H' => ∃ v3 : Option V, σ = [some (.ref l), some (.ref r), some (.int (fd (My.eAt ps i))), v3] ∧ Same H1 H')
      ⟨none, rfl, Same.refl _⟩ (fun _ _ z => z) ?_ ?_
    · intro D i σ H' _ hD hi hI
      rw [Int.zero_add]
      refine hideN fun N hN => ?_
      obtain ⟨v3, rfl, s⟩ := hI
      obtain ⟨a, p, b, dx, ha, hp, hb, e⟩ := pen_get hR (show i < ps.length by omega)
      subst hN
      have e1 := s _ _ (s1 _ _ e)
      have es := My.eAt_succ hp hb
      have box : ∀ {σ : L2.St} {n : Nat}, σ[0]? = some (some (V.ref l)) → σ[n]? = some (some (V.int (i : Int))) → Ev (tOp (rIxL K) (tVar 0) (tVar n)) σ H' (.ref a) := fun h0 h1 => ev_ixL (ev_var h0) (ev_var h1) (SqL.of (s _ _ hl1)) (refs_get ha)
      refine st_if (et_and (et_b (ev_ixL (ev_var rfl) (ev_var rfl) (SqL.of (s _ _ hr1)) (bools_get hb))) (fun _ => et_and (et_b (ev_fld (box rfl rfl) e1 T.clP T.p_counts (pf_counts p)))
        (fun _ => et_t (ev_eqI (ev_fld (box rfl rfl) e1 T.clP T.p_kind (pf_kind p)) ev_c)))) (fun q => ?_) (fun q => ?_)
      · have q2 : (b && (p.counts && p.kind == 0)) = true := by
          rw [Bool.and_eq_true, Bool.and_eq_true] at q ⊢
          refine ⟨q.1, q.2.1, ?_⟩
          have := of_decide_eq_true q.2.2
          have : p.kind = 0 := by omega
          rw [this]; rfl
        rw [if_pos q2] at es
        cases ee : My.eAt ps i with
        | none =>
          refine st_if (b := true) (fun Q hQ => ?_) (fun _ => ?_) (fun z => by cases z)
          · refine et_or (b := true) (c := true) (et_t (fun Q' hq => ?_)) (fun z => by cases z) Q hQ
            exact te_of (ev_i (i := -1) (j := 0) (ev_var rfl) ev_c) hq
          · refine st_set (ev_var rfl) (hD _ _ ⟨some (.int (i : Int)), ?_, s⟩)
            rw [es, ee]
            rfl
        | some y =>
          obtain ⟨j, n⟩ := y
          obtain ⟨hj, p', hp', en⟩ := My.eAt_some (by omega) ee
          obtain ⟨a', ha', dx', e'⟩ := hR.get hp'
          have e1' := s _ _ (s1 _ _ e')
          refine st_if (et_or (et_t (ev_i (ev_var rfl) ev_c)) (fun _ => et_t (ev_i (ev_fld (box rfl rfl) e1 T.clP T.p_left (pf_left p)) (ev_fld (ev_ixL (ev_var rfl) (ev_var rfl) (SqL.of (s _ _ hl1)) (refs_get ha')) e1' T.clP T.p_left (pf_left p'))))) (fun q3 => ?_) (fun q3 => ?_)
          · have q4 : p.left < n := by
              rw [Bool.or_eq_true] at q3
              rcases q3 with q3 | q3
              · have := of_decide_eq_true q3
                have : (j : Int) < 0 := this
                omega
              · have := of_decide_eq_true q3
                omega
            refine st_set (ev_var rfl) (hD _ _ ⟨some (.int (i : Int)), ?_, s⟩)
            rw [es, ee]
            show _ = [_, _, some (V.int (fd (if p.left < n then some (i, p.left) else some (j, n)))), _]
            rw [if_pos q4]
            rfl
          · have q4 : ¬ p.left < n := by
              rw [Bool.or_eq_false_iff] at q3
              have := of_decide_eq_false q3.2
              omega
            refine hD _ _ ⟨some (.int (i : Int)), ?_, s⟩
            rw [es, ee]
            show _ = [_, _, some (V.int (fd (if p.left < n then some (i, p.left) else some (j, n)))), _]
            rw [if_neg q4]
            rfl
      · have q2 : ¬ (b && (p.counts && p.kind == 0)) = true := by
          intro z
          rw [Bool.and_eq_true, Bool.and_eq_true] at z
          have h0 : p.kind = 0 := eq_of_beq z.2.2
          rw [z.1, z.2.1, h0] at q
          simp at q
        rw [if_neg q2] at es
        exact hD _ _ ⟨_, by rw [es]; rfl, s⟩
    · rintro σ H' ⟨v3, rfl, s⟩
      refine st_ret (ev_var rfl) ?_
      rw [hln]
      have := k H' (s1.trans s)
      rw [My.ended_eq] at this
      show Q (V.int (fd (My.eAt ps ps.length))) H'
      revert this
      cases My.eAt ps ps.length with
      | none => exact id
      | some y => exact id
theorem ok_ofkind {f : Addr} {fd : FuncData} (F : Fun K "of_kind" "of_kind" s_of_kind f fd) (T : Txt K mg A) : FnOk P w K mg base CX0 1 f fd ["box", "kind"] (spOfKind A.CP) := by
  refine F.ok sc_of_kind (fun vs H Q E h => ?_) (fun cdv Ar outer s H vs Q E hr h => ?_)
  · obtain ⟨l, as, ps, kk, _⟩ := h
    rfl
  · obtain ⟨l, as, ps, kk, hl, hR, hlen, k⟩ := h
    have nd := sc_of_kind.nd
    refine ⟨_, (pss_one (ps_ret (pe_lc rfl nd (pi_list (pv 0)) (blkOk_by (own := [("penalty", 2)]) (by show blkC ["box", "kind", "penalty"] (defScope s_of_kind) _ _ = true; decide +kernel)) (fun _ _ _ _ _ => (pg_name (i := 2) nd rfl (Or.inl rfl))) (fun _ _ _ _ _ => (pts_one (pt_cmpR op_eq (pe_fldK K (pv 2) rfl) (pv 1) (nomark _)))) (fun _ _ _ _ _ => (pv 2))))), ?_⟩
    refine ⟨_, rfl, l, rfl, ⟨_, SqL.of hl⟩, lcL (xs := as.map V.ref) (SqL.of hl) (by rw [List.length_map, hR.len]; omega)
      (fun i acc H' => ∃ bs : List Addr, acc = bs.map V.ref ∧ bs.map some = (My.kIx kk (ps.take i)).map (fun i => as[i]?)) (fun D hD => ⟨[], rfl, rfl⟩) ?_ ?_⟩
    · intro D i x acc H' Nx hD hx s h hacc k1 k2
      obtain ⟨a, ha, rfl⟩ := map_get hx
      obtain ⟨bs, rfl, hbs⟩ := hacc
      obtain ⟨p, hp, dx, e⟩ := hR.getA ha
      have e1 := s _ _ e
      have key : ∀ (l : List Pen) (p : Pen), My.kIx kk (l ++ [p]) = My.kIx kk l ++ if p.kind = kk then [l.length] else [] := by
        intro l p
        induction l with
        | nil =>
          by_cases q : p.kind = kk
          · rw [List.nil_append, My.kIx_cons_pos q, if_pos q]; rfl
          · rw [List.nil_append, My.kIx_cons_neg q, if_neg q]; rfl
        | cons y l ih =>
          by_cases q : y.kind = kk
          · rw [List.cons_append, My.kIx_cons_pos q, My.kIx_cons_pos q, ih, List.map_append]
            split <;> simp
          · rw [List.cons_append, My.kIx_cons_neg q, My.kIx_cons_neg q, ih, List.map_append]
            split <;> simp
      have hil : i < ps.length := (List.getElem?_eq_some_iff.mp hp).1
      refine ⟨rfl, tt_of (et_t (ev_eqI (ev_fld (ev_var rfl) e1 T.clP T.p_kind (pf_kind p)) (ev_var rfl))) (iteB (fun q => ?_) (fun q => ?_))⟩
      · have q' : p.kind = kk := by have := of_decide_eq_true q; omega
        refine te_of (ev_var rfl) (k1 _ _ (Same.refl _) ⟨bs ++ [a], by rw [List.map_append]; rfl, ?_⟩)
        rw [My.take_snoc hp, key, if_pos q', List.map_append, List.map_append, hbs, List.length_take, Nat.min_eq_left (Nat.le_of_lt hil)]
        show _ ++ [some a] = _ ++ [as[i]?]
        rw [ha]
      · have q' : ¬ p.kind = kk := by have := of_decide_eq_false q; omega
        refine k2 _ (Same.refl _) ⟨bs, rfl, ?_⟩
        rw [My.take_snoc hp, key, if_neg q', List.append_nil, hbs]
    · intro D acc H' hD s h _ hacc
      obtain ⟨bs, rfl, hbs⟩ := hacc
      rw [List.take_of_length_le (by rw [List.length_map, hR.len]; exact Nat.le_refl _)] at hbs
      exact k D bs H' s h hbs
end
end Ice
namespace Ice
open PySem PySem.Spec PyProof.Rows L2
open Kg58 (Pen Told State Team runs running soonest minus after short ended singles marked cancel parts washed lengthOf minutesOf)
open My (PosL lefts lessAll Tab TabOk NSt StOk ToldOk RepT)
section
variable {P : Program} {w : World} {K : PySem.W.Frag} {mg : Str → Option Value} {base : Heap} {A : Ad}
def nats (l : List Nat) : List V := l.map fun (n : Nat) => V.int (n : Int)
theorem nats_get {l : List Nat} {i n : Nat} (h : l[i]? = some n) : atI (nats l) (i : Int) = some (.int n) := atI_nat (get_map' h)
theorem nats_length (l : List Nat) : (nats l).length = l.length := List.length_map _
def plen (σ : L2.St) (H : Hp) : Nat := match (σ[3]? : Option (Option V)) with
  | some (some (V.ref p)) => (match H p with | some (HO.lst xs) => xs.length | _ => 0)
  | _ => 0
theorem PenAt.keep {C : Addr} {H H' : Hp} {a t : Addr} {p : Pen} {ts : List V} (k : Keep [t] H H') (ht : H t = some (.lst ts)) (h : PenAt C H a p) : PenAt C H' a p := by
  obtain ⟨dx, e⟩ := h
  exact ⟨dx, k _ _ e (by
    intro q
    have : a = t := List.mem_singleton.mp q
    rw [this, ht] at e
    cases e)⟩
inductive TimesI (CP : Addr) (H : Hp) (ps : List Pen) (t : Nat) (tm : Addr) (H' : Hp) : L2.St → Prop
  | mk (b pl : Addr) (v4 v5 v6 v7 : Option V) (cur : List (Pen × Nat)) (te : Nat) (times : List Int) (s4 : Same H H') (hb : BoxAt CP H' b (cur.map fun x => x.1)) (hp : H' pl = some (.lst (nats (cur.map fun x => x.2)))) (ht : H' tm = some (.lst (times.map V.int)))
    (hbt : b ≠ tm) (hpt : pl ≠ tm) (I : My.TInv ps t cur te times) (hc : cur.length ≤ ps.length) : TimesI CP H ps t tm H' [some (.ref b), some (.int ((t + te : Nat) : Int)), some (.ref tm), some (.ref pl), v4, v5, v6, v7, none, none]
inductive TimesJ (H2 : Hp) (tm : Addr) (cur : List (Pen × Nat)) (times : List Int) (q0 q1 q2 q3 q4 v6 v7 : Option V) (v : Int) (i : Nat) (H3 : Hp) : L2.St → Prop
  | mk (v5 : Option V) (kp : Keep [tm] H2 H3) (ht : H3 tm = some (.lst ((My.setAll times ((cur.map fun x => x.2).take i) v).map V.int))) : TimesJ H2 tm cur times q0 q1 q2 q3 q4 v6 v7 v i H3 [q0, q1, q2, q3, q4, v5, v6, v7, none, none]
theorem ok_times {f fU fW : Addr} {fd fdU fdW : FuncData} (F : Fun K "times_over" "times_over" s_times_over f fd) (T : Txt K mg A)
    (D_until_one_is_over : Def K mg "until_one_is_over" s_until_one_is_over ["box"] fU fdU) (G_until_one_is_over : FnOk P w K mg base CX0 2 fU fdU ["box"] (spUntil A.CP))
    (D_with_less_left : Def K mg "with_less_left" s_with_less_left ["box", "seconds"] fW fdW) (G_with_less_left : FnOk P w K mg base CX0 4 fW fdW ["box", "seconds"] (spWith A.CP)) : FnOk P w K mg base CX0 5 f fd ["box", "time"] (spTimes A.CP) := by
  refine F.ok sc_times_over (fun vs H Q E h => ?_) (fun cdv Ar outer s H vs Q E hr h => ?_)
  · obtain ⟨l, ps, t, _⟩ := h
    rfl
  · obtain ⟨l, ps, t, ⟨as, hl, hR⟩, hlen, hpos, k⟩ := h
    have nd := sc_times_over.nd
    refine ⟨_, (pss_cons (ps_setLc (i := 2) rfl nd rfl rfl (sw_true rfl rfl rfl (by decide +kernel)) (pi_list (pv 0)) (blkOk_by (own := [("penalty", 8)]) (by show blkC ["box", "time", "times", "places", "step", "place", "served", "kept", "penalty", "k"] (defScope s_times_over) _ _ = true; decide +kernel)) (fun _ _ _ _ _ => (pg_name (i := 8) nd rfl (Or.inl rfl))) (fun _ _ _ _ _ => pts_nil) (fun _ _ _ _ _ => (pv 1)))
    (pss_cons (ps_set (i := 3) nd rfl (Or.inr rfl) (pe_callTy (call_list_rng hr.hd) (by rfl) T.list_ bt_list (pa_cons (pe_callTy call_range1 (by rfl) T.range_ boot_range (pa_cons (pe_callB call_len_seq (by rfl) T.len_ bt_len (pa_cons (pv 0) pa_nil)) pa_nil)) pa_nil)))
    (pss_cons (ps_while PassesOwn.never (pt_truth (pv 3) (fun _ => rfl))
      (pss_cons (ps_set (i := 4) nd rfl (Or.inl rfl) (pe_call G_until_one_is_over (hr.mono (by decide)) rfl D_until_one_is_over.mg D_until_one_is_over.fn.kp D_until_one_is_over.b .nil pass0 (pa_cons (pv 0) pa_nil)))
      (pss_cons (ps_aug (i := 1) nd rfl (Or.inr rfl) (pv 4) ip_add)
      (pss_cons (ps_for PassesOwn.never rfl (pi_list (pv 3)) (pg_name (i := 5) nd rfl (Or.inl rfl))
        (pss_one (ps_asg (pv 1) (pg_sub (pv 2) (pv 5) set_list))))
      (pss_cons (ps_set (i := 6) nd rfl (Or.inr rfl) (pe_call G_with_less_left (hr.mono (by decide)) rfl D_with_less_left.mg D_with_less_left.fn.kp D_with_less_left.b .nil pass0 (pa_cons (pv 0) (pa_cons (pv 4) pa_nil))))
      (pss_cons (ps_setLc (i := 7) rfl nd rfl rfl (sw_true rfl rfl rfl (by decide +kernel)) (pi_range1 rfl T.range_ (pa_cons (pe_callB call_len_seq (by rfl) T.len_ bt_len (pa_cons (pv 6) pa_nil)) pa_nil)) (blkOk_by (own := [("k", 9)]) (by show blkC ["box", "time", "times", "places", "step", "place", "served", "kept", "penalty", "k"] (defScope s_times_over) _ _ = true; decide +kernel)) (fun _ _ _ _ _ => (pg_name (i := 9) nd rfl (Or.inl rfl))) (fun _ _ _ _ _ => (pts_one (pt_cmpR op_gt (pe_fldK K (pe_ix (ix_listK K) (pv 6) (pv 9) (fun _ _ => rfl)) rfl) pe_int (nomark _)))) (fun _ _ _ _ _ => (pv 9)))
      (pss_cons (ps_setLc (i := 0) rfl nd rfl rfl (sw_true rfl rfl rfl (by decide +kernel)) (pi_list (pv 7)) (blkOk_by (own := [("k", 9)]) (by show blkC ["box", "time", "times", "places", "step", "place", "served", "kept", "penalty", "k"] (defScope s_times_over) _ _ = true; decide +kernel)) (fun _ _ _ _ _ => (pg_name (i := 9) nd rfl (Or.inl rfl))) (fun _ _ _ _ _ => pts_nil) (fun _ _ _ _ _ => (pe_ix (ix_listK K) (pv 6) (pv 9) (fun _ _ => rfl))))
      (pss_one (ps_set (i := 3) nd rfl (Or.inr rfl) (pe_lc rfl nd (pi_list (pv 7)) (blkOk_by (own := [("k", 9)]) (by show blkC ["box", "time", "times", "places", "step", "place", "served", "kept", "penalty", "k"] (defScope s_times_over) _ _ = true; decide +kernel)) (fun _ _ _ _ _ => (pg_name (i := 9) nd rfl (Or.inl rfl))) (fun _ _ _ _ _ => pts_nil) (fun _ _ _ _ _ => (pe_ix (ix_listK K) (pv 3) (pv 9) (fun _ _ => rfl)))))))))))))
    (pss_one (ps_ret (pv 2)))))), ?_⟩
    have hln : (as.map V.ref).length = ps.length := by rw [List.length_map, hR.len]
    refine ⟨_, rfl, l, rfl, ⟨_, SqL.of hl⟩, lcL (xs := as.map V.ref) (SqL.of hl) (by omega) (fun i acc H' => acc = (List.replicate i (t : Int)).map V.int) (fun D hD => rfl) ?_ ?_⟩
    · intro D i x acc H' Nx hD hx s1 h hacc k1 k2
      refine ⟨rfl, ty_of (te_of (ev_var rfl) (k1 _ _ (Same.refl _) ?_))⟩
      rw [hacc, List.replicate_succ', List.map_append]
      rfl
    intro tm acc H1 htm s1 h1 _ hacc
    rw [hln] at hacc
    subst hacc
    refine ⟨_, rfl, _, _, rfl, .inl (SqL.of (s1 _ _ hl)), _, rfl, fun g hg => ?_⟩
    refine ⟨g, (as.map V.ref).length, rfl, upd_same, Nat.le_of_lt (small1 (by omega)), fun pl hpl => ?_⟩
    rw [hln] at hpl ⊢
    have s2 : Same H1 (upd H1 g (.rng 0 ((ps.length : Nat) : Int))) := Same.new hg
    have s3 : Same H1 (upd (upd H1 g (.rng 0 ((ps.length : Nat) : Int))) pl (.lst ((List.range ps.length).map fun (k : Nat) => V.int (k : Int)))) := s2.upd (s2.free hpl)
    refine gn_of ?_
    dsimp only
    refine while_byN (fun σ H' => TimesI A.CP H ps t tm H' σ) plen
      ⟨l, pl, none, none, none, none, ps.zipIdx, 0, List.replicate ps.length (t : Int), s1.trans s3, ?_, ?_, ?_, ?_, ?_, My.TInv.start (List.length_replicate) hpos, ?_⟩ ?_ ?_
    · rw [My.zipIdx_fst]
      exact BoxAt.same (s1.trans s3) ⟨as, hl, hR⟩
    · rw [upd_same, My.zipIdx_snd, List.range_eq_range']
      rfl
    · exact s3 _ _ h1
    · exact ne_of_none hl htm
    · exact fun q => (ne_of_none (s2 _ _ h1) hpl) q.symm
    · rw [List.length_zipIdx]
      exact Nat.le_refl _
    · rintro D0 σ H' hD0 ⟨b, pl, v4, v5, v6, v7, cur, te, times, s4, ⟨bs, hb, hB⟩, hpl', htm', hbt, hpt, I, hcl⟩
      refine tt_of (et_lst (ev_var rfl) (SqL.of hpl')) (iteB (fun q => ?_) (fun q => ?_))
      · have hne : (cur.map fun x => x.1) ≠ [] := by
          intro e
          have : cur = [] := List.map_eq_nil_iff.mp e
          rw [this] at q
          cases q
        have hcl1 : (cur.map fun x => x.1).length ≤ 1000 := by rw [List.length_map]; omega
        refine tc_of (eva1 (ev_var rfl)) ⟨b, _, ⟨bs, hb, hB⟩, hcl1, hne, fun m H2 s5 hm => ?_⟩
        refine st_augI rfl (ev_var rfl) ?_
        have eT : ((t + te : Nat) : Int) + (m : Int) = ((t + (te + m) : Nat) : Int) := by omega
        refine ⟨_, rfl, pl, rfl, ⟨_, SqL.of (s5 _ _ hpl')⟩, for_listN (K := K) (a := pl) (xs := nats (cur.map fun x => x.2)) (fun i σ H3 => TimesJ H2 tm cur times _ _ _ _ _ v6 v7 ((t + (te + m) : Nat) : Int) i H3 σ) ⟨v5, (Same.refl H2).keep _, s5 _ _ htm'⟩
          (fun i σ H3 _ h => by cases h with | mk _ kp => exact SqL.of (kp _ _ (s5 _ _ hpl') (notin1 hpt))) ?_ ?_⟩
        · rintro D' i y σ H3 hD' hi ⟨v5', kp, ht3⟩
          obtain ⟨n, hn, rfl⟩ := map_get hi
          have hnl : n < ps.length := I.lt n (List.mem_of_getElem? hn)
          refine st_setitem (ev_var rfl) (ev_var rfl) (ev_var rfl) ht3 (ixN_nat (j := n) (by rw [List.length_map, My.setAll_length, I.len]; exact hnl)) ?_
          refine hD' _ _ ⟨_, kp.upd (.inl List.mem_cons_self), ?_⟩
          rw [upd_same, My.take_snoc hn, My.setAll_snoc, List.map_set, eT]
        · rintro σ H3 ⟨v5', kp, ht3⟩
          rw [nats_length, List.take_length] at ht3
          have hb2 := s5 _ _ hb
          have hb3 : H3 b = some (.lst (bs.map V.ref)) := kp _ _ hb2 (notin1 hbt)
          have hpl3 := kp _ _ (s5 _ _ hpl') (notin1 hpt)
          have htm2 := s5 _ _ htm'
          have hB3 : Refs (PenAt A.CP H3) bs (cur.map fun x => x.1) := hB.imp fun _ _ z => PenAt.keep kp htm2 (z.same s5)
          have sH3 : Same H H3 := fun c o e => kp _ _ ((s4.trans s5) _ _ e) (by
            intro q
            have : c = tm := List.mem_singleton.mp q
            rw [this, htm] at e
            cases e)
          refine tc_of (eva_cons (ev_var rfl) (eva1 (ev_var rfl))) ⟨b, _, m, m, ⟨bs, hb3, hB3⟩, hcl1, hm, Nat.le_refl _, fun sv H4 s6 hsv hBs => ?_⟩
          rw [← My.lessZ_fst] at hBs
          obtain ⟨cs, hsv4, hC⟩ := hBs
          have hZl := My.lessZ_length cur m
          have hZs := My.lessZ_snd cur m
          have I' := I.step hm
          have hlt := My.lessZ_lt hm
          generalize hZ : My.lessZ cur m = Z at hsv4 hC hZl hZs I' hlt
          have hcsl : (cs.map V.ref).length = Z.length := by rw [List.length_map, hC.len, List.length_map]
          refine ⟨_, rfl, _, _, rfl, .inl (SqL.of hsv4), _, rfl, by omega, by omega, ?_⟩
          refine lcR (n := (cs.map V.ref).length) (by omega)
            (fun i acc H' => ∃ ks : List Nat, acc = nats ks ∧ ks.map (fun k => Z[k]?) = ((Z.take i).filter My.alive).map some) (fun D hD => ⟨[], rfl, rfl⟩) ?_ ?_
          · intro D i acc H5 Nx hD hi s7 hDl hacc k1 k2
            obtain ⟨ks, rfl, hks⟩ := hacc
            have hz : Z[i]? = some Z[i] := List.getElem?_eq_getElem (by omega)
            generalize Z[i] = z at hz
            obtain ⟨c, hc, dx, hpc⟩ := hC.get (get_map' (f := fun x : Pen × Nat => x.1) hz)
            refine ⟨rfl, tt_of (et_t (ev_i (ev_fld (ev_ixL (ev_var rfl) (ev_var rfl) (SqL.of (s7 _ _ hsv4)) (refs_get hc)) (s7 _ _ hpc) T.clP T.p_left (pf_left _)) ev_c)) (iteB (fun q => ?_) (fun q => ?_))⟩
            · have q' : My.alive z = true := decide_eq_true (by have := of_decide_eq_true q; omega)
              refine te_of (ev_var rfl) (k1 _ _ (Same.refl _) ⟨ks ++ [i], by unfold nats; rw [List.map_append]; rfl, ?_⟩)
              rw [My.take_snoc hz, List.filter_append, List.filter_cons, if_pos q', List.map_append, List.map_append, hks]
              show _ ++ [Z[i]?] = _ ++ [some z]
              rw [hz]
            · have q' : ¬ My.alive z = true := by
                intro w'
                have h1 := of_decide_eq_true w'
                have h2 := of_decide_eq_false q
                omega
              refine k2 _ (Same.refl _) ⟨ks, rfl, ?_⟩
              rw [My.take_snoc hz, List.filter_append, List.filter_cons, if_neg q', hks]
              simp
          · intro kp5 acc H5 hD s7 hkp _ hacc
            obtain ⟨ks, rfl, hks⟩ := hacc
            rw [hcsl, List.take_length] at hks
            have hksl : ks.length = (Z.filter My.alive).length := by
              have := congrArg List.length hks
              rwa [List.length_map, List.length_map] at this
            have hfl : (Z.filter My.alive).length ≤ Z.length := List.length_filter_le _ _
            have kget : ∀ {i n : Nat}, ks[i]? = some n → ∃ z, Z[n]? = some z ∧ (Z.filter My.alive)[i]? = some z := fun {i n} hn => by
              have e1 : (ks.map fun k => Z[k]?)[i]? = some (Z[n]?) := get_map' hn
              rw [hks] at e1
              obtain ⟨z, hz, e⟩ := map_get e1
              exact ⟨z, e, hz⟩
            refine ⟨_, rfl, kp5, rfl, ⟨_, SqL.of hkp⟩, lcL (xs := nats ks) (SqL.of hkp) (by rw [nats_length]; omega)
              (fun i acc H' => ∃ ds : List Addr, acc = ds.map V.ref ∧ Refs (PenAt A.CP H') ds (((Z.filter My.alive).take i).map fun x => x.1)) (fun D hD => ⟨[], rfl, Refs.nil⟩) ?_ ?_⟩
            · intro D i x acc H6 Nx hD hx s8 hDl hacc k1 k2
              obtain ⟨n, hn, rfl⟩ := map_get hx
              obtain ⟨ds, rfl, hds⟩ := hacc
              obtain ⟨z, hz, hzf⟩ := kget hn
              obtain ⟨c, hc, hpc⟩ := hC.get (get_map' (f := fun x : Pen × Nat => x.1) hz)
              have s78 := s7.trans s8
              refine ⟨rfl, ty_of (te_of (ev_ixL (ev_var rfl) (ev_var rfl) (SqL.of (s78 _ _ hsv4)) (refs_get hc)) (k1 _ _ (Same.refl _) ⟨ds ++ [c], by rw [List.map_append]; rfl, ?_⟩))⟩
              rw [My.take_snoc hzf, List.map_append]
              exact (hds.imp fun _ _ z => z.updL hDl).snoc ((hpc.same s78).updL hDl)
            · intro bx acc H6 hbx s8 hbx6 _ hacc
              obtain ⟨ds, rfl, hds⟩ := hacc
              rw [nats_length, hksl, List.take_length] at hds
              have s678 := (s6.trans s7).trans s8
              refine ⟨_, rfl, kp5, rfl, ⟨_, SqL.of (s8 _ _ hkp)⟩, lcL (xs := nats ks) (SqL.of (s8 _ _ hkp)) (by rw [nats_length]; omega)
                (fun i acc H' => acc = nats (((Z.filter My.alive).take i).map fun x => x.2)) (fun D hD => rfl) ?_ ?_⟩
              · intro D i x acc H7 Nx hD hx s9 hDl hacc k1 k2
                obtain ⟨n, hn, rfl⟩ := map_get hx
                obtain ⟨z, hz, hzf⟩ := kget hn
                have hpn : (cur.map fun x => x.2)[n]? = some z.2 := by
                  rw [← hZs]
                  exact get_map' (f := fun x : Pen × Nat => x.2) hz
                refine ⟨rfl, ty_of (te_of (ev_ixL (ev_var rfl) (ev_var rfl) (SqL.of (s9 _ _ (s678 _ _ hpl3))) (nats_get hpn)) (k1 _ _ (Same.refl _) ?_))⟩
                rw [hacc, My.take_snoc hzf, List.map_append]
                unfold nats
                rw [List.map_append]
                rfl
              · intro pl2 acc H7 hpl2 s9 hpl7 _ hacc
                rw [nats_length, hksl, List.take_length] at hacc
                subst hacc
                have s69 := s678.trans s9
                have ht7 := s69 _ _ ht3
                rw [eT]
                refine hD0 _ _ ⟨bx, pl2, some (.int m), v5', some (.ref sv), some (.ref kp5), Z.filter My.alive, te + m, _, sH3.trans s69, ⟨ds, s9 _ _ hbx6, hds.imp fun _ _ => PenAt.same s9⟩, hpl7, ht7, ?_, ?_, I', by omega⟩ ?_
                · exact fun q => (ne_of_none ((s6.trans s7) _ _ ht3) hbx) q.symm
                · exact fun q => (ne_of_none (s678 _ _ ht3) hpl2) q.symm
                · show (match H7 pl2 with | some (.lst xs) => xs.length | _ => 0) < (match H' pl with | some (.lst xs) => xs.length | _ => 0)
                  rw [hpl7, hpl']
                  show (nats _).length < (nats _).length
                  rw [nats_length, nats_length, List.length_map, List.length_map]
                  exact hlt
      · refine st_ret (ev_var rfl) ?_
        have e : cur = [] := by
          cases cur with
          | nil => rfl
          | cons _ _ => cases q
        exact k tm times H' s4 htm htm' I.len fun i hi => I.out i hi (by rw [e]; intro z; cases z)
    · intro σ H' Q1 Q2 hq h
      obtain ⟨v, hv, kk, hk, hh⟩ := h
      exact ⟨v, hv, kk, hk, hq _ _ hh⟩
end
end Ice
namespace Ice
open PySem PySem.Spec PyProof.Rows L2
open Kg58 (Pen Told State Team runs running soonest minus after short ended singles marked cancel parts washed lengthOf minutesOf)
open My (PosL lefts lessAll Tab TabOk NSt StOk ToldOk RepT)
inductive spBoxesOfI (C : Addr) (H : Hp) (Q : VK) : List V → Prop
  | mk (l : Addr) (xs : List Told) (h0 : ToldsAt H l xs) (h1 : xs.length ≤ 10000) (h2 : (∀ x ∈ xs, ToldOk x)) (h3 : ∀ (r b0 b1 : Addr) (H' : Hp), Same H H' → H r = Option.none → H b0 = Option.none → H b1 = Option.none → H' r = some (.lst [.ref b0, .ref b1]) → BoxAt C H' b0 (marked (cancel xs 0) (cancel xs 1) (singles xs 0)) → BoxAt C H' b1 (marked (cancel xs 0) (cancel xs 1) (singles xs 1)) → Q (.ref r) H') : spBoxesOfI C H Q [.ref l]
def spBoxesOf (C : Addr) : Sp := fun vs H Q _ => spBoxesOfI C H Q vs
structure Two (C : Addr) (H H' : Hp) (bx b0 b1 : Addr) (as0 as1 : List Addr) (p0 p1 : List Pen) : Prop where
  s : Same H H'
  n0 : H b0 = Option.none
  n1 : H b1 = Option.none
  nx : H bx = Option.none
  d01 : b0 ≠ b1
  d0x : b0 ≠ bx
  d1x : b1 ≠ bx
  hx : H' bx = some (.lst [.ref b0, .ref b1])
  h0 : H' b0 = some (.lst (as0.map V.ref))
  h1 : H' b1 = some (.lst (as1.map V.ref))
  r0 : Refs (PenAt C H') as0 p0
  r1 : Refs (PenAt C H') as1 p1
  nd : (as0 ++ as1).Nodup
  fr : ∀ a, a ∈ as0 ++ as1 → H a = Option.none
theorem Two.swap_at {C : Addr} {H H' : Hp} {bx b0 b1 : Addr} {as0 as1 : List Addr} {p0 p1 : List Pen} (W : Two C H H' bx b0 b1 as0 as1 p0 p1) : ∀ a ∈ as0 ++ as1, ∃ dx p, H' a = some (.ins C dx (pf p)) := by
  intro a ha
  rcases List.mem_append.mp ha with ha | ha
  · obtain ⟨j, hj⟩ := List.mem_iff_getElem?.mp ha
    obtain ⟨p, _, dx, e⟩ := W.r0.getA hj
    exact ⟨dx, p, e⟩
  · obtain ⟨j, hj⟩ := List.mem_iff_getElem?.mp ha
    obtain ⟨p, _, dx, e⟩ := W.r1.getA hj
    exact ⟨dx, p, e⟩
theorem Two.same {C : Addr} {H H' H'' : Hp} {bx b0 b1 : Addr} {as0 as1 : List Addr} {p0 p1 : List Pen} (W : Two C H H' bx b0 b1 as0 as1 p0 p1) (s : Same H' H'') : Two C H H'' bx b0 b1 as0 as1 p0 p1 :=
  ⟨W.s.trans s, W.n0, W.n1, W.nx, W.d01, W.d0x, W.d1x, s _ _ W.hx, s _ _ W.h0, s _ _ W.h1, W.r0.imp fun _ _ => PenAt.same s, W.r1.imp fun _ _ => PenAt.same s, W.nd, W.fr⟩
theorem Two.add0 {C : Addr} {H H' H'' : Hp} {bx b0 b1 : Addr} {as0 as1 : List Addr} {p0 p1 : List Pen} (W : Two C H H' bx b0 b1 as0 as1 p0 p1) {x : Addr} {p : Pen} (hx : H' x = Option.none) (s : Same H' H'') (hp : PenAt C H'' x p) :
    Two C H (upd H'' b0 (.lst (as0.map V.ref ++ [.ref x]))) bx b0 b1 (as0 ++ [x]) as1 (p0 ++ [p]) p1 := by
  have W2 := W.same s
  have hn : ¬ x ∈ as0 ++ as1 := fun q => by
    obtain ⟨dx, p, e⟩ := W.swap_at x q
    rw [hx] at e
    cases e
  refine ⟨W2.s.upd W.n0, W.n0, W.n1, W.nx, W.d01, W.d0x, W.d1x, by rw [upd_ne W.d0x.symm]; exact W2.hx, by rw [upd_same, List.map_append]; rfl, by rw [upd_ne W.d01.symm]; exact W2.h1,
    (W2.r0.imp fun _ _ z => z.updL W2.h0).snoc (hp.updL W2.h0), W2.r1.imp fun _ _ z => z.updL W2.h0, ?_, fun a ha => ?_⟩
  · rw [List.append_assoc]
    have nd := W.nd
    rw [List.nodup_append] at nd ⊢
    refine ⟨nd.1, ?_, ?_⟩
    · rw [List.singleton_append, List.nodup_cons]
      exact ⟨fun q => hn (List.mem_append.mpr (.inr q)), nd.2.1⟩
    · intro a ha b hb e
      rcases List.mem_cons.mp hb with rfl | hb
      · exact hn (List.mem_append.mpr (.inl (by rw [← e]; exact ha)))
      · exact nd.2.2 a ha b hb e
  · rw [List.append_assoc] at ha
    rcases List.mem_append.mp ha with ha | ha
    · exact W.fr a (List.mem_append.mpr (.inl ha))
    · rcases List.mem_cons.mp ha with rfl | ha
      · exact W.s.free hx
      · exact W.fr a (List.mem_append.mpr (.inr ha))
theorem Two.add1 {C : Addr} {H H' H'' : Hp} {bx b0 b1 : Addr} {as0 as1 : List Addr} {p0 p1 : List Pen} (W : Two C H H' bx b0 b1 as0 as1 p0 p1) {x : Addr} {p : Pen} (hx : H' x = Option.none) (s : Same H' H'') (hp : PenAt C H'' x p) :
    Two C H (upd H'' b1 (.lst (as1.map V.ref ++ [.ref x]))) bx b0 b1 as0 (as1 ++ [x]) p0 (p1 ++ [p]) := by
  have W2 := W.same s
  have hn : ¬ x ∈ as0 ++ as1 := fun q => by
    obtain ⟨dx, p, e⟩ := W.swap_at x q
    rw [hx] at e
    cases e
  refine ⟨W2.s.upd W.n1, W.n0, W.n1, W.nx, W.d01, W.d0x, W.d1x, by rw [upd_ne W.d1x.symm]; exact W2.hx, by rw [upd_ne W.d01]; exact W2.h0, by rw [upd_same, List.map_append]; rfl,
    W2.r0.imp fun _ _ z => z.updL W2.h1, (W2.r1.imp fun _ _ z => z.updL W2.h1).snoc (hp.updL W2.h1), ?_, fun a ha => ?_⟩
  · rw [← List.append_assoc, List.nodup_append]
    refine ⟨W.nd, by simp, ?_⟩
    intro a ha b hb e
    have : b = x := List.mem_singleton.mp hb
    rw [← this, ← e] at hn
    exact hn ha
  · rw [← List.append_assoc] at ha
    rcases List.mem_append.mp ha with ha | ha
    · exact W.fr a ha
    · have : a = x := List.mem_singleton.mp ha
      rw [this]
      exact W.s.free hx
theorem Two.unc0 {C : Addr} {H H' : Hp} {bx b0 b1 : Addr} {as0 as1 : List Addr} {p0 p1 : List Pen} (W : Two C H H' bx b0 b1 as0 as1 p0 p1) {a dx : Addr} {i : Nat} {p : Pen} (ha : as0[i]? = some a) (hp : p0[i]? = some p) (e : H' a = some (.ins C dx (pf p))) :
    Two C H (upd H' a (.ins C dx (pf (My.noCount p)))) bx b0 b1 as0 as1 (p0.set i (My.noCount p)) p1 := by
  have ne : ∀ {b : Addr} {xs : List V}, H' b = some (.lst xs) → b ≠ a := fun h => ne_of h e (by intro z; cases z)
  have nd := List.nodup_append.mp W.nd
  have hn : H a = Option.none := W.fr a (List.mem_append.mpr (.inl (List.mem_of_getElem? ha)))
  refine ⟨W.s.upd hn, W.n0, W.n1, W.nx, W.d01, W.d0x, W.d1x, by rw [upd_ne (ne W.hx)]; exact W.hx, by rw [upd_ne (ne W.h0)]; exact W.h0, by rw [upd_ne (ne W.h1)]; exact W.h1, ?_, ?_, W.nd, W.fr⟩
  · refine ⟨by rw [List.length_set]; exact W.r0.len, fun j b q h1 h2 => ?_⟩
    by_cases hj : j = i
    · subst hj
      have : b = a := Option.some.inj (h1.symm.trans ha)
      subst this
      rw [List.getElem?_set_self (by rw [← W.r0.len]; exact (List.getElem?_eq_some_iff.mp h1).1)] at h2
      have : My.noCount p = q := Option.some.inj h2
      rw [← this]
      exact ⟨dx, upd_same⟩
    · rw [List.getElem?_set_ne (fun z => hj z.symm)] at h2
      obtain ⟨dy, ey⟩ := W.r0.at_ j b q h1 h2
      have : b ≠ a := fun z => hj (nd_ix nd.1 h1 (by rw [z]; exact ha))
      exact ⟨dy, by rw [upd_ne this]; exact ey⟩
  · refine ⟨W.r1.len, fun j b q h1 h2 => ?_⟩
    obtain ⟨dy, ey⟩ := W.r1.at_ j b q h1 h2
    have : b ≠ a := fun z => nd.2.2 a (List.mem_of_getElem? ha) b (List.mem_of_getElem? h1) z.symm
    exact ⟨dy, by rw [upd_ne this]; exact ey⟩
theorem Two.unc1 {C : Addr} {H H' : Hp} {bx b0 b1 : Addr} {as0 as1 : List Addr} {p0 p1 : List Pen} (W : Two C H H' bx b0 b1 as0 as1 p0 p1) {a dx : Addr} {i : Nat} {p : Pen} (ha : as1[i]? = some a) (hp : p1[i]? = some p) (e : H' a = some (.ins C dx (pf p))) :
    Two C H (upd H' a (.ins C dx (pf (My.noCount p)))) bx b0 b1 as0 as1 p0 (p1.set i (My.noCount p)) := by
  have ne : ∀ {b : Addr} {xs : List V}, H' b = some (.lst xs) → b ≠ a := fun h => ne_of h e (by intro z; cases z)
  have nd := List.nodup_append.mp W.nd
  have hn : H a = Option.none := W.fr a (List.mem_append.mpr (.inr (List.mem_of_getElem? ha)))
  refine ⟨W.s.upd hn, W.n0, W.n1, W.nx, W.d01, W.d0x, W.d1x, by rw [upd_ne (ne W.hx)]; exact W.hx, by rw [upd_ne (ne W.h0)]; exact W.h0, by rw [upd_ne (ne W.h1)]; exact W.h1, ?_, ?_, W.nd, W.fr⟩
  · refine ⟨W.r0.len, fun j b q h1 h2 => ?_⟩
    obtain ⟨dy, ey⟩ := W.r0.at_ j b q h1 h2
    have : b ≠ a := fun z => nd.2.2 b (List.mem_of_getElem? h1) a (List.mem_of_getElem? ha) z
    exact ⟨dy, by rw [upd_ne this]; exact ey⟩
  · refine ⟨by rw [List.length_set]; exact W.r1.len, fun j b q h1 h2 => ?_⟩
    by_cases hj : j = i
    · subst hj
      have : b = a := Option.some.inj (h1.symm.trans ha)
      subst this
      rw [List.getElem?_set_self (by rw [← W.r1.len]; exact (List.getElem?_eq_some_iff.mp h1).1)] at h2
      have : My.noCount p = q := Option.some.inj h2
      rw [← this]
      exact ⟨dx, upd_same⟩
    · rw [List.getElem?_set_ne (fun z => hj z.symm)] at h2
      obtain ⟨dy, ey⟩ := W.r1.at_ j b q h1 h2
      have : b ≠ a := fun z => hj (nd_ix nd.2.1 h1 (by rw [z]; exact ha))
      exact ⟨dy, by rw [upd_ne this]; exact ey⟩
end Ice
namespace Ice
open PySem PySem.Spec PyProof.Rows L2
open Kg58 (Pen Told State Team runs running soonest minus after short ended singles marked cancel parts washed lengthOf minutesOf)
open My (PosL lefts lessAll Tab TabOk NSt StOk ToldOk RepT)
section
variable {P : Program} {w : World} {K : PySem.W.Frag} {mg : Str → Option Value} {base : Heap} {A : Ad}
theorem pf_len (p : Pen) : (pf p).length < 1000 := by
  rw [pf_eq]
  show 4 < 1000
  decide
theorem map_snoc {α β : Type} (f : α → β) (l : List α) (x : α) : (l ++ [x]).map f = l.map f ++ [f x] := by
  rw [List.map_append]
  rfl
theorem secs_get (T : Txt K mg A) {kd : Nat} (h : kd ≤ 2) : atI [V.int 120, V.int 300, V.int 600] (kd : Int) = some (.int (lengthOf kd : Int)) := by
  match kd, h with
  | 0, _ => rfl
  | 1, _ => rfl
  | 2, _ => rfl
theorem line_of {n : Nat} (h : n ≤ 1000000) : n < sizeLine := by
  have := sizeLine_eq
  omega
def addIf (c : Prop) [Decidable c] (l : List (Nat × Nat)) : List (Nat × Nat) := if c then l else []
inductive BoxesI (CP : Addr) (H : Hp) (l bx b0 b1 : Addr) (xs : List Told) (i : Nat) (H' : Hp) : L2.St → Prop
  | mk (v2 v3 v4 v5 : Option V) (as0 as1 : List Addr) (W : Two CP H H' bx b0 b1 as0 as1 ((singles (xs.take i) 0).map My.mk1) ((singles (xs.take i) 1).map My.mk1)) : BoxesI CP H l bx b0 b1 xs i H' [some (.ref l), some (.ref bx), v2, v3, v4, v5, none, none]
inductive BoxesJ (CP : Addr) (H : Hp) (bx b0 b1 : Addr) (ys : List Told) (team player kind : Nat) (q0 q1 q2 q3 q4 : Option V) (j : Nat) (H' : Hp) : L2.St → Prop
  | mk (v5 : Option V) (as0 as1 : List Addr) (W : Two CP H H' bx b0 b1 as0 as1 ((singles ys 0 ++ addIf (team = 0) (((parts kind).take j).map fun k => (player, k))).map My.mk1) ((singles ys 1 ++ addIf (team = 1) (((parts kind).take j).map fun k => (player, k))).map My.mk1)) :
    BoxesJ CP H bx b0 b1 ys team player kind q0 q1 q2 q3 q4 j H' [q0, q1, q2, q3, q4, v5, none, none]
inductive BoxesK (CP : Addr) (H : Hp) (tp bx b0 b1 : Addr) (as0 as1 : List Addr) (xs : List Told) (q0 q1 v2 v3 v4 : Option V) (i : Nat) (H' : Hp) : L2.St → Prop
  | mk (v5 v6 v7 : Option V) (ht : H' tp = some (.tup [.int 0, .int 1])) (W : Two CP H H' bx b0 b1 as0 as1 (My.uncs (cancel xs 0) (cancel xs 1) i ((singles xs 0).map My.mk1)) (My.uncs (cancel xs 0) (cancel xs 1) i ((singles xs 1).map My.mk1))) :
    BoxesK CP H tp bx b0 b1 as0 as1 xs q0 q1 v2 v3 v4 i H' [q0, q1, v2, v3, v4, v5, v6, v7]
inductive BoxesL (CP : Addr) (H : Hp) (tp z0 z1 bx b0 b1 : Addr) (as0 as1 bs0 bs1 : List Addr) (P0 P1 : List Pen) (i : Nat) (q0 q1 v2 v3 v4 v5 : Option V) (j : Nat) (H' : Hp) : L2.St → Prop
  | mk (v6 v7 : Option V) (ht : H' tp = some (.tup [.int 0, .int 1])) (h0 : H' z0 = some (.lst (bs0.map V.ref))) (h1 : H' z1 = some (.lst (bs1.map V.ref))) (W : Two CP H H' bx b0 b1 as0 as1 (My.unc i j P0) (My.unc i j P1)) :
    BoxesL CP H tp z0 z1 bx b0 b1 as0 as1 bs0 bs1 P0 P1 i q0 q1 v2 v3 v4 v5 j H' [q0, q1, v2, v3, v4, v5, v6, v7]
theorem ok_boxes {f fI fK : Addr} {fd fdI fdK : FuncData} (F : Fun K "boxes_of" "boxes_of" s_boxes_of f fd) (T : Txt K mg A) (mkP : Mk K A.CP fI)
    (G_Penalty_init : FnOk P w K mg base CX0 1 fI fdI ["self", "player", "kind", "left", "counts"] (spPI A.CP)) (D_Penalty_init : MDef K A.CP "__init__" "Penalty.__init__" s_Penalty_init ["self", "player", "kind", "left", "counts"] fI fdI)
    (D_of_kind : Def K mg "of_kind" s_of_kind ["box", "kind"] fK fdK) (G_of_kind : FnOk P w K mg base CX0 1 fK fdK ["box", "kind"] (spOfKind A.CP)) : FnOk P w K mg base CX0 3 f fd ["coming"] (spBoxesOf A.CP) := by
  refine F.ok sc_boxes_of (fun vs H Q E h => ?_) (fun cdv Ar outer s H vs Q E hr h => ?_)
  · obtain ⟨l, xs, _⟩ := h
    rfl
  · obtain ⟨l, xs, ⟨ts, hl, hR⟩, hlen, hok, k⟩ := h
    have nd := sc_boxes_of.nd
    refine ⟨_, (pss_cons (ps_set (i := 1) nd rfl (Or.inl rfl) (pe_lst (pa_cons (pe_lst pa_nil) (pa_cons (pe_lst pa_nil) pa_nil))))
    (pss_cons (ps_for PassesOwn.never rfl (pi_list (pv 0)) (pg_tup rfl (pgs_cons (pg_name (i := 2) nd rfl (Or.inl rfl)) (pgs_cons (pg_name (i := 3) nd rfl (Or.inl rfl)) (pgs_cons (pg_name (i := 4) nd rfl (Or.inl rfl)) pgs_nil))))
      (pss_one (ps_for PassesOwn.never rfl (pi_tup (pe_ix ix_tup (gt T.SERVED) (pv 4) (fun _ _ => rfl))) (pg_name (i := 5) nd rfl (Or.inl rfl))
        (pss_one (ps_expr (pe_bm PySem.F.plainAttrs_list PySem.F.slot_list_append PySem.F.type_list_append mt_append (pe_ix ix_list (pv 1) (pv 2) (fun _ _ => rfl)) (pa_cons (pe_make mkP G_Penalty_init (hr.mono (by decide)) rfl T.mgP D_Penalty_init.b .nil pass0 (pa_cons (pv 3) (pa_cons (pv 5) (pa_cons (pe_ix ix_tup (gt T.SECONDS) (pv 5) (fun _ _ => rfl)) (pa_cons (pe_cmpR op_ne (pv 5) (gi T.MISCONDUCT) (nomark _)) pa_nil))))) pa_nil)))))))
    (pss_cons (ps_for PassesOwn.never rfl (pi_tup (pe_tup (pa_cons (gi T.MINOR) (pa_cons (gi T.MAJOR) pa_nil)))) (pg_name (i := 5) nd rfl (Or.inl rfl))
      (pss_one (ps_for PassesOwn.never rfl (pi_zip rfl T.zip_ (pa_cons (pe_call G_of_kind (hr.mono (by decide)) rfl D_of_kind.mg D_of_kind.fn.kp D_of_kind.b .nil pass0 (pa_cons (pe_ix ix_list (pv 1) pe_int (fun _ _ => rfl)) (pa_cons (pv 5) pa_nil))) (pa_cons (pe_call G_of_kind (hr.mono (by decide)) rfl D_of_kind.mg D_of_kind.fn.kp D_of_kind.b .nil pass0 (pa_cons (pe_ix ix_list (pv 1) pe_int (fun _ _ => rfl)) (pa_cons (pv 5) pa_nil))) pa_nil))) (pg_tup rfl (pgs_cons (pg_name (i := 6) nd rfl (Or.inl rfl)) (pgs_cons (pg_name (i := 7) nd rfl (Or.inl rfl)) pgs_nil)))
        (pss_cons (ps_fld (pv 6) pe_bl rfl)
        (pss_one (ps_fld (pv 7) pe_bl rfl))))))
    (pss_one (ps_ret (pv 1)))))), ?_⟩
    refine ⟨Nat.zero_le _, fun b0 hb0 => ⟨Nat.zero_le _, fun b1 hb1 => ⟨(by show 2 ≤ sizeLine; decide), fun bx hbx => ?_⟩⟩⟩
    have W0 : Two A.CP H (upd (upd (upd H b0 (.lst [])) b1 (.lst [])) bx (.lst [.ref b0, .ref b1])) bx b0 b1 [] [] [] [] := by
      have s0 : Same H (upd H b0 (.lst [])) := Same.new hb0
      have n1 := s0.free hb1
      have s1 : Same H (upd (upd H b0 (.lst [])) b1 (.lst [])) := s0.upd n1
      have nx := s1.free hbx
      have d01 : b0 ≠ b1 := ne_of_none upd_same hb1
      have d0x : b0 ≠ bx := ne_of_none (H := upd (upd H b0 (.lst [])) b1 (.lst [])) (by rw [upd_ne d01]; exact upd_same) hbx
      have d1x : b1 ≠ bx := ne_of_none upd_same hbx
      exact ⟨s1.upd nx, hb0, n1, nx, d01, d0x, d1x, upd_same, by rw [upd_ne d0x, upd_ne d01]; exact upd_same, by rw [upd_ne d1x]; exact upd_same, Refs.nil, Refs.nil, List.nodup_nil, fun a ha => by cases ha⟩
    refine gn_of ?_
    dsimp only
    refine ⟨_, rfl, l, rfl, ⟨_, SqL.of (W0.s _ _ hl)⟩, for_listN (K := K) (a := l) (xs := ts.map V.ref) (fun i σ H' => BoxesI A.CP H l bx b0 b1 xs i H' σ) ⟨none, none, none, none, [], [], W0⟩
      (fun i σ H' _ h => by cases h with | mk _ _ _ _ _ _ W => exact SqL.of (W.s _ _ hl)) ?_ ?_⟩
    · intro D i y σ H' hD hi hI
      refine hideN fun N hN => ?_
      obtain ⟨v2, v3, v4, v5, as0, as1, W⟩ := hI
      obtain ⟨a, ha, rfl⟩ := map_get hi
      obtain ⟨x, hx, hax⟩ := hR.getA ha
      have hil : i < xs.length := (List.getElem?_eq_some_iff.mp hx).1
      obtain ⟨hx1, hx2, hx3⟩ := hok x (List.mem_of_getElem? hx)
      have sn : ∀ t, singles (xs.take (i + 1)) t = singles (xs.take i) t ++ addIf (x.team = t) ((parts x.kind).map fun k => (x.player, k)) := fun t => by
        rw [My.take_snoc hx, My.singles_snoc]
        rfl
      have hsl : ∀ t, (singles (xs.take i) t).length ≤ 20000 := fun t => by
        have h1 := My.singles_len t (xs.take i)
        rw [List.length_take] at h1
        omega
      obtain ⟨team, player, kind⟩ := x
      obtain ⟨r, hr1, hrs, hro⟩ := T.srvAt kind hx3
      refine ⟨a, _, rfl, SqT.of (W.s _ _ hax), rfl, _, _, rfl, _, _, rfl, _, _, rfl, rfl, ?_⟩
      subst hN
      refine ⟨_, rfl, A.tSERVED, _, _, _, rfl, rfl, T.sqSERVED _, refs_get hr1, r, rfl, ⟨_, hrs _⟩, for_tupN (K := K) (a := r) (xs := (parts kind).map fun (n : Nat) => V.int (n : Int)) (fun j σ H' => BoxesJ A.CP H bx b0 b1 (xs.take i) team player kind _ _ _ _ _ j H' σ)
        ⟨v5, as0, as1, ?_⟩ (fun j σ H' _ _ => hrs H') ?_ ?_⟩
      · have e0 : ∀ (c : Prop) [Decidable c], addIf c (((parts kind).take 0).map fun k => (player, k)) = [] := fun c _ => by
          unfold addIf
          split <;> rfl
        rw [e0, e0, List.append_nil, List.append_nil]
        exact W
      · rintro D' j y σ H1 hD' hj ⟨v5, as0, as1, W⟩
        obtain ⟨kd, hkd, rfl⟩ := map_get hj
        have hkd2 : kd ≤ 2 := My.parts_le hx3 kd (List.mem_of_getElem? hkd)
        have hpl := My.parts_len kind
        have hal : ∀ (c : Prop) [Decidable c], (addIf c (((parts kind).take j).map fun k => (player, k))).length ≤ 2 := fun c _ => by
          unfold addIf
          split
          · rw [List.length_map, List.length_take]; omega
          · exact Nat.zero_le _
        have up1 : ∀ (c : Prop) [Decidable c], c → addIf c (((parts kind).take (j + 1)).map fun k => (player, k)) = addIf c (((parts kind).take j).map fun k => (player, k)) ++ [(player, kd)] := fun c _ hc => by
          unfold addIf
          rw [if_pos hc, if_pos hc, My.take_snoc hkd, List.map_append]
          rfl
        have up0 : ∀ (c : Prop) [Decidable c], ¬ c → addIf c (((parts kind).take (j + 1)).map fun k => (player, k)) = addIf c (((parts kind).take j).map fun k => (player, k)) := fun c _ hc => by
          unfold addIf
          rw [if_neg hc, if_neg hc]
        have args : ∀ (x' : Addr), [V.ref x', V.int (player : Int), V.int (kd : Int), V.int (lengthOf kd : Int), V.bl (!decide ((kd : Int) = 2))] ++ [] =
            [V.ref x', V.int ((My.mk1 (player, kd)).player : Int), V.int ((My.mk1 (player, kd)).kind : Int), V.int ((My.mk1 (player, kd)).left : Int), V.bl (My.mk1 (player, kd)).counts] := fun x' => by
          have : (!decide ((kd : Int) = 2)) = decide (¬ kd = 2) := by
            by_cases q : kd = 2
            · rw [q]; rfl
            · rw [decide_eq_true q, decide_eq_false (by omega)]; rfl
          rw [this]
          rfl
        have ht : team = 0 ∨ team = 1 := by
          have : team < 2 := hx1
          omega
        have l0 : as0.length = _ := W.r0.len
        have l1 : as1.length = _ := W.r1.len
        rw [List.length_map, List.length_append] at l0 l1
        have b0' := hsl 0
        have b1' := hsl 1
        have c0' := hal (team = 0)
        have c1' := hal (team = 1)
        rcases ht with rfl | rfl
        · refine ⟨_, rfl, _, rfl, bx, _, _, .ref b0, rfl, rfl, SqL.of W.hx, rfl, .inl ⟨rfl, _, SqL.of W.h0⟩, ?_⟩
          refine tk_of (eva_cons (ev_var rfl) (eva_cons (ev_var rfl) (eva_cons (ev_ixT ev_c (ev_var rfl) (T.sqSEC _) (secs_get T hkd2)) (eva1 (ev_neI (ev_var rfl) ev_c))))) ?_
          intro x' dx' nx ndx nex
          refine sp_eq (args x') ⟨x', dx', My.mk1 (player, kd), upd_same, fun H4 hA kp => ⟨rfl, ?_⟩⟩
          have s4 := Same.made nx ndx kp
          refine ⟨b0, _, _, rfl, rfl, s4 _ _ W.h0, by rw [List.length_map]; exact line_of (by omega), hD' _ _ ⟨some (.int (kd : Int)), as0 ++ [x'], as1, ?_⟩⟩
          rw [up1 (0 = 0) rfl, up0 (0 = 1) (by omega), ← List.append_assoc, map_snoc]
          exact W.add0 nx s4 hA
        · refine ⟨_, rfl, _, rfl, bx, _, _, .ref b1, rfl, rfl, SqL.of W.hx, rfl, .inl ⟨rfl, _, SqL.of W.h1⟩, ?_⟩
          refine tk_of (eva_cons (ev_var rfl) (eva_cons (ev_var rfl) (eva_cons (ev_ixT ev_c (ev_var rfl) (T.sqSEC _) (secs_get T hkd2)) (eva1 (ev_neI (ev_var rfl) ev_c))))) ?_
          intro x' dx' nx ndx nex
          refine sp_eq (args x') ⟨x', dx', My.mk1 (player, kd), upd_same, fun H4 hA kp => ⟨rfl, ?_⟩⟩
          have s4 := Same.made nx ndx kp
          refine ⟨b1, _, _, rfl, rfl, s4 _ _ W.h1, by rw [List.length_map]; exact line_of (by omega), hD' _ _ ⟨some (.int (kd : Int)), as0, as1 ++ [x'], ?_⟩⟩
          rw [up1 (1 = 1) rfl, up0 (1 = 0) (by omega), ← List.append_assoc, map_snoc]
          exact W.add1 nx s4 hA
      · rintro σ H1 ⟨v5, as0, as1, W⟩
        refine hD _ _ ⟨_, _, _, _, as0, as1, ?_⟩
        rw [List.length_map, List.take_length] at W
        rw [sn, sn]
        exact W
    · rintro σ H1 ⟨v2, v3, v4, v5, as0, as1, W⟩
      rw [List.length_map, hR.len, List.take_length] at W
      refine ⟨(by show 2 ≤ sizeLine; decide), fun tp htp => ⟨tp, rfl, ⟨_, SqT.of upd_same⟩, for_tupN (K := K) (a := tp) (xs := [.int 0, .int 1]) (fun i σ H' => BoxesK A.CP H tp bx b0 b1 as0 as1 xs (some (.ref l)) (some (.ref bx)) v2 v3 v4 i H' σ)
        ⟨v5, none, none, upd_same, W.same (Same.new htp)⟩ (fun i σ H' _ h => by cases h with | mk _ _ _ h => exact SqT.of h) ?_ ?_⟩⟩
      · intro D i y σ H2 hD hi hI
        refine hideN fun N hN => ?_
        obtain ⟨v5, v6, v7, htp2, W⟩ := hI
        have hi2 : i < 2 := (List.getElem?_eq_some_iff.mp hi).1
        have ey : y = .int (i : Int) := by
          match i, hi2, hi with
          | 0, _, hi => exact (Option.some.inj hi).symm
          | 1, _, hi => exact (Option.some.inj hi).symm
        subst ey
        generalize hP0 : My.uncs (cancel xs 0) (cancel xs 1) i ((singles xs 0).map My.mk1) = P0 at W
        generalize hP1 : My.uncs (cancel xs 0) (cancel xs 1) i ((singles xs 1).map My.mk1) = P1 at W
        have hsl : ∀ t, (singles xs t).length ≤ 20000 := fun t => by
          have h1 := My.singles_len t xs
          omega
        have hl0 : P0.length ≤ 20000 := by
          rw [← hP0, My.uncs_length, List.length_map]
          exact hsl 0
        have hl1 : P1.length ≤ 20000 := by
          rw [← hP1, My.uncs_length, List.length_map]
          exact hsl 1
        refine gn_of ?_
        subst hN
        refine tc_of (eva_cons (ev_ixL (ev_var rfl) ev_c (SqL.of W.hx) rfl) (eva1 (ev_var rfl))) ⟨b0, as0, P0, i, W.h0, W.r0, hl0, fun z0 bs0 H3 s3 hz0 hbs0 => ?_⟩
        have W3 := W.same s3
        refine tc_of (eva_cons (ev_ixL (ev_var rfl) ev_c (SqL.of W3.hx) rfl) (eva1 (ev_var rfl))) ⟨b1, as1, P1, i, W3.h1, W3.r1, hl1, fun z1 bs1 H4 s4 hz1 hbs1 => ?_⟩
        have W4 := W3.same s4
        have hcan : (if i = 0 then cancel xs 0 else cancel xs 1) = min bs0.length bs1.length := by
          have e0 := congrArg List.length hbs0
          have e1 := congrArg List.length hbs1
          rw [List.length_map, List.length_map] at e0 e1
          rw [e0, e1, My.cancel_eq xs hi2, ← hP0, ← hP1, My.kIx_uncs, My.kIx_uncs]
        have get0 : ∀ {j : Nat} {a : Addr}, bs0[j]? = some a → ∃ pos, (My.kIx i P0)[j]? = some pos ∧ as0[pos]? = some a := fun {j a} hj => by
          have e1 : (bs0.map some)[j]? = some (some a) := get_map' hj
          rw [hbs0] at e1
          obtain ⟨pos, hp, e⟩ := map_get e1
          exact ⟨pos, hp, e.symm⟩
        have get1 : ∀ {j : Nat} {a : Addr}, bs1[j]? = some a → ∃ pos, (My.kIx i P1)[j]? = some pos ∧ as1[pos]? = some a := fun {j a} hj => by
          have e1 : (bs1.map some)[j]? = some (some a) := get_map' hj
          rw [hbs1] at e1
          obtain ⟨pos, hp, e⟩ := map_get e1
          exact ⟨pos, hp, e.symm⟩
        refine ⟨z0, z1, _, _, rfl, SqL.of (s4 _ _ hz0), SqL.of hz1, for_itN (n := min bs0.length bs1.length) (fun j σ H' => BoxesL A.CP H tp z0 z1 bx b0 b1 as0 as1 bs0 bs1 P0 P1 i (some (.ref l)) (some (.ref bx)) v2 v3 v4 (some (.int (i : Int))) j H' σ) ⟨v6, v7, (s3.trans s4) _ _ htp2, s4 _ _ hz0, hz1, ?_⟩ ?_ ?_ ?_ ?_⟩
        · rw [My.unc_zero, My.unc_zero]
          exact W4
        · rintro j σ H5 hj ⟨_, _, _, h0, h1, _⟩
          refine ⟨_, _, _, _, SqL.of h0, SqL.of h1, get_map' (List.getElem?_eq_getElem (show j < bs0.length by omega)), get_map' (List.getElem?_eq_getElem (show j < bs1.length by omega))⟩
        · rintro σ H5 ⟨_, _, _, h0, h1, _⟩
          refine ⟨_, _, SqL.of h0, SqL.of h1, ?_⟩
          rw [List.length_map, List.length_map]
          omega
        · intro D' j σ H5 x H6 hD' hj hI hY
          refine hideN fun N hN => ?_
          obtain ⟨v6, v7, htp5, h0, h1, W5⟩ := hI
          obtain ⟨Tp, x1, x2, rfl, hT, rfl, hx1, hx2⟩ := hY
          obtain ⟨one, hone, rfl⟩ := map_get (hx1 _ (SqL.of h0))
          obtain ⟨other, hother, rfl⟩ := map_get (hx2 _ (SqL.of h1))
          obtain ⟨pos0, hpos0, has0⟩ := get0 hone
          obtain ⟨pos1, hpos1, has1⟩ := get1 hother
          obtain ⟨p, hp, eu0⟩ := My.unc_set P0 j pos0 hpos0
          obtain ⟨p', hp', eu1⟩ := My.unc_set P1 j pos1 hpos1
          have sT : Same H5 (upd H5 Tp (.tup [.ref one, .ref other])) := Same.new hT
          have W6 := W5.same sT
          obtain ⟨dx, e⟩ := W6.r0.at_ _ _ _ has0 hp
          have W7 := W6.unc0 has0 hp e
          obtain ⟨dx', e'⟩ := W7.r1.at_ _ _ _ has1 hp'
          have W8 := W7.unc1 has1 hp' e'
          refine ⟨Tp, _, rfl, SqT.of upd_same, rfl, _, _, rfl, _, _, rfl, rfl, ?_⟩
          subst hN
          refine st_fld ev_c (ev_var rfl) e T.clP T.p_counts (pf_len p) ?_
          rw [pf_uncount]
          refine st_fld ev_c (ev_var rfl) e' T.clP T.p_counts (pf_len p') ?_
          rw [pf_uncount]
          have keep : ∀ {b : Addr} {o : HO}, H5 b = some o → (∀ C dx fs, o ≠ .ins C dx fs) → (upd (upd (upd H5 Tp (.tup [.ref one, .ref other])) one (.ins A.CP dx (pf (My.noCount p)))) other (.ins A.CP dx' (pf (My.noCount p')))) b = some o := fun {b o} hb hn => by
            have h1 := sT _ _ hb
            have h2 : (upd (upd H5 Tp (.tup [.ref one, .ref other])) one (.ins A.CP dx (pf (My.noCount p)))) b = some o := by
              rw [upd_ne (ne_of h1 e (hn _ _ _))]
              exact h1
            rw [upd_ne (ne_of h2 e' (hn _ _ _))]
            exact h2
          refine hD' _ _ ⟨_, _, keep htp5 (fun _ _ _ z => by cases z), keep h0 (fun _ _ _ z => by cases z), keep h1 (fun _ _ _ z => by cases z), ?_⟩
          rw [eu0, eu1]
          exact W8
        · rintro σ H5 ⟨v6, v7, htp5, h0, h1, W5⟩
          refine hD _ _ ⟨_, v6, v7, htp5, ?_⟩
          rw [My.uncs_succ _ _ hi2, My.uncs_succ _ _ hi2, hP0, hP1, hcan]
          exact W5
      · rintro σ H2 ⟨v5, v6, v7, htp2, W⟩
        refine st_ret (ev_var rfl) ?_
        have e : ∀ t, My.uncs (cancel xs 0) (cancel xs 1) 2 ((singles xs t).map My.mk1) = marked (cancel xs 0) (cancel xs 1) (singles xs t) := fun t =>
          My.marked_eq _ _ _ (My.singles_le fun x hx => (hok x hx).2.2)
        have W' : Two A.CP H H2 bx b0 b1 as0 as1 (My.uncs (cancel xs 0) (cancel xs 1) 2 ((singles xs 0).map My.mk1)) (My.uncs (cancel xs 0) (cancel xs 1) 2 ((singles xs 1).map My.mk1)) := W
        rw [e, e] at W'
        exact k bx b0 b1 H2 W'.s W'.nx W'.n0 W'.n1 W'.hx ⟨as0, W'.h0, W'.r0⟩ ⟨as1, W'.h1, W'.r1⟩
end
end Ice
namespace Ice
open PySem PySem.Spec PyProof.Rows L2
open Kg58 (Pen Told State Team runs running soonest minus after short ended singles marked cancel parts washed lengthOf minutesOf)
open My (PosL lefts lessAll Tab TabOk NSt StOk ToldOk RepT)
inductive spManyI (C : Addr) (H : Hp) (Q : VK) : List V → Prop
  | mk (l c b0 b1 : Addr) (p0 p1 : List Pen) (xs : List Told) (h0 : H l = some (.lst [.ref b0, .ref b1])) (h1 : BoxAt C H b0 p0) (h2 : BoxAt C H b1 p1) (h3 : ToldsAt H c xs) (h4 : xs.length ≤ 10000) (h5 : (∀ x ∈ xs, ToldOk x)) (h6 : ∀ H' : Hp, Same H H' → Q (.bl (decide (12 < p0.length + (singles xs 0).length) || decide (12 < p1.length + (singles xs 1).length))) H') : spManyI C H Q [.ref l, .ref c]
def spMany (C : Addr) : Sp := fun vs H Q _ => spManyI C H Q vs
inductive spWashI (H : Hp) (Q : VK) : List V → Prop
  | mk (l : Addr) (t : Nat) (xs : List Told) (h0 : ToldsAt H l xs) (h1 : xs.length ≤ 10000) (h2 : ∀ (r : Addr) (H' : Hp), Same H H' → (r = l ∨ H r = Option.none) → ToldsAt H' r (washed t xs) → Q (.ref r) H') : spWashI H Q [.ref l, .int t]
def spWash : Sp := fun vs H Q _ => spWashI H Q vs
inductive spThreesI (K : PySem.W.Frag) (H : Hp) (Q : VK) : List V → Prop
  | mk (a : Addr) (ns : List Int) (h0 : SqL K H a (ns.map V.int)) (h1 : ns.length % 3 = 0) (h2 : ns.length ≤ 20000) (h3 : ∀ (r : Addr) (H' : Hp), Same H H' → LstOf H' r (TupI H') (My.thr ns) → Q (.ref r) H') : spThreesI K H Q [.ref a]
def spThrees (K : PySem.W.Frag) : Sp := fun vs H Q _ => spThreesI K H Q vs
inductive spWellI (H : Hp) (Q : VK) : List V → Prop
  | mk (a b c : Int) (h0 : Q (.bl (My.okT (a, b, c))) H) : spWellI H Q [.int a, .int b, .int c]
def spWell : Sp := fun vs H Q _ => spWellI H Q vs
inductive spRowWellI (K : PySem.W.Frag) (H : Hp) (Q : VK) : List V → Prop
  | mk (a : Addr) (ns : List Int) (h0 : SqL K H a (ns.map V.int)) (h1 : ns.length ≤ 20000) (h2 : ∀ H' : Hp, Same H H' → Q (.bl (decide (ns.length % 3 = 0) && (My.thr ns).all My.okT)) H') : spRowWellI K H Q [.ref a]
def spRowWell (K : PySem.W.Frag) : Sp := fun vs H Q _ => spRowWellI K H Q vs
section
variable {P : Program} {w : World} {K : PySem.W.Frag} {mg : Str → Option Value} {base : Heap} {A : Ad}
def plens (t : Nat) (l : List Told) : List Int := (l.filter fun x => x.team == t).map fun x => ((parts x.kind).length : Int)
theorem plens_snoc (t : Nat) (l : List Told) (x : Told) : plens t (l ++ [x]) = plens t l ++ if x.team = t then [((parts x.kind).length : Int)] else [] := by
  unfold plens
  rw [List.filter_append, List.map_append, List.filter_cons]
  by_cases h : x.team = t
  · rw [if_pos (by rw [h]; exact beq_self_eq_true t), if_pos h]
    rfl
  · rw [if_neg (fun q => h (eq_of_beq q)), if_neg h]
    rfl
theorem plens_sum (t : Nat) : ∀ l : List Told, (plens t l).sum = ((singles l t).length : Int)
  | [] => rfl
  | x :: l => by
    have ih := plens_sum t l
    unfold plens singles at ih ⊢
    rw [List.filter_cons]
    split
    · rw [List.map_cons, List.sum_cons, ih, List.flatMap_cons, List.length_append, List.length_map]
      omega
    · exact ih
theorem ok_many {f : Addr} {fd : FuncData} (F : Fun K "too_many" "too_many" s_too_many f fd) (T : Txt K mg A) : FnOk P w K mg base CX0 1 f fd ["boxes", "coming"] (spMany A.CP) := by
  refine F.ok sc_too_many (fun vs H Q E h => ?_) (fun cdv Ar outer s H vs Q E hr h => ?_)
  · obtain ⟨l, c, b0, b1, p0, p1, xs, _⟩ := h
    rfl
  · obtain ⟨l, c, b0, b1, p0, p1, xs, hl, ⟨as0, hb0, hR0⟩, ⟨as1, hb1, hR1⟩, ⟨ts, hc, hR⟩, hlen, hok, k⟩ := h
    have nd := sc_too_many.nd
    refine ⟨_, (pss_cons (ps_for PassesOwn.never rfl (pi_tup (gt T.TEAMS)) (pg_name (i := 2) nd rfl (Or.inr rfl))
      (pss_cons (ps_set (i := 3) nd rfl (Or.inl rfl) (pe_callB (cr_sum rfl) (by rfl) T.sum_ bt_sum (pa_cons (pe_lc rfl nd (pi_list (pv 1)) (blkOk_by (own := [("against", 4), ("player", 5), ("kind", 6)]) (by show blkC ["boxes", "coming", "team", "more", "against", "player", "kind"] (defScope s_too_many) _ _ = true; decide +kernel)) (fun _ _ _ _ _ => (pg_tupK K (n := 3) rfl (pgs_cons (pg_name (i := 4) nd rfl (Or.inl rfl)) (pgs_cons (pg_name (i := 5) nd rfl (Or.inl rfl)) (pgs_cons (pg_name (i := 6) nd rfl (Or.inl rfl)) pgs_nil))))) (fun _ _ _ _ _ => (pts_one (pt_cmpR op_eq (pv 4) (pv 2) (nomark _)))) (fun _ _ _ _ _ => (pe_callB (call_len_seqK K) (by rfl) T.len_ bt_len (pa_cons (pe_ix (ix_tupK K) (gt T.SERVED) (pv 6) (fun _ _ => rfl)) pa_nil)))) pa_nil)))
      (pss_one (ps_if (pt_cmpR op_gt (pe_op op_add (pe_callB call_len_seq (by rfl) T.len_ bt_len (pa_cons (pe_ix ix_list (pv 0) (pv 2) (fun _ _ => rfl)) pa_nil)) (pv 3)) (gi T.MOST_PENALTIES) (nomark _))
        (pss_one (ps_ret pe_bl))
        pss_nil))))
    (pss_one (ps_ret pe_bl))), ?_⟩
    let big : Nat → Bool := fun t => if t = 0 then decide (12 < p0.length + (singles xs 0).length) else decide (12 < p1.length + (singles xs 1).length)
    refine ⟨_, rfl, ⟨_, T.sqTEAMS _⟩, for_tupR (K := K) (a := A.tTEAMS) (xs := [.int 0, .int 1]) Q (fun i σ H' => ∃ v2 v3 : Option V, σ = [some (.ref l), some (.ref c), v2, v3, none, none, none] ∧ Same H H' ∧ ∀ t, t < i → big t = false)
      ⟨none, none, rfl, Same.refl _, fun t ht => absurd ht (Nat.not_lt_zero _)⟩ (fun _ _ z => z) (fun i σ H' _ _ => T.sqTEAMS H') ?_ ?_⟩
    · intro D0 i y σ H1 hQ0 hD0 hi hI
      refine hideN fun N hN => ?_
      obtain ⟨v2, v3, rfl, s1, hno⟩ := hI
      have hi2 : i < 2 := (List.getElem?_eq_some_iff.mp hi).1
      have ey : y = .int (i : Int) := by
        match i, hi2, hi with
        | 0, _, hi => exact (Option.some.inj hi).symm
        | 1, _, hi => exact (Option.some.inj hi).symm
      subst ey
      obtain ⟨bt, ast, pt, hbt, hat, hRt, hbig⟩ : ∃ (bt : Addr) (ast : List Addr) (pt : List Pen), atI [V.ref b0, V.ref b1] (i : Int) = some (.ref bt) ∧ H bt = some (.lst (ast.map V.ref)) ∧ ast.length = pt.length ∧ big i = decide (12 < pt.length + (singles xs i).length) := by
        match i, hi2 with
        | 0, _ => exact ⟨b0, as0, p0, rfl, hb0, hR0.len, rfl⟩
        | 1, _ => exact ⟨b1, as1, p1, rfl, hb1, hR1.len, rfl⟩
      refine gn_of ?_
      subst hN
      dsimp only
      have hcl : (ts.map V.ref).length = xs.length := by rw [List.length_map, hR.len]
      refine ⟨_, rfl, c, rfl, ⟨_, SqL.of (s1 _ _ hc)⟩, lcL (xs := ts.map V.ref) (SqL.of (s1 _ _ hc)) (by omega) (fun j acc H' => acc = (plens i (xs.take j)).map V.int) (fun D hD => rfl) ?_ ?_⟩
      · intro D j x acc H' Nx hD hx s2 h hacc k1 k2
        obtain ⟨a, ha, rfl⟩ := map_get hx
        obtain ⟨x, hx, hax⟩ := hR.getA ha
        obtain ⟨r, hr1, hrs, _⟩ := T.srvAt x.kind (hok x (List.mem_of_getElem? hx)).2.2
        refine ⟨a, _, rfl, SqT.of (s2 _ _ (s1 _ _ hax)), rfl, _, _, rfl, _, _, rfl, _, _, rfl, rfl, rfl, ?_⟩
        refine tt_of (et_t (ev_eqI (ev_var rfl) (ev_var rfl))) (iteB (fun q => ?_) (fun q => ?_))
        · have q' : x.team = i := by have := of_decide_eq_true q; omega
          refine te_of (ev_len (eva1 (ev_ixT ev_c (ev_var rfl) (T.sqSERVED _) (refs_get hr1))) (.inr (hrs _))) (k1 _ _ (Same.refl _) ?_)
          rw [My.take_snoc hx, plens_snoc, if_pos q', hacc, List.map_append, List.length_map]
          rfl
        · have q' : ¬ x.team = i := by have := of_decide_eq_false q; omega
          refine k2 _ (Same.refl _) ?_
          rw [My.take_snoc hx, plens_snoc, if_neg q', List.append_nil, hacc]
      · intro D acc H' hD s2 h _ hacc
        rw [hcl, List.take_length] at hacc
        subst hacc
        refine ⟨D, plens i xs, rfl, SqL.of h, ?_⟩
        rw [plens_sum]
        refine gn_of ?_
        dsimp only
        refine st_if (et_t (ev_i (ev_i (ev_len (eva1 (ev_ixL (ev_var rfl) (ev_var rfl) (SqL.of (s2 _ _ (s1 _ _ hl))) hbt)) (.inl (SqL.of (s2 _ _ (s1 _ _ hat))))) (ev_var rfl)) ev_c)) (fun q => ?_) (fun q => ?_)
        · refine st_ret ev_c ?_
          have q' : big i = true := by
            rw [hbig]
            have := of_decide_eq_true q
            rw [List.length_map, hRt] at this
            exact decide_eq_true (by omega)
          have e : (decide (12 < p0.length + (singles xs 0).length) || decide (12 < p1.length + (singles xs 1).length)) = true := by
            match i, hi2, q' with
            | 0, _, q' => rw [show decide (12 < p0.length + (singles xs 0).length) = true from q']; rfl
            | 1, _, q' => rw [show decide (12 < p1.length + (singles xs 1).length) = true from q', Bool.or_true]
          have := k H' (s1.trans s2)
          rw [e] at this
          exact hQ0 _ _ this
        · refine hD0 _ _ ⟨_, _, rfl, s1.trans s2, fun t ht => ?_⟩
          rcases Nat.lt_succ_iff_lt_or_eq.mp ht with ht | rfl
          · exact hno t ht
          · rw [hbig]
            have := of_decide_eq_false q
            rw [List.length_map, hRt] at this
            exact decide_eq_false (by omega)
    · rintro σ H1 ⟨v2, v3, rfl, s1, hno⟩
      dsimp only
      refine st_ret ev_c ?_
      have h0 : decide (12 < p0.length + (singles xs 0).length) = false := hno 0 (by decide)
      have h1 : decide (12 < p1.length + (singles xs 1).length) = false := hno 1 (by decide)
      have := k H1 s1
      rw [h0, h1] at this
      exact this
theorem inV01 (a : Int) : inV (.int a) [.int 0, .int 1] = Kg58.within a 0 1 := by
  show ((0 == a) || ((1 == a) || false)) = (decide (0 ≤ a) && decide (a ≤ 1))
  by_cases h0 : a = 0
  · subst h0; rfl
  · by_cases h1 : a = 1
    · subst h1; rfl
    · rw [beq_eq_false_iff_ne.mpr (fun e => h0 e.symm), beq_eq_false_iff_ne.mpr (fun e => h1 e.symm)]
      by_cases h2 : 0 ≤ a
      · rw [decide_eq_false (show ¬ a ≤ 1 by omega), Bool.and_false]; rfl
      · rw [decide_eq_false h2]; rfl
theorem ok_well {f : Addr} {fd : FuncData} (F : Fun K "well_told" "well_told" s_well_told f fd) (T : Txt K mg A) : FnOk P w K mg base CX0 1 f fd ["team", "player", "kind"] spWell := by
  refine F.ok sc_well_told (fun vs H Q E h => ?_) (fun cdv Ar outer s H vs Q E hr h => ?_)
  · obtain ⟨a, b, c, _⟩ := h
    rfl
  · obtain ⟨a, b, c, k⟩ := h
    refine ⟨_, (pss_one (ps_ret (pe_and (pe_cmpR op_in_seq (pv 0) (gt T.TEAMS) (by with_unfolding_all rfl)) (pe_and (pe_chain op_le op_le pe_int (pv 1) (gi T.LAST_PLAYER)) (pe_one (pe_chain op_le op_le (gi T.MINOR) (pv 2) (gi T.EXPULSION))))))), ?_⟩
    refine st_ret (ev_and (ev_in (ev_var rfl) ev_c (.inr (T.sqTEAMS _)) rfl rfl) (fun _ => ev_and (ev_chain ev_c (ev_var rfl) ev_c) (fun _ => ev_chain ev_c (ev_var rfl) ev_c))) ?_
    rw [inV01]
    exact k
theorem small3 {L m : Nat} (hL : L ≤ 20000) (hm : m ≤ 20000) (e : Builtin.Range.rangeSize 0 (L : Int) 3 = (m : Int)) : Builtin.Range.small 0 (L : Int) 3 = true := by
  unfold Builtin.Range.small
  rw [e]
  have h1 : Builtin.Range.rangeFitsLong 0 = true := by decide
  have h2 : Builtin.Range.rangeFitsLong 3 = true := by decide
  have h3 : ∀ n : Nat, n ≤ 20000 → Builtin.Range.rangeFitsLong (n : Int) = true := fun n hn => by
    unfold Builtin.Range.rangeFitsLong
    simp only [Bool.and_eq_true, decide_eq_true_eq]
    omega
  rw [h1, h2, h3 L hL, h3 m hm]
  have e5 : (L : Int) + (3 - 1) = ((L + 2 : Nat) : Int) := by omega
  have h5 : Builtin.Range.rangeFitsLong ((L + 2 : Nat) : Int) = true := by
    unfold Builtin.Range.rangeFitsLong
    simp only [Bool.and_eq_true, decide_eq_true_eq]
    omega
  rw [if_pos (by decide), e5, h5, Bool.or_true]
  rfl
theorem ok_threes {f : Addr} {fd : FuncData} (F : Fun K "threes" "threes" s_threes f fd) (T : Txt K mg A) : FnOk P w K mg base CX0 1 f fd ["row"] (spThrees K) := by
  refine F.ok sc_threes (fun vs H Q E h => ?_) (fun cdv Ar outer s H vs Q E hr h => ?_)
  · obtain ⟨a, ns, _⟩ := h
    rfl
  · obtain ⟨a, ns, hS, h3, hlen, k⟩ := h
    have nd := sc_threes.nd
    refine ⟨_, (pss_one (ps_ret (pe_lc rfl nd (pi_range3 rfl T.range_ (pa_cons pe_int (pa_cons (pe_callB call_len_seq (by rfl) T.len_ bt_len (pa_cons (pv 0) pa_nil)) (pa_cons pe_int pa_nil)))) (blkOk_by (own := [("k", 1)]) (by show blkC ["row", "k"] (defScope s_threes) _ _ = true; decide +kernel)) (fun _ _ _ _ _ => (pg_name (i := 1) nd rfl (Or.inl rfl))) (fun _ _ _ _ _ => pts_nil) (fun _ _ _ _ _ => (pe_tup (pa_cons (pe_ix (ix_listK K) (pv 0) (pv 1) (fun _ _ => rfl)) (pa_cons (pe_ix (ix_listK K) (pv 0) (pe_op op_add (pv 1) pe_int) (fun _ _ => rfl)) (pa_cons (pe_ix (ix_listK K) (pv 0) (pe_op op_add (pv 1) pe_int) (fun _ _ => rfl)) pa_nil)))))))), ?_⟩
    have h3l := My.thr_len h3
    have hrg : RgC 0 (((ns.map V.int).length : Nat) : Int) 3 (My.thr ns).length := by
      rw [List.length_map]
      have e : Builtin.Range.rangeSize 0 (ns.length : Int) 3 = (((My.thr ns).length : Nat) : Int) := by
        unfold Builtin.Range.rangeSize
        rw [if_pos (by decide)]
        split <;> omega
      exact ⟨by decide, by decide, small3 (by omega) (by omega) e, e⟩
    refine ⟨_, rfl, a, _, rfl, .inl hS, 0, _, 3, (My.thr ns).length, rfl, hrg, ?_⟩
    refine lcG (n := (My.thr ns).length) (by omega) (fun i H' hi s => hi) (fun H' s => Nat.le_refl _) (fun i acc H' => ∃ bs : List Addr, acc = bs.map V.ref ∧ Refs (TupI H') bs ((My.thr ns).take i)) (fun D hD => ⟨[], rfl, Refs.nil⟩) ?_ ?_
    · rintro D i x acc H' H'' Nx hD hi s1 h ⟨bs, rfl, hbs⟩ ⟨rfl, rfl⟩ k1 k2
      have hg : (My.thr ns)[i]? = some (My.thr ns)[i] := List.getElem?_eq_getElem hi
      generalize (My.thr ns)[i] = y at hg
      obtain ⟨g1, g2, g3⟩ := My.thr_get hg
      have hS' := s1.seq hS
      have e1 : (0 : Int) + (i : Nat) * 3 = ((3 * i : Nat) : Int) := by omega
      rw [e1]
      refine ⟨rfl, ty_of ?_⟩
      have a1 : Ev (tOp (rI0 fun i j => .int (i + j)) (tVar 1) (tC (.int 1))) _ H'' (.int ((3 * i + 1 : Nat) : Int)) := ev_i (σ := [some (V.ref a), some (V.int ((3 * i : Nat) : Int))]) (i := ((3 * i : Nat) : Int)) (j := 1) (ev_var rfl) ev_c
      have a2 : Ev (tOp (rI0 fun i j => .int (i + j)) (tVar 1) (tC (.int 2))) _ H'' (.int ((3 * i + 2 : Nat) : Int)) := ev_i (σ := [some (V.ref a), some (V.int ((3 * i : Nat) : Int))]) (i := ((3 * i : Nat) : Int)) (j := 2) (ev_var rfl) ev_c
      refine eva_cons (ev_ixL (ev_var rfl) (ev_var rfl) hS' (ints_get g1)) (eva_cons (ev_ixL (ev_var rfl) a1 hS' (ints_get g2)) (eva1 (ev_ixL (ev_var rfl) a2 hS' (ints_get g3)))) _ ⟨(by show 3 ≤ sizeLine; decide), fun tp htp => ?_⟩
      refine k1 _ _ (Same.new htp) ⟨bs ++ [tp], by rw [List.map_append]; rfl, ?_⟩
      have sT : Same H'' (upd H'' tp (.tup [.int y.1, .int y.2.1, .int y.2.2])) := Same.new htp
      have hD2 := sT _ _ h
      rw [My.take_snoc hg]
      exact (hbs.imp fun b z hz => TupI.updL (sT _ _ hz) hD2).snoc (TupI.updL upd_same hD2)
    · rintro D acc H' hD s1 h _ ⟨bs, rfl, hbs⟩
      rw [List.take_length] at hbs
      exact k D H' s1 ⟨bs, h, hbs⟩
theorem ok_rowwell {f fT fW : Addr} {fd fdT fdW : FuncData} (F : Fun K "row_well_told" "row_well_told" s_row_well_told f fd) (T : Txt K mg A)
    (D_threes : Def K mg "threes" s_threes ["row"] fT fdT) (G_threes : FnOk P w K mg base CX0 1 fT fdT ["row"] (spThrees K))
    (D_well_told : Def K mg "well_told" s_well_told ["team", "player", "kind"] fW fdW) (G_well_told : FnOk P w K mg base CX0 1 fW fdW ["team", "player", "kind"] spWell) : FnOk P w K mg base CX0 2 f fd ["row"] (spRowWell K) := by
  refine F.ok sc_row_well_told (fun vs H Q E h => ?_) (fun cdv Ar outer s H vs Q E hr h => ?_)
  · obtain ⟨a, ns, _⟩ := h
    rfl
  · obtain ⟨a, ns, hS, hlen, k⟩ := h
    have nd := sc_row_well_told.nd
    refine ⟨_, (pss_one (ps_ret (pe_and (pe_cmpR op_eq (pe_op op_mod (pe_callB call_len_seq (by rfl) T.len_ bt_len (pa_cons (pv 0) pa_nil)) pe_int) pe_int (nomark _)) (pe_one (pe_callB (cr_all rfl) (by rfl) T.all_ bt_all (pa_cons (pe_lc rfl nd (pi_list (pe_call G_threes (hr.mono (by decide)) rfl D_threes.mg D_threes.fn.kp D_threes.b .nil pass0 (pa_cons (pv 0) pa_nil))) (blkOk_by (own := [("told", 1)]) (by show blkC ["row", "told"] (defScope s_row_well_told) _ _ = true; decide +kernel)) (fun _ _ _ _ _ => (pg_name (i := 1) nd rfl (Or.inl rfl))) (fun _ _ _ _ _ => pts_nil) (fun _ _ _ _ _ => (pe_call G_well_told (hr.mono (by decide)) rfl D_well_told.mg D_well_told.fn.kp D_well_told.b .nil pass0 (pa_cons (pe_ix (ix_tupK K) (pv 1) pe_int (fun _ _ => rfl)) (pa_cons (pe_ix (ix_tupK K) (pv 1) pe_int (fun _ _ => rfl)) (pa_cons (pe_ix (ix_tupK K) (pv 1) pe_int (fun _ _ => rfl)) pa_nil)))))) pa_nil)))))), ?_⟩
    refine ⟨_, rfl, a, _, rfl, .inl hS, _, _, rfl, rfl, (by show (0 : Int) < 3; decide), rfl, _, rfl, iteB (fun q => ?_) (fun q => ?_)⟩
    · have h3 : ns.length % 3 = 0 := by
        have := of_decide_eq_true q
        have := V.int.inj this
        rw [List.length_map] at this
        omega
      refine tc_of (eva1 (ev_var rfl)) ⟨a, ns, hS, h3, hlen, fun r H1 s1 hr1 => ?_⟩
      obtain ⟨ts, hr1, hR⟩ := hr1
      have htl := My.thr_len h3
      have hcl : (ts.map V.ref).length = (My.thr ns).length := by rw [List.length_map, hR.len]
      refine ⟨r, rfl, ⟨_, SqL.of hr1⟩, lcL (xs := ts.map V.ref) (SqL.of hr1) (by omega) (fun i acc H' => acc = (((My.thr ns).take i).map My.okT).map V.bl) (fun D hD => rfl) ?_ ?_⟩
      · intro D i x acc H' Nx hD hx s2 h hacc k1 k2
        obtain ⟨b, hb, rfl⟩ := map_get hx
        obtain ⟨y, hy, hby⟩ := hR.getA hb
        have hb2 := s2 _ _ hby
        refine ⟨rfl, ty_of ?_⟩
        refine tc_of (eva_cons (ev_ixT (ev_var rfl) ev_c (SqT.of hb2) rfl) (eva_cons (ev_ixT (ev_var rfl) ev_c (SqT.of hb2) rfl) (eva1 (ev_ixT (ev_var rfl) ev_c (SqT.of hb2) rfl)))) ⟨y.1, y.2.1, y.2.2, k1 _ _ (Same.refl _) ?_⟩
        rw [hacc, My.take_snoc hy, List.map_append, List.map_append]
        rfl
      · intro D acc H' hD s2 h _ hacc
        rw [hcl, List.take_length] at hacc
        subst hacc
        refine ⟨D, (My.thr ns).map My.okT, rfl, SqL.of h, ?_⟩
        have e : ((My.thr ns).map My.okT).any id = (My.thr ns).any My.okT := by
          rw [List.any_map]
          rfl
        have e2 : ((My.thr ns).map My.okT).all id = (My.thr ns).all My.okT := by
          rw [List.all_map]
          rfl
        rw [e2]
        have := k H' (s1.trans s2)
        rw [decide_eq_true h3] at this
        exact this
    · have h3 : ¬ ns.length % 3 = 0 := by
        intro z
        refine of_decide_eq_false q ?_
        show V.int (((ns.map V.int).length : Int) % 3) = V.int 0
        rw [List.length_map]
        have : (ns.length : Int) % 3 = 0 := by omega
        rw [this]
      have := k H (Same.refl _)
      rw [decide_eq_false h3] at this
      exact this
end
end Ice
namespace Ice
open PySem PySem.Spec PyProof.Rows L2
open Kg58 (Pen Told State Team runs running soonest minus after short ended singles marked cancel parts washed lengthOf minutesOf)
open My (PosL lefts lessAll Tab TabOk NSt StOk ToldOk RepT)
section
variable {P : Program} {w : World} {K : PySem.W.Frag} {mg : Str → Option Value} {base : Heap} {A : Ad}
theorem TupAt.updL {H : Hp} {a D : Addr} {x : Told} {acc acc' : List V} (h : TupAt H a x) (hD : H D = some (.lst acc)) : TupAt (upd H D (.lst acc')) a x := by
  unfold TupAt at h ⊢
  rw [upd_ne (ne_of h hD (by intro z; cases z))]
  exact h
theorem inV03 (a : Nat) : inV (.int (a : Int)) [.int 0, .int 3] = true ↔ (a = 0 ∨ a = 3) := by
  show (((0 : Int) == (a : Int)) || (((3 : Int) == (a : Int)) || false)) = true ↔ _
  rw [Bool.or_false, Bool.or_eq_true, beq_iff_eq, beq_iff_eq]
  omega
theorem ok_wash {f : Addr} {fd : FuncData} (F : Fun K "without_first_minor" "without_first_minor" s_without_first_minor f fd) (T : Txt K mg A) : FnOk P w K mg base CX0 1 f fd ["signalled", "team"] spWash := by
  refine F.ok sc_without_first_minor (fun vs H Q E h => ?_) (fun cdv Ar outer s H vs Q E hr h => ?_)
  · obtain ⟨l, t, xs, _⟩ := h
    rfl
  · obtain ⟨l, t, xs, ⟨ts, hl, hR⟩, hlen, k⟩ := h
    have nd := sc_without_first_minor.nd
    refine ⟨_, (pss_cons (ps_for PassesOwn.never rfl (pi_range1 rfl T.range_ (pa_cons (pe_callB call_len_seq (by rfl) T.len_ bt_len (pa_cons (pv 0) pa_nil)) pa_nil)) (pg_name (i := 2) nd rfl (Or.inl rfl))
      (pss_cons (ps_set (i := 3) nd rfl (Or.inl rfl) (pe_ix ix_list (pv 0) (pv 2) (fun _ _ => rfl)))
      (pss_one (ps_if (pw_and (pt_cmpR op_eq (pe_ix ix_tup (pv 3) pe_int (fun _ _ => rfl)) (pv 1) (nomark _)) (pw_and1 (pt_cmpR op_in_seq (pe_ix ix_tup (pv 3) pe_int (fun _ _ => rfl)) (pe_tup (pa_cons (gi T.MINOR) (pa_cons (gi T.DOUBLE_MINOR) pa_nil))) (by with_unfolding_all rfl)))).pt
        (pss_cons (ps_set (i := 4) nd rfl (Or.inl rfl) (pe_ifExp (pt_cmpR op_eq (pe_ix ix_tup (pv 3) pe_int (fun _ _ => rfl)) (gi T.DOUBLE_MINOR) (nomark _)) (pe_lst (pa_cons (pe_tup (pa_cons (pv 1) (pa_cons (pe_ix ix_tup (pv 3) pe_int (fun _ _ => rfl)) (pa_cons (gi T.MINOR) pa_nil)))) pa_nil)) (pe_lst pa_nil)))
        (pss_one (ps_ret (pe_op op_cat (pe_op op_cat (pe_slice sl_list (pv 0) po_none (po_some (pv 2))) (pv 4)) (pe_slice sl_list (pv 0) (po_some (pe_op op_add (pv 2) pe_int)) po_none)))))
        pss_nil))))
    (pss_one (ps_ret (pv 0)))), ?_⟩
    have hcl : (ts.map V.ref).length = xs.length := by rw [List.length_map, hR.len]
    refine ⟨_, rfl, _, _, rfl, .inl (SqL.of hl), _, rfl, by omega, by omega, ?_⟩
    refine for_rangeR (lo := 0) (n := (ts.map V.ref).length) Q (fun i σ H' => ∃ v2 v3 : Option V, σ = [some (.ref l), some (.int t), v2, v3, none] ∧ Same H H' ∧ ∀ y ∈ xs.take i, ¬ (y.team = t ∧ (y.kind = 0 ∨ y.kind = 3)))
      ⟨none, none, rfl, Same.refl _, fun y hy => by cases hy⟩ (fun _ _ z => z) ?_ ?_
    · intro D i σ H1 hRt hD hi hI
      rw [Int.zero_add]
      refine hideN fun N hN => ?_
      obtain ⟨v2, v3, rfl, s1, hno⟩ := hI
      have hil : i < xs.length := by omega
      have hx : xs[i]? = some xs[i] := List.getElem?_eq_getElem hil
      generalize xs[i] = x at hx
      obtain ⟨a, ha, hax⟩ := hR.get hx
      have ha1 := s1 _ _ hax
      refine gn_of ?_
      subst hN
      dsimp only
      refine st_set (ev_ixL (ev_var rfl) (ev_var rfl) (SqL.of (s1 _ _ hl)) (refs_get ha)) ?_
      have snoc : ¬ (x.team = t ∧ (x.kind = 0 ∨ x.kind = 3)) → ∀ y ∈ xs.take (i + 1), ¬ (y.team = t ∧ (y.kind = 0 ∨ y.kind = 3)) := fun hn y hy => by
        rw [My.take_snoc hx] at hy
        rcases List.mem_append.mp hy with hy | hy
        · exact hno y hy
        · have : y = x := List.mem_singleton.mp hy
          rw [this]
          exact hn
      refine st_if_and (et_t (ev_eqI (ev_ixT (ev_var rfl) ev_c (SqT.of ha1) rfl) (ev_var rfl))) (fun q => ?_) (fun q => ?_)
      · have q1 : x.team = t := by have := of_decide_eq_true q; omega
        refine ⟨_, rfl, a, _, _, _, rfl, rfl, SqT.of ha1, rfl, (by show 2 ≤ sizeLine; decide), fun tp htp => ⟨tp, _, rfl, .inr (SqT.of upd_same), rfl, rfl, _, rfl, iteB (fun q2 => ?_) (fun q2 => ?_)⟩⟩
        · have hk : x.kind = 0 ∨ x.kind = 3 := (inV03 x.kind).mp q2
          have sT : Same H1 (upd H1 tp (.tup [.int 0, .int 3])) := Same.new htp
          generalize upd H1 tp (.tup [.int 0, .int 3]) = H2 at sT
          have ha2 := sT _ _ ha1
          have s2 := s1.trans sT
          have wa := My.washed_at hx q1 hk hno
          have last : ∀ (kp : Addr) (bs : List Addr) (ys : List Told) (H3 : Hp), Same H2 H3 → H3 kp = some (.lst (bs.map V.ref)) → Refs (TupAt H3) bs ys → bs.length ≤ 1 → ys = (if x.kind = 3 then [{ x with kind := 0 }] else []) →
              tRet (tOp rCat (tOp rCat (tSl (rSlL K) (tVar 0) tNoPart (tPart (tVar 2))) (tVar 4)) (tSl (rSlL K) (tVar 0) (tPart (tOp (rI0 fun i j => .int (i + j)) (tVar 2) (tC (.int 1)))) tNoPart))
                D [some (.ref l), some (.int t), some (.int (i : Int)), some (.ref a), some (.ref kp)] H3 := fun kp bs ys H3 s3 hkp hB hb1 hys => by
            have hl3 := s3 _ _ (s2 _ _ hl)
            refine ⟨_, rfl, _, rfl, _, rfl, l, _, rfl, SqL.of hl3, fun p1 hp1 => ?_⟩
            have n1 : Same H3 (upd H3 p1 (.lst (cutV (ts.map V.ref) none (some (i : Int))))) := Same.new hp1
            refine ⟨_, rfl, p1, kp, _, _, rfl, rfl, upd_same, n1 _ _ hkp, ?_, fun p2 hp2 => ?_⟩
            · rw [cutV_take (by omega), List.length_take]
              have hbl : (bs.map V.ref).length = bs.length := List.length_map _
              exact Nat.le_of_lt (line_of (by omega))
            have n2 := n1.upd (o := .lst (cutV (ts.map V.ref) none (some (i : Int)) ++ bs.map V.ref)) (n1.free hp2)
            have e1 : (i : Int) + 1 = ((i + 1 : Nat) : Int) := by omega
            refine ⟨_, rfl, _, rfl, _, _, rfl, rfl, _, rfl, l, _, rfl, SqL.of (n2 _ _ hl3), fun p3 hp3 => ?_⟩
            have hp2' := n2.free hp3
            have d23 : p2 ≠ p3 := ne_of_none upd_same hp3
            refine ⟨p2, p3, _, _, rfl, rfl, by rw [upd_ne d23]; exact upd_same, upd_same, ?_, fun p4 hp4 => ?_⟩
            · rw [e1, cutV_take (by omega), cutV_drop (by omega), List.length_append, List.length_take, List.length_drop]
              have hbl : (bs.map V.ref).length = bs.length := List.length_map _
              exact Nat.le_of_lt (line_of (by omega))
            · have n3 := n2.upd (o := .lst (cutV (ts.map V.ref) (some ((i : Int) + 1)) none)) hp2'
              have n4 := n3.upd (o := .lst (cutV (ts.map V.ref) none (some (i : Int)) ++ bs.map V.ref ++ cutV (ts.map V.ref) (some ((i : Int) + 1)) none)) (n3.free hp4)
              have sA := s2.trans (s3.trans n4)
              refine hRt _ _ (k p4 _ sA (.inr ((s2.trans (s3.trans n3)).free hp4)) ⟨ts.take i ++ bs ++ ts.drop (i + 1), ?_, ?_⟩)
              · rw [upd_same, e1, cutV_take (by omega), cutV_drop (by omega), List.map_append, List.map_append, List.map_take, List.map_drop]
              · rw [wa, ← hys]
                have hR4 : Refs (TupAt _) ts xs := hR.imp fun _ _ z => TupAt.same sA z
                exact ((hR4.take i).append (hB.imp fun _ _ z => TupAt.same n4 z)).append (hR4.drop (i + 1))
          refine st_set_if (et_t (ev_eqI (ev_ixT (ev_var rfl) ev_c (SqT.of ha2) rfl) ev_c)) (fun q3 => ?_) (fun q3 => ?_)
          · have hk3 : x.kind = 3 := by have := of_decide_eq_true q3; omega
            refine ⟨_, rfl, _, rfl, a, _, _, _, rfl, rfl, SqT.of ha2, rfl, (by show 3 ≤ sizeLine; decide), fun tq htq => ⟨(by show 1 ≤ sizeLine; decide), fun kp hkp => ?_⟩⟩
            have nq : Same H2 (upd H2 tq (.tup [.int t, .int x.player, .int 0])) := Same.new htq
            have nk := nq.upd (o := .lst [.ref tq]) (nq.free hkp)
            refine last kp [tq] [{ x with kind := 0 }] _ nk upd_same (Refs.one ?_) (Nat.le_refl 1) (by rw [if_pos hk3])
            show upd (upd H2 tq _) kp _ tq = some (.tup [.int x.team, .int x.player, .int 0])
            rw [upd_ne (ne_of_none upd_same hkp), upd_same, q1]
          · have hk3 : ¬ x.kind = 3 := by have := of_decide_eq_false q3; omega
            refine ⟨Nat.zero_le _, fun kp hkp => ?_⟩
            exact last kp [] [] _ (Same.new hkp) upd_same Refs.nil (by decide) (by rw [if_neg hk3])
        · refine hD _ _ ⟨_, _, rfl, s1.upd (s1.free htp), snoc fun z => ?_⟩
          have := (inV03 x.kind).mpr z.2
          have q2' : inV (.int (x.kind : Int)) [.int 0, .int 3] = false := q2
          rw [this] at q2'
          cases q2'
      · refine hD _ _ ⟨_, _, rfl, s1, snoc fun z => ?_⟩
        have := of_decide_eq_false q
        exact this (by rw [z.1])
    · rintro σ H1 ⟨v2, v3, rfl, s1, hno⟩
      dsimp only
      refine st_ret (ev_var rfl) ?_
      rw [hcl, List.take_length] at hno
      refine k l H1 s1 (.inl rfl) ?_
      rw [My.washed_none hno]
      exact ToldsAt.same s1 ⟨ts, hl, hR⟩
end
end Ice
namespace Ice
open PySem PySem.Spec PyProof.Rows L2
open Kg58 (Pen Told State Team runs running soonest minus after short ended singles marked cancel parts washed lengthOf minutesOf)
open My (PosL lefts lessAll Tab TabOk NSt StOk ToldOk RepT Good)
theorem lk_eq {k : Str} {v : V} {r : List (Str × V)} : List.lookup k ((k, v) :: r) = some v := by
  rw [List.lookup_cons, beq_self_eq_true]
theorem lk_ne {k a : Str} {v : V} {r : List (Str × V)} (h : ¬ a = k) : List.lookup a ((k, v) :: r) = List.lookup a r := by
  rw [List.lookup_cons, beq_eq_false_iff_ne.mpr h]
structure GF where
  skaters : Int
  time : Int
  bl : Addr
  sg : Addr
  gl : Addr
  nd : Addr
  mj : Addr
  ou : Addr
def gf (G : GF) : List (Str × V) := [(("skaters" : Str), V.int G.skaters), (("time" : Str), V.int G.time), (("boxes" : Str), V.ref G.bl), (("signalled" : Str), V.ref G.sg), (("goals" : Str), V.ref G.gl), (("noted" : Str), V.ref G.nd), (("majors" : Str), V.ref G.mj), (("out" : Str), V.ref G.ou)]
theorem gf_skaters (G : GF) : (gf G).lookup ("skaters" : Str) = some (V.int G.skaters) := by
  unfold gf
  rw [lk_eq]
theorem gf_time (G : GF) : (gf G).lookup ("time" : Str) = some (V.int G.time) := by
  unfold gf
  rw [lk_ne (by decide +kernel), lk_eq]
theorem gf_boxes (G : GF) : (gf G).lookup ("boxes" : Str) = some (V.ref G.bl) := by
  unfold gf
  rw [lk_ne (by decide +kernel), lk_ne (by decide +kernel), lk_eq]
theorem gf_signalled (G : GF) : (gf G).lookup ("signalled" : Str) = some (V.ref G.sg) := by
  unfold gf
  rw [lk_ne (by decide +kernel), lk_ne (by decide +kernel), lk_ne (by decide +kernel), lk_eq]
theorem gf_goals (G : GF) : (gf G).lookup ("goals" : Str) = some (V.ref G.gl) := by
  unfold gf
  rw [lk_ne (by decide +kernel), lk_ne (by decide +kernel), lk_ne (by decide +kernel), lk_ne (by decide +kernel), lk_eq]
theorem gf_noted (G : GF) : (gf G).lookup ("noted" : Str) = some (V.ref G.nd) := by
  unfold gf
  rw [lk_ne (by decide +kernel), lk_ne (by decide +kernel), lk_ne (by decide +kernel), lk_ne (by decide +kernel), lk_ne (by decide +kernel), lk_eq]
theorem gf_majors (G : GF) : (gf G).lookup ("majors" : Str) = some (V.ref G.mj) := by
  unfold gf
  rw [lk_ne (by decide +kernel), lk_ne (by decide +kernel), lk_ne (by decide +kernel), lk_ne (by decide +kernel), lk_ne (by decide +kernel), lk_ne (by decide +kernel), lk_eq]
theorem gf_out (G : GF) : (gf G).lookup ("out" : Str) = some (V.ref G.ou) := by
  unfold gf
  rw [lk_ne (by decide +kernel), lk_ne (by decide +kernel), lk_ne (by decide +kernel), lk_ne (by decide +kernel), lk_ne (by decide +kernel), lk_ne (by decide +kernel), lk_ne (by decide +kernel), lk_eq]
theorem gf_no_clock (G : GF) : (gf G).lookup ("clock" : Str) = none := by
  unfold gf
  rw [lk_ne (by decide +kernel), lk_ne (by decide +kernel), lk_ne (by decide +kernel), lk_ne (by decide +kernel), lk_ne (by decide +kernel), lk_ne (by decide +kernel), lk_ne (by decide +kernel), lk_ne (by decide +kernel)]
  rfl
theorem gf_no_stop (G : GF) : (gf G).lookup ("stop" : Str) = none := by
  unfold gf
  rw [lk_ne (by decide +kernel), lk_ne (by decide +kernel), lk_ne (by decide +kernel), lk_ne (by decide +kernel), lk_ne (by decide +kernel), lk_ne (by decide +kernel), lk_ne (by decide +kernel), lk_ne (by decide +kernel)]
  rfl
theorem gf_no_signal (G : GF) : (gf G).lookup ("signal" : Str) = none := by
  unfold gf
  rw [lk_ne (by decide +kernel), lk_ne (by decide +kernel), lk_ne (by decide +kernel), lk_ne (by decide +kernel), lk_ne (by decide +kernel), lk_ne (by decide +kernel), lk_ne (by decide +kernel), lk_ne (by decide +kernel)]
  rfl
theorem gf_no_goal (G : GF) : (gf G).lookup ("goal" : Str) = none := by
  unfold gf
  rw [lk_ne (by decide +kernel), lk_ne (by decide +kernel), lk_ne (by decide +kernel), lk_ne (by decide +kernel), lk_ne (by decide +kernel), lk_ne (by decide +kernel), lk_ne (by decide +kernel), lk_ne (by decide +kernel)]
  rfl
theorem gf_no_now (G : GF) : (gf G).lookup ("now" : Str) = none := by
  unfold gf
  rw [lk_ne (by decide +kernel), lk_ne (by decide +kernel), lk_ne (by decide +kernel), lk_ne (by decide +kernel), lk_ne (by decide +kernel), lk_ne (by decide +kernel), lk_ne (by decide +kernel), lk_ne (by decide +kernel)]
  rfl
theorem gf_no_box (G : GF) : (gf G).lookup ("box" : Str) = none := by
  unfold gf
  rw [lk_ne (by decide +kernel), lk_ne (by decide +kernel), lk_ne (by decide +kernel), lk_ne (by decide +kernel), lk_ne (by decide +kernel), lk_ne (by decide +kernel), lk_ne (by decide +kernel), lk_ne (by decide +kernel)]
  rfl
theorem gf_no_minutes (G : GF) : (gf G).lookup ("minutes" : Str) = none := by
  unfold gf
  rw [lk_ne (by decide +kernel), lk_ne (by decide +kernel), lk_ne (by decide +kernel), lk_ne (by decide +kernel), lk_ne (by decide +kernel), lk_ne (by decide +kernel), lk_ne (by decide +kernel), lk_ne (by decide +kernel)]
  rfl
theorem gf_no_till (G : GF) : (gf G).lookup ("till" : Str) = none := by
  unfold gf
  rw [lk_ne (by decide +kernel), lk_ne (by decide +kernel), lk_ne (by decide +kernel), lk_ne (by decide +kernel), lk_ne (by decide +kernel), lk_ne (by decide +kernel), lk_ne (by decide +kernel), lk_ne (by decide +kernel)]
  rfl
theorem gf_no_may_be (G : GF) : (gf G).lookup ("may_be" : Str) = none := by
  unfold gf
  rw [lk_ne (by decide +kernel), lk_ne (by decide +kernel), lk_ne (by decide +kernel), lk_ne (by decide +kernel), lk_ne (by decide +kernel), lk_ne (by decide +kernel), lk_ne (by decide +kernel), lk_ne (by decide +kernel)]
  rfl
theorem gf_no_boxes_at (G : GF) : (gf G).lookup ("boxes_at" : Str) = none := by
  unfold gf
  rw [lk_ne (by decide +kernel), lk_ne (by decide +kernel), lk_ne (by decide +kernel), lk_ne (by decide +kernel), lk_ne (by decide +kernel), lk_ne (by decide +kernel), lk_ne (by decide +kernel), lk_ne (by decide +kernel)]
  rfl
theorem gf_no_pass_to (G : GF) : (gf G).lookup ("pass_to" : Str) = none := by
  unfold gf
  rw [lk_ne (by decide +kernel), lk_ne (by decide +kernel), lk_ne (by decide +kernel), lk_ne (by decide +kernel), lk_ne (by decide +kernel), lk_ne (by decide +kernel), lk_ne (by decide +kernel), lk_ne (by decide +kernel)]
  rfl
theorem gf_no_both_skaters (G : GF) : (gf G).lookup ("both_skaters" : Str) = none := by
  unfold gf
  rw [lk_ne (by decide +kernel), lk_ne (by decide +kernel), lk_ne (by decide +kernel), lk_ne (by decide +kernel), lk_ne (by decide +kernel), lk_ne (by decide +kernel), lk_ne (by decide +kernel), lk_ne (by decide +kernel)]
  rfl
theorem gf_no_strength (G : GF) : (gf G).lookup ("strength" : Str) = none := by
  unfold gf
  rw [lk_ne (by decide +kernel), lk_ne (by decide +kernel), lk_ne (by decide +kernel), lk_ne (by decide +kernel), lk_ne (by decide +kernel), lk_ne (by decide +kernel), lk_ne (by decide +kernel), lk_ne (by decide +kernel)]
  rfl
theorem gf_no_end_minor (G : GF) : (gf G).lookup ("end_minor" : Str) = none := by
  unfold gf
  rw [lk_ne (by decide +kernel), lk_ne (by decide +kernel), lk_ne (by decide +kernel), lk_ne (by decide +kernel), lk_ne (by decide +kernel), lk_ne (by decide +kernel), lk_ne (by decide +kernel), lk_ne (by decide +kernel)]
  rfl
theorem gf_no_tells_of_one_out (G : GF) : (gf G).lookup ("tells_of_one_out" : Str) = none := by
  unfold gf
  rw [lk_ne (by decide +kernel), lk_ne (by decide +kernel), lk_ne (by decide +kernel), lk_ne (by decide +kernel), lk_ne (by decide +kernel), lk_ne (by decide +kernel), lk_ne (by decide +kernel), lk_ne (by decide +kernel)]
  rfl
theorem gf_no_bring (G : GF) : (gf G).lookup ("bring" : Str) = none := by
  unfold gf
  rw [lk_ne (by decide +kernel), lk_ne (by decide +kernel), lk_ne (by decide +kernel), lk_ne (by decide +kernel), lk_ne (by decide +kernel), lk_ne (by decide +kernel), lk_ne (by decide +kernel), lk_ne (by decide +kernel)]
  rfl
theorem gf_no_note (G : GF) : (gf G).lookup ("note" : Str) = none := by
  unfold gf
  rw [lk_ne (by decide +kernel), lk_ne (by decide +kernel), lk_ne (by decide +kernel), lk_ne (by decide +kernel), lk_ne (by decide +kernel), lk_ne (by decide +kernel), lk_ne (by decide +kernel), lk_ne (by decide +kernel)]
  rfl
theorem gf_put_time (G : GF) (z : Int) : putF "time" (V.int z) (gf G) = gf { G with time := z } := (putF_cons_ne (by decide +kernel)).trans (congrArg _ (putF_cons_eq))
theorem gf_put_boxes (G : GF) (a : Addr) : putF "boxes" (V.ref a) (gf G) = gf { G with bl := a } := (putF_cons_ne (by decide +kernel)).trans (congrArg _ ((putF_cons_ne (by decide +kernel)).trans (congrArg _ (putF_cons_eq))))
theorem gf_put_signalled (G : GF) (a : Addr) : putF "signalled" (V.ref a) (gf G) = gf { G with sg := a } := (putF_cons_ne (by decide +kernel)).trans (congrArg _ ((putF_cons_ne (by decide +kernel)).trans (congrArg _ ((putF_cons_ne (by decide +kernel)).trans (congrArg _ (putF_cons_eq))))))
theorem gf_len (G : GF) : (gf G).length < 1000 := by
  show 8 < 1000
  decide
theorem putF_new {f : Str} {v : V} : ∀ {fs : List (Str × V)}, ¬ f ∈ fs.map (·.1) → putF f v fs = fs ++ [(f, v)]
  | [], _ => rfl
  | (g, x) :: r, h => by
    have h1 : ¬ g = f := fun e => h (by rw [List.map_cons, e]; exact List.mem_cons_self)
    have h2 : ¬ f ∈ r.map (·.1) := fun e => h (by rw [List.map_cons]; exact List.mem_cons_of_mem _ e)
    rw [putF_cons_ne h1, putF_new h2]
    rfl
theorem gf_init (x0 : V) (x1 : V) (x2 : V) (x3 : V) (x4 : V) (x5 : V) (x6 : V) (x7 : V) : (putF "out" x7 (putF "majors" x6 (putF "noted" x5 (putF "goals" x4 (putF "signalled" x3 (putF "boxes" x2 (putF "time" x1 (putF "skaters" x0 [])))))))) = [(("skaters" : Str), x0), (("time" : Str), x1), (("boxes" : Str), x2), (("signalled" : Str), x3), (("goals" : Str), x4), (("noted" : Str), x5), (("majors" : Str), x6), (("out" : Str), x7)] := by
  have e1 : putF "time" x1 [(("skaters" : Str), x0)] = [(("skaters" : Str), x0), (("time" : Str), x1)] := putF_new (show ¬ ("time" : Str) ∈ (["skaters"] : List Str) by decide +kernel)
  have e2 : putF "boxes" x2 [(("skaters" : Str), x0), (("time" : Str), x1)] = [(("skaters" : Str), x0), (("time" : Str), x1), (("boxes" : Str), x2)] := putF_new (show ¬ ("boxes" : Str) ∈ (["skaters", "time"] : List Str) by decide +kernel)
  have e3 : putF "signalled" x3 [(("skaters" : Str), x0), (("time" : Str), x1), (("boxes" : Str), x2)] = [(("skaters" : Str), x0), (("time" : Str), x1), (("boxes" : Str), x2), (("signalled" : Str), x3)] := putF_new (show ¬ ("signalled" : Str) ∈ (["skaters", "time", "boxes"] : List Str) by decide +kernel)
  have e4 : putF "goals" x4 [(("skaters" : Str), x0), (("time" : Str), x1), (("boxes" : Str), x2), (("signalled" : Str), x3)] = [(("skaters" : Str), x0), (("time" : Str), x1), (("boxes" : Str), x2), (("signalled" : Str), x3), (("goals" : Str), x4)] := putF_new (show ¬ ("goals" : Str) ∈ (["skaters", "time", "boxes", "signalled"] : List Str) by decide +kernel)
  have e5 : putF "noted" x5 [(("skaters" : Str), x0), (("time" : Str), x1), (("boxes" : Str), x2), (("signalled" : Str), x3), (("goals" : Str), x4)] = [(("skaters" : Str), x0), (("time" : Str), x1), (("boxes" : Str), x2), (("signalled" : Str), x3), (("goals" : Str), x4), (("noted" : Str), x5)] := putF_new (show ¬ ("noted" : Str) ∈ (["skaters", "time", "boxes", "signalled", "goals"] : List Str) by decide +kernel)
  have e6 : putF "majors" x6 [(("skaters" : Str), x0), (("time" : Str), x1), (("boxes" : Str), x2), (("signalled" : Str), x3), (("goals" : Str), x4), (("noted" : Str), x5)] = [(("skaters" : Str), x0), (("time" : Str), x1), (("boxes" : Str), x2), (("signalled" : Str), x3), (("goals" : Str), x4), (("noted" : Str), x5), (("majors" : Str), x6)] := putF_new (show ¬ ("majors" : Str) ∈ (["skaters", "time", "boxes", "signalled", "goals", "noted"] : List Str) by decide +kernel)
  have e7 : putF "out" x7 [(("skaters" : Str), x0), (("time" : Str), x1), (("boxes" : Str), x2), (("signalled" : Str), x3), (("goals" : Str), x4), (("noted" : Str), x5), (("majors" : Str), x6)] = [(("skaters" : Str), x0), (("time" : Str), x1), (("boxes" : Str), x2), (("signalled" : Str), x3), (("goals" : Str), x4), (("noted" : Str), x5), (("majors" : Str), x6), (("out" : Str), x7)] := putF_new (show ¬ ("out" : Str) ∈ (["skaters", "time", "boxes", "signalled", "goals", "noted", "majors"] : List Str) by decide +kernel)
  show (putF "out" x7 (putF "majors" x6 (putF "noted" x5 (putF "goals" x4 (putF "signalled" x3 (putF "boxes" x2 (putF "time" x1 [(("skaters" : Str), x0)]))))))) = _
  rw [e1, e2, e3, e4, e5, e6, e7]
def key (t p : Nat) : List Key := [Sum.inl (t : Int), Sum.inl (p : Int)]
theorem key_iff {t p t' p' : Nat} : key t p = key t' p' ↔ (t, p) = (t', p') := by
  unfold key
  constructor
  · intro h
    have h1 := (List.cons.inj h).1
    have h2 := (List.cons.inj (List.cons.inj h).2).1
    have h3 := Sum.inl.inj h1
    have h4 := Sum.inl.inj h2
    exact Prod.ext (by show t = t'; omega) (by show p = p'; omega)
  · intro h
    rw [(Prod.mk.inj h).1, (Prod.mk.inj h).2]
def encN (d : Tab) : List (List Key × V) := d.map fun e => (key e.1.1 e.1.2, V.int (e.2 : Int))
def encO (d : Tab) : List (List Key × V) := d.map fun e => (key e.1.1 e.1.2, V.bl true)
theorem key_dec (e : (Nat × Nat) × Nat) (t p : Nat) : decide (key e.1.1 e.1.2 = key t p) = decide (e.1 = (t, p)) := by
  by_cases h : e.1 = (t, p)
  · rw [decide_eq_true h, decide_eq_true (key_iff.mpr h)]
  · rw [decide_eq_false h, decide_eq_false (fun z => h (key_iff.mp z))]
theorem valEnc (f : (Nat × Nat) × Nat → V) (t p : Nat) : ∀ d : Tab, valV (d.map fun e => (key e.1.1 e.1.2, f e)) (key t p) = (d.find? fun e => decide (e.1 = (t, p))).map f
  | [] => rfl
  | e :: d => by
    have ih := valEnc f t p d
    unfold valV at ih ⊢
    rw [List.map_cons, List.find?_cons, List.find?_cons, key_dec]
    cases decide (e.1 = (t, p))
    · exact ih
    · rfl
theorem valN (d : Tab) (t p : Nat) : valV (encN d) (key t p) = (My.valD d (t, p)).map fun (n : Nat) => V.int (n : Int) := by
  unfold encN My.valD
  rw [valEnc (fun e => V.int (e.2 : Int)), Option.map_map]
  rfl
theorem valO (d : Tab) (t p : Nat) : (valV (encO d) (key t p)).isSome = (My.valD d (t, p)).isSome := by
  unfold encO My.valD
  rw [valEnc (fun _ => V.bl true)]
  cases d.find? fun e => decide (e.1 = (t, p)) <;> rfl
theorem putEnc (f : (Nat × Nat) × Nat → V) (t p v : Nat) (hf : ∀ e : (Nat × Nat) × Nat, e.1 = (t, p) → f (e.1, v) = f ((t, p), v)) (d : Tab) :
    putK (d.map fun e => (key e.1.1 e.1.2, f e)) (key t p) (f ((t, p), v)) = (My.putD d (t, p) v).map fun e => (key e.1.1 e.1.2, f e) := by
  unfold putK My.putD
  have ha : ((d.map fun e => (key e.1.1 e.1.2, f e)).any fun kv => decide (kv.1 = key t p)) = d.any fun e => decide (e.1 = (t, p)) := by
    rw [List.any_map]
    congr 1
    funext e
    exact key_dec e t p
  rw [ha]
  split
  · rw [List.map_map, List.map_map]
    refine List.map_congr_left fun e _ => ?_
    show (if key e.1.1 e.1.2 = key t p then (key e.1.1 e.1.2, f ((t, p), v)) else (key e.1.1 e.1.2, f e)) = (fun (e : (Nat × Nat) × Nat) => (key e.1.1 e.1.2, f e)) (if e.1 = (t, p) then (e.1, v) else e)
    by_cases h : e.1 = (t, p)
    · rw [if_pos h, if_pos (key_iff.mpr h), ← hf e h]
    · rw [if_neg h, if_neg (fun z => h (key_iff.mp z))]
  · rw [List.map_append]
    rfl
theorem putN (d : Tab) (t p v : Nat) : putK (encN d) (key t p) (.int (v : Int)) = encN (My.putD d (t, p) v) := putEnc (fun e => V.int (e.2 : Int)) t p v (fun _ _ => rfl) d
theorem putO (d : Tab) (t p : Nat) : putK (encO d) (key t p) (.bl true) = encO (My.putD d (t, p) 1) := putEnc (fun _ => V.bl true) t p 1 (fun _ _ => rfl) d
theorem encN_len (d : Tab) : (encN d).length = d.length := List.length_map _
theorem encO_len (d : Tab) : (encO d).length = d.length := List.length_map _
structure GameAt (A : Ad) (H : Hp) (g : Addr) (G : GF) (b0 b1 : Addr) (s : State) (st : NSt) : Prop where
  at_ : ∃ dx, H g = some (.ins A.CG dx (gf G))
  sk : G.skaters = (s.base : Int)
  tm : G.time = (s.time : Int)
  hb : H G.bl = some (.lst [.ref b0, .ref b1])
  x0 : BoxAt A.CP H b0 s.a.pens
  x1 : BoxAt A.CP H b1 s.b.pens
  hs : ToldsAt H G.sg s.signalled
  hg : H G.gl = some (.lst [.int (s.a.goals : Int), .int (s.b.goals : Int)])
  hn : H G.nd = some (.dT (encN st.noted))
  hm : H G.mj = some (.dT (encN st.majors))
  ho : H G.ou = some (.dT (encO st.outs))
  d0b : b0 ≠ G.bl
  d0g : b0 ≠ G.gl
  d0s : b0 ≠ G.sg
  d1b : b1 ≠ G.bl
  d1g : b1 ≠ G.gl
  d1s : b1 ≠ G.sg
  dbs : G.bl ≠ G.sg
  dbg : G.bl ≠ G.gl
  dgs : G.gl ≠ G.sg
  dnm : G.nd ≠ G.mj
  dno : G.nd ≠ G.ou
  dmo : G.mj ≠ G.ou
  ok : Good s st
  sl : s.signalled.length ≤ 1000
def ownOf (g : Addr) (G : GF) : List Addr := [g, G.bl, G.gl, G.sg, G.nd, G.mj, G.ou]
theorem in1 {P : Addr → Prop} {a : Addr} (h0 : P a) : ∀ x, x ∈ [a] → P x := fun x h => by cases h with | head => exact h0 | tail _ h => cases h
theorem inC {P : Addr → Prop} {a : Addr} {l : List Addr} (h0 : P a) (h1 : ∀ x, x ∈ l → P x) : ∀ x, x ∈ a :: l → P x := fun x h => by cases h with | head => exact h0 | tail _ h => exact h1 x h
theorem in5 {P : Addr → Prop} {a b c d e : Addr} (ha : P a) (hb : P b) (hc : P c) (hd : P d) (he : P e) : ∀ x, x ∈ [a, b, c, d, e] → P x := inC ha (inC hb (inC hc (inC hd (in1 he))))
theorem in7 {P : Addr → Prop} {g : Addr} {G : GF} (h0 : P g) (h1 : P G.bl) (h2 : P G.gl) (h3 : P G.sg) (h4 : P G.nd) (h5 : P G.mj) (h6 : P G.ou) : ∀ a, a ∈ ownOf g G → P a := inC h0 (inC h1 (in5 h2 h3 h4 h5 h6))
section
variable {g : Addr} {G : GF}
theorem ow_g : g ∈ ownOf g G := .head _
theorem ow_bl : G.bl ∈ ownOf g G := .tail _ (.head _)
theorem ow_gl : G.gl ∈ ownOf g G := .tail _ (.tail _ (.head _))
theorem ow_sg : G.sg ∈ ownOf g G := .tail _ (.tail _ (.tail _ (.head _)))
theorem ow_nd : G.nd ∈ ownOf g G := .tail _ (.tail _ (.tail _ (.tail _ (.head _))))
theorem ow_mj : G.mj ∈ ownOf g G := .tail _ (.tail _ (.tail _ (.tail _ (.tail _ (.head _)))))
theorem ow_ou : G.ou ∈ ownOf g G := .tail _ (.tail _ (.tail _ (.tail _ (.tail _ (.tail _ (.head _))))))
end
theorem GameAt.same {A : Ad} {H H' : Hp} {g : Addr} {G : GF} {b0 b1 : Addr} {s : State} {st : NSt} (h : GameAt A H g G b0 b1 s st) (e : Same H H') : GameAt A H' g G b0 b1 s st :=
  { h with
    at_ := h.at_.imp fun _ z => e _ _ z
    hb := e _ _ h.hb
    x0 := BoxAt.same e h.x0
    x1 := BoxAt.same e h.x1
    hs := ToldsAt.same e h.hs
    hg := e _ _ h.hg
    hn := e _ _ h.hn
    hm := e _ _ h.hm
    ho := e _ _ h.ho }
end Ice
namespace Ice
open PySem PySem.Spec PyProof.Rows L2
open Kg58 (Pen Told State Team runs running soonest minus after short ended singles marked cancel parts washed lengthOf minutesOf)
open My (PosL lefts lessAll Tab TabOk NSt StOk ToldOk RepT Good)
inductive spMayBeI (A : Ad) (H : Hp) (Q : VK) : List V → Prop
  | mk (g : Addr) (z : Int) (G : GF) (b0 b1 : Addr) (s : State) (st : NSt) (h0 : GameAt A H g G b0 b1 s st) (h1 : Q (.bl (Kg58.okTime s z)) H) : spMayBeI A H Q [.ref g, .int z]
def spMayBe (A : Ad) : Sp := fun vs H Q _ => spMayBeI A H Q vs
inductive spBoxesAtI (A : Ad) (H : Hp) (Q : VK) : List V → Prop
  | mk (g : Addr) (t : Nat) (G : GF) (b0 b1 : Addr) (s : State) (st : NSt) (h0 : GameAt A H g G b0 b1 s st) (h1 : s.time ≤ t) (h2 : ∀ (r c0 c1 : Addr) (H' : Hp), Same H H' → H r = Option.none → H' r = some (.lst [.ref c0, .ref c1]) → BoxAt A.CP H' c0 (after (t - s.time) s.a.pens) → BoxAt A.CP H' c1 (after (t - s.time) s.b.pens) → (c0 = b0 ∨ H c0 = Option.none) → (c1 = b1 ∨ H c1 = Option.none) → c0 ≠ r → c1 ≠ r → Q (.ref r) H') : spBoxesAtI A H Q [.ref g, .int t]
def spBoxesAt (A : Ad) : Sp := fun vs H Q _ => spBoxesAtI A H Q vs
inductive spPassI (A : Ad) (H : Hp) (Q : VK) : List V → Prop
  | mk (g : Addr) (t : Nat) (G : GF) (b0 b1 : Addr) (s : State) (st : NSt) (h0 : GameAt A H g G b0 b1 s st) (h1 : s.time ≤ t) (h2 : t ≤ 6000) (h3 : ∀ (r c0 c1 : Addr) (H' : Hp), GameAt A H' g { G with bl := r, time := t } c0 c1 (s.to t) st → Keep [g] H H' → H r = Option.none → Q .non H') : spPassI A H Q [.ref g, .int t]
def spPass (A : Ad) : Sp := fun vs H Q _ => spPassI A H Q vs
inductive spBothI (A : Ad) (H : Hp) (Q : VK) : List V → Prop
  | mk (g : Addr) (G : GF) (b0 b1 : Addr) (s : State) (st : NSt) (h0 : GameAt A H g G b0 b1 s st) (h1 : ∀ (r : Addr) (H' : Hp), Same H H' → H' r = some (.lst [.int (s.skaters 0 : Int), .int (s.skaters 1 : Int)]) → Q (.ref r) H') : spBothI A H Q [.ref g]
def spBoth (A : Ad) : Sp := fun vs H Q _ => spBothI A H Q vs
inductive spStrengthI (A : Ad) (H : Hp) (Q : VK) : List V → Prop
  | mk (g : Addr) (t : Nat) (G : GF) (b0 b1 : Addr) (s : State) (st : NSt) (h0 : GameAt A H g G b0 b1 s st) (h1 : t < 2) (h2 : ∀ (H' : Hp), Same H H' → Q (.int (My.strI s t)) H') : spStrengthI A H Q [.ref g, .int t]
def spStrength (A : Ad) : Sp := fun vs H Q _ => spStrengthI A H Q vs
section
variable {P : Program} {w : World} {K : PySem.W.Frag} {mg : Str → Option Value} {base : Heap} {A : Ad}
theorem BoxAt.updL {C : Addr} {H : Hp} {l D : Addr} {ps : List Pen} {acc acc' : List V} (h : BoxAt C H l ps) (hD : H D = some (.lst acc)) (hne : l ≠ D) : BoxAt C (upd H D (.lst acc')) l ps := by
  obtain ⟨as, h1, h2⟩ := h
  exact ⟨as, by rw [upd_ne hne]; exact h1, h2.imp fun _ _ z => z.updL hD⟩
theorem ok_maybe {f : Addr} {fd : FuncData} (F : Fun K "may_be" "Game.may_be" s_Game_may_be f fd) (T : Txt K mg A) : FnOk P w K mg base CX0 1 f fd ["self", "time"] (spMayBe A) := by
  refine F.ok sc_Game_may_be (fun vs H Q E h => ?_) (fun cdv Ar outer s H vs Q E hr h => ?_)
  · obtain ⟨g, z, G, b0, b1, s, st, _⟩ := h
    rfl
  · obtain ⟨g, z, G, b0, b1, s, st, hG, k⟩ := h
    refine ⟨_, (pss_one (ps_ret (pe_chain op_le op_le (pe_fld (pv 0) rfl) (pv 1) (gi T.LAST_TIME)))), ?_⟩
    obtain ⟨dx, hg⟩ := hG.at_
    refine st_ret (ev_chain (ev_fld (ev_var rfl) hg T.clG T.g_time (gf_time G)) (ev_var rfl) ev_c) ?_
    rw [hG.tm]
    exact k
theorem ok_boxesat {f fA : Addr} {fd fdA : FuncData} (F : Fun K "boxes_at" "Game.boxes_at" s_Game_boxes_at f fd) (T : Txt K mg A)
    (D_box_after : Def K mg "box_after" s_box_after ["box", "seconds"] fA fdA) (G_box_after : FnOk P w K mg base CX0 5 fA fdA ["box", "seconds"] (spAfter A.CP)) : FnOk P w K mg base CX0 6 f fd ["self", "time"] (spBoxesAt A) := by
  refine F.ok sc_Game_boxes_at (fun vs H Q E h => ?_) (fun cdv Ar outer s H vs Q E hr h => ?_)
  · obtain ⟨g, z, G, b0, b1, s, st, _⟩ := h
    rfl
  · obtain ⟨g, t, G, b0, b1, s, st, hG, ht, k⟩ := h
    have nd := sc_Game_boxes_at.nd
    refine ⟨_, (pss_one (ps_ret (pe_lc rfl nd (pi_list (pe_fld (pv 0) rfl)) (blkOk_by (own := [("box", 2)]) (by show blkC ["self", "time", "box"] (defScope s_Game_boxes_at) _ _ = true; decide +kernel)) (fun _ _ _ _ _ => (pg_name (i := 2) nd rfl (Or.inl rfl))) (fun _ _ _ _ _ => pts_nil) (fun _ _ _ _ _ => (pe_call G_box_after (hr.mono (by decide)) rfl D_box_after.mg D_box_after.fn.kp D_box_after.b .nil pass0 (pa_cons (pv 2) (pa_cons (pe_op op_sub (pv 1) (pe_fldK K (pv 0) rfl)) pa_nil))))))), ?_⟩
    obtain ⟨dx, hg⟩ := hG.at_
    have fA := hG.ok.fewA
    have fB := hG.ok.fewB
    let pens : Nat → List Pen := fun i => if i = 0 then s.a.pens else s.b.pens
    let bxs : Nat → Addr := fun i => if i = 0 then b0 else b1
    refine ⟨_, rfl, g, A.CG, dx, _, _, rfl, hg, T.clG, T.g_boxes, gf_boxes G, G.bl, rfl, ⟨_, SqL.of hG.hb⟩, lcL (xs := [.ref b0, .ref b1]) (SqL.of hG.hb) (show 2 ≤ 1000000 by decide)
      (fun i acc H' => ∃ cs : List Addr, acc = cs.map V.ref ∧ cs.length = i ∧ ∀ (j : Nat) (c : Addr), cs[j]? = some c → BoxAt A.CP H' c (after (t - s.time) (pens j)) ∧ (c = bxs j ∨ H c = Option.none) ∧ ∃ zs, H' c = some (.lst zs))
      (fun D hD => ⟨[], rfl, rfl, fun j c h => by cases h⟩) ?_ ?_⟩
    · rintro D i x acc H' Nx hD hx s1 h ⟨cs, rfl, hcl, hcs⟩ k1 k2
      have hi2 : i < 2 := (List.getElem?_eq_some_iff.mp hx).1
      obtain ⟨rfl, hB, hlen, hpos⟩ : x = .ref (bxs i) ∧ BoxAt A.CP H (bxs i) (pens i) ∧ (pens i).length ≤ 1000 ∧ PosL (pens i) := by
        match i, hi2, hx with
        | 0, _, hx => exact ⟨(Option.some.inj hx).symm, hG.x0, by show s.a.pens.length ≤ 1000; omega, hG.ok.posA⟩
        | 1, _, hx => exact ⟨(Option.some.inj hx).symm, hG.x1, by show s.b.pens.length ≤ 1000; omega, hG.ok.posB⟩
      refine ⟨rfl, ty_of ?_⟩
      have esub : V.int ((t : Int) - G.time) = V.int ((t - s.time : Nat) : Int) := by
        rw [hG.tm]
        congr 1
        omega
      refine tc_of (xs := [.ref (bxs i), .int ((t - s.time : Nat) : Int)]) ?_ ⟨bxs i, pens i, t - s.time, BoxAt.same s1 hB, hlen, hpos, fun r H4 s4 hr4 hB4 => ?_⟩
      · rw [← esub]
        exact eva_cons (ev_var rfl) (eva1 (ev_i (ev_var rfl) (ev_fld (ev_var rfl) (s1 _ _ hg) T.clG T.g_time (gf_time G))))
      · have hr5 : r = bxs i ∨ H r = Option.none := hr4.imp id fun z => s1.free z
        have hrD : r ≠ D := by
          rcases hr4 with rfl | z
          · obtain ⟨as, e, _⟩ := hB
            exact ne_of_none e hD
          · exact fun e => by rw [e, h] at z; cases z
        have hD4 := s4 _ _ h
        refine k1 _ _ s4 ⟨cs ++ [r], by rw [List.map_append]; rfl, by rw [List.length_append, List.length_singleton, hcl], fun j c hj => ?_⟩
        by_cases hjl : j < cs.length
        · rw [List.getElem?_append_left hjl] at hj
          obtain ⟨h1, h2, zs, h3⟩ := hcs j c hj
          have hcD : c ≠ D := by
            rcases h2 with e | e
            · have : ∃ ys, H (bxs j) = some (.lst ys) := by
                have hj2 : j < 2 := by omega
                match j, hj2 with
                | 0, _ => obtain ⟨as, e, _⟩ := hG.x0; exact ⟨_, e⟩
                | 1, _ => obtain ⟨as, e, _⟩ := hG.x1; exact ⟨_, e⟩
              obtain ⟨ys, ey⟩ := this
              rw [e]
              exact ne_of_none ey hD
            · intro z
              rw [z] at hj h1
              obtain ⟨as, e1, hp⟩ := h1
              rw [h] at e1
              have e2 : cs.map V.ref = as.map V.ref := HO.lst.inj (Option.some.inj e1)
              have e3 : (as.map V.ref)[j]? = some (V.ref D) := by rw [← e2]; exact get_map' hj
              obtain ⟨a', ha', ea⟩ := map_get e3
              obtain ⟨p, _, dy, ey⟩ := hp.getA ha'
              have : a' = D := (V.ref.inj ea).symm
              rw [this, h] at ey
              cases ey
          exact ⟨BoxAt.updL (BoxAt.same s4 h1) hD4 hcD, h2, _, by rw [upd_ne hcD]; exact s4 _ _ h3⟩
        · rw [List.getElem?_append_right (by omega)] at hj
          have hj0 : j = i := by
            have := (List.getElem?_eq_some_iff.mp hj).1
            rw [List.length_singleton] at this
            omega
          subst hj0
          rw [hcl, Nat.sub_self] at hj
          have : r = c := Option.some.inj hj
          subst this
          obtain ⟨as, e1, e2⟩ := hB4
          exact ⟨BoxAt.updL ⟨as, e1, e2⟩ hD4 hrD, hr5, _, by rw [upd_ne hrD]; exact e1⟩
    · rintro D acc H' hD s1 h _ ⟨cs, rfl, hcl, hcs⟩
      obtain ⟨c0, c1, rfl⟩ : ∃ c0 c1, cs = [c0, c1] := by
        match cs, hcl with
        | [c0, c1], _ => exact ⟨c0, c1, rfl⟩
      obtain ⟨h0, o0, z0, e0⟩ := hcs 0 c0 rfl
      obtain ⟨h1, o1, z1, e1⟩ := hcs 1 c1 rfl
      have ne : ∀ (c : Addr) (ps : List Pen), BoxAt A.CP H' c ps → c ≠ D := fun c ps hB z => by
        subst z
        obtain ⟨as, e1, hp⟩ := hB
        rw [h] at e1
        have e2 : [c0, c1].map V.ref = as.map V.ref := HO.lst.inj (Option.some.inj e1)
        have e3 : (as.map V.ref)[0]? = some (V.ref c0) := by rw [← e2]; rfl
        obtain ⟨a', ha', ea⟩ := map_get e3
        obtain ⟨p, _, dy, ey⟩ := hp.getA ha'
        have : a' = c0 := (V.ref.inj ea).symm
        rw [this, e0] at ey
        cases ey
      exact k D c0 c1 H' s1 hD h h0 h1 o0 o1 (ne c0 _ h0) (ne c1 _ h1)
end
end Ice
namespace Ice
open PySem PySem.Spec PyProof.Rows L2
open Kg58 (Pen Told State Team runs running soonest minus after short ended singles marked cancel parts washed lengthOf minutesOf)
open My (PosL lefts lessAll Tab TabOk NSt StOk ToldOk RepT Good)
section
variable {P : Program} {w : World} {K : PySem.W.Frag} {mg : Str → Option Value} {base : Heap} {A : Ad}
theorem PenAt.updI {C C' : Addr} {H : Hp} {a g dx : Addr} {p : Pen} {G : GF} {fs : List (Str × V)} (h : PenAt C H a p) (hg : H g = some (.ins C' dx (gf G))) : PenAt C (upd H g (.ins C' dx fs)) a p := by
  obtain ⟨dy, e⟩ := h
  refine ⟨dy, ?_⟩
  rw [upd_ne (ne_of e hg ?_)]
  · exact e
  · intro z
    have h1 : pf p = gf G := (HO.ins.inj z).2.2
    have h2 := congrArg List.length h1
    rw [pf_eq] at h2
    cases h2
theorem BoxAt.updI {C C' : Addr} {H : Hp} {l g dx : Addr} {ps : List Pen} {G : GF} {fs : List (Str × V)} (h : BoxAt C H l ps) (hg : H g = some (.ins C' dx (gf G))) : BoxAt C (upd H g (.ins C' dx fs)) l ps := by
  obtain ⟨as, h1, h2⟩ := h
  exact ⟨as, by rw [upd_ne (ne_of h1 hg (by intro z; cases z))]; exact h1, h2.imp fun _ _ z => z.updI hg⟩
theorem ToldsAt.updI {C' : Addr} {H : Hp} {l g dx : Addr} {xs : List Told} {G : GF} {fs : List (Str × V)} (h : ToldsAt H l xs) (hg : H g = some (.ins C' dx (gf G))) : ToldsAt (upd H g (.ins C' dx fs)) l xs := by
  obtain ⟨as, h1, h2⟩ := h
  refine ⟨as, by rw [upd_ne (ne_of h1 hg (by intro z; cases z))]; exact h1, h2.imp fun a x z => ?_⟩
  unfold TupAt at z ⊢
  rw [upd_ne (ne_of z hg (by intro y; cases y))]
  exact z
theorem ok_pass {f fB : Addr} {fd fdB : FuncData} (F : Fun K "pass_to" "Game.pass_to" s_Game_pass_to f fd) (T : Txt K mg A)
    (D_Game_boxes_at : MDef K A.CG "boxes_at" "Game.boxes_at" s_Game_boxes_at ["self", "time"] fB fdB) (G_Game_boxes_at : FnOk P w K mg base CX0 6 fB fdB ["self", "time"] (spBoxesAt A)) : FnOk P w K mg base CX0 7 f fd ["self", "time"] (spPass A) := by
  refine F.ok sc_Game_pass_to (fun vs H Q E h => ?_) (fun cdv Ar outer s H vs Q E hr h => ?_)
  · obtain ⟨g, t, G, b0, b1, s, st, _⟩ := h
    rfl
  · obtain ⟨g, t, G, b0, b1, s, st, hG, ht, ht6, k⟩ := h
    refine ⟨_, (pss_cons (ps_fld (pv 0) (pe_meth (pv 0) T.clG D_Game_boxes_at.me G_Game_boxes_at (hr.mono (by decide)) D_Game_boxes_at.b .nil pass0 (pa_cons (pv 1) pa_nil)) rfl)
    (pss_one (ps_fld (pv 0) (pv 1) rfl))), ?_⟩
    obtain ⟨dx, hg⟩ := hG.at_
    refine tm_of (ev_var rfl) hg (gf_no_boxes_at G) (eva1 (ev_var rfl)) ⟨g, t, G, b0, b1, s, st, hG, ht, fun r c0 c1 H1 s1 hr0 hr1 hc0 hc1 o0 o1 n0 n1 => ?_⟩
    have hg1 := s1 _ _ hg
    refine ⟨_, rfl, g, A.CG, dx, _, rfl, hg1, T.clG, T.g_boxes, gf_len G, ?_⟩
    rw [gf_put_boxes]
    refine st_fld (ev_var rfl) (ev_var rfl) upd_same T.clG T.g_time (gf_len _) ?_
    rw [gf_put_time, upd_upd]
    have hG1 := hG.same s1
    have ne : ∀ {b : Addr} {o : HO}, H1 b = some o → (∀ C dx fs, o ≠ .ins C dx fs) → (upd H1 g (.ins A.CG dx (gf { G with bl := r, time := (t : Int) }))) b = some o := fun {b o} hb hn => by
      rw [upd_ne (ne_of hb hg1 (hn _ _ _))]
      exact hb
    have fresh : ∀ {c b x : Addr} {o : HO}, (c = b ∨ H c = Option.none) → b ≠ x → H x = some o → c ≠ x := fun {c b x o} h1 h2 h3 => by
      rcases h1 with rfl | h1
      · exact h2
      · exact (ne_of_none h3 h1).symm
    obtain ⟨ts, hts, _⟩ := hG.hs
    refine k r c0 c1 _ ?_ ?_ hr0
    · exact {
        at_ := ⟨dx, upd_same⟩
        sk := hG.sk
        tm := rfl
        hb := ne hr1 (fun _ _ _ z => by cases z)
        x0 := BoxAt.updI hc0 hg1
        x1 := BoxAt.updI hc1 hg1
        hs := ToldsAt.updI hG1.hs hg1
        hg := ne hG1.hg (fun _ _ _ z => by cases z)
        hn := ne hG1.hn (fun _ _ _ z => by cases z)
        hm := ne hG1.hm (fun _ _ _ z => by cases z)
        ho := ne hG1.ho (fun _ _ _ z => by cases z)
        d0b := n0
        d0g := fresh o0 hG.d0g hG.hg
        d0s := fresh o0 hG.d0s hts
        d1b := n1
        d1g := fresh o1 hG.d1g hG.hg
        d1s := fresh o1 hG.d1s hts
        dbs := (ne_of_none hts hr0).symm
        dbg := (ne_of_none hG.hg hr0).symm
        dgs := hG.dgs
        dnm := hG.dnm
        dno := hG.dno
        dmo := hG.dmo
        ok := hG.ok.to ht6
        sl := hG.sl }
    · exact (s1.keep [g]).upd (.inl List.mem_cons_self)
theorem ok_both {f fS : Addr} {fd fdS : FuncData} (F : Fun K "both_skaters" "Game.both_skaters" s_Game_both_skaters f fd) (T : Txt K mg A)
    (D_skaters_with : Def K mg "skaters_with" s_skaters_with ["box", "skaters"] fS fdS) (G_skaters_with : FnOk P w K mg base CX0 2 fS fdS ["box", "skaters"] (spSkaters A.CP)) : FnOk P w K mg base CX0 3 f fd ["self"] (spBoth A) := by
  refine F.ok sc_Game_both_skaters (fun vs H Q E h => ?_) (fun cdv Ar outer s H vs Q E hr h => ?_)
  · obtain ⟨g, G, b0, b1, s, st, _⟩ := h
    rfl
  · obtain ⟨g, G, b0, b1, s, st, hG, k⟩ := h
    have nd := sc_Game_both_skaters.nd
    refine ⟨_, (pss_one (ps_ret (pe_lc rfl nd (pi_list (pe_fld (pv 0) rfl)) (blkOk_by (own := [("box", 1)]) (by show blkC ["self", "box"] (defScope s_Game_both_skaters) _ _ = true; decide +kernel)) (fun _ _ _ _ _ => (pg_name (i := 1) nd rfl (Or.inl rfl))) (fun _ _ _ _ _ => pts_nil) (fun _ _ _ _ _ => (pe_call G_skaters_with (hr.mono (by decide)) rfl D_skaters_with.mg D_skaters_with.fn.kp D_skaters_with.b .nil pass0 (pa_cons (pv 1) (pa_cons (pe_fldK K (pv 0) rfl) pa_nil))))))), ?_⟩
    obtain ⟨dx, hg⟩ := hG.at_
    have fA := hG.ok.fewA
    have fB := hG.ok.fewB
    let bxs : Nat → Addr := fun i => if i = 0 then b0 else b1
    refine ⟨_, rfl, g, A.CG, dx, _, _, rfl, hg, T.clG, T.g_boxes, gf_boxes G, G.bl, rfl, ⟨_, SqL.of hG.hb⟩, lcL (xs := [.ref b0, .ref b1]) (SqL.of hG.hb) (show 2 ≤ 1000000 by decide)
      (fun i acc H' => acc = ([V.int (s.skaters 0 : Int), V.int (s.skaters 1 : Int)]).take i) (fun D hD => rfl) ?_ ?_⟩
    · rintro D i x acc H' Nx hD hx s1 h rfl k1 k2
      have hi2 : i < 2 := (List.getElem?_eq_some_iff.mp hx).1
      obtain ⟨rfl, hB, hlen⟩ : x = .ref (bxs i) ∧ BoxAt A.CP H (bxs i) (s.team i).pens ∧ (s.team i).pens.length ≤ 1000 := by
        match i, hi2, hx with
        | 0, _, hx => exact ⟨(Option.some.inj hx).symm, hG.x0, by show s.a.pens.length ≤ 1000; omega⟩
        | 1, _, hx => exact ⟨(Option.some.inj hx).symm, hG.x1, by show s.b.pens.length ≤ 1000; omega⟩
      refine ⟨rfl, ty_of ?_⟩
      refine tc_of (eva_cons (ev_var rfl) (eva1 (ev_fld (ev_var rfl) (s1 _ _ hg) T.clG T.g_skaters (gf_skaters G)))) (sp_eq (vs' := [.ref (bxs i), .int s.base]) (by rw [hG.sk]; rfl) ⟨bxs i, (s.team i).pens, s.base, BoxAt.same s1 hB, hlen, hG.ok.base3, fun H4 s4 => ?_⟩)
      refine k1 _ _ s4 ?_
      match i, hi2 with
      | 0, _ => rfl
      | 1, _ => rfl
    · rintro D acc H' hD s1 h _ rfl
      exact k D H' s1 h
theorem ok_strength {f fB : Addr} {fd fdB : FuncData} (F : Fun K "strength" "Game.strength" s_Game_strength f fd) (T : Txt K mg A)
    (D_Game_both_skaters : MDef K A.CG "both_skaters" "Game.both_skaters" s_Game_both_skaters ["self"] fB fdB) (G_Game_both_skaters : FnOk P w K mg base CX0 3 fB fdB ["self"] (spBoth A)) : FnOk P w K mg base CX0 4 f fd ["self", "team"] (spStrength A) := by
  refine F.ok sc_Game_strength (fun vs H Q E h => ?_) (fun cdv Ar outer s H vs Q E hr h => ?_)
  · obtain ⟨g, t, G, b0, b1, s, st, _⟩ := h
    rfl
  · obtain ⟨g, t, G, b0, b1, s, st, hG, ht, k⟩ := h
    have nd := sc_Game_strength.nd
    refine ⟨_, (pss_cons (ps_set (i := 2) nd rfl (Or.inl rfl) (pe_meth0 (pv 0) T.clG D_Game_both_skaters.me G_Game_both_skaters (hr.mono (by decide)) D_Game_both_skaters.b .nil pass0))
    (pss_cons (ps_if (pt_cmpR op_eq (pe_ix ix_list (pv 2) (pv 1) (fun _ _ => rfl)) (pe_ix ix_list (pv 2) (pe_op op_sub pe_int (pv 1)) (fun _ _ => rfl)) (nomark _))
      (pss_one (ps_ret pe_int))
      pss_nil)
    (pss_one (ps_ret (pe_ifExp (pt_cmpR op_gt (pe_ix ix_list (pv 2) (pv 1) (fun _ _ => rfl)) (pe_ix ix_list (pv 2) (pe_op op_sub pe_int (pv 1)) (fun _ _ => rfl)) (nomark _)) pe_int pe_int))))), ?_⟩
    obtain ⟨dx, hg⟩ := hG.at_
    refine tm_of (ev_var rfl) hg (gf_no_both_skaters G) eva_nil ⟨g, G, b0, b1, s, st, hG, fun r H1 s1 hr1 => ?_⟩
    have a1 : atI [V.int (s.skaters 0 : Int), V.int (s.skaters 1 : Int)] (t : Int) = some (.int (s.skaters t : Int)) := by
      match t, ht with
      | 0, _ => rfl
      | 1, _ => rfl
    have a2 : atI [V.int (s.skaters 0 : Int), V.int (s.skaters 1 : Int)] (1 - (t : Int)) = some (.int (s.skaters (1 - t) : Int)) := by
      match t, ht with
      | 0, _ => rfl
      | 1, _ => rfl
    refine gn_of ?_
    dsimp only
    refine st_if (et_t (ev_eqI (ev_ixL (ev_var rfl) (ev_var rfl) (SqL.of hr1) a1) (ev_ixL (ev_var rfl) (ev_i ev_c (ev_var rfl)) (SqL.of hr1) a2))) (fun q => ?_) (fun q => ?_)
    · refine st_ret ev_c ?_
      have q' : s.skaters t = s.skaters (1 - t) := by have := of_decide_eq_true q; omega
      have := k H1 s1
      unfold My.strI at this
      rw [if_pos q'] at this
      exact this
    · have q' : ¬ s.skaters t = s.skaters (1 - t) := by have := of_decide_eq_false q; omega
      have kk := k H1 s1
      unfold My.strI at kk
      rw [if_neg q'] at kk
      dsimp only [tNext]
      refine tt_of (et_t (ev_i (ev_ixL (ev_var rfl) (ev_var rfl) (SqL.of hr1) a1) (ev_ixL (ev_var rfl) (ev_i ev_c (ev_var rfl)) (SqL.of hr1) a2))) (iteB (fun q2 => ?_) (fun q2 => ?_))
      · rw [if_pos (by have := of_decide_eq_true q2; omega)] at kk
        exact kk
      · rw [if_neg (by have := of_decide_eq_false q2; omega)] at kk
        exact kk
end
end Ice
namespace Ice
open PySem PySem.Spec PyProof.Rows L2
open Kg58 (Pen Told State Team runs running soonest minus after short ended singles marked cancel parts washed lengthOf minutesOf)
open My (PosL lefts lessAll Tab TabOk NSt StOk ToldOk RepT Good)
inductive spEndI (A : Ad) (H : Hp) (Q : VK) : List V → Prop
  | mk (g : Addr) (t : Nat) (G : GF) (b0 b1 : Addr) (s : State) (st : NSt) (h0 : GameAt A H g G b0 b1 s st) (h1 : t < 2) (h2 : (ended (s.team t).pens = none → ∀ H' : Hp, Same H H' → Q (.int (-1)) H')) (h3 : ∀ (i : Nat) (p : Pen), ended (s.team t).pens = some i → (s.team t).pens[i]? = some p → ∀ (c0 c1 : Addr) (H' : Hp), GameAt A H' g G c0 c1 (My.setPens s t ((s.team t).pens.eraseIdx i)) st → Keep [G.bl] H H' → Q (.int (p.player : Int)) H') : spEndI A H Q [.ref g, .int t]
def spEnd (A : Ad) : Sp := fun vs H Q _ => spEndI A H Q vs
inductive spTellsI (A : Ad) (H : Hp) (Q : VK) : List V → Prop
  | mk (g c : Addr) (G : GF) (b0 b1 : Addr) (s : State) (st : NSt) (xs : List Told) (h0 : GameAt A H g G b0 b1 s st) (h1 : ToldsAt H c xs) (h2 : xs.length ≤ 10000) (h3 : (∀ x ∈ xs, ToldOk x)) (h4 : ∀ H' : Hp, Same H H' → Q (.bl (Kg58.anyOut s xs)) H') : spTellsI A H Q [.ref g, .ref c]
def spTells (A : Ad) : Sp := fun vs H Q _ => spTellsI A H Q vs
structure NoteAt (A : Ad) (H : Hp) (g : Addr) (G : GF) (st : NSt) : Prop where
  at_ : ∃ dx, H g = some (.ins A.CG dx (gf G))
  hn : H G.nd = some (.dT (encN st.noted))
  hm : H G.mj = some (.dT (encN st.majors))
  ho : H G.ou = some (.dT (encO st.outs))
  dnm : G.nd ≠ G.mj
  dno : G.nd ≠ G.ou
  dmo : G.mj ≠ G.ou
  ok : StOk st
inductive spNoteI (A : Ad) (H : Hp) (Q : VK) : List V → Prop
  | mk (g wh : Addr) (x : Told) (G : GF) (st : NSt) (h0 : NoteAt A H g G st) (h1 : ToldOk x) (h2 : H wh = some (.tup [.int x.team, .int x.player])) (h3 : ∀ H' : Hp, NoteAt A H' g G (My.noteStep st x) → Keep [G.nd, G.mj, G.ou] H H' → Q .non H') : spNoteI A H Q [.ref g, .ref wh, .int x.kind]
def spNote (A : Ad) : Sp := fun vs H Q _ => spNoteI A H Q vs
section
variable {P : Program} {w : World} {K : PySem.W.Frag} {mg : Str → Option Value} {base : Heap} {A : Ad}
theorem ended_lt {l : List Pen} {i : Nat} (h : ended l = some i) : i < l.length := by
  rw [My.ended_eq] at h
  cases e : My.eAt l l.length with
  | none => rw [e] at h; cases h
  | some y =>
    rw [e] at h
    have e2 : y.1 = i := Option.some.inj h
    have := (My.eAt_some (j := y.1) (n := y.2) (Nat.le_refl _) e).1
    omega
theorem ok_end {f fM : Addr} {fd fdM : FuncData} (F : Fun K "end_minor" "Game.end_minor" s_Game_end_minor f fd) (T : Txt K mg A)
    (D_minor_to_end : Def K mg "minor_to_end" s_minor_to_end ["box"] fM fdM) (G_minor_to_end : FnOk P w K mg base CX0 2 fM fdM ["box"] (spMinor A.CP)) : FnOk P w K mg base CX0 3 f fd ["self", "team"] (spEnd A) := by
  refine F.ok sc_Game_end_minor (fun vs H Q E h => ?_) (fun cdv Ar outer s H vs Q E hr h => ?_)
  · obtain ⟨g, t, G, b0, b1, s, st, _⟩ := h
    rfl
  · obtain ⟨g, t, G, b0, b1, s, st, hG, ht, k1, k2⟩ := h
    have nd := sc_Game_end_minor.nd
    refine ⟨_, (pss_cons (ps_set (i := 2) nd rfl (Or.inl rfl) (pe_ix ix_list (pe_fld (pv 0) rfl) (pv 1) (fun _ _ => rfl)))
    (pss_cons (ps_set (i := 3) nd rfl (Or.inl rfl) (pe_call G_minor_to_end (hr.mono (by decide)) rfl D_minor_to_end.mg D_minor_to_end.fn.kp D_minor_to_end.b .nil pass0 (pa_cons (pv 2) pa_nil)))
    (pss_cons (ps_if (pt_cmpR op_lt (pv 3) pe_int (nomark _))
      (pss_one (ps_ret (gi T.NOBODY)))
      pss_nil)
    (pss_cons (ps_asg (pe_op op_cat (pe_slice sl_list (pv 2) po_none (po_some (pv 3))) (pe_slice sl_list (pv 2) (po_some (pe_op op_add (pv 3) pe_int)) po_none)) (pg_sub (pe_fld (pv 0) rfl) (pv 1) set_list))
    (pss_one (ps_ret (pe_fld (pe_ix ix_list (pv 2) (pv 3) (fun _ _ => rfl)) rfl))))))), ?_⟩
    obtain ⟨dx, hg⟩ := hG.at_
    have fA := hG.ok.fewA
    have fB := hG.ok.fewB
    obtain ⟨bt, a1, hBt, hbl, hlen⟩ : ∃ bt, atI [V.ref b0, V.ref b1] (t : Int) = some (.ref bt) ∧ BoxAt A.CP H bt (s.team t).pens ∧ bt ≠ G.bl ∧ (s.team t).pens.length ≤ 12 := by
      match t, ht with
      | 0, _ => exact ⟨b0, rfl, hG.x0, hG.d0b, by show s.a.pens.length ≤ 12; omega⟩
      | 1, _ => exact ⟨b1, rfl, hG.x1, hG.d1b, by show s.b.pens.length ≤ 12; omega⟩
    refine st_set (ev_ixL (ev_fld (ev_var rfl) hg T.clG T.g_boxes (gf_boxes G)) (ev_var rfl) (SqL.of hG.hb) a1) ?_
    dsimp only
    refine tc_of (eva1 (ev_var rfl)) ⟨bt, (s.team t).pens, hBt, by omega, fun H1 s1 => ?_⟩
    refine gn_of ?_
    dsimp only
    cases hend : ended (s.team t).pens with
    | none =>
      refine st_if (b := decide ((-1 : Int) < 0)) (et_t (ev_i (ev_var rfl) ev_c)) (fun _ => ?_) (fun z => absurd z (by decide))
      refine st_ret ev_c ?_
      exact k1 hend H1 s1
    | some i =>
      have hil := ended_lt hend
      have hp : (s.team t).pens[i]? = some (s.team t).pens[i] := List.getElem?_eq_getElem hil
      generalize (s.team t).pens[i] = p at hp
      have hneg : decide ((i : Int) < 0) = false := decide_eq_false (by omega)
      refine st_if (b := decide ((i : Int) < 0)) (et_t (ev_i (ev_var rfl) ev_c)) (fun z => by rw [hneg] at z; cases z) (fun _ => ?_)
      dsimp only [tNext]
      obtain ⟨as, hb, hR⟩ := BoxAt.same s1 hBt
      have hal : (as.map V.ref).length = (s.team t).pens.length := by rw [List.length_map, hR.len]
      refine ⟨_, rfl, _, rfl, _, rfl, bt, _, rfl, SqL.of hb, fun p1 hp1 => ?_⟩
      have n1 : Same H1 (upd H1 p1 (.lst (cutV (as.map V.ref) none (some (i : Int))))) := Same.new hp1
      have e1 : (i : Int) + 1 = ((i + 1 : Nat) : Int) := by omega
      refine ⟨_, rfl, _, rfl, _, _, rfl, rfl, _, rfl, bt, _, rfl, SqL.of (n1 _ _ hb), fun p2 hp2 => ?_⟩
      have n2 := n1.upd (o := .lst (cutV (as.map V.ref) (some ((i : Int) + 1)) none)) (n1.free hp2)
      have d12 : p1 ≠ p2 := ne_of_none upd_same hp2
      refine ⟨p1, p2, _, _, rfl, rfl, by rw [upd_ne d12]; exact upd_same, upd_same, ?_, fun p3 hp3 => ?_⟩
      · rw [e1, cutV_take (by omega), cutV_drop (by omega), List.length_take, List.length_drop]
        exact Nat.le_of_lt (line_of (by omega))
      have n3 := n2.upd (o := .lst (cutV (as.map V.ref) none (some (i : Int)) ++ cutV (as.map V.ref) (some ((i : Int) + 1)) none)) (n2.free hp3)
      have hl3 : cutV (as.map V.ref) none (some (i : Int)) ++ cutV (as.map V.ref) (some ((i : Int) + 1)) none = (as.take i ++ as.drop (i + 1)).map V.ref := by
        rw [e1, cutV_take (by omega), cutV_drop (by omega), List.map_append, List.map_take, List.map_drop]
      rw [hl3] at n3 ⊢
      have sA := s1.trans n3
      have hp3H := (s1.trans n2).free hp3
      have hB3 : BoxAt A.CP (upd (upd (upd H1 p1 (.lst (cutV (as.map V.ref) none (some (i : Int))))) p2 (.lst (cutV (as.map V.ref) (some ((i : Int) + 1)) none))) p3 (.lst ((as.take i ++ as.drop (i + 1)).map V.ref))) p3 ((s.team t).pens.eraseIdx i) := by
        refine ⟨as.take i ++ as.drop (i + 1), upd_same, ?_⟩
        rw [List.eraseIdx_eq_take_drop_succ]
        have hR3 := hR.imp fun _ _ z => PenAt.same n3 z
        exact (hR3.take i).append (hR3.drop (i + 1))
      generalize upd (upd (upd H1 p1 (.lst (cutV (as.map V.ref) none (some (i : Int))))) p2 (.lst (cutV (as.map V.ref) (some ((i : Int) + 1)) none))) p3 (.lst ((as.take i ++ as.drop (i + 1)).map V.ref)) = H3 at n3 sA hB3 ⊢
      have hG3 := hG.same sA
      have hp3bl : p3 ≠ G.bl := fun z => (ne_of_none hG.hb hp3H) z.symm
      refine ⟨_, rfl, g, A.CG, dx, _, _, rfl, sA _ _ hg, T.clG, T.g_boxes, gf_boxes G, _, rfl, G.bl, _, _, t, rfl, rfl, hG3.hb, ixN_nat ht, ?_⟩
      have hblne : ∀ {b : Addr} {o : HO}, H3 b = some o → b ≠ G.bl → upd H3 G.bl (.lst ([V.ref b0, V.ref b1].set t (.ref p3))) b = some o := fun {b o} hb hn => by
        rw [upd_ne hn]; exact hb
      obtain ⟨a, ha, dy, ey⟩ := hR.get hp
      have ey3 : upd H3 G.bl (.lst ([V.ref b0, V.ref b1].set t (.ref p3))) a = some (.ins A.CP dy (pf p)) := hblne (n3 _ _ ey) (ne_of (n3 _ _ ey) hG3.hb (by intro z; cases z))
      have hb3 : upd H3 G.bl (.lst ([V.ref b0, V.ref b1].set t (.ref p3))) bt = some (.lst (as.map V.ref)) := hblne (n3 _ _ hb) hbl
      refine st_ret (ev_fld (ev_ixL (ev_var rfl) (ev_var rfl) (SqL.of hb3) (refs_get ha)) ey3 T.clP T.p_player (pf_player p)) ?_
      have hgd := sA _ _ hg
      obtain ⟨ts, hts, hTR⟩ := hG3.hs
      have ne : ∀ {b : Addr} {o : HO}, H3 b = some o → o ≠ .lst [.ref b0, .ref b1] → b ≠ G.bl := fun {b o} hb hn => ne_of hb hG3.hb hn
      have tl : ToldsAt (upd H3 G.bl (.lst ([V.ref b0, V.ref b1].set t (.ref p3)))) G.sg s.signalled :=
        ⟨ts, hblne hts hG.dbs.symm, hTR.imp fun _ _ z => TupAt.updL z hG3.hb⟩
      have fr : ∀ {b : Addr} {o : HO}, H b = some o → p3 ≠ b := fun {b o} hb z => (ne_of_none hb hp3H) z.symm
      obtain ⟨ts0, hts0, _⟩ := hG.hs
      have common : ∀ (c0 c1 : Addr) (s' : State), [V.ref b0, V.ref b1].set t (.ref p3) = [V.ref c0, V.ref c1] → s'.base = s.base → s'.time = s.time → s'.signalled = s.signalled → s'.a.goals = s.a.goals → s'.b.goals = s.b.goals →
          BoxAt A.CP (upd H3 G.bl (.lst ([V.ref b0, V.ref b1].set t (.ref p3)))) c0 s'.a.pens → BoxAt A.CP (upd H3 G.bl (.lst ([V.ref b0, V.ref b1].set t (.ref p3)))) c1 s'.b.pens →
          (c0 = b0 ∨ c0 = p3) → (c1 = b1 ∨ c1 = p3) → Good s' st → GameAt A (upd H3 G.bl (.lst ([V.ref b0, V.ref b1].set t (.ref p3)))) g G c0 c1 s' st := by
        intro c0 c1 s' e1 e2 e3 e4 e5 e6 hc0 hc1 o0 o1 hgood
        have pick : ∀ {c b x : Addr}, (c = b ∨ c = p3) → b ≠ x → p3 ≠ x → c ≠ x := fun {c b x} h1 h2 h3 => by
          rcases h1 with rfl | rfl
          · exact h2
          · exact h3
        exact {
          at_ := ⟨dx, hblne hgd (ne hgd (by intro z; cases z))⟩
          sk := by rw [e2]; exact hG.sk
          tm := by rw [e3]; exact hG.tm
          hb := by rw [upd_same, e1]
          x0 := hc0
          x1 := hc1
          hs := by rw [e4]; exact tl
          hg := by rw [e5, e6]; exact hblne hG3.hg hG.dbg.symm
          hn := hblne hG3.hn (ne hG3.hn (by intro z; cases z))
          hm := hblne hG3.hm (ne hG3.hm (by intro z; cases z))
          ho := hblne hG3.ho (ne hG3.ho (by intro z; cases z))
          d0b := pick o0 hG.d0b hp3bl
          d0g := pick o0 hG.d0g (fr hG.hg)
          d0s := pick o0 hG.d0s (fr hts0)
          d1b := pick o1 hG.d1b hp3bl
          d1g := pick o1 hG.d1g (fr hG.hg)
          d1s := pick o1 hG.d1s (fr hts0)
          dbs := hG.dbs
          dbg := hG.dbg
          dgs := hG.dgs
          dnm := hG.dnm
          dno := hG.dno
          dmo := hG.dmo
          ok := hgood
          sl := by rw [e4]; exact hG.sl }
      have kp : Keep [G.bl] H (upd H3 G.bl (.lst ([V.ref b0, V.ref b1].set t (.ref p3)))) := (sA.keep [G.bl]).upd (.inl List.mem_cons_self)
      have hmem : ∀ x, x ∈ (s.team t).pens.eraseIdx i → x ∈ (s.team t).pens := fun x hx => My.mem_erase_at hx
      have hle := List.length_eraseIdx_le (s.team t).pens i
      match t, ht with
      | 0, _ =>
        refine k2 i p hend hp p3 b1 _ (common p3 b1 _ rfl rfl rfl rfl rfl rfl (BoxAt.updL hB3 hG3.hb hp3bl) (BoxAt.updL hG3.x1 hG3.hb hG.d1b) (.inr rfl) (.inl rfl) ?_) kp
        exact hG.ok.pens hmem (fun x hx => hx) hle (Nat.le_refl _)
      | 1, _ =>
        refine k2 i p hend hp b0 p3 _ (common b0 p3 _ rfl rfl rfl rfl rfl rfl (BoxAt.updL hG3.x0 hG3.hb hG.d0b) (BoxAt.updL hB3 hG3.hb hp3bl) (.inl rfl) (.inr rfl) ?_) kp
        exact hG.ok.pens (fun x hx => hx) hmem (Nat.le_refl _) hle
end
end Ice
namespace Ice
open PySem PySem.Spec PyProof.Rows L2
open Kg58 (Pen Told State Team runs running soonest minus after short ended singles marked cancel parts washed lengthOf minutesOf)
open My (PosL lefts lessAll Tab TabOk NSt StOk ToldOk RepT Good)
section
variable {P : Program} {w : World} {K : PySem.W.Frag} {mg : Str → Option Value} {base : Heap} {A : Ad}
theorem getN (d : Tab) (t p : Nat) : (valV (encN d) (key t p)).getD (.int 0) = .int (((My.valD d (t, p)).getD 0 : Nat) : Int) := by
  rw [valN]
  cases My.valD d (t, p) <;> rfl
theorem min_get {kd : Nat} (h : kd ≤ 5) : atI [V.int 2, V.int 5, V.int 10, V.int 4, V.int 25, V.int 20] (kd : Int) = some (.int (minutesOf kd : Int)) := by
  match kd, h with
  | 0, _ => rfl
  | 1, _ => rfl
  | 2, _ => rfl
  | 3, _ => rfl
  | 4, _ => rfl
  | 5, _ => rfl
theorem maj_count {kd : Nat} (h : kd ≤ 5) : (((parts kd).map fun (n : Nat) => V.int (n : Int)).countP fun z => eqV z (.int 1)) = My.majOf kd := by
  match kd, h with
  | 0, _ => rfl
  | 1, _ => rfl
  | 2, _ => rfl
  | 3, _ => rfl
  | 4, _ => rfl
  | 5, _ => rfl
theorem flat_nats (l : List Nat) : (l.map fun (n : Nat) => V.int (n : Int)).all flatV = true := by
  rw [List.all_map]
  exact List.all_eq_true.mpr fun _ _ => rfl
theorem inV45 {a : Nat} (h : a ≤ 5) : inV (.int (a : Int)) [.int 4, .int 5] = decide (4 ≤ a) := by
  show (((4 : Int) == (a : Int)) || (((5 : Int) == (a : Int)) || false)) = _
  match a, h with
  | 0, _ => rfl
  | 1, _ => rfl
  | 2, _ => rfl
  | 3, _ => rfl
  | 4, _ => rfl
  | 5, _ => rfl
theorem small200 {d : Tab} (h : TabOk d) : d.length < sizeLine := line_of (Nat.le_trans h.len (by decide))
theorem ok_note {f : Addr} {fd : FuncData} (F : Fun K "note" "Game.note" s_Game_note f fd) (T : Txt K mg A) : FnOk P w K mg base CX0 1 f fd ["self", "who", "kind"] (spNote A) := by
  refine F.ok sc_Game_note (fun vs H Q E h => ?_) (fun cdv Ar outer s H vs Q E hr h => ?_)
  · obtain ⟨g, wh, x, G, st, _⟩ := h
    rfl
  · obtain ⟨g, wh, x, G, st, hN, hx, hw, k⟩ := h
    have hu := hu_of hr
    refine ⟨_, (pss_cons (ps_dput hu (pe_fld (pv 0) rfl) (pv 1) (pe_op op_add (pe_dget2 hu (pe_fld (pv 0) rfl) (pv 1) pe_int ⟨rfl, rfl, rfl, rfl⟩) (pe_ix ix_tup (gt T.MINUTES_NOTED) (pv 2) (fun _ _ => rfl))) rfl)
    (pss_cons (ps_dput hu (pe_fld (pv 0) rfl) (pv 1) (pe_op op_add (pe_dget2 hu (pe_fld (pv 0) rfl) (pv 1) pe_int ⟨rfl, rfl, rfl, rfl⟩) (pe_bm PySem.F.plainAttrs_tuple PySem.F.slot_tuple_count PySem.F.type_tuple_count mt_countT (pe_ix ix_tup (gt T.SERVED) (pv 2) (fun _ _ => rfl)) (pa_cons (gi T.MAJOR) pa_nil))) rfl)
    (pss_one (ps_if (pw_or (pt_cmpR op_in_seq (pv 2) (pe_tup (pa_cons (gi T.MATCH) (pa_cons (gi T.EXPULSION) pa_nil))) (by with_unfolding_all rfl)) (pw_or1 (pt_cmpR op_ge (pe_dget hu (pe_fld (pv 0) rfl) (pv 1) (fun _ _ => rfl)) (gi T.MAJORS_TO_BE_OUT) (nomark _)))).pt
      (pss_one (ps_dput hu (pe_fld (pv 0) rfl) (pv 1) pe_bl rfl))
      pss_nil)))), ?_⟩
    obtain ⟨dx, hg⟩ := hN.at_
    obtain ⟨team, player, kind⟩ := x
    obtain ⟨hx1, hx2, hx3⟩ := hx
    have hx3 : kind ≤ 5 := hx3
    obtain ⟨r, hr1, hrs, o, ho1, ho2, ho3⟩ := T.srvAt kind hx3
    refine st_dput (v := .int (((My.valD st.noted (team, player)).getD 0 + minutesOf kind : Nat) : Int)) (fun Q q => ?_) (ev_fld (ev_var rfl) hg T.clG T.g_noted (gf_noted G)) (ev_var rfl)
      (DPut.t (k := key team player) hN.hn hw (by rw [encN_len]; exact small200 hN.ok.n)) ?_
    · exact ⟨_, rfl, g, A.CG, dx, _, _, rfl, hg, T.clG, T.g_noted, gf_noted G, G.nd, rfl, .inr ⟨_, .inl hN.hn⟩, _, rfl, _, DGet.t (k := key team player) hN.hn hw, _, rfl, A.tMIN, _, _, _, rfl, rfl, T.sqMIN _, min_get hx3,
        _, _, getN st.noted team player, rfl, q⟩
    rw [putN]
    have keep1 : ∀ {b : Addr} {o : HO}, H b = some o → (∀ kvs, o ≠ .dT kvs) → upd H G.nd (.dT (encN (My.putD st.noted (team, player) ((My.valD st.noted (team, player)).getD 0 + minutesOf kind)))) b = some o := fun {b o} hb hn => by
      rw [upd_ne (ne_of hb hN.hn (hn _))]
      exact hb
    have hg1 := keep1 hg (fun _ z => by cases z)
    have hw1 := keep1 hw (fun _ z => by cases z)
    have hm1 : upd H G.nd (.dT (encN (My.putD st.noted (team, player) ((My.valD st.noted (team, player)).getD 0 + minutesOf kind)))) G.mj = some (.dT (encN st.majors)) := by rw [upd_ne hN.dnm.symm]; exact hN.hm
    have ho1' : upd H G.nd (.dT (encN (My.putD st.noted (team, player) ((My.valD st.noted (team, player)).getD 0 + minutesOf kind)))) G.ou = some (.dT (encO st.outs)) := by rw [upd_ne hN.dno.symm]; exact hN.ho
    have hn1 : upd H G.nd (.dT (encN (My.putD st.noted (team, player) ((My.valD st.noted (team, player)).getD 0 + minutesOf kind)))) G.nd = some (.dT (encN (My.putD st.noted (team, player) ((My.valD st.noted (team, player)).getD 0 + minutesOf kind)))) := upd_same
    have kp1 : Keep [G.nd, G.mj, G.ou] H (upd H G.nd (.dT (encN (My.putD st.noted (team, player) ((My.valD st.noted (team, player)).getD 0 + minutesOf kind))))) := ((Same.refl H).keep _).upd (.inl (by simp))
    generalize upd H G.nd (.dT (encN (My.putD st.noted (team, player) ((My.valD st.noted (team, player)).getD 0 + minutesOf kind)))) = H1 at hg1 hw1 hm1 ho1' hn1 kp1 ⊢
    dsimp only
    refine st_dput (v := .int (((My.valD st.majors (team, player)).getD 0 + My.majOf kind : Nat) : Int)) (fun Q q => ?_) (ev_fld (ev_var rfl) hg1 T.clG T.g_majors (gf_majors G)) (ev_var rfl)
      (DPut.t (k := key team player) hm1 hw1 (by rw [encN_len]; exact small200 hN.ok.m)) ?_
    · refine ⟨_, rfl, g, A.CG, dx, _, _, rfl, hg1, T.clG, T.g_majors, gf_majors G, G.mj, rfl, .inr ⟨_, .inl hm1⟩, _, rfl, _, DGet.t (k := key team player) hm1 hw1, _, rfl, A.tSERVED, _, _, _, rfl, rfl, T.sqSERVED _, refs_get hr1,
        .inr (.inl ⟨rfl, o, ho1, ho2, ho3⟩), r, _, _, rfl, rfl, hrs _, rfl, flat_nats _, _, _, getN st.majors team player, rfl, ?_⟩
      rw [maj_count hx3]
      exact q
    rw [putN]
    have hmv : My.valD (My.putD st.majors (team, player) ((My.valD st.majors (team, player)).getD 0 + My.majOf kind)) (team, player) = some ((My.valD st.majors (team, player)).getD 0 + My.majOf kind) := My.valD_put_same _ _ _
    have tabM : TabOk (My.putD st.majors (team, player) ((My.valD st.majors (team, player)).getD 0 + My.majOf kind)) := hN.ok.m.put ⟨hx1, hx2⟩ _
    have hstep := hN.ok.step (x := ⟨team, player, kind⟩) ⟨hx1, hx2, hx3⟩
    have estep : My.noteStep st ⟨team, player, kind⟩ = ⟨My.putD st.noted (team, player) ((My.valD st.noted (team, player)).getD 0 + minutesOf kind), My.putD st.majors (team, player) ((My.valD st.majors (team, player)).getD 0 + My.majOf kind),
      if 4 ≤ kind ∨ 3 ≤ (My.valD st.majors (team, player)).getD 0 + My.majOf kind then My.putD st.outs (team, player) 1 else st.outs⟩ := rfl
    rw [estep] at k hstep
    generalize (My.valD st.majors (team, player)).getD 0 + My.majOf kind = mj at hmv tabM k hstep ⊢
    have keep2 : ∀ {b : Addr} {o : HO}, H1 b = some o → (∀ kvs, o ≠ .dT kvs) → upd H1 G.mj (.dT (encN (My.putD st.majors (team, player) mj))) b = some o := fun {b o} hb hn => by
      rw [upd_ne (ne_of hb hm1 (hn _))]
      exact hb
    have hg2 := keep2 hg1 (fun _ z => by cases z)
    have hw2 := keep2 hw1 (fun _ z => by cases z)
    have hn2 : upd H1 G.mj (.dT (encN (My.putD st.majors (team, player) mj))) G.nd = some (.dT (encN (My.putD st.noted (team, player) ((My.valD st.noted (team, player)).getD 0 + minutesOf kind)))) := by rw [upd_ne hN.dnm]; exact hn1
    have ho2' : upd H1 G.mj (.dT (encN (My.putD st.majors (team, player) mj))) G.ou = some (.dT (encO st.outs)) := by rw [upd_ne hN.dmo.symm]; exact ho1'
    have hm2 : upd H1 G.mj (.dT (encN (My.putD st.majors (team, player) mj))) G.mj = some (.dT (encN (My.putD st.majors (team, player) mj))) := upd_same
    have kp2 : Keep [G.nd, G.mj, G.ou] H (upd H1 G.mj (.dT (encN (My.putD st.majors (team, player) mj)))) := kp1.upd (.inl (by simp))
    generalize upd H1 G.mj (.dT (encN (My.putD st.majors (team, player) mj))) = H2 at hg2 hw2 hn2 ho2' hm2 kp2 ⊢
    dsimp only
    have yes : ∀ H3, Same H2 H3 → (4 ≤ kind ∨ 3 ≤ mj) → sDPut (tFld K (tVar 0) "out") (tVar 1) (tC (.bl true)) { nx := fun _ H' => Q .non H', rt := Q } [some (.ref g), some (.ref wh), some (.int (kind : Int))] H3 := fun H3 s3 hc => by
      refine st_dput ev_c (ev_fld (ev_var rfl) (s3 _ _ hg2) T.clG T.g_out (gf_out G)) (ev_var rfl) (DPut.t (k := key team player) (s3 _ _ ho2') (s3 _ _ hw2) (by rw [encO_len]; exact small200 hN.ok.o)) ?_
      rw [putO]
      rw [if_pos hc] at k hstep
      have ne : ∀ {b : Addr} {o : HO}, H2 b = some o → b ≠ G.ou → upd H3 G.ou (.dT (encO (My.putD st.outs (team, player) 1))) b = some o := fun {b o} hb hn => by rw [upd_ne hn]; exact s3 _ _ hb
      exact k _ ⟨⟨dx, ne hg2 (ne_of hg2 ho2' (by intro z; cases z))⟩, ne hn2 hN.dno, ne hm2 hN.dmo, upd_same, hN.dnm, hN.dno, hN.dmo, hstep⟩ ((kp2.trans (s3.keep _)).upd (.inl (by simp)))
    have no : ∀ H3, Same H2 H3 → ¬ (4 ≤ kind ∨ 3 ≤ mj) → Q .non H3 := fun H3 s3 hc => by
      rw [if_neg hc] at k hstep
      exact k _ ⟨⟨dx, s3 _ _ hg2⟩, s3 _ _ hn2, s3 _ _ hm2, s3 _ _ ho2', hN.dnm, hN.dno, hN.dmo, hstep⟩ (kp2.trans (s3.keep _))
    refine ⟨_, rfl, (by show 2 ≤ sizeLine; decide), fun tp htp => ⟨tp, _, rfl, .inr (SqT.of upd_same), rfl, rfl, _, rfl, iteB (fun q => ?_) (fun q => ?_)⟩⟩
    · refine iteT (yes _ (Same.new htp) (.inl ?_))
      have q' : inV (.int (kind : Int)) [.int 4, .int 5] = true := q
      rw [inV45 hx3] at q'
      exact of_decide_eq_true q'
    · have q' : inV (.int (kind : Int)) [.int 4, .int 5] = false := q
      rw [inV45 hx3] at q'
      have q4 : ¬ 4 ≤ kind := of_decide_eq_false q'
      have sT : Same H2 (upd H2 tp (.tup [.int 4, .int 5])) := Same.new htp
      have hdg : DGet (upd H2 tp (.tup [.int 4, .int 5])) G.mj (.ref wh) (some (.int (mj : Int))) := by
        have := DGet.t (k := key team player) (sT _ _ hm2) (sT _ _ hw2)
        rw [valN, hmv] at this
        exact this
      refine tt_of (et_t (ev_i (ev_dget (ev_fld (ev_var rfl) (sT _ _ hg2) T.clG T.g_majors (gf_majors G)) (ev_var rfl) hdg) ev_c)) (iteB (fun q2 => ?_) (fun q2 => ?_))
      · refine yes _ sT (.inr ?_)
        have := of_decide_eq_true q2
        omega
      · refine no _ sT (fun z => ?_)
        have := of_decide_eq_false q2
        rcases z with z | z
        · exact q4 z
        · omega
theorem ok_tells {f : Addr} {fd : FuncData} (F : Fun K "tells_of_one_out" "Game.tells_of_one_out" s_Game_tells_of_one_out f fd) (T : Txt K mg A) : FnOk P w K mg base CX0 1 f fd ["self", "coming"] (spTells A) := by
  refine F.ok sc_Game_tells_of_one_out (fun vs H Q E h => ?_) (fun cdv Ar outer s H vs Q E hr h => ?_)
  · obtain ⟨g, c, G, b0, b1, s, st, xs, _⟩ := h
    rfl
  · obtain ⟨g, c, G, b0, b1, s, st, xs, hG, ⟨ts, hc, hR⟩, hlen, hok, k⟩ := h
    have hu := hu_of hr
    have nd := sc_Game_tells_of_one_out.nd
    refine ⟨_, (pss_one (ps_ret (pe_callB (cr_any rfl) (by rfl) T.any_ bt_any (pa_cons (pe_lc rfl nd (pi_list (pv 1)) (blkOk_by (own := [("team", 2), ("player", 3), ("kind", 4)]) (by show blkC ["self", "coming", "team", "player", "kind"] (defScope s_Game_tells_of_one_out) _ _ = true; decide +kernel)) (fun _ _ _ _ _ => (pg_tupK K (n := 3) rfl (pgs_cons (pg_name (i := 2) nd rfl (Or.inl rfl)) (pgs_cons (pg_name (i := 3) nd rfl (Or.inl rfl)) (pgs_cons (pg_name (i := 4) nd rfl (Or.inl rfl)) pgs_nil))))) (fun _ _ _ _ _ => pts_nil) (fun _ _ _ _ _ => (pe_cmp (pc_din hu (pe_tup (pa_cons (pv 2) (pa_cons (pv 3) pa_nil))) (pe_fldK K (pv 0) rfl))))) pa_nil)))), ?_⟩
    obtain ⟨dx, hg⟩ := hG.at_
    have hcl : (ts.map V.ref).length = xs.length := by rw [List.length_map, hR.len]
    refine ⟨_, rfl, c, rfl, ⟨_, SqL.of hc⟩, lcL (xs := ts.map V.ref) (SqL.of hc) (by omega) (fun i acc H' => acc = ((xs.take i).map fun x => (My.valD st.outs (x.team, x.player)).isSome).map V.bl) (fun D hD => rfl) ?_ ?_⟩
    · rintro D i y acc H' Nx hD hy s1 h hacc k1 k2
      obtain ⟨a, ha, rfl⟩ := map_get hy
      obtain ⟨x, hx, hax⟩ := hR.getA ha
      refine ⟨a, _, rfl, SqT.of (s1 _ _ hax), rfl, _, _, rfl, _, _, rfl, _, _, rfl, rfl, rfl, ty_of ?_⟩
      refine ⟨_, rfl, _, rfl, (by show 2 ≤ sizeLine; decide), fun tp htp => ?_⟩
      have sT : Same H' (upd H' tp (.tup [.int x.team, .int x.player])) := Same.new htp
      have hw : (upd H' tp (.tup [.int x.team, .int x.player])) tp = some (.tup ((key x.team x.player).map kV)) := upd_same
      refine ⟨_, rfl, g, A.CG, dx, _, _, rfl, sT _ _ (s1 _ _ hg), T.clG, T.g_out, gf_out G, G.ou, _, rfl, DGet.t (sT _ _ (s1 _ _ hG.ho)) hw, k1 _ _ sT ?_⟩
      rw [hacc, My.take_snoc hx, List.map_append, List.map_append, valO]
      rfl
    · rintro D acc H' hD s1 h _ hacc
      rw [hcl, List.take_length] at hacc
      subst hacc
      refine ⟨D, _, rfl, SqL.of h, ?_⟩
      have := k H' s1
      rw [My.anyOut_eq hG.ok hok] at this
      rw [List.any_map]
      exact this
end
end Ice
namespace Ice
open PySem PySem.Spec PyProof.Rows L2
open Kg58 (Pen Told State Team runs running soonest minus after short ended singles marked cancel parts washed lengthOf minutesOf)
open My (PosL lefts lessAll Tab TabOk NSt StOk ToldOk RepT Good)
inductive spBringI (A : Ad) (H : Hp) (Q : VK) : List V → Prop
  | mk (g c : Addr) (G : GF) (b0 b1 : Addr) (s : State) (st : NSt) (xs : List Told) (h0 : GameAt A H g G b0 b1 s st) (h1 : ToldsAt H c xs) (h2 : c ≠ G.bl) (h3 : xs.length ≤ 10000) (h4 : (∀ x ∈ xs, ToldOk x)) (h5 : s.a.pens.length + (singles xs 0).length ≤ 12) (h6 : s.b.pens.length + (singles xs 1).length ≤ 12) (h7 : ∀ (c0 c1 sg : Addr) (H' : Hp), GameAt A H' g { G with sg := sg } c0 c1 (My.given s xs) (xs.foldl My.noteStep st) → Keep [g, G.bl, G.nd, G.mj, G.ou] H H' → H sg = Option.none → Q .non H') : spBringI A H Q [.ref g, .ref c]
def spBring (A : Ad) : Sp := fun vs H Q _ => spBringI A H Q vs
theorem Keep.mono {o o' : List Addr} {H H' : Hp} (k : Keep o H H') (h : ∀ a, a ∈ o → a ∈ o') : Keep o' H H' := fun b u e n => k b u e fun z => n (h b z)
theorem PenAt.keepL {C : Addr} {o : List Addr} {H H' : Hp} {a : Addr} {p : Pen} (k : Keep o H H') (hn : ∀ (dx : Addr), H a = some (.ins C dx (pf p)) → a ∉ o) (h : PenAt C H a p) : PenAt C H' a p := by
  obtain ⟨dx, e⟩ := h
  exact ⟨dx, k _ _ e (hn dx e)⟩
section
variable {P : Program} {w : World} {K : PySem.W.Frag} {mg : Str → Option Value} {base : Heap} {A : Ad}
theorem foldl_take {α β : Type} (f : β → α → β) (b : β) {l : List α} {i : Nat} {x : α} (h : l[i]? = some x) : (l.take (i + 1)).foldl f b = f ((l.take i).foldl f b) x := by
  rw [My.take_snoc h, List.foldl_append]
  rfl
theorem BoxAt.app {C : Addr} {H : Hp} {p : Addr} {as bs : List Addr} {ps qs : List Pen} (h : H p = some (.lst (as.map V.ref ++ bs.map V.ref))) (h1 : Refs (PenAt C H) as ps) (h2 : Refs (PenAt C H) bs qs) : BoxAt C H p (ps ++ qs) :=
  ⟨as ++ bs, by rw [List.map_append]; exact h, h1.append h2⟩
inductive BringI (CP bl : Addr) (H1 : Hp) (b0 b1 : Addr) (pa qa pb qb : List Pen) (q0 q1 q2 : Option V) (i : Nat) (H' : Hp) : L2.St → Prop
  | mk (v3 : Option V) (c0 c1 : Addr) (kp : Keep [bl] H1 H') (hb : H' bl = some (.lst [.ref c0, .ref c1])) (x0 : BoxAt CP H' c0 (if i = 0 then pa else pa ++ qa)) (x1 : BoxAt CP H' c1 (if i = 2 then pb ++ qb else pb))
    (o0 : c0 = b0 ∨ H1 c0 = Option.none) (o1 : c1 = b1 ∨ H1 c1 = Option.none) (d0 : c0 ≠ bl) (d1 : c1 ≠ bl) : BringI CP bl H1 b0 b1 pa qa pb qb q0 q1 q2 i H' [q0, q1, q2, v3, none, none]
inductive BringJ (A : Ad) (H2 : Hp) (g : Addr) (G : GF) (xs : List Told) (st : NSt) (q0 q1 q2 : Option V) (i : Nat) (H' : Hp) : L2.St → Prop
  | mk (v3 v4 v5 : Option V) (N : NoteAt A H' g G ((xs.take i).foldl My.noteStep st)) (k3 : Keep [G.nd, G.mj, G.ou] H2 H') : BringJ A H2 g G xs st q0 q1 q2 i H' [q0, q1, q2, v3, v4, v5]
theorem ok_bring {f fB fN : Addr} {fd fdB fdN : FuncData} (F : Fun K "bring" "Game.bring" s_Game_bring f fd) (T : Txt K mg A)
    (D_boxes_of : Def K mg "boxes_of" s_boxes_of ["coming"] fB fdB) (G_boxes_of : FnOk P w K mg base CX0 3 fB fdB ["coming"] (spBoxesOf A.CP))
    (D_Game_note : MDef K A.CG "note" "Game.note" s_Game_note ["self", "who", "kind"] fN fdN) (G_Game_note : FnOk P w K mg base CX0 1 fN fdN ["self", "who", "kind"] (spNote A)) : FnOk P w K mg base CX0 4 f fd ["self", "coming"] (spBring A) := by
  refine F.ok sc_Game_bring (fun vs H Q E h => ?_) (fun cdv Ar outer s H vs Q E hr h => ?_)
  · obtain ⟨g, c, G, b0, b1, s, st, xs, _⟩ := h
    rfl
  · obtain ⟨g, c, G, b0, b1, s, st, xs, hG, hc, hcb, hlen, hok, h0, h1, k⟩ := h
    have nd := sc_Game_bring.nd
    refine ⟨_, (pss_cons (ps_set (i := 2) nd rfl (Or.inl rfl) (pe_call G_boxes_of (hr.mono (by decide)) rfl D_boxes_of.mg D_boxes_of.fn.kp D_boxes_of.b .nil pass0 (pa_cons (pv 1) pa_nil)))
    (pss_cons (ps_for PassesOwn.never rfl (pi_tup (gt T.TEAMS)) (pg_name (i := 3) nd rfl (Or.inl rfl))
      (pss_one (ps_asg (pe_op op_cat (pe_ix ix_list (pe_fld (pv 0) rfl) (pv 3) (fun _ _ => rfl)) (pe_ix ix_list (pv 2) (pv 3) (fun _ _ => rfl))) (pg_sub (pe_fld (pv 0) rfl) (pv 3) set_list))))
    (pss_cons (ps_for PassesOwn.never rfl (pi_list (pv 1)) (pg_tup rfl (pgs_cons (pg_name (i := 3) nd rfl (Or.inl rfl)) (pgs_cons (pg_name (i := 4) nd rfl (Or.inl rfl)) (pgs_cons (pg_name (i := 5) nd rfl (Or.inl rfl)) pgs_nil))))
      (pss_one (ps_expr (pe_meth (pv 0) T.clG D_Game_note.me G_Game_note (hr.mono (by decide)) D_Game_note.b .nil pass0 (pa_cons (pe_tup (pa_cons (pv 3) (pa_cons (pv 4) pa_nil))) (pa_cons (pv 5) pa_nil))))))
    (pss_one (ps_fld (pv 0) (pe_lst pa_nil) rfl))))), ?_⟩
    obtain ⟨dx, hg⟩ := hG.at_
    refine tc_of (eva1 (ev_var rfl)) ⟨c, xs, hc, hlen, hok, fun r n0 n1 H1 s1 hrf hn0f hn1f hr1 hn0 hn1 => ?_⟩
    have hG1 := hG.same s1
    have hc1 := ToldsAt.same s1 hc
    refine gn_of ?_
    dsimp only
    have rbl : r ≠ G.bl := fun z => (ne_of_none hG.hb hrf) z.symm
    have n0bl : n0 ≠ G.bl := fun z => (ne_of_none hG.hb hn0f) z.symm
    have n1bl : n1 ≠ G.bl := fun z => (ne_of_none hG.hb hn1f) z.symm
    have hbl1 : H1 G.bl = some (.lst [.ref b0, .ref b1]) := hG1.hb
    have boxK : ∀ {H' : Hp} {l : Addr} {ps : List Pen}, Keep [G.bl] H1 H' → BoxAt A.CP H1 l ps → l ≠ G.bl → BoxAt A.CP H' l ps := fun {H' l ps} kp hB hne => by
      obtain ⟨as, e1, e2⟩ := hB
      exact ⟨as, kp _ _ e1 (notin1 hne), e2.imp fun a p z => PenAt.keepL kp (fun dx e q => by
        have : a = G.bl := List.mem_singleton.mp q
        rw [this, hbl1] at e
        cases e) z⟩
    let Ma := marked (cancel xs 0) (cancel xs 1) (singles xs 0)
    let Mb := marked (cancel xs 0) (cancel xs 1) (singles xs 1)
    have fA := hG.ok.fewA
    have fB := hG.ok.fewB
    have la : s.a.pens.length ≤ 12 := by omega
    have lb : s.b.pens.length ≤ 12 := by omega
    have lma : Ma.length ≤ 12 := by show (marked _ _ _).length ≤ 12; rw [My.marked_length]; omega
    have lmb : Mb.length ≤ 12 := by show (marked _ _ _).length ≤ 12; rw [My.marked_length]; omega
    refine ⟨_, rfl, ⟨_, T.sqTEAMS _⟩, for_tupN (K := K) (a := A.tTEAMS) (xs := [.int 0, .int 1]) (fun i σ H' => BringI A.CP G.bl H1 b0 b1 s.a.pens Ma s.b.pens Mb (some (.ref g)) (some (.ref c)) (some (.ref r)) i H' σ)
      ⟨none, b0, b1, (Same.refl H1).keep _, hbl1, hG1.x0, hG1.x1, .inl rfl, .inl rfl, hG.d0b, hG.d1b⟩ (fun i σ H' _ _ => T.sqTEAMS H') ?_ ?_⟩
    · intro D i y σ H' hD hi hI
      refine hideN fun N hN => ?_
      obtain ⟨v3, c0, c1, kp, hbl, hB0, hB1, o0, o1, d0, d1⟩ := hI
      have hi2 : i < 2 := (List.getElem?_eq_some_iff.mp hi).1
      have ey : y = .int (i : Int) := by
        match i, hi2, hi with
        | 0, _, hi => exact (Option.some.inj hi).symm
        | 1, _, hi => exact (Option.some.inj hi).symm
      subst ey
      have hg' : H' g = some (.ins A.CG dx (gf G)) := kp _ _ (s1 _ _ hg) (by
        intro q
        have : g = G.bl := List.mem_singleton.mp q
        have e := s1 _ _ hg
        rw [this, hbl1] at e
        cases e)
      have hr' : H' r = some (.lst [.ref n0, .ref n1]) := kp _ _ hr1 (notin1 rbl)
      have hN0 := boxK kp hn0 n0bl
      have hN1 := boxK kp hn1 n1bl
      have fresh1 : ∀ {p : Addr}, H' p = Option.none → H1 p = Option.none := fun {p} hp => by
        cases e : H1 p with
        | none => rfl
        | some o =>
          have : p ≠ G.bl := fun z => by rw [z, hbl] at hp; cases hp
          rw [kp _ _ e (notin1 this)] at hp
          cases hp
      obtain ⟨ct, nt, pt, qt, a1, a2, ⟨as, e1, e2⟩, ⟨bs, e3, e4⟩, lp, lq, kk⟩ : ∃ (ct nt : Addr) (pt qt : List Pen), atI [V.ref c0, V.ref c1] (i : Int) = some (.ref ct) ∧ atI [V.ref n0, V.ref n1] (i : Int) = some (.ref nt) ∧ BoxAt A.CP H' ct pt ∧ BoxAt A.CP H' nt qt ∧
          pt.length ≤ 12 ∧ qt.length ≤ 12 ∧
          (∀ (p : Addr) (H2 : Hp), H' p = Option.none → Keep [G.bl] H' H2 → H2 G.bl = some (.lst ([V.ref c0, V.ref c1].set i (.ref p))) → BoxAt A.CP H2 p (pt ++ qt) → (∀ l ps, BoxAt A.CP H' l ps → l ≠ G.bl → BoxAt A.CP H2 l ps) →
            BringI A.CP G.bl H1 b0 b1 s.a.pens Ma s.b.pens Mb (some (.ref g)) (some (.ref c)) (some (.ref r)) (i + 1) H2 [some (V.ref g), some (V.ref c), some (V.ref r), some (V.int (i : Int)), none, none]) := by
        match i, hi2 with
        | 0, _ =>
          refine ⟨c0, n0, s.a.pens, Ma, rfl, rfl, hB0, hN0, la, lma, fun p H2 hp k2 hb2 hP hO => ?_⟩
          exact ⟨_, p, c1, kp.trans k2, hb2, hP, hO _ _ hB1 d1, .inr (fresh1 hp), o1, (fun z => by rw [z, hbl] at hp; cases hp), d1⟩
        | 1, _ =>
          refine ⟨c1, n1, s.b.pens, Mb, rfl, rfl, hB1, hN1, lb, lmb, fun p H2 hp k2 hb2 hP hO => ?_⟩
          exact ⟨_, c0, p, kp.trans k2, hb2, hO _ _ hB0 d0, hP, o0, .inr (fresh1 hp), d0, (fun z => by rw [z, hbl] at hp; cases hp)⟩
      refine gn_of ?_
      subst hN
      refine ⟨_, rfl, g, A.CG, dx, _, _, rfl, hg', T.clG, T.g_boxes, gf_boxes G, _, rfl, G.bl, _, _, _, rfl, rfl, SqL.of hbl, a1, _, rfl, _, rfl, r, _, _, _, rfl, rfl, SqL.of hr', a2,
        ct, nt, _, _, rfl, rfl, e1, e3, ?_, fun p hp => ?_⟩
      · rw [List.length_map, List.length_map, e2.len, e4.len]
        exact Nat.le_of_lt (line_of (by omega))
      · have sp : Same H' (upd H' p (.lst (as.map V.ref ++ bs.map V.ref))) := Same.new hp
        have hbl2 := sp _ _ hbl
        refine ⟨_, rfl, g, A.CG, dx, _, _, rfl, sp _ _ hg', T.clG, T.g_boxes, gf_boxes G, _, rfl, G.bl, _, _, i, rfl, rfl, hbl2, ixN_nat hi2, ?_⟩
        have pbl : p ≠ G.bl := fun z => (ne_of_none hbl hp) z.symm
        refine hD _ _ (kk p _ hp ((sp.keep _).upd (.inl List.mem_cons_self)) upd_same ?_ (fun l ps hB hne => ?_))
        · exact BoxAt.updL (BoxAt.app upd_same (e2.imp fun _ _ => PenAt.same sp) (e4.imp fun _ _ => PenAt.same sp)) hbl2 pbl
        · exact BoxAt.updL (BoxAt.same sp hB) hbl2 hne
    · rintro σ H2 ⟨v3, c0, c1, kp, hbl, hB0, hB1, o0, o1, d0, d1⟩
      have hB0 : BoxAt A.CP H2 c0 (s.a.pens ++ Ma) := hB0
      have hB1 : BoxAt A.CP H2 c1 (s.b.pens ++ Mb) := hB1
      have keepK : ∀ {b : Addr} {o : HO}, H1 b = some o → (∀ xs, o ≠ .lst xs) → H2 b = some o := fun {b o} hb hn => kp _ _ hb (by
        intro q
        have : b = G.bl := List.mem_singleton.mp q
        rw [this, hbl1] at hb
        exact hn _ (Option.some.inj hb).symm)
      have hg2 := keepK (s1 _ _ hg) (fun _ z => by cases z)
      have N2 : NoteAt A H2 g G st := ⟨⟨dx, hg2⟩, keepK hG1.hn (fun _ z => by cases z), keepK hG1.hm (fun _ z => by cases z), keepK hG1.ho (fun _ z => by cases z), hG.dnm, hG.dno, hG.dmo, hG.ok.st⟩
      obtain ⟨ts, hts, hR⟩ := hc1
      have hts2 : H2 c = some (.lst (ts.map V.ref)) := kp _ _ hts (notin1 hcb)
      have hR2 : Refs (TupAt H2) ts xs := hR.imp fun a x z => keepK z (fun _ y => by cases y)
      have dictK : ∀ {H' : Hp} {b : Addr} {o : HO}, Keep [G.nd, G.mj, G.ou] H2 H' → H2 b = some o → (∀ kvs, o ≠ .dT kvs) → H' b = some o := fun {H' b o} k3 hb hn => k3 _ _ hb (by
        intro q
        rcases List.mem_cons.mp q with q | q
        · rw [q, N2.hn] at hb; exact hn _ (Option.some.inj hb).symm
        · rcases List.mem_cons.mp q with q | q
          · rw [q, N2.hm] at hb; exact hn _ (Option.some.inj hb).symm
          · have q : b = G.ou := by simpa using q
            rw [q, N2.ho] at hb; exact hn _ (Option.some.inj hb).symm)
      dsimp only
      refine ⟨_, rfl, c, rfl, ⟨_, SqL.of hts2⟩, for_listN (K := K) (a := c) (xs := ts.map V.ref) (fun i σ H' => BringJ A H2 g G xs st (some (.ref g)) (some (.ref c)) (some (.ref r)) i H' σ) ⟨v3, none, none, N2, (Same.refl H2).keep _⟩ (fun i σ H' _ h => by cases h with | mk _ _ _ _ k3 => exact SqL.of (dictK k3 hts2 (fun _ z => by cases z))) ?_ ?_⟩
      · intro D i y σ H3 hD hi hI
        refine hideN fun N hN => ?_
        obtain ⟨v3, v4, v5, N3, k3⟩ := hI
        obtain ⟨a, ha, rfl⟩ := map_get hi
        obtain ⟨x, hx, hax⟩ := hR2.getA ha
        have hax3 := dictK k3 hax (fun _ z => by cases z)
        obtain ⟨dy, hg3⟩ := N3.at_
        refine ⟨a, _, rfl, SqT.of hax3, rfl, _, _, rfl, _, _, rfl, _, _, rfl, rfl, ?_⟩
        subst hN
        refine ⟨_, rfl, g, dy, _, rfl, hg3, gf_no_note G, _, rfl, _, rfl, (by show 2 ≤ sizeLine; decide), fun tp htp => ⟨_, rfl, ?_⟩⟩
        have sT : Same H3 (upd H3 tp (.tup [.int x.team, .int x.player])) := Same.new htp
        refine ⟨g, tp, x, G, _, ⟨⟨dy, sT _ _ hg3⟩, sT _ _ N3.hn, sT _ _ N3.hm, sT _ _ N3.ho, N3.dnm, N3.dno, N3.dmo, N3.ok⟩, hok x (List.mem_of_getElem? hx), upd_same, fun H4 N4 k4 => ?_⟩
        refine hD _ _ ⟨_, _, _, ?_, (k3.trans (sT.keep _)).trans k4⟩
        rw [foldl_take _ _ hx]
        exact N4
      · rintro σ H3 ⟨v3, v4, v5, N3, k3⟩
        rw [List.length_map, hR2.len, List.take_length] at N3
        obtain ⟨dy, hg3⟩ := N3.at_
        dsimp only
        refine ⟨Nat.zero_le _, fun sg hsg => ⟨_, rfl, g, A.CG, dy, _, rfl, (Same.new hsg) _ _ hg3, T.clG, T.g_signalled, gf_len G, ?_⟩⟩
        rw [gf_put_signalled]
        have sS : Same H3 (upd H3 sg (.lst [])) := Same.new hsg
        have hgS := sS _ _ hg3
        have keepF : ∀ {b : Addr} {o : HO}, H3 b = some o → (∀ C dx fs, o ≠ .ins C dx fs) → upd (upd H3 sg (.lst [])) g (.ins A.CG dy (gf { G with sg := sg })) b = some o := fun {b o} hb hn => by
          rw [upd_ne (ne_of (sS _ _ hb) hgS (hn _ _ _))]
          exact sS _ _ hb
        have boxF : ∀ {l : Addr} {ps : List Pen}, BoxAt A.CP H2 l ps → BoxAt A.CP (upd (upd H3 sg (.lst [])) g (.ins A.CG dy (gf { G with sg := sg }))) l ps := fun {l ps} hB => by
          obtain ⟨as, e1, e2⟩ := hB
          refine BoxAt.updI (BoxAt.same sS ⟨as, dictK k3 e1 (fun _ z => by cases z), e2.imp fun a p z => ?_⟩) hgS
          obtain ⟨dz, ez⟩ := z
          exact ⟨dz, dictK k3 ez (fun _ y => by cases y)⟩
        have keepA : Keep [g, G.bl, G.nd, G.mj, G.ou] H (upd (upd H3 sg (.lst [])) g (.ins A.CG dy (gf { G with sg := sg }))) := by
          have k1 : Keep [g, G.bl, G.nd, G.mj, G.ou] H H3 := ((s1.keep _).trans (Keep.mono kp (by simp))).trans (Keep.mono k3 (by simp))
          exact (k1.trans (sS.keep _)).upd (.inl (by simp))
        have frees : ∀ {p : Addr}, H3 p = Option.none → H1 p = Option.none := fun {p} hp => by
          cases e : H1 p with
          | none => rfl
          | some o =>
            have e1 : p ∉ [G.bl] := fun q => by
              have : p = G.bl := List.mem_singleton.mp q
              rw [this, dictK k3 hbl (fun _ z => by cases z)] at hp
              cases hp
            have e2 := kp _ _ e e1
            have e3 : p ∉ [G.nd, G.mj, G.ou] := fun q => by
              rcases List.mem_cons.mp q with q | q
              · rw [q, N3.hn] at hp; cases hp
              · rcases List.mem_cons.mp q with q | q
                · rw [q, N3.hm] at hp; cases hp
                · have q : p = G.ou := by simpa using q
                  rw [q, N3.ho] at hp; cases hp
            rw [k3 _ _ e2 e3] at hp
            cases hp
        have hsg1 := frees hsg
        have hsgH : H sg = Option.none := s1.free hsg1
        have pick : ∀ {c b x : Addr} {o : HO}, (c = b ∨ H1 c = Option.none) → b ≠ x → H1 x = some o → c ≠ x := fun {c b x o} h1 h2 h3 => by
          rcases h1 with rfl | h1
          · exact h2
          · exact (ne_of_none h3 h1).symm
        have hbl3 := dictK k3 hbl (fun _ z => by cases z)
        have b0n : ∀ {b : Addr} {ps : List Pen}, BoxAt A.CP H2 b ps → b ≠ sg := fun {b ps} hB => by
          obtain ⟨as, e1, _⟩ := hB
          exact ne_of_none (dictK k3 e1 (fun _ z => by cases z)) hsg
        have hgl3 : H3 G.gl = some (.lst [.int (s.a.goals : Int), .int (s.b.goals : Int)]) := dictK k3 (kp _ _ hG1.hg (by simpa using hG.dbg.symm)) (fun _ z => by cases z)
        refine k c0 c1 sg _ ?_ keepA hsgH
        exact {
          at_ := ⟨dy, upd_same⟩
          sk := hG.sk
          tm := hG.tm
          hb := keepF hbl3 (fun _ _ _ z => by cases z)
          x0 := boxF hB0
          x1 := boxF hB1
          hs := ⟨[], by
            rw [upd_ne (ne_of (H := upd H3 sg (.lst [])) upd_same hgS (by intro z; cases z)), upd_same]
            rfl, Refs.nil⟩
          hg := keepF hgl3 (fun _ _ _ z => by cases z)
          hn := keepF N3.hn (fun _ _ _ z => by cases z)
          hm := keepF N3.hm (fun _ _ _ z => by cases z)
          ho := keepF N3.ho (fun _ _ _ z => by cases z)
          d0b := d0
          d0g := pick o0 hG.d0g hG1.hg
          d0s := b0n hB0
          d1b := d1
          d1g := pick o1 hG.d1g hG1.hg
          d1s := b0n hB1
          dbs := ne_of_none hbl3 hsg
          dbg := hG.dbg
          dgs := ne_of_none hgl3 hsg
          dnm := hG.dnm
          dno := hG.dno
          dmo := hG.dmo
          ok := hG.ok.give hok h0 h1
          sl := Nat.zero_le _ }
end
end Ice
namespace Ice
open PySem PySem.Spec PyProof.Rows L2
open Kg58 (Pen Told State Team runs running soonest minus after short ended singles marked cancel parts washed lengthOf minutesOf)
open My (PosL lefts lessAll Tab TabOk NSt StOk ToldOk RepT Good)
def Fin (A : Ad) (H : Hp) (g : Addr) (G : GF) (x : State × List Int) (Q : VK) : Prop := ∀ (r : Addr) (G' : GF) (c0 c1 : Addr) (st' : NSt) (H' : Hp), GameAt A H' g G' c0 c1 x.1 st' → H' r = some (.lst (x.2.map V.int)) → Keep (ownOf g G) H H' →
  (∀ a, a ∈ ownOf g G' → a ∈ ownOf g G ∨ H a = Option.none) → (r ∈ ownOf g G ∨ H r = Option.none) → Q (.ref r) H'
inductive spClockI (A : Ad) (H : Hp) (Q : VK) : List V → Prop
  | mk (g : Addr) (z : Int) (G : GF) (b0 b1 : Addr) (s : State) (st : NSt) (h0 : GameAt A H g G b0 b1 s st) (h1 : Fin A H g G (My.res s (.clock z)) Q) : spClockI A H Q [.ref g, .int z]
def spClock (A : Ad) : Sp := fun vs H Q _ => spClockI A H Q vs
inductive spNowI (A : Ad) (H : Hp) (Q : VK) : List V → Prop
  | mk (g : Addr) (G : GF) (b0 b1 : Addr) (s : State) (st : NSt) (h0 : GameAt A H g G b0 b1 s st) (h1 : Fin A H g G (My.res s .now) Q) : spNowI A H Q [.ref g]
def spNow (A : Ad) : Sp := fun vs H Q _ => spNowI A H Q vs
inductive spSignalI (A : Ad) (H : Hp) (Q : VK) : List V → Prop
  | mk (g : Addr) (a b c : Int) (G : GF) (b0 b1 : Addr) (s : State) (st : NSt) (h0 : GameAt A H g G b0 b1 s st) (h1 : s.signalled.length ≤ 900) (h2 : Fin A H g G (My.res s (.signal a b c)) Q) : spSignalI A H Q [.ref g, .int a, .int b, .int c]
def spSignal (A : Ad) : Sp := fun vs H Q _ => spSignalI A H Q vs
inductive spStopI (A : Ad) (K : PySem.W.Frag) (H : Hp) (Q : VK) : List V → Prop
  | mk (g : Addr) (z : Int) (rw : Addr) (ns : List Int) (G : GF) (b0 b1 : Addr) (s : State) (st : NSt) (h0 : GameAt A H g G b0 b1 s st) (h1 : SqL K H rw (ns.map V.int)) (h2 : ns.length ≤ 10000) (h3 : Fin A H g G (My.res s (.halt_ z ns)) Q) : spStopI A K H Q [.ref g, .int z, .ref rw]
def spStop (A : Ad) (K : PySem.W.Frag) : Sp := fun vs H Q _ => spStopI A K H Q vs
inductive spGoalI (A : Ad) (H : Hp) (Q : VK) : List V → Prop
  | mk (g : Addr) (z t : Int) (G : GF) (b0 b1 : Addr) (s : State) (st : NSt) (h0 : GameAt A H g G b0 b1 s st) (h1 : Fin A H g G (My.res s (.goal z t)) Q) : spGoalI A H Q [.ref g, .int z, .int t]
def spGoal (A : Ad) : Sp := fun vs H Q _ => spGoalI A H Q vs
section
variable {P : Program} {w : World} {K : PySem.W.Frag} {mg : Str → Option Value} {base : Heap} {A : Ad}
theorem own_new {o : List Addr} {H H' : Hp} {p : Addr} (k : Keep o H H') (h : H' p = Option.none) : p ∈ o ∨ H p = Option.none := by
  by_cases hp : p ∈ o
  · exact .inl hp
  · cases e : H p with
    | none => exact .inr rfl
    | some u =>
      rw [k _ _ e hp] at h
      cases h
theorem fin_no {H H' : Hp} {g r : Addr} {G : GF} {b0 b1 : Addr} {s : State} {st : NSt} {v : Int} {x : State × List Int} {Q : VK} (k : Fin A H g G x Q) (e : x = (s, [v])) (hG : GameAt A H g G b0 b1 s st) (sm : Same H H') (hr : H' r = Option.none) : Q (.ref r) (upd H' r (.lst [.int v])) := by
  subst e
  have s2 : Same H (upd H' r (.lst [.int v])) := sm.upd (sm.free hr)
  exact k r G b0 b1 st _ (hG.same s2) upd_same (s2.keep _) (fun a h => .inl h) (.inr (sm.free hr))
theorem own_time {H : Hp} {g r : Addr} {G : GF} {z : Int} (hr : H r = Option.none) : ∀ a, a ∈ ownOf g { G with bl := r, time := z } → a ∈ ownOf g G ∨ H a = Option.none :=
  in7 (.inl ow_g) (.inr hr) (.inl ow_gl) (.inl ow_sg) (.inl ow_nd) (.inl ow_mj) (.inl ow_ou)
theorem ok_clock {f f1 f2 f3 : Addr} {fd fd1 fd2 fd3 : FuncData} (F : Fun K "clock" "Game.clock" s_Game_clock f fd) (T : Txt K mg A)
    (D_Game_may_be : MDef K A.CG "may_be" "Game.may_be" s_Game_may_be ["self", "time"] f1 fd1) (G_Game_may_be : FnOk P w K mg base CX0 1 f1 fd1 ["self", "time"] (spMayBe A))
    (D_Game_pass_to : MDef K A.CG "pass_to" "Game.pass_to" s_Game_pass_to ["self", "time"] f2 fd2) (G_Game_pass_to : FnOk P w K mg base CX0 7 f2 fd2 ["self", "time"] (spPass A))
    (D_Game_both_skaters : MDef K A.CG "both_skaters" "Game.both_skaters" s_Game_both_skaters ["self"] f3 fd3) (G_Game_both_skaters : FnOk P w K mg base CX0 3 f3 fd3 ["self"] (spBoth A)) : FnOk P w K mg base CX0 8 f fd ["self", "time"] (spClock A) := by
  refine F.ok sc_Game_clock (fun vs H Q E h => ?_) (fun cdv Ar outer s H vs Q E hr h => ?_)
  · obtain ⟨g, z, G, b0, b1, s, st, _⟩ := h
    rfl
  · obtain ⟨g, z, G, b0, b1, s, st, hG, k⟩ := h
    have nd := sc_Game_clock.nd
    refine ⟨_, (pss_cons (ps_if (pt_not (pt_val (pe_meth (pv 0) T.clG D_Game_may_be.me G_Game_may_be (hr.mono (by decide)) D_Game_may_be.b .nil pass0 (pa_cons (pv 1) pa_nil))))
      (pss_one (ps_ret (pe_lst (pa_cons (gi T.WRONG) pa_nil))))
      pss_nil)
    (pss_cons (ps_expr (pe_meth (pv 0) T.clG D_Game_pass_to.me G_Game_pass_to (hr.mono (by decide)) D_Game_pass_to.b .nil pass0 (pa_cons (pv 1) pa_nil)))
    (pss_one (ps_ret (pe_op op_cat (pe_lst (pa_cons pe_int pa_nil)) (pe_meth0 (pv 0) T.clG D_Game_both_skaters.me G_Game_both_skaters (hr.mono (by decide)) D_Game_both_skaters.b .nil pass0)))))), ?_⟩
    obtain ⟨dx, hg⟩ := hG.at_
    refine tm_of (ev_var rfl) hg (gf_no_may_be G) (eva1 (ev_var rfl)) ⟨g, z, G, b0, b1, s, st, hG, _, rfl, iteB (fun q => ?_) (fun q => ?_)⟩
    · have hno : Kg58.okTime s z = false := by
        cases e : Kg58.okTime s z
        · rfl
        · rw [e] at q; cases q
      refine ⟨(by show 1 ≤ sizeLine; decide), fun r hr0 => ?_⟩
      exact fin_no k (My.res_clock_no hG.ok.base3 hno) hG (Same.refl _) hr0
    · have hyes : ¬ Kg58.okTime s z = false := fun e => by rw [e] at q; cases q
      obtain ⟨n, hn1, hn2, rfl, hn3⟩ := My.okTime_yes hyes
      rw [My.res_clock_yes hG.ok.base3 hyes, hn3] at k
      dsimp only [tNext]
      refine tm_of (ev_var rfl) hg (gf_no_pass_to G) (eva1 (ev_var rfl)) ⟨g, n, G, b0, b1, s, st, hG, hn1, hn2, fun r c0 c1 H1 hG1 kp hr0 => ?_⟩
      dsimp only
      refine ⟨(by show 1 ≤ sizeLine; decide), fun p hp => ?_⟩
      have sp : Same H1 (upd H1 p (.lst [.int 0])) := Same.new hp
      have hG2 := hG1.same sp
      obtain ⟨dy, hg2⟩ := hG2.at_
      refine tm_of (ev_var rfl) hg2 (gf_no_both_skaters _) eva_nil ⟨g, _, c0, c1, _, st, hG2, fun r2 H3 s3 hr2 => ?_⟩
      refine ⟨p, r2, _, _, rfl, rfl, s3 _ _ upd_same, hr2, (by show 1 + 2 ≤ sizeLine; decide), fun q hq => ?_⟩
      have s4 : Same H1 (upd H3 q (.lst ([.int 0] ++ [.int (((s.to n).skaters 0 : Nat) : Int), .int (((s.to n).skaters 1 : Nat) : Int)]))) := (sp.trans s3).upd ((sp.trans s3).free hq)
      exact k q _ c0 c1 st _ (hG1.same s4) upd_same ((Keep.mono kp (by unfold ownOf; simp)).trans (s4.keep _)) (own_time hr0) (own_new ((Keep.mono kp (by unfold ownOf; simp)).trans ((sp.trans s3).keep _)) hq)
theorem ok_now {f f3 : Addr} {fd fd3 : FuncData} (F : Fun K "now" "Game.now" s_Game_now f fd) (T : Txt K mg A)
    (D_Game_both_skaters : MDef K A.CG "both_skaters" "Game.both_skaters" s_Game_both_skaters ["self"] f3 fd3) (G_Game_both_skaters : FnOk P w K mg base CX0 3 f3 fd3 ["self"] (spBoth A)) : FnOk P w K mg base CX0 4 f fd ["self"] (spNow A) := by
  refine F.ok sc_Game_now (fun vs H Q E h => ?_) (fun cdv Ar outer s H vs Q E hr h => ?_)
  · obtain ⟨g, G, b0, b1, s, st, _⟩ := h
    rfl
  · obtain ⟨g, G, b0, b1, s, st, hG, k⟩ := h
    refine ⟨_, (pss_one (ps_ret (pe_op op_cat (pe_op op_cat (pe_op op_cat (pe_lst (pa_cons (pe_fld (pv 0) rfl) pa_nil)) (pe_meth0 (pv 0) T.clG D_Game_both_skaters.me G_Game_both_skaters (hr.mono (by decide)) D_Game_both_skaters.b .nil pass0)) (pe_fld (pv 0) rfl)) (pe_lst (pa_cons (pe_callB call_len_seq (by rfl) T.len_ bt_len (pa_cons (pe_fld (pv 0) rfl) pa_nil)) pa_nil))))), ?_⟩
    obtain ⟨dx, hg⟩ := hG.at_
    rw [My.res_now hG.ok.base3] at k
    refine ⟨_, rfl, g, A.CG, dx, _, _, rfl, hg, T.clG, T.g_time, gf_time G, (by show 1 ≤ sizeLine; decide), fun p hp => ?_⟩
    have sp : Same H (upd H p (.lst [.int G.time])) := Same.new hp
    have hG2 := hG.same sp
    refine tm_of (ev_var rfl) (sp _ _ hg) (gf_no_both_skaters _) eva_nil ⟨g, G, b0, b1, s, st, hG2, fun r2 H3 s3 hr2 => ?_⟩
    refine ⟨p, r2, _, _, rfl, rfl, s3 _ _ upd_same, hr2, (by show 1 + 2 ≤ sizeLine; decide), fun q hq => ?_⟩
    have s4 := (sp.trans s3).upd (o := .lst ([.int G.time] ++ [.int (s.skaters 0 : Int), .int (s.skaters 1 : Int)])) ((sp.trans s3).free hq)
    have hG4 := hG.same s4
    obtain ⟨ts, hts, hTR⟩ := hG4.hs
    refine ⟨_, rfl, g, A.CG, dx, _, _, rfl, s4 _ _ hg, T.clG, T.g_goals, gf_goals G, q, G.gl, _, _, rfl, rfl, upd_same, hG4.hg, (by show 3 + 2 ≤ sizeLine; decide), fun q2 hq2 => ?_⟩
    have s5 := s4.upd (o := .lst ([.int G.time] ++ [.int (s.skaters 0 : Int), .int (s.skaters 1 : Int)] ++ [.int (s.a.goals : Int), .int (s.b.goals : Int)])) (s4.free hq2)
    refine ⟨_, rfl, g, A.CG, dx, _, _, rfl, s5 _ _ hg, T.clG, T.g_signalled, gf_signalled G, G.sg, _, rfl, .inl (SqL.of (by rw [upd_ne (ne_of_none hts hq2)]; exact hts)), (by show 1 ≤ sizeLine; decide), fun q3 hq3 => ?_⟩
    have s6 := s5.upd (o := .lst [.int ((ts.map V.ref).length : Int)]) (s5.free hq3)
    have d3 : q2 ≠ q3 := ne_of_none upd_same hq3
    refine ⟨q2, q3, _, _, rfl, rfl, by rw [upd_ne d3]; exact upd_same, upd_same, (by show 5 + 1 ≤ sizeLine; decide), fun q4 hq4 => ?_⟩
    have s7 := s6.upd (o := .lst ([.int G.time] ++ [.int (s.skaters 0 : Int), .int (s.skaters 1 : Int)] ++ [.int (s.a.goals : Int), .int (s.b.goals : Int)] ++ [.int ((ts.map V.ref).length : Int)])) (s6.free hq4)
    refine k q4 G b0 b1 st _ (hG.same s7) ?_ (s7.keep _) (fun a h => .inl h) (.inr (s6.free hq4))
    rw [upd_same, List.length_map, hTR.len, hG.tm]
    rfl
end
end Ice
namespace Ice
open PySem PySem.Spec PyProof.Rows L2
open Kg58 (Pen Told State Team runs running soonest minus after short ended singles marked cancel parts washed lengthOf minutesOf)
open My (PosL lefts lessAll Tab TabOk NSt StOk ToldOk RepT Good)
section
variable {P : Program} {w : World} {K : PySem.W.Frag} {mg : Str → Option Value} {base : Heap} {A : Ad}
theorem ok_signal {f f1 f2 f3 : Addr} {fd fd1 fd2 fd3 : FuncData} (F : Fun K "signal" "Game.signal" s_Game_signal f fd) (T : Txt K mg A)
    (D_well_told : Def K mg "well_told" s_well_told ["team", "player", "kind"] f1 fd1) (G_well_told : FnOk P w K mg base CX0 1 f1 fd1 ["team", "player", "kind"] spWell)
    (D_Game_tells_of_one_out : MDef K A.CG "tells_of_one_out" "Game.tells_of_one_out" s_Game_tells_of_one_out ["self", "coming"] f2 fd2) (G_Game_tells_of_one_out : FnOk P w K mg base CX0 1 f2 fd2 ["self", "coming"] (spTells A))
    (D_too_many : Def K mg "too_many" s_too_many ["boxes", "coming"] f3 fd3) (G_too_many : FnOk P w K mg base CX0 1 f3 fd3 ["boxes", "coming"] (spMany A.CP)) : FnOk P w K mg base CX0 2 f fd ["self", "team", "player", "kind"] (spSignal A) := by
  refine F.ok sc_Game_signal (fun vs H Q E h => ?_) (fun cdv Ar outer s H vs Q E hr h => ?_)
  · obtain ⟨g, a, b, c, G, b0, b1, s, st, _⟩ := h
    rfl
  · obtain ⟨g, a, b, c, G, b0, b1, s, st, hG, hsl, k⟩ := h
    have nd := sc_Game_signal.nd
    refine ⟨_, (pss_cons (ps_if (pt_not (pt_val (pe_call G_well_told (hr.mono (by decide)) rfl D_well_told.mg D_well_told.fn.kp D_well_told.b .nil pass0 (pa_cons (pv 1) (pa_cons (pv 2) (pa_cons (pv 3) pa_nil))))))
      (pss_one (ps_ret (pe_lst (pa_cons (gi T.WRONG) pa_nil))))
      pss_nil)
    (pss_cons (ps_set (i := 4) nd rfl (Or.inl rfl) (pe_tup (pa_cons (pv 1) (pa_cons (pv 2) (pa_cons (pv 3) pa_nil)))))
    (pss_cons (ps_if (pt_val (pe_meth (pv 0) T.clG D_Game_tells_of_one_out.me G_Game_tells_of_one_out (hr.mono (by decide)) D_Game_tells_of_one_out.b .nil pass0 (pa_cons (pe_lst (pa_cons (pv 4) pa_nil)) pa_nil)))
      (pss_one (ps_ret (pe_lst (pa_cons (gi T.OUT_OF_GAME) pa_nil))))
      pss_nil)
    (pss_cons (ps_if (pt_val (pe_call G_too_many (hr.mono (by decide)) rfl D_too_many.mg D_too_many.fn.kp D_too_many.b .nil pass0 (pa_cons (pe_fld (pv 0) rfl) (pa_cons (pe_op op_cat (pe_fld (pv 0) rfl) (pe_lst (pa_cons (pv 4) pa_nil))) pa_nil))))
      (pss_one (ps_ret (pe_lst (pa_cons (gi T.TOO_MANY) pa_nil))))
      pss_nil)
    (pss_cons (ps_expr (pe_bm PySem.F.plainAttrs_list PySem.F.slot_list_append PySem.F.type_list_append mt_append (pe_fld (pv 0) rfl) (pa_cons (pv 4) pa_nil)))
    (pss_one (ps_ret (pe_lst (pa_cons (pe_callB call_len_seq (by rfl) T.len_ bt_len (pa_cons (pe_fld (pv 0) rfl) pa_nil)) pa_nil))))))))), ?_⟩
    obtain ⟨dx, hg⟩ := hG.at_
    have b3 := hG.ok.base3
    refine tc_of (eva_cons (ev_var rfl) (eva_cons (ev_var rfl) (eva1 (ev_var rfl)))) ⟨a, b, c, _, rfl, iteB (fun q => ?_) (fun q => ?_)⟩
    · have hno : My.okT (a, b, c) = false := by
        cases e : My.okT (a, b, c)
        · rfl
        · rw [e] at q; cases q
      refine ⟨(by show 1 ≤ sizeLine; decide), fun r hr0 => ?_⟩
      refine fin_no k ?_ hG (Same.refl _) hr0
      unfold My.res
      rw [My.spec_signal b3, if_pos hno]
      rfl
    · have hyes : My.okT (a, b, c) = true := by
        cases e : My.okT (a, b, c)
        · rw [e] at q; cases q
        · rfl
      obtain ⟨htok, ea, eb, ec⟩ := My.okT_told hyes
      have ea : a = ((My.toldI (a, b, c)).team : Int) := ea
      have eb : b = ((My.toldI (a, b, c)).player : Int) := eb
      have ec : c = ((My.toldI (a, b, c)).kind : Int) := ec
      have espec : Kg58.spec s (.signal a b c) = if Kg58.anyOut s [My.toldI (a, b, c)] = true then (s, Kg58.num (-4)) else if Kg58.tooMany s (s.signalled ++ [My.toldI (a, b, c)]) = true then (s, Kg58.num (-5)) else
          ({ s with signalled := s.signalled ++ [My.toldI (a, b, c)] }, Kg58.num ((s.signalled.length + 1 : Nat) : Int)) := by
        rw [My.spec_signal b3, if_neg (by rw [hyes]; decide)]
      unfold My.res at k
      rw [espec] at k
      generalize hx : My.toldI (a, b, c) = x at htok ea eb ec k
      clear espec hx
      dsimp only [tNext]
      refine ⟨_, rfl, _, rfl, _, rfl, (by show 3 ≤ sizeLine; decide), fun tp htp => ?_⟩
      have s1 : Same H (upd H tp (.tup [.int a, .int b, .int c])) := Same.new htp
      have htp1 : (upd H tp (.tup [.int a, .int b, .int c])) tp = some (.tup [.int (x.team : Int), .int (x.player : Int), .int (x.kind : Int)]) := by rw [upd_same, ea, eb, ec]
      have hG1 := hG.same s1
      have htpH : H tp = Option.none := htp
      generalize upd H tp (.tup [.int a, .int b, .int c]) = H1 at s1 htp1 hG1 ⊢
      refine gn_of ?_
      dsimp only
      refine ⟨_, rfl, g, dx, _, rfl, s1 _ _ hg, gf_no_tells_of_one_out G, _, rfl, (by show 1 ≤ sizeLine; decide), fun l1 hl1 => ?_⟩
      have n1 : Same H1 (upd H1 l1 (.lst [.ref tp])) := Same.new hl1
      have s2 := s1.trans n1
      refine ⟨g, l1, G, b0, b1, s, st, [x], hG1.same n1, ⟨[tp], upd_same, Refs.one (n1 _ _ htp1)⟩, (by show 1 ≤ 10000; decide), fun y hy => (by
        have : y = x := List.mem_singleton.mp hy
        rw [this]; exact htok), fun H2 s3 => ⟨_, rfl, iteB (fun q => ?_) (fun q => ?_)⟩⟩
      · rw [if_pos q] at k
        refine ⟨(by show 1 ≤ sizeLine; decide), fun r hr0 => ?_⟩
        exact fin_no k rfl hG (s2.trans s3) hr0
      · rw [if_neg (by rw [q]; decide)] at k
        have s4 := s2.trans s3
        have hG2 := hG.same s4
        have htp2 := (n1.trans s3) _ _ htp1
        obtain ⟨ts, hts, hTR⟩ := hG2.hs
        dsimp only [tNext]
        refine ⟨_, rfl, g, A.CG, dx, _, _, rfl, s4 _ _ hg, T.clG, T.g_boxes, gf_boxes G, _, rfl, g, A.CG, dx, _, _, rfl, s4 _ _ hg, T.clG, T.g_signalled, gf_signalled G, _, rfl, (by show 1 ≤ sizeLine; decide), fun l2 hl2 => ?_⟩
        have n2 : Same H2 (upd H2 l2 (.lst [.ref tp])) := Same.new hl2
        refine ⟨G.sg, l2, _, _, rfl, rfl, n2 _ _ hts, upd_same, ?_, fun l3 hl3 => ?_⟩
        · rw [List.length_map, hTR.len]
          have := hG.sl
          exact Nat.le_of_lt (line_of (by show s.signalled.length + 1 ≤ 1000000; omega))
        have n3 := n2.upd (o := .lst (ts.map V.ref ++ [.ref tp])) (n2.free hl3)
        have s5 := s4.trans n3
        have hG3 := hG.same s5
        have hok : ∀ y ∈ s.signalled ++ [x], ToldOk y := fun y hy => by
          rcases List.mem_append.mp hy with hy | hy
          · exact hG.ok.told y hy
          · have : y = x := List.mem_singleton.mp hy
            rw [this]; exact htok
        refine ⟨G.bl, l3, b0, b1, s.a.pens, s.b.pens, s.signalled ++ [x], hG3.hb, hG3.x0, hG3.x1, ⟨ts ++ [tp], by rw [upd_same, List.map_append]; rfl, (hTR.imp fun _ _ z => TupAt.same n3 z).snoc (n3 _ _ htp2)⟩, ?_, hok, fun H4 s6 => ⟨_, rfl, iteB (fun q2 => ?_) (fun q2 => ?_)⟩⟩
        · rw [List.length_append, List.length_singleton]
          have := hG.sl
          omega
        · rw [← My.tooMany_eq] at q2
          rw [if_pos q2] at k
          refine ⟨(by show 1 ≤ sizeLine; decide), fun r hr0 => ?_⟩
          exact fin_no k rfl hG (s5.trans s6) hr0
        · rw [← My.tooMany_eq] at q2
          have q2' : ¬ Kg58.tooMany s (s.signalled ++ [x]) = true := by rw [q2]; decide
          rw [if_neg q2'] at k
          obtain ⟨hf0, hf1⟩ := My.tooMany_no q2'
          have s7 := s5.trans s6
          have hG4 := hG.same s7
          have htp4 := (n3.trans s6) _ _ htp2
          obtain ⟨ts4, hts4, hTR4⟩ := hG4.hs
          dsimp only [tNext]
          refine st_append (ev_fld (ev_var rfl) (s7 _ _ hg) T.clG T.g_signalled (gf_signalled G)) hts4 (ev_var rfl) (by rw [List.length_map, hTR4.len]; exact line_of (by omega)) ?_
          have keep : ∀ {b : Addr} {o : HO}, H4 b = some o → b ≠ G.sg → upd H4 G.sg (.lst (ts4.map V.ref ++ [.ref tp])) b = some o := fun {b o} hb hn => by rw [upd_ne hn]; exact hb
          have ne : ∀ {b : Addr} {o : HO}, H4 b = some o → (∀ xs, o ≠ .lst xs) → b ≠ G.sg := fun {b o} hb hn => ne_of hb hts4 (hn _)
          have hG5 : GameAt A (upd H4 G.sg (.lst (ts4.map V.ref ++ [.ref tp]))) g G b0 b1 { s with signalled := s.signalled ++ [x] } st := {
            at_ := ⟨dx, keep (s7 _ _ hg) (ne (s7 _ _ hg) (fun _ z => by cases z))⟩
            sk := hG.sk
            tm := hG.tm
            hb := keep hG4.hb hG.dbs
            x0 := BoxAt.updL hG4.x0 hts4 hG.d0s
            x1 := BoxAt.updL hG4.x1 hts4 hG.d1s
            hs := ⟨ts4 ++ [tp], by rw [upd_same, List.map_append]; rfl, (hTR4.imp fun _ _ z => TupAt.updL z hts4).snoc (TupAt.updL htp4 hts4)⟩
            hg := keep hG4.hg hG.dgs
            hn := keep hG4.hn (ne hG4.hn (fun _ z => by cases z))
            hm := keep hG4.hm (ne hG4.hm (fun _ z => by cases z))
            ho := keep hG4.ho (ne hG4.ho (fun _ z => by cases z))
            d0b := hG.d0b
            d0g := hG.d0g
            d0s := hG.d0s
            d1b := hG.d1b
            d1g := hG.d1g
            d1s := hG.d1s
            dbs := hG.dbs
            dbg := hG.dbg
            dgs := hG.dgs
            dnm := hG.dnm
            dno := hG.dno
            dmo := hG.dmo
            ok := hG.ok.signal htok hf0 hf1
            sl := by
              show (s.signalled ++ [x]).length ≤ 1000
              rw [List.length_append, List.length_singleton]
              omega }
          obtain ⟨dy, hg5⟩ := hG5.at_
          refine ⟨_, rfl, g, A.CG, dy, _, _, rfl, hg5, T.clG, T.g_signalled, gf_signalled G, G.sg, _, rfl, .inl (SqL.of upd_same), (by show 1 ≤ sizeLine; decide), fun r hr0 => ?_⟩
          have s8 : Same (upd H4 G.sg (.lst (ts4.map V.ref ++ [.ref tp]))) (upd (upd H4 G.sg (.lst (ts4.map V.ref ++ [.ref tp]))) r (.lst [.int ((ts4.map V.ref ++ [V.ref tp]).length : Int)])) := Same.new hr0
          refine k r G b0 b1 st _ (hG5.same s8) ?_ (((s7.keep _).upd (.inl ow_sg)).trans (s8.keep _)) (fun a h => .inl h) (own_new ((s7.keep _).upd (.inl ow_sg)) hr0)
          rw [upd_same, List.length_append, List.length_map, hTR4.len]
          rfl
end
end Ice
namespace Ice
open PySem PySem.Spec PyProof.Rows L2
open Kg58 (Pen Told State Team runs running soonest minus after short ended singles marked cancel parts washed lengthOf minutesOf)
open My (PosL lefts lessAll Tab TabOk NSt StOk ToldOk RepT Good)
section
variable {P : Program} {w : World} {K : PySem.W.Frag} {mg : Str → Option Value} {base : Heap} {A : Ad}
theorem Keep.comp {o o' : List Addr} {H H1 H2 : Hp} (k1 : Keep o H H1) (k2 : Keep o' H1 H2) (h : ∀ a, a ∈ o' → a ∈ o ∨ H a = Option.none) : Keep o H H2 := fun b u e n => k2 b u (k1 b u e n) fun z => by
  rcases h b z with h | h
  · exact n h
  · rw [h] at e; cases e
theorem ToldsAt.keepI {C dx : Addr} {H H' : Hp} {c g : Addr} {G : GF} {xs : List Told} (k : Keep [g] H H') (hg : H g = some (.ins C dx (gf G))) (h : ToldsAt H c xs) : ToldsAt H' c xs := by
  obtain ⟨ts, h1, h2⟩ := h
  have ne : ∀ {b : Addr} {o : HO}, H b = some o → (∀ C dx fs, o ≠ .ins C dx fs) → b ∉ [g] := fun {b o} hb hn q => by
    have : b = g := List.mem_singleton.mp q
    rw [this, hg] at hb
    exact hn _ _ _ (Option.some.inj hb).symm
  exact ⟨ts, k _ _ h1 (ne h1 (fun _ _ _ z => by cases z)), h2.imp fun a x z => k _ _ z (ne z (fun _ _ _ y => by cases y))⟩
theorem ok_stop {f f1 f2 f3 f4 f5 f6 f7 f8 f9 : Addr} {fd fd1 fd2 fd3 fd4 fd5 fd6 fd7 fd8 fd9 : FuncData} (F : Fun K "stop" "Game.stop" s_Game_stop f fd) (T : Txt K mg A)
    (D_Game_may_be : MDef K A.CG "may_be" "Game.may_be" s_Game_may_be ["self", "time"] f1 fd1) (G_Game_may_be : FnOk P w K mg base CX0 1 f1 fd1 ["self", "time"] (spMayBe A))
    (D_row_well_told : Def K mg "row_well_told" s_row_well_told ["row"] f2 fd2) (G_row_well_told : FnOk P w K mg base CX0 2 f2 fd2 ["row"] (spRowWell K))
    (D_threes : Def K mg "threes" s_threes ["row"] f3 fd3) (G_threes : FnOk P w K mg base CX0 1 f3 fd3 ["row"] (spThrees K))
    (D_Game_tells_of_one_out : MDef K A.CG "tells_of_one_out" "Game.tells_of_one_out" s_Game_tells_of_one_out ["self", "coming"] f4 fd4) (G_Game_tells_of_one_out : FnOk P w K mg base CX0 1 f4 fd4 ["self", "coming"] (spTells A))
    (D_too_many : Def K mg "too_many" s_too_many ["boxes", "coming"] f5 fd5) (G_too_many : FnOk P w K mg base CX0 1 f5 fd5 ["boxes", "coming"] (spMany A.CP))
    (D_Game_boxes_at : MDef K A.CG "boxes_at" "Game.boxes_at" s_Game_boxes_at ["self", "time"] f6 fd6) (G_Game_boxes_at : FnOk P w K mg base CX0 6 f6 fd6 ["self", "time"] (spBoxesAt A))
    (D_Game_pass_to : MDef K A.CG "pass_to" "Game.pass_to" s_Game_pass_to ["self", "time"] f7 fd7) (G_Game_pass_to : FnOk P w K mg base CX0 7 f7 fd7 ["self", "time"] (spPass A))
    (D_Game_bring : MDef K A.CG "bring" "Game.bring" s_Game_bring ["self", "coming"] f8 fd8) (G_Game_bring : FnOk P w K mg base CX0 4 f8 fd8 ["self", "coming"] (spBring A))
    (D_Game_both_skaters : MDef K A.CG "both_skaters" "Game.both_skaters" s_Game_both_skaters ["self"] f9 fd9) (G_Game_both_skaters : FnOk P w K mg base CX0 3 f9 fd9 ["self"] (spBoth A)) :
    FnOk P w K mg base CX0 8 f fd ["self", "time", "row"] (spStop A K) := by
  refine F.ok sc_Game_stop (fun vs H Q E h => ?_) (fun cdv Ar outer s H vs Q E hr h => ?_)
  · obtain ⟨g, z, rw, ns, G, b0, b1, s, st, _⟩ := h
    rfl
  · obtain ⟨g, z, rw, ns, G, b0, b1, s, st, hG, hS, hnl, k⟩ := h
    have nd := sc_Game_stop.nd
    refine ⟨_, (pss_cons (ps_if (PW.pt (pw_or (pt_not (pt_val (pe_meth (pv 0) T.clG D_Game_may_be.me G_Game_may_be (hr.mono (by decide)) D_Game_may_be.b .nil pass0 (pa_cons (pv 1) pa_nil)))) (pw_or1 (pt_not (pt_val (pe_call G_row_well_told (hr.mono (by decide)) rfl D_row_well_told.mg D_row_well_told.fn.kp D_row_well_told.b .nil pass0 (pa_cons (pv 2) pa_nil)))))))
      (pss_one (ps_ret (pe_lst (pa_cons (gi T.WRONG) pa_nil))))
      pss_nil)
    (pss_cons (ps_set (i := 3) nd rfl (Or.inl rfl) (pe_op op_cat (pe_fld (pv 0) rfl) (pe_call G_threes (hr.mono (by decide)) rfl D_threes.mg D_threes.fn.kp D_threes.b .nil pass0 (pa_cons (pv 2) pa_nil))))
    (pss_cons (ps_if (pt_val (pe_meth (pv 0) T.clG D_Game_tells_of_one_out.me G_Game_tells_of_one_out (hr.mono (by decide)) D_Game_tells_of_one_out.b .nil pass0 (pa_cons (pv 3) pa_nil)))
      (pss_one (ps_ret (pe_lst (pa_cons (gi T.OUT_OF_GAME) pa_nil))))
      pss_nil)
    (pss_cons (ps_if (pt_val (pe_call G_too_many (hr.mono (by decide)) rfl D_too_many.mg D_too_many.fn.kp D_too_many.b .nil pass0 (pa_cons (pe_meth (pv 0) T.clG D_Game_boxes_at.me G_Game_boxes_at (hr.mono (by decide)) D_Game_boxes_at.b .nil pass0 (pa_cons (pv 1) pa_nil)) (pa_cons (pv 3) pa_nil))))
      (pss_one (ps_ret (pe_lst (pa_cons (gi T.TOO_MANY) pa_nil))))
      pss_nil)
    (pss_cons (ps_expr (pe_meth (pv 0) T.clG D_Game_pass_to.me G_Game_pass_to (hr.mono (by decide)) D_Game_pass_to.b .nil pass0 (pa_cons (pv 1) pa_nil)))
    (pss_cons (ps_expr (pe_meth (pv 0) T.clG D_Game_bring.me G_Game_bring (hr.mono (by decide)) D_Game_bring.b .nil pass0 (pa_cons (pv 3) pa_nil)))
    (pss_one (ps_ret (pe_op op_cat (pe_lst (pa_cons (pe_callB call_len_seq (by rfl) T.len_ bt_len (pa_cons (pv 3) pa_nil)) pa_nil)) (pe_meth0 (pv 0) T.clG D_Game_both_skaters.me G_Game_both_skaters (hr.mono (by decide)) D_Game_both_skaters.b .nil pass0)))))))))), ?_⟩
    obtain ⟨dx, hg⟩ := hG.at_
    have b3 := hG.ok.base3
    refine tm_of (ev_var rfl) hg (gf_no_may_be G) (eva1 (ev_var rfl)) ⟨g, z, G, b0, b1, s, st, hG, _, rfl, iteB (fun q => ?_) (fun q => ?_)⟩
    · have hno : Kg58.okTime s z = false := by
        cases e : Kg58.okTime s z
        · rfl
        · rw [e] at q; cases q
      refine iteT ⟨(by show 1 ≤ sizeLine; decide), fun r hr0 => fin_no k ?_ hG (Same.refl _) hr0⟩
      cases e : Kg58.toldOf ns with
      | none => exact My.res_halt_row b3 e
      | some r => exact My.res_halt_time b3 e hno
    · have hyes : ¬ Kg58.okTime s z = false := fun e => by rw [e] at q; cases q
      obtain ⟨n, hn1, hn2, rfl, hn3⟩ := My.okTime_yes hyes
      refine tc_of (eva1 (ev_var rfl)) ⟨rw, ns, hS, by omega, fun H1 s1 => ⟨_, rfl, iteB (fun q2 => ?_) (fun q2 => ?_)⟩⟩
      · have hrow : Kg58.toldOf ns = none := My.toldOf_none fun z => by
          rw [decide_eq_true z.1, z.2] at q2
          cases q2
        exact ⟨(by show 1 ≤ sizeLine; decide), fun r hr0 => fin_no k (My.res_halt_row b3 hrow) hG s1 hr0⟩
      · have hw : ns.length % 3 = 0 ∧ (My.thr ns).all My.okT = true := by
          have q3 : (decide (ns.length % 3 = 0) && (My.thr ns).all My.okT) = true := by
            cases e : (decide (ns.length % 3 = 0) && (My.thr ns).all My.okT)
            · rw [e] at q2; cases q2
            · rfl
          rw [Bool.and_eq_true] at q3
          exact ⟨of_decide_eq_true q3.1, q3.2⟩
        have htold := My.toldOf_thr hw.1 hw.2
        have htl := My.thr_len hw.1
        have hall : ∀ y, y ∈ My.thr ns → My.okT y = true := fun y hy => List.all_eq_true.mp hw.2 y hy
        have hokr : ∀ x, x ∈ s.signalled ++ (My.thr ns).map My.toldI → ToldOk x := fun x hx => by
          rcases List.mem_append.mp hx with hx | hx
          · exact hG.ok.told x hx
          · obtain ⟨y, hy, rfl⟩ := List.mem_map.mp hx
            exact (My.okT_told (hall y hy)).1
        have hrl : (s.signalled ++ (My.thr ns).map My.toldI).length ≤ 10000 := by
          rw [List.length_append, List.length_map]
          have := hG.sl
          omega
        have hG1 := hG.same s1
        obtain ⟨ts, hts, hTR⟩ := hG1.hs
        dsimp only [tNext]
        refine ⟨_, rfl, g, A.CG, dx, _, _, rfl, s1 _ _ hg, T.clG, T.g_signalled, gf_signalled G, ?_⟩
        refine tc_of (eva1 (ev_var rfl)) ⟨rw, ns, s1.seq hS, hw.1, by omega, fun r3 H2 s2 hr3 => ?_⟩
        obtain ⟨us, hr3, hUR⟩ := hr3
        refine ⟨G.sg, r3, _, _, rfl, rfl, s2 _ _ hts, hr3, ?_, fun c hc => ?_⟩
        · rw [List.length_map, List.length_map, hTR.len, hUR.len]
          have := hG.sl
          exact Nat.le_of_lt (line_of (by omega))
        have n3 : Same H2 (upd H2 c (.lst (ts.map V.ref ++ us.map V.ref))) := Same.new hc
        have hcT : ToldsAt (upd H2 c (.lst (ts.map V.ref ++ us.map V.ref))) c (s.signalled ++ (My.thr ns).map My.toldI) := by
          refine ⟨ts ++ us, by rw [upd_same, List.map_append], (hTR.imp fun _ _ z => TupAt.same (s2.trans n3) z).append ⟨by rw [List.length_map]; exact hUR.len, fun j a x h1 h2 => ?_⟩⟩
          obtain ⟨y, hy, rfl⟩ := map_get h2
          have h3 := n3 _ _ (hUR.at_ j a y h1 hy)
          obtain ⟨_, e1, e2, e3⟩ := My.okT_told (hall y (List.mem_of_getElem? hy))
          unfold TupAt
          rw [← e1, ← e2, ← e3]
          exact h3
        have s3 := (s1.trans s2).trans n3
        have hcH := (s1.trans s2).free hc
        generalize hrr : s.signalled ++ (My.thr ns).map My.toldI = xs at hokr hrl hcT
        generalize upd H2 c (.lst (ts.map V.ref ++ us.map V.ref)) = H3 at n3 hcT s3 ⊢
        have hG3 := hG.same s3
        refine gn_of ?_
        dsimp only
        refine tm_of (ev_var rfl) (s3 _ _ hg) (gf_no_tells_of_one_out G) (eva1 (ev_var rfl)) ⟨g, c, G, b0, b1, s, st, xs, hG3, hcT, hrl, hokr, fun H4 s4 => ⟨_, rfl, iteB (fun q3 => ?_) (fun q3 => ?_)⟩⟩
        · refine ⟨(by show 1 ≤ sizeLine; decide), fun r hr0 => fin_no k ?_ hG (s3.trans s4) hr0⟩
          exact My.res_halt_out b3 htold hyes (by rw [hrr]; exact q3)
        · have hout : ¬ Kg58.anyOut s (s.signalled ++ (My.thr ns).map My.toldI) = true := by rw [hrr, q3]; decide
          have s34 := s3.trans s4
          have hG4 := hG.same s34
          have hcT4 := ToldsAt.same s4 hcT
          dsimp only [tNext]
          refine tm_of (ev_var rfl) (s34 _ _ hg) (gf_no_boxes_at G) (eva1 (ev_var rfl)) ⟨g, n, G, b0, b1, s, st, hG4, hn1, fun bl c0 c1 H5 s5 hbl0 hbl5 hc0 hc1 _ _ _ _ => ?_⟩
          refine ⟨_, rfl, bl, c, c0, c1, _, _, xs, hbl5, hc0, hc1, ToldsAt.same s5 hcT4, hrl, hokr, fun H6 s6 => ⟨_, rfl, iteB (fun q4 => ?_) (fun q4 => ?_)⟩⟩
          · refine ⟨(by show 1 ≤ sizeLine; decide), fun r hr0 => fin_no k ?_ hG ((s34.trans s5).trans s6) hr0⟩
            refine My.res_halt_many b3 htold hyes hout ?_
            rw [hrr, hn3, My.tooMany_eq]
            exact q4
          · have hmany : ¬ Kg58.tooMany (s.to n) xs = true := by
              rw [My.tooMany_eq]
              have q4' : (decide (12 < (s.to n).a.pens.length + (singles xs 0).length) || decide (12 < (s.to n).b.pens.length + (singles xs 1).length)) = false := q4
              rw [q4']
              decide
            rw [My.res_halt_yes b3 htold hyes hout (by rw [hrr, hn3]; exact hmany), hrr, hn3] at k
            obtain ⟨hf0, hf1⟩ := My.tooMany_no hmany
            have s36 := (s34.trans s5).trans s6
            have hG6 := hG.same s36
            have hcT6 := ToldsAt.same (s5.trans s6) hcT4
            dsimp only [tNext]
            refine tm_of (ev_var rfl) (s36 _ _ hg) (gf_no_pass_to G) (eva1 (ev_var rfl)) ⟨g, n, G, b0, b1, s, st, hG6, hn1, hn2, fun r7 d0 d1 H7 hG7 kp7 hr7 => ?_⟩
            have hcT7 := ToldsAt.keepI kp7 (s36 _ _ hg) hcT6
            have hcr7 : c ≠ r7 := by
              obtain ⟨vs, e, _⟩ := hcT6
              exact ne_of_none e hr7
            obtain ⟨d7, hg7⟩ := hG7.at_
            dsimp only
            refine tm_of (ev_var rfl) hg7 (gf_no_bring _) (eva1 (ev_var rfl)) ⟨g, c, _, d0, d1, s.to n, st, xs, hG7, hcT7, hcr7, hrl, hokr, hf0, hf1, fun e0 e1 sg H8 hG8 kp8 hsg => ?_⟩
            obtain ⟨vs, hc7, hVR⟩ := hcT7
            have hc8 : H8 c = some (.lst (vs.map V.ref)) := kp8 _ _ hc7 (by
              have n1 : c ≠ g := ne_of hc7 hg7 (by intro z; cases z)
              have n2 : c ≠ G.nd := ne_of hc7 hG7.hn (by intro z; cases z)
              have n3 : c ≠ G.mj := ne_of hc7 hG7.hm (by intro z; cases z)
              have n4 : c ≠ G.ou := ne_of hc7 hG7.ho (by intro z; cases z)
              simp [n1, n2, n3, n4, hcr7])
            obtain ⟨d8, hg8⟩ := hG8.at_
            dsimp only
            refine ⟨_, rfl, c, _, rfl, .inl (SqL.of hc8), (by show 1 ≤ sizeLine; decide), fun p hp => ?_⟩
            have sp : Same H8 (upd H8 p (.lst [.int ((vs.map V.ref).length : Int)])) := Same.new hp
            have hG9 := hG8.same sp
            refine tm_of (ev_var rfl) (sp _ _ hg8) (gf_no_both_skaters _) eva_nil ⟨g, _, e0, e1, _, _, hG9, fun r2 H9 s9 hr2 => ?_⟩
            refine ⟨p, r2, _, _, rfl, rfl, s9 _ _ upd_same, hr2, (by show 1 + 2 ≤ sizeLine; decide), fun q hq => ?_⟩
            have s10 := (sp.trans s9).upd (o := .lst ([.int ((vs.map V.ref).length : Int)] ++ [.int (((My.given (s.to n) xs).skaters 0 : Nat) : Int), .int (((My.given (s.to n) xs).skaters 1 : Nat) : Int)])) ((sp.trans s9).free hq)
            have hr7H := s36.free hr7
            have hsgH : H sg = Option.none := by
              cases e : H sg with
              | none => rfl
              | some o =>
                have e6 := s36 _ _ e
                have : sg ≠ g := fun z => by rw [z, hg7] at hsg; cases hsg
                rw [kp7 _ _ e6 (notin1 this)] at hsg
                cases hsg
            have k1 : Keep (ownOf g G) H H7 := Keep.comp (s36.keep (ownOf g G)) kp7 (in1 (.inl ow_g))
            have k2 : Keep (ownOf g G) H H8 := Keep.comp k1 kp8 (in5 (.inl ow_g) (.inr hr7H) (.inl ow_nd) (.inl ow_mj) (.inl ow_ou))
            refine k q _ e0 e1 _ _ (hG8.same s10) ?_ (k2.trans (s10.keep _)) ?_ (own_new (k2.trans ((sp.trans s9).keep _)) hq)
            · rw [upd_same, List.length_map, hVR.len]
              rfl
            · exact in7 (.inl ow_g) (.inr hr7H) (.inl ow_gl) (.inr hsgH) (.inl ow_nd) (.inl ow_mj) (.inl ow_ou)
end
end Ice
namespace Ice
open PySem PySem.Spec PyProof.Rows L2
open Kg58 (Pen Told State Team runs running soonest minus after short ended singles marked cancel parts washed lengthOf minutesOf)
open My (PosL lefts lessAll Tab TabOk NSt StOk ToldOk RepT Good)
section
variable {P : Program} {w : World} {K : PySem.W.Frag} {mg : Str → Option Value} {base : Heap} {A : Ad}
theorem GameAt.goal {H : Hp} {g : Addr} {G : GF} {b0 b1 : Addr} {s : State} {st : NSt} {t : Nat} (h : GameAt A H g G b0 b1 s st) (ht : t < 2) {zs : List V} (hz : zs = [.int ((My.setGoals s t).a.goals : Int), .int ((My.setGoals s t).b.goals : Int)]) :
    GameAt A (upd H G.gl (.lst zs)) g G b0 b1 (My.setGoals s t) st := by
  have keep : ∀ {b : Addr} {o : HO}, H b = some o → b ≠ G.gl → upd H G.gl (.lst zs) b = some o := fun {b o} hb hn => by rw [upd_ne hn]; exact hb
  have ne : ∀ {b : Addr} {o : HO}, H b = some o → (∀ xs, o ≠ .lst xs) → b ≠ G.gl := fun {b o} hb hn => ne_of hb h.hg (hn _)
  obtain ⟨dx, hg⟩ := h.at_
  obtain ⟨ts, hts, hTR⟩ := h.hs
  have e1 : (My.setGoals s t).base = s.base ∧ (My.setGoals s t).time = s.time ∧ (My.setGoals s t).signalled = s.signalled ∧ (My.setGoals s t).a.pens = s.a.pens ∧ (My.setGoals s t).b.pens = s.b.pens := by
    match t, ht with
    | 0, _ => exact ⟨rfl, rfl, rfl, rfl, rfl⟩
    | 1, _ => exact ⟨rfl, rfl, rfl, rfl, rfl⟩
  obtain ⟨e1, e2, e3, e4, e5⟩ := e1
  exact {
    at_ := ⟨dx, keep hg (ne hg (fun _ z => by cases z))⟩
    sk := by rw [e1]; exact h.sk
    tm := by rw [e2]; exact h.tm
    hb := keep h.hb h.dbg
    x0 := by rw [e4]; exact BoxAt.updL h.x0 h.hg h.d0g
    x1 := by rw [e5]; exact BoxAt.updL h.x1 h.hg h.d1g
    hs := by rw [e3]; exact ⟨ts, keep hts h.dgs.symm, hTR.imp fun _ _ z => TupAt.updL z h.hg⟩
    hg := by rw [upd_same, hz]
    hn := keep h.hn (ne h.hn (fun _ z => by cases z))
    hm := keep h.hm (ne h.hm (fun _ z => by cases z))
    ho := keep h.ho (ne h.ho (fun _ z => by cases z))
    d0b := h.d0b
    d0g := h.d0g
    d0s := h.d0s
    d1b := h.d1b
    d1g := h.d1g
    d1s := h.d1s
    dbs := h.dbs
    dbg := h.dbg
    dgs := h.dgs
    dnm := h.dnm
    dno := h.dno
    dmo := h.dmo
    ok := h.ok.setGoals ht
    sl := by rw [e3]; exact h.sl }
theorem GameAt.resign {H : Hp} {g r dx : Addr} {G : GF} {b0 b1 : Addr} {s : State} {st : NSt} {xs : List Told} (h : GameAt A H g G b0 b1 s st) (hg : H g = some (.ins A.CG dx (gf G))) (hr : ToldsAt H r xs) (hl : xs.length ≤ 1000)
    (d0 : b0 ≠ r) (d1 : b1 ≠ r) (db : G.bl ≠ r) (dg : G.gl ≠ r) (hok : Good { s with signalled := xs } st) : GameAt A (upd H g (.ins A.CG dx (gf { G with sg := r }))) g { G with sg := r } b0 b1 { s with signalled := xs } st := by
  have keep : ∀ {b : Addr} {o : HO}, H b = some o → (∀ C dx fs, o ≠ .ins C dx fs) → upd H g (.ins A.CG dx (gf { G with sg := r })) b = some o := fun {b o} hb hn => by rw [upd_ne (ne_of hb hg (hn _ _ _))]; exact hb
  exact {
    at_ := ⟨dx, upd_same⟩
    sk := h.sk
    tm := h.tm
    hb := keep h.hb (fun _ _ _ z => by cases z)
    x0 := BoxAt.updI h.x0 hg
    x1 := BoxAt.updI h.x1 hg
    hs := ToldsAt.updI hr hg
    hg := keep h.hg (fun _ _ _ z => by cases z)
    hn := keep h.hn (fun _ _ _ z => by cases z)
    hm := keep h.hm (fun _ _ _ z => by cases z)
    ho := keep h.ho (fun _ _ _ z => by cases z)
    d0b := h.d0b
    d0g := h.d0g
    d0s := d0
    d1b := h.d1b
    d1g := h.d1g
    d1s := d1
    dbs := db
    dbg := h.dbg
    dgs := dg
    dnm := h.dnm
    dno := h.dno
    dmo := h.dmo
    ok := hok
    sl := hl }
theorem ok_goal {f f1 f2 f3 f4 f5 f6 f7 : Addr} {fd fd1 fd2 fd3 fd4 fd5 fd6 fd7 : FuncData} (F : Fun K "goal" "Game.goal" s_Game_goal f fd) (T : Txt K mg A)
    (D_Game_may_be : MDef K A.CG "may_be" "Game.may_be" s_Game_may_be ["self", "time"] f1 fd1) (G_Game_may_be : FnOk P w K mg base CX0 1 f1 fd1 ["self", "time"] (spMayBe A))
    (D_Game_pass_to : MDef K A.CG "pass_to" "Game.pass_to" s_Game_pass_to ["self", "time"] f2 fd2) (G_Game_pass_to : FnOk P w K mg base CX0 7 f2 fd2 ["self", "time"] (spPass A))
    (D_Game_strength : MDef K A.CG "strength" "Game.strength" s_Game_strength ["self", "team"] f3 fd3) (G_Game_strength : FnOk P w K mg base CX0 4 f3 fd3 ["self", "team"] (spStrength A))
    (D_Game_end_minor : MDef K A.CG "end_minor" "Game.end_minor" s_Game_end_minor ["self", "team"] f4 fd4) (G_Game_end_minor : FnOk P w K mg base CX0 3 f4 fd4 ["self", "team"] (spEnd A))
    (D_without_first_minor : Def K mg "without_first_minor" s_without_first_minor ["signalled", "team"] f5 fd5) (G_without_first_minor : FnOk P w K mg base CX0 1 f5 fd5 ["signalled", "team"] spWash)
    (D_Game_bring : MDef K A.CG "bring" "Game.bring" s_Game_bring ["self", "coming"] f6 fd6) (G_Game_bring : FnOk P w K mg base CX0 4 f6 fd6 ["self", "coming"] (spBring A))
    (D_Game_both_skaters : MDef K A.CG "both_skaters" "Game.both_skaters" s_Game_both_skaters ["self"] f7 fd7) (G_Game_both_skaters : FnOk P w K mg base CX0 3 f7 fd7 ["self"] (spBoth A)) :
    FnOk P w K mg base CX0 8 f fd ["self", "time", "team"] (spGoal A) := by
  refine F.ok sc_Game_goal (fun vs H Q E h => ?_) (fun cdv Ar outer s H vs Q E hr h => ?_)
  · obtain ⟨g, z, t, G, b0, b1, s, st, _⟩ := h
    rfl
  · obtain ⟨g, z, t, G, b0, b1, s, st, hG, k⟩ := h
    have nd := sc_Game_goal.nd
    refine ⟨_, (pss_cons (ps_if (PW.pt (pw_or (pt_not (pt_val (pe_meth (pv 0) T.clG D_Game_may_be.me G_Game_may_be (hr.mono (by decide)) D_Game_may_be.b .nil pass0 (pa_cons (pv 1) pa_nil)))) (pw_or1 (pt_cmpR op_notIn_seq (pv 2) (gt T.TEAMS) (by with_unfolding_all rfl)))))
      (pss_one (ps_ret (pe_lst (pa_cons (gi T.WRONG) pa_nil))))
      pss_nil)
    (pss_cons (ps_expr (pe_meth (pv 0) T.clG D_Game_pass_to.me G_Game_pass_to (hr.mono (by decide)) D_Game_pass_to.b .nil pass0 (pa_cons (pv 1) pa_nil)))
    (pss_cons (ps_augS (pe_fld (pv 0) rfl) (pv 2) get_list pe_int ip_add set_list)
    (pss_cons (ps_set (i := 3) nd rfl (Or.inl rfl) (pe_meth (pv 0) T.clG D_Game_strength.me G_Game_strength (hr.mono (by decide)) D_Game_strength.b .nil pass0 (pa_cons (pv 2) pa_nil)))
    (pss_cons (ps_set (i := 4) nd rfl (Or.inl rfl) (pe_ifExp (pt_cmpR op_eq (pv 3) pe_int (nomark _)) (pe_meth (pv 0) T.clG D_Game_end_minor.me G_Game_end_minor (hr.mono (by decide)) D_Game_end_minor.b .nil pass0 (pa_cons (pe_op op_sub pe_int (pv 2)) pa_nil)) (gi T.NOBODY)))
    (pss_cons (ps_if (pt_cmpR op_eq (pv 4) (gi T.NOBODY) (nomark _))
      (pss_one (ps_fld (pv 0) (pe_call G_without_first_minor (hr.mono (by decide)) rfl D_without_first_minor.mg D_without_first_minor.fn.kp D_without_first_minor.b .nil pass0 (pa_cons (pe_fld (pv 0) rfl) (pa_cons (pe_op op_sub pe_int (pv 2)) pa_nil))) rfl))
      pss_nil)
    (pss_cons (ps_expr (pe_meth (pv 0) T.clG D_Game_bring.me G_Game_bring (hr.mono (by decide)) D_Game_bring.b .nil pass0 (pa_cons (pe_fld (pv 0) rfl) pa_nil)))
    (pss_one (ps_ret (pe_op op_cat (pe_lst (pa_cons (pv 3) (pa_cons (pv 4) pa_nil))) (pe_meth0 (pv 0) T.clG D_Game_both_skaters.me G_Game_both_skaters (hr.mono (by decide)) D_Game_both_skaters.b .nil pass0))))))))))), ?_⟩
    obtain ⟨dx, hg⟩ := hG.at_
    have b3 := hG.ok.base3
    refine tm_of (ev_var rfl) hg (gf_no_may_be G) (eva1 (ev_var rfl)) ⟨g, z, G, b0, b1, s, st, hG, _, rfl, iteB (fun q => ?_) (fun q => ?_)⟩
    · have hno : Kg58.okTime s z = false := by
        cases e : Kg58.okTime s z
        · rfl
        · rw [e] at q; cases q
      exact iteT ⟨(by show 1 ≤ sizeLine; decide), fun r hr0 => fin_no k (My.res_goal_no b3 (by rw [hno]; rfl)) hG (Same.refl _) hr0⟩
    · have hyes : Kg58.okTime s z = true := by
        cases e : Kg58.okTime s z
        · rw [e] at q; cases q
        · rfl
      refine tt_of (et_t (ev_notin (ev_var rfl) ev_c (.inr (T.sqTEAMS _)) rfl rfl)) (iteB (fun q2 => ?_) (fun q2 => ?_))
      · rw [inV01] at q2
        have hno : Kg58.within t 0 1 = false := by
          cases e : Kg58.within t 0 1
          · rfl
          · rw [e] at q2; cases q2
        exact ⟨(by show 1 ≤ sizeLine; decide), fun r hr0 => fin_no k (My.res_goal_no b3 (by rw [hno, Bool.and_false])) hG (Same.refl _) hr0⟩
      · rw [inV01] at q2
        have hin : Kg58.within t 0 1 = true := by
          cases e : Kg58.within t 0 1
          · rw [e] at q2; cases q2
          · rfl
        obtain ⟨n, hn1, hn2, rfl, hn3⟩ := My.okTime_yes (s := s) (z := z) (by rw [hyes]; decide)
        obtain ⟨m, hm1, rfl, hm3⟩ := My.within01 (t := t) (by rw [hin]; decide)
        have hcond : ¬ (Kg58.okTime s (n : Int) && Kg58.within (m : Int) 0 1) = false := by rw [hyes, hin]; decide
        dsimp only [tNext]
        refine tm_of (ev_var rfl) hg (gf_no_pass_to G) (eva1 (ev_var rfl)) ⟨g, n, G, b0, b1, s, st, hG, hn1, hn2, fun bl c0 c1 H1 hG1 kp1 hbl => ?_⟩
        have k' := fun {u : State} {o : Option Nat} (e : (s.to n).goal m = (u, o)) => My.res_goal_yes b3 hcond hn3 hm3 e
        have kpH1 : Keep (ownOf g G) H H1 := Keep.mono kp1 (by unfold ownOf; simp)
        generalize hG' : ({ G with bl := bl, time := (n : Int) } : GF) = G1 at hG1
        have own1 : ∀ a, a ∈ ownOf g G1 → a ∈ ownOf g G ∨ H a = Option.none := by rw [← hG']; exact own_time hbl
        generalize hs1 : s.to n = s1 at hG1 k'
        clear hcond kp1 hbl hG' hs1
        obtain ⟨d1, hg1⟩ := hG1.at_
        dsimp only
        have agl : atI [V.int (s1.a.goals : Int), V.int (s1.b.goals : Int)] (m : Int) = some (.int ((s1.team m).goals : Int)) := by
          match m, hm1 with
          | 0, _ => rfl
          | 1, _ => rfl
        refine ⟨_, rfl, g, A.CG, d1, _, _, rfl, hg1, T.clG, T.g_goals, gf_goals G1, _, rfl, G1.gl, _, _, _, rfl, rfl, SqL.of hG1.hg, agl, _, _, rfl, rfl, G1.gl, _, _, m, rfl, rfl, hG1.hg, ixN_nat hm1, ?_⟩
        have hz : [V.int (s1.a.goals : Int), V.int (s1.b.goals : Int)].set m (.int (((s1.team m).goals : Int) + 1)) = [.int ((My.setGoals s1 m).a.goals : Int), .int ((My.setGoals s1 m).b.goals : Int)] := by
          match m, hm1 with
          | 0, _ => rfl
          | 1, _ => rfl
        have hG2 := hG1.goal hm1 hz
        have kp2 : Keep (ownOf g G) H (upd H1 G1.gl (.lst ([V.int (s1.a.goals : Int), V.int (s1.b.goals : Int)].set m (.int (((s1.team m).goals : Int) + 1))))) := kpH1.upd (own1 _ ow_gl)
        generalize upd H1 G1.gl (.lst ([V.int (s1.a.goals : Int), V.int (s1.b.goals : Int)].set m (.int (((s1.team m).goals : Int) + 1)))) = H2 at hG2 kp2 ⊢
        have hstr := My.strI_goals s1 hm1
        have hteam : ((My.setGoals s1 m).team (1 - m)).pens = (s1.team (1 - m)).pens ∧ (My.setGoals s1 m).signalled = s1.signalled := by
          match m, hm1 with
          | 0, _ => exact ⟨rfl, rfl⟩
          | 1, _ => exact ⟨rfl, rfl⟩
        obtain ⟨d2, hg2⟩ := hG2.at_
        dsimp only
        refine tm_of (ev_var rfl) hg2 (gf_no_strength _) (eva1 (ev_var rfl)) ⟨g, m, G1, c0, c1, My.setGoals s1 m, st, hG2, hm1, fun H3 s3 => ?_⟩
        rw [hstr]
        have hG3 := hG2.same s3
        have hg3 := s3 _ _ hg2
        have kp3 := kp2.trans (s3.keep _)
        refine gn_of ?_
        dsimp only
        have e1m : (1 : Int) - (m : Int) = ((1 - m : Nat) : Int) := by omega
        have last : ∀ (G4 : GF) (e0 e1 : Addr) (s4 : State) (st4 : NSt) (H4 : Hp) (o : Option Nat), GameAt A H4 g G4 e0 e1 s4 st4 → Keep (ownOf g G) H H4 → (∀ a, a ∈ ownOf g G4 → a ∈ ownOf g G ∨ H a = Option.none) →
            s1.goal m = (My.given s4 s4.signalled, o) →
            (tSeq (tDrop (tMeth A.CG "bring" (spBring A) [] E0 (tVar 0) (tCons (tFld K (tVar 0) "signalled") tNil)))
              (tRet (tOp rCat (tLst (tCons (tVar 3) (tCons (tVar 4) tNil))) (tMeth A.CG "both_skaters" (spBoth A) [] E0 (tVar 0) tNil))))
              { nx := fun _ H' => Q .non H', rt := Q } [some (.ref g), some (.int (n : Int)), some (.int (m : Int)), some (.int (My.strI s1 m)), some (.int (My.whoI o))] H4 := by
          intro G4 e0 e1 s4 st4 H4 o hG4 kp4 own4 hgo
          obtain ⟨d4, hg4⟩ := hG4.at_
          have hsl := hG4.sl
          refine tm_of (ev_var rfl) hg4 (gf_no_bring _) (eva1 (ev_fld (ev_var rfl) hg4 T.clG T.g_signalled (gf_signalled G4))) ⟨g, G4.sg, G4, e0, e1, s4, st4, s4.signalled, hG4, hG4.hs, hG4.dbs.symm, by omega, hG4.ok.told, hG4.ok.fewA, hG4.ok.fewB, fun x0 x1 sg H5 hG5 kp5 hsg => ?_⟩
          obtain ⟨d5, hg5⟩ := hG5.at_
          dsimp only
          refine ⟨_, rfl, _, rfl, (by show 2 ≤ sizeLine; decide), fun p hp => ?_⟩
          have sp : Same H5 (upd H5 p (.lst [.int (My.strI s1 m), .int (My.whoI o)])) := Same.new hp
          have hG6 := hG5.same sp
          refine tm_of (ev_var rfl) (sp _ _ hg5) (gf_no_both_skaters _) eva_nil ⟨g, _, x0, x1, _, _, hG6, fun r2 H7 s7 hr2 => ?_⟩
          refine ⟨p, r2, _, _, rfl, rfl, s7 _ _ upd_same, hr2, (by show 2 + 2 ≤ sizeLine; decide), fun q hq => ?_⟩
          have s8 := (sp.trans s7).upd (o := .lst ([.int (My.strI s1 m), .int (My.whoI o)] ++ [.int (((My.given s4 s4.signalled).skaters 0 : Nat) : Int), .int (((My.given s4 s4.signalled).skaters 1 : Nat) : Int)])) ((sp.trans s7).free hq)
          have hsgH := own_new kp4 hsg
          rw [k' hgo] at k
          have k5 : Keep (ownOf g G) H H5 := Keep.comp kp4 kp5 (in5 (own4 _ ow_g) (own4 _ ow_bl) (own4 _ ow_nd) (own4 _ ow_mj) (own4 _ ow_ou))
          refine k q _ x0 x1 _ _ (hG5.same s8) upd_same (k5.trans (s8.keep _)) ?_ (own_new (k5.trans ((sp.trans s7).keep _)) hq)
          · exact in7 (own4 _ ow_g) (own4 _ ow_bl) (own4 _ ow_gl) hsgH (own4 _ ow_nd) (own4 _ ow_mj) (own4 _ ow_ou)
        have wash : ∀ (H4 : Hp), Same H3 H4 → My.endsAt s1 m = none →
            (tSeq (tIfS (tTest (tOp rEq (tVar 4) (tC (.int (-1))))) (sFld K (tVar 0) (tCall spWash [] E0 (tCons (tFld K (tVar 0) "signalled") (tCons (tOp (rI0 fun i j => .int (i - j)) (tC (.int 1)) (tVar 2)) tNil))) "signalled") tNext)
              (tSeq (tDrop (tMeth A.CG "bring" (spBring A) [] E0 (tVar 0) (tCons (tFld K (tVar 0) "signalled") tNil)))
                (tRet (tOp rCat (tLst (tCons (tVar 3) (tCons (tVar 4) tNil))) (tMeth A.CG "both_skaters" (spBoth A) [] E0 (tVar 0) tNil)))))
              { nx := fun _ H' => Q .non H', rt := Q } [some (.ref g), some (.int (n : Int)), some (.int (m : Int)), some (.int (My.strI s1 m)), some (.int (-1))] H4 := by
          intro H4 s4 hend
          have hG4 := hG3.same s4
          have hg4 := s4 _ _ hg3
          have kp4 := kp3.trans (s4.keep _)
          refine st_if (et_t (ev_eqI (ev_var rfl) ev_c)) (fun _ => ?_) (fun z => absurd z (by decide))
          have hsl := hG4.sl
          refine tc_of (xs := [.ref G1.sg, .int ((1 - m : Nat) : Int)]) ?_ ⟨G1.sg, 1 - m, (My.setGoals s1 m).signalled, hG4.hs, by omega, fun r H5 s5 hr5 hT5 => ?_⟩
          · rw [← e1m]
            exact eva_cons (ev_fld (ev_var rfl) hg4 T.clG T.g_signalled (gf_signalled G1)) (eva1 (ev_i ev_c (ev_var rfl)))
          have hG5 := hG4.same s5
          have hg5 := s5 _ _ hg4
          refine ⟨_, rfl, g, A.CG, d2, _, rfl, hg5, T.clG, T.g_signalled, gf_len G1, ?_⟩
          rw [gf_put_signalled]
          have pick : ∀ {b : Addr} {o : HO}, b ≠ G1.sg → H4 b = some o → b ≠ r := fun {b o} h1 h2 => by
            rcases hr5 with rfl | h3
            · exact h1
            · exact ne_of_none h2 h3
          obtain ⟨a0, ha0, _⟩ := hG4.x0
          obtain ⟨a1, ha1, _⟩ := hG4.x1
          have hG6 := GameAt.resign hG5 hg5 hT5 (Nat.le_trans (My.washed_length _ _) hG4.sl) (pick hG4.d0s ha0) (pick hG4.d1s ha1) (pick hG4.dbs hG4.hb) (pick hG4.dgs hG4.hg) (hG4.ok.washed (1 - m))
          have kp5 := kp4.trans (s5.keep _)
          refine last _ c0 c1 _ st _ none hG6 (kp5.upd (own1 _ ow_g)) ?_ ?_
          · refine in7 (own1 _ ow_g) (own1 _ ow_bl) (own1 _ ow_gl) ?_ (own1 _ ow_nd) (own1 _ ow_mj) (own1 _ ow_ou)
            rcases hr5 with rfl | h3
            · exact own1 _ ow_sg
            · exact own_new kp4 h3
          · rw [My.goal_none hm1 hend, hteam.2]
            rfl
        refine st_set_if (et_t (ev_eqI (ev_var rfl) ev_c)) (fun q => ?_) (fun q => ?_)
        · have hone : My.strI s1 m = 1 := of_decide_eq_true q
          have hea := My.endsAt_one hone
          refine tm_of (xs := [.int ((1 - m : Nat) : Int)]) (ev_var rfl) hg3 (gf_no_end_minor _) ?_ ⟨g, 1 - m, G1, c0, c1, My.setGoals s1 m, st, hG3, by omega, fun hnone H4 s4 => ?_, fun i p hi hp x0 x1 H4 hG4 kp4 => ?_⟩
          · rw [← e1m]
            exact eva1 (ev_i ev_c (ev_var rfl))
          · rw [hteam.1] at hnone
            exact wash H4 s4 (hea.trans hnone)
          · rw [hteam.1] at hi hp hG4
            have hne : decide (((p.player : Nat) : Int) = -1) = false := decide_eq_false (by omega)
            refine st_if (et_t (ev_eqI (ev_var rfl) ev_c)) (fun z => absurd (hne.symm.trans z) (by decide)) (fun _ => ?_)
            dsimp only [tNext]
            refine last G1 x0 x1 _ st H4 (some p.player) hG4 (Keep.comp kp3 kp4 (in1 (own1 _ ow_bl))) own1 ?_
            · rw [My.goal_some hm1 (hea.trans hi) hp]
              have : (My.setPens (My.setGoals s1 m) (1 - m) ((s1.team (1 - m)).pens.eraseIdx i)).signalled = s1.signalled := by
                match m, hm1 with
                | 0, _ => rfl
                | 1, _ => rfl
              rw [this]
        · have hnot : ¬ My.strI s1 m = 1 := of_decide_eq_false q
          exact wash H3 (Same.refl _) (My.endsAt_not hnot)
end
end Ice
namespace Ice
open PySem PySem.Spec PyProof.Rows L2
open Kg58 (Pen Told State Team runs running soonest minus after short ended singles marked cancel parts washed lengthOf minutesOf)
open My (PosL lefts lessAll Tab TabOk NSt StOk ToldOk RepT Good)
inductive spBoxI (A : Ad) (H : Hp) (Q : VK) : List V → Prop
  | mk (g : Addr) (t : Nat) (G : GF) (b0 b1 : Addr) (s : State) (st : NSt) (h0 : GameAt A H g G b0 b1 s st) (h1 : t < 2) (h2 : Fin A H g G (s, My.boxAns (s.team t).pens) Q) : spBoxI A H Q [.ref g, .int t]
def spBox (A : Ad) : Sp := fun vs H Q _ => spBoxI A H Q vs
inductive spTillI (A : Ad) (H : Hp) (Q : VK) : List V → Prop
  | mk (g : Addr) (t : Nat) (G : GF) (b0 b1 : Addr) (s : State) (st : NSt) (h0 : GameAt A H g G b0 b1 s st) (h1 : t < 2) (h2 : Fin A H g G (s, My.tillAns s (s.team t).pens) Q) : spTillI A H Q [.ref g, .int t]
def spTill (A : Ad) : Sp := fun vs H Q _ => spTillI A H Q vs
inductive spMinutesI (A : Ad) (H : Hp) (Q : VK) : List V → Prop
  | mk (g : Addr) (t : Nat) (G : GF) (b0 b1 : Addr) (s : State) (st : NSt) (h0 : GameAt A H g G b0 b1 s st) (h1 : t < 2) (h2 : Fin A H g G (s, My.minAns (s.team t)) Q) : spMinutesI A H Q [.ref g, .int t]
def spMinutes (A : Ad) : Sp := fun vs H Q _ => spMinutesI A H Q vs
section
variable {P : Program} {w : World} {K : PySem.W.Frag} {mg : Str → Option Value} {base : Heap} {A : Ad}
theorem truth_int (b : Bool) : (if b = true then 1 else 0 : Int) = ((Kg58.truth b : Nat) : Int) := by
  cases b <;> rfl
theorem fin_same {H H' : Hp} {g r : Addr} {G : GF} {b0 b1 : Addr} {s : State} {st : NSt} {l : List Int} {Q : VK} (k : Fin A H g G (s, l) Q) (hG : GameAt A H g G b0 b1 s st) (sm : Same H H') (hr : H' r = some (.lst (l.map V.int))) (hr0 : H r = Option.none) : Q (.ref r) H' :=
  k r G b0 b1 st H' (hG.same sm) hr (sm.keep _) (fun a h => .inl h) (.inr hr0)
theorem same_keep {H H' H'' : Hp} {a : Addr} (s : Same H H') (k : Keep [a] H' H'') (h : H a = Option.none) : Same H H'' := fun b o e => k _ _ (s _ _ e) (by
  intro q
  have : b = a := List.mem_singleton.mp q
  rw [this, h] at e
  cases e)
theorem team_box {H : Hp} {g : Addr} {G : GF} {b0 b1 : Addr} {s : State} {st : NSt} {t : Nat} (hG : GameAt A H g G b0 b1 s st) (ht : t < 2) :
    ∃ bt, atI [V.ref b0, V.ref b1] (t : Int) = some (.ref bt) ∧ BoxAt A.CP H bt (s.team t).pens ∧ (s.team t).pens.length ≤ 12 ∧ PosL (s.team t).pens := by
  have fA := hG.ok.fewA
  have fB := hG.ok.fewB
  match t, ht with
  | 0, _ => exact ⟨b0, rfl, hG.x0, by show s.a.pens.length ≤ 12; omega, hG.ok.posA⟩
  | 1, _ => exact ⟨b1, rfl, hG.x1, by show s.b.pens.length ≤ 12; omega, hG.ok.posB⟩
theorem whole_app (l m : List Nat) : Kg58.whole (l ++ m) = Kg58.whole l ++ Kg58.whole m := by
  unfold Kg58.whole
  rw [List.map_append]
theorem flat_len {α : Type} {f : α → List Nat} {c : Nat} (h : ∀ x, (f x).length = c) : ∀ l : List α, (l.flatMap f).length = c * l.length
  | [] => rfl
  | x :: l => by
    rw [List.flatMap_cons, List.length_append, h, flat_len h l, List.length_cons, Nat.mul_succ, Nat.add_comm]
theorem whole_len (l : List Nat) : (Kg58.whole l).length = l.length := List.length_map _
inductive ExtI (an : Addr) (H2 : Hp) (out : Nat → List Int) (q0 q1 q2 q3 : Option V) (tl : L2.St) (j : Nat) (H' : Hp) : L2.St → Prop
  | mk (v4 v5 : Option V) (kp : Keep [an] H2 H') (h : H' an = some (.lst ((out j).map V.int))) : ExtI an H2 out q0 q1 q2 q3 tl j H' (q0 :: q1 :: q2 :: q3 :: v4 :: v5 :: tl)
theorem ok_box {f fR : Addr} {fd fdR : FuncData} (F : Fun K "box" "Game.box" s_Game_box f fd) (T : Txt K mg A)
    (D_running : Def K mg "running" s_running ["box"] fR fdR) (G_running : FnOk P w K mg base CX0 1 fR fdR ["box"] (spRun A.CP)) : FnOk P w K mg base CX0 2 f fd ["self", "team"] (spBox A) := by
  refine F.ok sc_Game_box (fun vs H Q E h => ?_) (fun cdv Ar outer s H vs Q E hr h => ?_)
  · obtain ⟨g, t, G, b0, b1, s, st, _⟩ := h
    rfl
  · obtain ⟨g, t, G, b0, b1, s, st, hG, ht, k⟩ := h
    have nd := sc_Game_box.nd
    refine ⟨_, (pss_cons (ps_set (i := 2) nd rfl (Or.inl rfl) (pe_ix ix_list (pe_fld (pv 0) rfl) (pv 1) (fun _ _ => rfl)))
    (pss_cons (ps_set (i := 3) nd rfl (Or.inl rfl) (pe_lst (pa_cons (pe_callB call_len_seq (by rfl) T.len_ bt_len (pa_cons (pv 2) pa_nil)) pa_nil)))
    (pss_cons (ps_for PassesOwn.never rfl (pi_zip rfl T.zip_ (pa_cons (pv 2) (pa_cons (pe_call G_running (hr.mono (by decide)) rfl D_running.mg D_running.fn.kp D_running.b .nil pass0 (pa_cons (pv 2) pa_nil)) pa_nil))) (pg_tup rfl (pgs_cons (pg_name (i := 4) nd rfl (Or.inl rfl)) (pgs_cons (pg_name (i := 5) nd rfl (Or.inl rfl)) pgs_nil)))
      (pss_one (ps_expr (pe_bm PySem.F.plainAttrs_list PySem.F.slot_list_extend PySem.F.type_list_extend mt_extend (pv 3) (pa_cons (pe_lst (pa_cons (pe_fld (pv 4) rfl) (pa_cons (pe_fld (pv 4) rfl) (pa_cons (pe_fld (pv 4) rfl) (pa_cons (pe_callTy call_int1 (by rfl) T.int_ bt_int (pa_cons (pe_fld (pv 4) rfl) pa_nil)) (pa_cons (pe_callTy call_int1 (by rfl) T.int_ bt_int (pa_cons (pv 5) pa_nil)) pa_nil)))))) pa_nil)))))
    (pss_one (ps_ret (pv 3)))))), ?_⟩
    obtain ⟨dx, hg⟩ := hG.at_
    obtain ⟨bt, a1, hBt, hlen, _⟩ := team_box hG ht
    generalize (s.team t).pens = ps at hBt hlen k
    refine st_set (ev_ixL (ev_fld (ev_var rfl) hg T.clG T.g_boxes (gf_boxes G)) (ev_var rfl) (SqL.of hG.hb) a1) ?_
    obtain ⟨as, hb, hR⟩ := hBt
    have hal : (as.map V.ref).length = ps.length := by rw [List.length_map, hR.len]
    dsimp only
    refine ⟨_, rfl, bt, _, rfl, .inl (SqL.of hb), (by show 1 ≤ sizeLine; decide), fun an han => ?_⟩
    have s1 : Same H (upd H an (.lst [.int ((as.map V.ref).length : Int)])) := Same.new han
    have han1 : upd H an (.lst [.int ((as.map V.ref).length : Int)]) an = some (.lst [.int ((as.map V.ref).length : Int)]) := upd_same
    generalize upd H an (.lst [.int ((as.map V.ref).length : Int)]) = H1 at s1 han1 ⊢
    refine gn_of ?_
    refine ⟨_, rfl, ?_⟩
    refine tc_of (eva1 (ev_var rfl)) ⟨bt, ps, ⟨as, s1 _ _ hb, hR.imp fun _ _ => PenAt.same s1⟩, by omega, fun rn H2 s2 hrn => ?_⟩
    have s12 := s1.trans s2
    have han2 := s2 _ _ han1
    have hb2 := s12 _ _ hb
    have dab : bt ≠ an := ne_of_none hb han
    have dar : rn ≠ an := ne_of hrn han2 (by
      intro z
      have := HO.lst.inj z
      cases e : runs [] 0 ps with
      | nil => rw [e] at this; cases this
      | cons x l => rw [e] at this; cases this)
    have hrl : ((runs [] 0 ps).map V.bl).length = ps.length := by rw [List.length_map, My.runs_length]
    refine ⟨bt, rn, _, _, rfl, SqL.of hb2, SqL.of hrn, for_itN (n := ps.length) (fun j σ H' => ExtI an H2 (fun j => ((running ps).length : Int) :: Kg58.whole (((running ps).take j).flatMap fun x => [x.1.player, x.1.kind, x.1.left, Kg58.truth x.1.counts, Kg58.truth x.2])) _ _ _ _ [] j H' σ) ⟨none, none, (Same.refl H2).keep _, ?_⟩ ?_ ?_ ?_ ?_⟩
    · rw [han2, hal, My.running_length]
      rfl
    · rintro j σ H3 hj ⟨_, _, kp, _⟩
      exact ⟨_, _, _, _, SqL.of (kp _ _ hb2 (notin1 dab)), SqL.of (kp _ _ hrn (notin1 dar)), List.getElem?_eq_getElem (show j < (as.map V.ref).length by omega), List.getElem?_eq_getElem (show j < ((runs [] 0 ps).map V.bl).length by omega)⟩
    · rintro σ H3 ⟨_, _, kp, _⟩
      exact ⟨_, _, SqL.of (kp _ _ hb2 (notin1 dab)), SqL.of (kp _ _ hrn (notin1 dar)), .inl (by omega)⟩
    · intro D j σ H3 x H4 hD hj hI hY
      refine hideN fun N hN => ?_
      obtain ⟨v4, v5, kp, han3⟩ := hI
      obtain ⟨Tp, x1, x2, rfl, hT, rfl, hx1, hx2⟩ := hY
      obtain ⟨a, ha, rfl⟩ := map_get (hx1 _ (SqL.of (kp _ _ hb2 (notin1 dab))))
      obtain ⟨b, hbb, rfl⟩ := map_get (hx2 _ (SqL.of (kp _ _ hrn (notin1 dar))))
      obtain ⟨p, hp, dy, ey⟩ := hR.getA ha
      have sT : Same H3 (upd H3 Tp (.tup [.ref a, .bl b])) := Same.new hT
      have ey2 := s12 _ _ ey
      have ey4 := sT _ _ (kp _ _ ey2 (notin1 (ne_of ey2 han2 (by intro z; cases z))))
      have hpb := My.running_get hp hbb
      refine ⟨Tp, _, rfl, SqT.of upd_same, rfl, _, _, rfl, _, _, rfl, rfl, ?_⟩
      subst hN
      refine st_extend (ev_var rfl) (sT _ _ han3) (eva_cons (ev_fld (ev_var rfl) ey4 T.clP T.p_player (pf_player p)) (eva_cons (ev_fld (ev_var rfl) ey4 T.clP T.p_kind (pf_kind p)) (eva_cons (ev_fld (ev_var rfl) ey4 T.clP T.p_left (pf_left p))
        (eva_cons (ev_int1 (eva1 (ev_fld (ev_var rfl) ey4 T.clP T.p_counts (pf_counts p)))) (eva1 (ev_int1 (eva1 (ev_var rfl)))))))) ?_ (fun lx hlx => ?_)
      · rw [List.length_map, List.length_cons, whole_len, flat_len (c := 5) (fun _ => rfl), List.length_take, My.running_length]
        exact Nat.le_of_lt (line_of (by show 5 * min j ps.length + 1 + 5 ≤ 1000000; omega))
      · refine hD _ _ ⟨_, _, ?_, ?_⟩
        · refine Keep.upd ?_ (.inl List.mem_cons_self)
          exact (kp.trans (sT.keep _)).trans ((Same.new hlx).keep _)
        · rw [upd_same, My.take_snoc hpb, List.flatMap_append, whole_app, truth_int, truth_int]
          rw [← List.cons_append, List.map_append]
          rfl
    · rintro σ H3 ⟨v4, v5, kp, han3⟩
      dsimp only
      refine st_ret (ev_var rfl) ?_
      rw [List.take_of_length_le (by rw [My.running_length]; exact Nat.le_refl _)] at han3
      exact fin_same k hG (same_keep s12 kp han) han3 han
theorem ok_till {f fR : Addr} {fd fdR : FuncData} (F : Fun K "till" "Game.till" s_Game_till f fd) (T : Txt K mg A)
    (D_times_over : Def K mg "times_over" s_times_over ["box", "time"] fR fdR) (G_times_over : FnOk P w K mg base CX0 5 fR fdR ["box", "time"] (spTimes A.CP)) : FnOk P w K mg base CX0 6 f fd ["self", "team"] (spTill A) := by
  refine F.ok sc_Game_till (fun vs H Q E h => ?_) (fun cdv Ar outer s H vs Q E hr h => ?_)
  · obtain ⟨g, t, G, b0, b1, s, st, _⟩ := h
    rfl
  · obtain ⟨g, t, G, b0, b1, s, st, hG, ht, k⟩ := h
    have nd := sc_Game_till.nd
    refine ⟨_, (pss_cons (ps_set (i := 2) nd rfl (Or.inl rfl) (pe_ix ix_list (pe_fld (pv 0) rfl) (pv 1) (fun _ _ => rfl)))
    (pss_cons (ps_set (i := 3) nd rfl (Or.inl rfl) (pe_lst (pa_cons (pe_callB call_len_seq (by rfl) T.len_ bt_len (pa_cons (pv 2) pa_nil)) pa_nil)))
    (pss_cons (ps_for PassesOwn.never rfl (pi_zip rfl T.zip_ (pa_cons (pv 2) (pa_cons (pe_call G_times_over (hr.mono (by decide)) rfl D_times_over.mg D_times_over.fn.kp D_times_over.b .nil pass0 (pa_cons (pv 2) (pa_cons (pe_fld (pv 0) rfl) pa_nil))) pa_nil))) (pg_tup rfl (pgs_cons (pg_name (i := 4) nd rfl (Or.inl rfl)) (pgs_cons (pg_name (i := 5) nd rfl (Or.inl rfl)) pgs_nil)))
      (pss_one (ps_expr (pe_bm PySem.F.plainAttrs_list PySem.F.slot_list_extend PySem.F.type_list_extend mt_extend (pv 3) (pa_cons (pe_lst (pa_cons (pe_fld (pv 4) rfl) (pa_cons (pv 5) pa_nil))) pa_nil)))))
    (pss_one (ps_ret (pv 3)))))), ?_⟩
    obtain ⟨dx, hg⟩ := hG.at_
    obtain ⟨bt, a1, hBt, hlen, hpos⟩ := team_box hG ht
    generalize (s.team t).pens = ps at hBt hlen k hpos
    refine st_set (ev_ixL (ev_fld (ev_var rfl) hg T.clG T.g_boxes (gf_boxes G)) (ev_var rfl) (SqL.of hG.hb) a1) ?_
    obtain ⟨as, hb, hR⟩ := hBt
    have hal : (as.map V.ref).length = ps.length := by rw [List.length_map, hR.len]
    dsimp only
    refine ⟨_, rfl, bt, _, rfl, .inl (SqL.of hb), (by show 1 ≤ sizeLine; decide), fun an han => ?_⟩
    have s1 : Same H (upd H an (.lst [.int ((as.map V.ref).length : Int)])) := Same.new han
    have han1 : upd H an (.lst [.int ((as.map V.ref).length : Int)]) an = some (.lst [.int ((as.map V.ref).length : Int)]) := upd_same
    generalize upd H an (.lst [.int ((as.map V.ref).length : Int)]) = H1 at s1 han1 ⊢
    refine gn_of ?_
    refine ⟨_, rfl, ?_⟩
    refine tc_of (eva_cons (ev_var rfl) (eva1 (ev_fld (ev_var rfl) (s1 _ _ hg) T.clG T.g_time (gf_time G)))) (sp_eq (vs' := [.ref bt, .int s.time]) (by rw [hG.tm]; rfl) ⟨bt, ps, s.time, ⟨as, s1 _ _ hb, hR.imp fun _ _ => PenAt.same s1⟩, by omega, hpos, fun rn ts H2 s2 hrnf hrn hts htv => ?_⟩)
    have s12 := s1.trans s2
    have han2 := s2 _ _ han1
    have hb2 := s12 _ _ hb
    have dab : bt ≠ an := ne_of_none hb han
    have dar : rn ≠ an := fun z => (ne_of_none han1 hrnf) z.symm
    have hrl : (ts.map V.int).length = ps.length := by rw [List.length_map, hts]
    refine ⟨bt, rn, _, _, rfl, SqL.of hb2, SqL.of hrn, for_itN (n := ps.length) (fun j σ H' => ExtI an H2 (fun j => (ps.length : Int) :: Kg58.whole ((ps.zipIdx.take j).flatMap fun x => [x.1.player, s.time + Kg58.endOf ps x.2])) _ _ _ _ [] j H' σ) ⟨none, none, (Same.refl H2).keep _, ?_⟩ ?_ ?_ ?_ ?_⟩
    · rw [han2, hal]
      rfl
    · rintro j σ H3 hj ⟨_, _, kp, _⟩
      exact ⟨_, _, _, _, SqL.of (kp _ _ hb2 (notin1 dab)), SqL.of (kp _ _ hrn (notin1 dar)), List.getElem?_eq_getElem (show j < (as.map V.ref).length by omega), List.getElem?_eq_getElem (show j < (ts.map V.int).length by omega)⟩
    · rintro σ H3 ⟨_, _, kp, _⟩
      exact ⟨_, _, SqL.of (kp _ _ hb2 (notin1 dab)), SqL.of (kp _ _ hrn (notin1 dar)), .inl (by omega)⟩
    · intro D j σ H3 x H4 hD hj hI hY
      refine hideN fun N hN => ?_
      obtain ⟨v4, v5, kp, han3⟩ := hI
      obtain ⟨Tp, x1, x2, rfl, hT, rfl, hx1, hx2⟩ := hY
      obtain ⟨a, ha, rfl⟩ := map_get (hx1 _ (SqL.of (kp _ _ hb2 (notin1 dab))))
      obtain ⟨b, hbb, rfl⟩ := map_get (hx2 _ (SqL.of (kp _ _ hrn (notin1 dar))))
      obtain ⟨p, hp, dy, ey⟩ := hR.getA ha
      have eb : b = ((s.time + Kg58.endOf ps j : Nat) : Int) := Option.some.inj (hbb.symm.trans (htv j hj))
      subst eb
      have sT : Same H3 (upd H3 Tp (.tup [.ref a, .int ((s.time + Kg58.endOf ps j : Nat) : Int)])) := Same.new hT
      have ey2 := s12 _ _ ey
      have ey4 := sT _ _ (kp _ _ ey2 (notin1 (ne_of ey2 han2 (by intro z; cases z))))
      have hz : ps.zipIdx[j]? = some (p, j) := by
        rw [List.getElem?_zipIdx, hp]
        simp
      refine ⟨Tp, _, rfl, SqT.of upd_same, rfl, _, _, rfl, _, _, rfl, rfl, ?_⟩
      subst hN
      refine st_extend (ev_var rfl) (sT _ _ han3) (eva_cons (ev_fld (ev_var rfl) ey4 T.clP T.p_player (pf_player p)) (eva1 (ev_var rfl))) ?_ (fun lx hlx => ?_)
      · rw [List.length_map, List.length_cons, whole_len, flat_len (c := 2) (fun _ => rfl), List.length_take, List.length_zipIdx]
        exact Nat.le_of_lt (line_of (by show 2 * min j ps.length + 1 + 2 ≤ 1000000; omega))
      · refine hD _ _ ⟨_, _, ?_, ?_⟩
        · refine Keep.upd ?_ (.inl List.mem_cons_self)
          exact (kp.trans (sT.keep _)).trans ((Same.new hlx).keep _)
        · rw [upd_same, My.take_snoc hz, List.flatMap_append, whole_app]
          rw [← List.cons_append, List.map_append]
          rfl
    · rintro σ H3 ⟨v4, v5, kp, han3⟩
      dsimp only
      refine st_ret (ev_var rfl) ?_
      rw [List.take_of_length_le (by rw [List.length_zipIdx]; exact Nat.le_refl _)] at han3
      exact fin_same k hG (same_keep s12 kp han) han3 han
end
end Ice
namespace Ice
open PySem PySem.Spec PyProof.Rows L2
open Kg58 (Pen Told State Team runs running soonest minus after short ended singles marked cancel parts washed lengthOf minutesOf)
open My (PosL lefts lessAll Tab TabOk NSt StOk ToldOk RepT Good)
section
variable {P : Program} {w : World} {K : PySem.W.Frag} {mg : Str → Option Value} {base : Heap} {A : Ad}
theorem same_lock {H H' : Hp} {d : Addr} {u f : HO} (hd : H d = some u) (s : Same (upd H d f) H') : Same H (upd H' d u) := fun b o e => by
  by_cases h : b = d
  · subst h
    rw [upd_same, ← hd]
    exact e
  · rw [upd_ne h]
    exact s _ _ (by rw [upd_ne h]; exact e)
theorem ofTeam_snoc {t : Nat} {d : Tab} {i : Nat} {e : (Nat × Nat) × Nat} (h : d[i]? = some e) : My.ofTeam t (d.take (i + 1)) = My.ofTeam t (d.take i) ++ if e.1.1 = t then [(e.1.2, e.2)] else [] := by
  unfold My.ofTeam
  rw [My.take_snoc h, List.filter_append, List.map_append, List.filter_cons]
  by_cases q : e.1.1 = t
  · rw [if_pos (by rw [q]; exact beq_self_eq_true t), if_pos q]
    rfl
  · rw [if_neg (fun z => q (eq_of_beq z)), if_neg q]
    rfl
theorem ofTeam_val {t : Nat} {d : Tab} (hn : (d.map (·.1)).Nodup) {i p v : Nat} (h : (My.ofTeam t d)[i]? = some (p, v)) : My.valD d (t, p) = some v := by
  have hm := List.mem_of_getElem? h
  unfold My.ofTeam at hm
  obtain ⟨e, he, ee⟩ := List.mem_map.mp hm
  obtain ⟨h1, h2⟩ := List.mem_filter.mp he
  have e1 : e.1 = (t, p) := Prod.ext (eq_of_beq h2) (congrArg Prod.fst ee)
  have e2 : e.2 = v := congrArg Prod.snd ee
  have := My.valD_nd hn h1
  rw [e1, e2] at this
  exact this
theorem ok_minutes {f : Addr} {fd : FuncData} (F : Fun K "minutes" "Game.minutes" s_Game_minutes f fd) (T : Txt K mg A) : FnOk P w K mg base CX0 1 f fd ["self", "team"] (spMinutes A) := by
  refine F.ok sc_Game_minutes (fun vs H Q E h => ?_) (fun cdv Ar outer s H vs Q E hr h => ?_)
  · obtain ⟨g, t, G, b0, b1, s, st, _⟩ := h
    rfl
  · obtain ⟨g, t, G, b0, b1, s, st, hG, ht, k⟩ := h
    have nd := sc_Game_minutes.nd
    have hu := hu_of hr
    refine ⟨_, (pss_cons (ps_lock (ps_setLc (i := 2) rfl nd rfl rfl (sw_true rfl rfl rfl (by decide +kernel)) (pi_keys (pe_fld (pv 0) rfl)) (blkOk_by (own := [("of_team", 6), ("player", 4)]) (by show blkC ["self", "team", "players", "answer", "player", "who", "of_team"] (defScope s_Game_minutes) _ _ = true; decide +kernel)) (fun _ _ _ _ _ => (pg_tupK K (n := 2) rfl (pgs_cons (pg_name (i := 6) nd rfl (Or.inl rfl)) (pgs_cons (pg_name (i := 4) nd rfl (Or.inl rfl)) pgs_nil)))) (fun _ _ _ _ _ => (pts_one (pt_cmpR op_eq (pv 6) (pv 1) (nomark _)))) (fun _ _ _ _ _ => (pv 4))))
    (pss_cons (ps_set (i := 3) nd rfl (Or.inl rfl) (pe_lst (pa_cons (pe_callB (cr_sum rfl) (by rfl) T.sum_ bt_sum (pa_cons (pe_lc rfl nd (pi_list (pv 2)) (blkOk_by (own := [("player", 4)]) (by show blkC ["self", "team", "players", "answer", "player", "who", "of_team"] (defScope s_Game_minutes) _ _ = true; decide +kernel)) (fun _ _ _ _ _ => (pg_name (i := 4) nd rfl (Or.inl rfl))) (fun _ _ _ _ _ => pts_nil) (fun _ _ _ _ _ => (pe_dget hu (pe_fldK K (pv 0) rfl) (pe_tup (pa_cons (pv 1) (pa_cons (pv 4) pa_nil))) (fun _ _ => rfl)))) pa_nil)) pa_nil)))
    (pss_cons (ps_for PassesOwn.never rfl (pi_list (pv 2)) (pg_name (i := 4) nd rfl (Or.inl rfl))
      (pss_cons (ps_set (i := 5) nd rfl (Or.inl rfl) (pe_tup (pa_cons (pv 1) (pa_cons (pv 4) pa_nil))))
      (pss_one (ps_expr (pe_bm PySem.F.plainAttrs_list PySem.F.slot_list_extend PySem.F.type_list_extend mt_extend (pv 3) (pa_cons (pe_lst (pa_cons (pv 4) (pa_cons (pe_dget hu (pe_fld (pv 0) rfl) (pv 5) (fun _ _ => rfl)) (pa_cons (pe_callTy call_int1 (by rfl) T.int_ bt_int (pa_cons (pe_cmp (pc_din hu (pv 5) (pe_fld (pv 0) rfl))) pa_nil)) pa_nil)))) pa_nil))))))
    (pss_one (ps_ret (pv 3)))))), ?_⟩
    obtain ⟨dx, hg⟩ := hG.at_
    have tabN := hG.ok.st.n
    have hrep : RepT (s.team t) t st := by
      match t, ht with
      | 0, _ => exact hG.ok.repA
      | 1, _ => exact hG.ok.repB
    have hofl : (My.ofTeam t st.noted).length ≤ 200 := by
      unfold My.ofTeam
      rw [List.length_map]
      exact Nat.le_trans (List.length_filter_le _ _) tabN.len
    refine ⟨G.nd, _, hG.hn, trivial, fun od => ?_⟩
    have hgf : upd H G.nd (.frz od (.dT (encN st.noted))) g = some (.ins A.CG dx (gf G)) := by rw [upd_ne (ne_of hg hG.hn (by intro z; cases z))]; exact hg
    refine ⟨_, rfl, g, A.CG, dx, _, _, rfl, hgf, T.clG, T.g_noted, gf_noted G, G.nd, od, rfl, .inr ⟨encN st.noted, upd_same, ?_⟩⟩
    refine lcG (n := st.noted.length) (Nat.le_trans tabN.len (by decide)) (fun i H' hi s1 => ⟨s1 _ _ upd_same, by rw [encN_len]; exact hi⟩) (fun H' s1 => ⟨s1 _ _ upd_same, by rw [encN_len]; exact Nat.le_refl _⟩)
      (fun i acc H' => acc = nats ((My.ofTeam t (st.noted.take i)).map fun y => y.1)) (fun D hD => rfl) ?_ ?_
    · rintro D i x acc H' H'' Nx hD hi s1 h hacc ⟨rfl, ky, v, q, hky, rfl, hq⟩ k1 k2
      obtain ⟨e, he, ek⟩ := map_get (f := fun (e : (Nat × Nat) × Nat) => (key e.1.1 e.1.2, V.int (e.2 : Int))) hky
      have ek1 : ky = key e.1.1 e.1.2 := congrArg Prod.fst ek
      subst ek1
      have hq' : H'' q = some (.tup [.int (e.1.1 : Int), .int (e.1.2 : Int)]) := hq
      refine ⟨q, _, rfl, SqT.of hq', rfl, _, _, rfl, _, _, rfl, rfl, rfl, ?_⟩
      refine tt_of (et_t (ev_eqI (ev_var rfl) (ev_var rfl))) (iteB (fun z => ?_) (fun z => ?_))
      · have z' : e.1.1 = t := by have := of_decide_eq_true z; omega
        refine te_of (ev_var rfl) (k1 _ _ (Same.refl _) ?_)
        rw [ofTeam_snoc he, if_pos z', hacc, List.map_append]
        unfold nats
        rw [List.map_append]
        rfl
      · have z' : ¬ e.1.1 = t := by have := of_decide_eq_false z; omega
        refine k2 _ (Same.refl _) ?_
        rw [ofTeam_snoc he, if_neg z', List.append_nil, hacc]
    · rintro pl acc H' hD s1 h _ hacc
      rw [List.take_length, hrep.min] at hacc
      rw [hrep.min] at hofl
      subst hacc
      refine ⟨s1 _ _ upd_same, ?_⟩
      have s2 := same_lock hG.hn s1
      have hplnd : pl ≠ G.nd := fun z => by rw [z, upd_same] at hD; cases hD
      have hpl2 : upd H' G.nd (.dT (encN st.noted)) pl = some (.lst (nats ((s.team t).minutes.map fun y => y.1))) := by rw [upd_ne hplnd]; exact h
      generalize upd H' G.nd (.dT (encN st.noted)) = H2 at s2 hpl2 ⊢
      clear hD h s1
      have hG2 := hG.same s2
      have hval : ∀ {i p v : Nat}, (s.team t).minutes[i]? = some (p, v) → My.valD st.noted (t, p) = some v := fun {i p v} hh => ofTeam_val tabN.nd (by rw [hrep.min]; exact hh)
      generalize hmin : (s.team t).minutes = mn at hpl2 hofl hval
      have hnl : (nats (mn.map fun y => y.1)).length = mn.length := by rw [nats_length, List.length_map]
      refine ⟨_, rfl, pl, rfl, ⟨_, SqL.of hpl2⟩, lcL (xs := nats (mn.map fun y => y.1)) (SqL.of hpl2) (by omega) (fun i acc H' => acc = ((mn.take i).map fun y => (y.2 : Int)).map V.int) (fun D hD => rfl) ?_ ?_⟩
      · rintro D i x acc H3 Nx hD hx s3 h hacc k1 k2
        obtain ⟨p', hp', rfl⟩ := map_get hx
        obtain ⟨y, hy, rfl⟩ := map_get hp'
        obtain ⟨p, v⟩ := y
        refine ⟨rfl, ty_of ?_⟩
        have s23 := s2.trans s3
        refine ⟨_, rfl, g, A.CG, dx, _, _, rfl, s23 _ _ hg, T.clG, T.g_noted, gf_noted G, _, rfl, _, rfl, (by show 2 ≤ sizeLine; decide), fun tp htp => ?_⟩
        have sT : Same H3 (upd H3 tp (.tup [.int (t : Int), .int (p : Int)])) := Same.new htp
        have hw : (upd H3 tp (.tup [.int (t : Int), .int (p : Int)])) tp = some (.tup ((key t p).map kV)) := upd_same
        have hdg : DGet (upd H3 tp (.tup [.int (t : Int), .int (p : Int)])) G.nd (.ref tp) (some (.int (v : Int))) := by
          have := DGet.t (k := key t p) (sT _ _ (s23 _ _ hG.hn)) hw
          rw [valN, hval hy] at this
          exact this
        refine ⟨G.nd, _, rfl, hdg, k1 _ _ sT ?_⟩
        rw [hacc, My.take_snoc hy, List.map_append, List.map_append]
        rfl
      · rintro D acc H3 hD s3 h _ hacc
        rw [hnl, List.take_length] at hacc
        subst hacc
        refine ⟨D, _, rfl, SqL.of h, (by show 1 ≤ sizeLine; decide), fun an han => ?_⟩
        have s23 := s2.trans s3
        have sA : Same H3 (upd H3 an (.lst [.int (mn.map fun y => (y.2 : Int)).sum])) := Same.new han
        have hanA : upd H3 an (.lst [.int (mn.map fun y => (y.2 : Int)).sum]) an = some (.lst [.int (mn.map fun y => (y.2 : Int)).sum]) := upd_same
        have hanH := s23.free han
        generalize upd H3 an (.lst [.int (mn.map fun y => (y.2 : Int)).sum]) = H4 at sA hanA ⊢
        have s4 := s23.trans sA
        have hpl4 := (s3.trans sA) _ _ hpl2
        have dpa : pl ≠ an := ne_of_none (s3 _ _ hpl2) han
        refine gn_of ?_
        refine ⟨_, rfl, pl, rfl, ⟨_, SqL.of hpl4⟩, for_listN (K := K) (a := pl) (xs := nats (mn.map fun y => y.1)) (fun i σ H' => ExtI an H4 (fun i => (mn.map fun y => (y.2 : Int)).sum :: Kg58.whole ((mn.take i).flatMap fun y => [y.1, y.2, Kg58.truth ((s.team t).out.contains y.1)])) _ _ _ _ [none] i H' σ) ⟨none, none, (Same.refl H4).keep _, by exact hanA⟩
          (fun i σ H' _ h => by cases h with | mk _ _ kp => exact SqL.of (kp _ _ hpl4 (notin1 dpa))) ?_ ?_⟩
        · intro D i x σ H5 hD hx hI
          refine hideN fun N hN => ?_
          obtain ⟨v4, v5, kp, han5⟩ := hI
          obtain ⟨p', hp', rfl⟩ := map_get hx
          obtain ⟨y, hy, rfl⟩ := map_get hp'
          obtain ⟨p, v⟩ := y
          have keep5 : ∀ {b : Addr} {o : HO}, H b = some o → H5 b = some o := fun {b o} hb => (same_keep s4 kp hanH) _ _ hb
          refine gn_of ?_
          subst hN
          refine ⟨_, rfl, _, rfl, (by show 2 ≤ sizeLine; decide), fun tp htp => ?_⟩
          have sT : Same H5 (upd H5 tp (.tup [.int (t : Int), .int (p : Int)])) := Same.new htp
          have hw : (upd H5 tp (.tup [.int (t : Int), .int (p : Int)])) tp = some (.tup ((key t p).map kV)) := upd_same
          have hdg : DGet (upd H5 tp (.tup [.int (t : Int), .int (p : Int)])) G.nd (.ref tp) (some (.int (v : Int))) := by
            have := DGet.t (k := key t p) (sT _ _ (keep5 hG.hn)) hw
            rw [valN, hval hy] at this
            exact this
          have hdo := DGet.t (k := key t p) (sT _ _ (keep5 hG.ho)) hw
          have hg6 := sT _ _ (keep5 hg)
          have hout : (valV (encO st.outs) (key t p)).isSome = (s.team t).out.contains p := by
            rw [valO, Bool.eq_iff_iff, hrep.out]
            simp
          refine gn_of ?_
          dsimp only
          refine st_extend (ev_var rfl) (sT _ _ han5) (eva_cons (ev_var rfl) (eva_cons (ev_dget (ev_fld (ev_var rfl) hg6 T.clG T.g_noted (gf_noted G)) (ev_var rfl) hdg)
            (eva1 (ev_int1 (eva1 (ev_din (ev_var rfl) (ev_fld (ev_var rfl) hg6 T.clG T.g_out (gf_out G)) hdo)))))) ?_ (fun lx hlx => ?_)
          · rw [List.length_map, List.length_cons, whole_len, flat_len (c := 3) (fun _ => rfl), List.length_take]
            exact Nat.le_of_lt (line_of (by show 3 * min i mn.length + 1 + 3 ≤ 1000000; omega))
          · refine hD _ _ ⟨_, _, ?_, ?_⟩
            · refine Keep.upd ?_ (.inl List.mem_cons_self)
              exact (kp.trans (sT.keep _)).trans ((Same.new hlx).keep _)
            · rw [upd_same, My.take_snoc hy, List.flatMap_append, whole_app, truth_int, hout]
              rw [← List.cons_append, List.map_append]
              rfl
        · rintro σ H5 ⟨v4, v5, kp, han5⟩
          dsimp only
          refine st_ret (ev_var rfl) ?_
          rw [hnl, List.take_length, ← hmin] at han5
          exact fin_same k hG (same_keep s4 kp hanH) han5 hanH
end
end Ice
namespace Ice
open PySem PySem.Spec PyProof.Rows L2
open Kg58 (Pen Told State Team runs running soonest minus after short ended singles marked cancel parts washed lengthOf minutesOf)
open My (PosL lefts lessAll Tab TabOk NSt StOk ToldOk RepT Good RC)
def startOf (b : Nat) : State := { Kg58.init with base := b }
inductive spGII (A : Ad) (H : Hp) (Q : VK) : List V → Prop
  | mk (g dx : Addr) (b : Nat) (h0 : H g = some (.ins A.CG dx [])) (h1 : 3 ≤ b) (h2 : b ≤ 6) (h3 : ∀ (G : GF) (b0 b1 : Addr) (H' : Hp), GameAt A H' g G b0 b1 (startOf b) My.st0 → (∀ c o, H c = some o → c ≠ g → H' c = some o) → (∀ a, a ∈ ownOf g G → a = g ∨ H a = Option.none) → H b0 = Option.none → H b1 = Option.none → Q .non H') : spGII A H Q [.ref g, .int b]
def spGI (A : Ad) : Sp := fun vs H Q _ => spGII A H Q vs
inductive spMayBeginI (H : Hp) (Q : VK) : List V → Prop
  | mk (z : Int) (h0 : Q (.bl (Kg58.within z 3 6)) H) : spMayBeginI H Q [.int z]
def spMayBegin : Sp := fun vs H Q _ => spMayBeginI H Q vs
inductive spTeamI (A : Ad) (H : Hp) (Q : VK) : List V → Prop
  | mk (g : Addr) (c t : Int) (G : GF) (b0 b1 : Addr) (s : State) (st : NSt) (cc : Kg58.Call) (h0 : GameAt A H g G b0 b1 s st) (h1 : ((c = 7 ∧ cc = .box t) ∨ (c = 8 ∧ cc = .minutes t) ∨ (c = 9 ∧ cc = .till t))) (h2 : Fin A H g G (My.res s cc) Q) : spTeamI A H Q [.ref g, .int c, .int t]
def spTeam (A : Ad) : Sp := fun vs H Q _ => spTeamI A H Q vs
inductive spInGameI (A : Ad) (H : Hp) (Q : VK) : List V → Prop
  | mk (g nm rw : Addr) (r : RC) (G : GF) (b0 b1 : Addr) (s : State) (st : NSt) (h0 : GameAt A H g G b0 b1 s st) (h1 : r.Ok) (h2 : ¬ r.call = 1) (h3 : H nm = some (.lst (r.nums.map V.int))) (h4 : H rw = some (.lst (r.row.map V.int))) (h5 : r.row.length ≤ 10000) (h6 : s.signalled.length ≤ 900) (h7 : Fin A H g G (My.stepR s r) Q) : spInGameI A H Q [.ref g, .int r.call, .ref nm, .ref rw]
def spInGame (A : Ad) : Sp := fun vs H Q _ => spInGameI A H Q vs
structure Reg (C dx : Addr) (H : Hp) (g : Addr) (Hc : Hp) (fs : List (Str × V)) (L : List (Addr × HO)) : Prop where
  at_ : Hc g = some (.ins C dx fs)
  kp : ∀ c o, H c = some o → c ≠ g → Hc c = some o
  fact : ∀ p, p ∈ L → Hc p.1 = some p.2 ∧ ∀ C dx fs, p.2 ≠ .ins C dx fs
  nd : (L.map (·.1)).Nodup
  fr : ∀ p, p ∈ L → H p.1 = Option.none
theorem Reg.set {C dx : Addr} {H : Hp} {g : Addr} {Hc : Hp} {fs fs' : List (Str × V)} {L : List (Addr × HO)} (R : Reg C dx H g Hc fs L) : Reg C dx H g (upd Hc g (.ins C dx fs')) fs' L :=
  ⟨upd_same, fun c o e n => by rw [upd_ne n]; exact R.kp c o e n, fun p hp => ⟨by
    obtain ⟨h1, h2⟩ := R.fact p hp
    rw [upd_ne (ne_of h1 R.at_ (h2 _ _ _))]
    exact h1, (R.fact p hp).2⟩, R.nd, R.fr⟩
theorem Reg.new {C dx : Addr} {H : Hp} {g : Addr} {Hc : Hp} {fs : List (Str × V)} {L : List (Addr × HO)} (R : Reg C dx H g Hc fs L) {p : Addr} {o : HO} (hp : Hc p = Option.none) (ho : ∀ C dx fs, o ≠ .ins C dx fs) : Reg C dx H g (upd Hc p o) fs ((p, o) :: L) := by
  have hpg : p ≠ g := fun z => by rw [z, R.at_] at hp; cases hp
  have hpH : H p = Option.none := by
    cases e : H p with
    | none => rfl
    | some u => rw [R.kp p u e hpg] at hp; cases hp
  refine ⟨by rw [upd_ne hpg.symm]; exact R.at_, fun c u e n => ?_, fun q hq => ?_, ?_, fun q hq => ?_⟩
  · rw [upd_ne (fun z => by rw [z, hpH] at e; cases e)]
    exact R.kp c u e n
  · rcases List.mem_cons.mp hq with rfl | hq
    · exact ⟨upd_same, ho⟩
    · obtain ⟨h1, h2⟩ := R.fact q hq
      exact ⟨by rw [upd_ne (ne_of_none h1 hp)]; exact h1, h2⟩
  · rw [List.map_cons, List.nodup_cons]
    refine ⟨fun q => ?_, R.nd⟩
    obtain ⟨x, hx, ex⟩ := List.mem_map.mp q
    have := (R.fact x hx).1
    rw [ex, hp] at this
    cases this
  · rcases List.mem_cons.mp hq with rfl | hq
    · exact hpH
    · exact R.fr q hq
theorem Reg.get {C dx : Addr} {H : Hp} {g : Addr} {Hc : Hp} {fs : List (Str × V)} {L : List (Addr × HO)} (R : Reg C dx H g Hc fs L) {i : Nat} {p : Addr} {o : HO} (h : L[i]? = some (p, o)) : Hc p = some o := (R.fact _ (List.mem_of_getElem? h)).1
theorem Reg.fre {C dx : Addr} {H : Hp} {g : Addr} {Hc : Hp} {fs : List (Str × V)} {L : List (Addr × HO)} (R : Reg C dx H g Hc fs L) {i : Nat} {p : Addr} {o : HO} (h : L[i]? = some (p, o)) : H p = Option.none := R.fr _ (List.mem_of_getElem? h)
theorem nd_ne {L : List (Addr × HO)} (hN : (L.map (·.1)).Nodup) {i j : Nat} {p q : Addr × HO} (a : L[i]? = some p) (b : L[j]? = some q) (h : (i == j) = false) : p.1 ≠ q.1 := fun z =>
  absurd (nd_ix hN (get_map' (f := fun x : Addr × HO => x.1) a) ((get_map' (f := fun x : Addr × HO => x.1) b).trans (congrArg some z.symm))) (beq_eq_false_iff_ne.mp h)
section
variable {P : Program} {w : World} {K : PySem.W.Frag} {mg : Str → Option Value} {base : Heap} {A : Ad}
theorem ok_GI {f : Addr} {fd : FuncData} (F : Fun K "__init__" "Game.__init__" s_Game_init f fd) (T : Txt K mg A) : FnOk P w K mg base CX0 1 f fd ["self", "skaters"] (spGI A) := by
  refine F.ok sc_Game_init (fun vs H Q E h => ?_) (fun cdv Ar outer s H vs Q E hr h => ?_)
  · obtain ⟨g, dx, b, _⟩ := h
    rfl
  · obtain ⟨g, dx, b, hg, h3, h6, k⟩ := h
    refine ⟨_, (pss_cons (ps_fld (pv 0) (pv 1) rfl)
    (pss_cons (ps_fld (pv 0) pe_int rfl)
    (pss_cons (ps_fld (pv 0) (pe_lst (pa_cons (pe_lst pa_nil) (pa_cons (pe_lst pa_nil) pa_nil))) rfl)
    (pss_cons (ps_fld (pv 0) (pe_lst pa_nil) rfl)
    (pss_cons (ps_fld (pv 0) (pe_lst (pa_cons pe_int (pa_cons pe_int pa_nil))) rfl)
    (pss_cons (ps_fld (pv 0) pe_dnewT rfl)
    (pss_cons (ps_fld (pv 0) pe_dnewT rfl)
    (pss_one (ps_fld (pv 0) pe_dnewT rfl))))))))), ?_⟩
    have R0 : Reg A.CG dx H g H [] [] := ⟨hg, fun c o e _ => e, fun p hp => (by cases hp), List.nodup_nil, fun p hp => (by cases hp)⟩
    refine ⟨_, rfl, _, rfl, g, A.CG, dx, _, rfl, R0.at_, T.clG, T.g_skaters, by decide, ?_⟩
    replace R0 := R0.set (fs' := putF "skaters" (.int b) [])
    generalize upd H g _ = H0 at R0 ⊢
    refine ⟨_, rfl, g, A.CG, dx, _, rfl, R0.at_, T.clG, T.g_time, Nat.lt_of_le_of_lt (fput (Nat.le_refl 0)) (by decide), ?_⟩
    replace R0 := R0.set (fs' := putF "time" (.int 0) (putF "skaters" (.int b) []))
    generalize upd H0 g _ = H0 at R0 ⊢
    refine ⟨Nat.zero_le _, fun b0 hb0 => ?_⟩
    replace R0 := R0.new (o := .lst []) hb0 (fun _ _ _ z => by cases z)
    generalize upd H0 b0 _ = H0 at R0 ⊢
    refine ⟨Nat.zero_le _, fun b1 hb1 => ?_⟩
    replace R0 := R0.new (o := .lst []) hb1 (fun _ _ _ z => by cases z)
    generalize upd H0 b1 _ = H0 at R0 ⊢
    refine ⟨(by show 2 ≤ sizeLine; decide), fun bl hbl => ?_⟩
    replace R0 := R0.new (o := .lst [.ref b0, .ref b1]) hbl (fun _ _ _ z => by cases z)
    generalize upd H0 bl _ = H0 at R0 ⊢
    refine ⟨_, rfl, g, A.CG, dx, _, rfl, R0.at_, T.clG, T.g_boxes, Nat.lt_of_le_of_lt (fput (fput (Nat.le_refl 0))) (by decide), ?_⟩
    replace R0 := R0.set (fs' := putF "boxes" (.ref bl) (putF "time" (.int 0) (putF "skaters" (.int b) [])))
    generalize upd H0 g _ = H0 at R0 ⊢
    refine ⟨Nat.zero_le _, fun sg hsg => ?_⟩
    replace R0 := R0.new (o := .lst []) hsg (fun _ _ _ z => by cases z)
    generalize upd H0 sg _ = H0 at R0 ⊢
    refine ⟨_, rfl, g, A.CG, dx, _, rfl, R0.at_, T.clG, T.g_signalled, Nat.lt_of_le_of_lt (fput (fput (fput (Nat.le_refl 0)))) (by decide), ?_⟩
    replace R0 := R0.set (fs' := putF "signalled" (.ref sg) (putF "boxes" (.ref bl) (putF "time" (.int 0) (putF "skaters" (.int b) []))))
    generalize upd H0 g _ = H0 at R0 ⊢
    refine ⟨(by show 2 ≤ sizeLine; decide), fun gl hgl => ?_⟩
    replace R0 := R0.new (o := .lst [.int 0, .int 0]) hgl (fun _ _ _ z => by cases z)
    generalize upd H0 gl _ = H0 at R0 ⊢
    refine ⟨_, rfl, g, A.CG, dx, _, rfl, R0.at_, T.clG, T.g_goals, Nat.lt_of_le_of_lt (fput (fput (fput (fput (Nat.le_refl 0))))) (by decide), ?_⟩
    replace R0 := R0.set (fs' := putF "goals" (.ref gl) (putF "signalled" (.ref sg) (putF "boxes" (.ref bl) (putF "time" (.int 0) (putF "skaters" (.int b) [])))))
    generalize upd H0 g _ = H0 at R0 ⊢
    intro nd hnd
    replace R0 := R0.new (o := .dT []) hnd (fun _ _ _ z => by cases z)
    generalize upd H0 nd _ = H0 at R0 ⊢
    refine ⟨_, rfl, g, A.CG, dx, _, rfl, R0.at_, T.clG, T.g_noted, Nat.lt_of_le_of_lt (fput (fput (fput (fput (fput (Nat.le_refl 0)))))) (by decide), ?_⟩
    replace R0 := R0.set (fs' := putF "noted" (.ref nd) (putF "goals" (.ref gl) (putF "signalled" (.ref sg) (putF "boxes" (.ref bl) (putF "time" (.int 0) (putF "skaters" (.int b) []))))))
    generalize upd H0 g _ = H0 at R0 ⊢
    intro mj hmj
    replace R0 := R0.new (o := .dT []) hmj (fun _ _ _ z => by cases z)
    generalize upd H0 mj _ = H0 at R0 ⊢
    refine ⟨_, rfl, g, A.CG, dx, _, rfl, R0.at_, T.clG, T.g_majors, Nat.lt_of_le_of_lt (fput (fput (fput (fput (fput (fput (Nat.le_refl 0))))))) (by decide), ?_⟩
    replace R0 := R0.set (fs' := putF "majors" (.ref mj) (putF "noted" (.ref nd) (putF "goals" (.ref gl) (putF "signalled" (.ref sg) (putF "boxes" (.ref bl) (putF "time" (.int 0) (putF "skaters" (.int b) [])))))))
    generalize upd H0 g _ = H0 at R0 ⊢
    intro ou hou
    replace R0 := R0.new (o := .dT []) hou (fun _ _ _ z => by cases z)
    generalize upd H0 ou _ = H0 at R0 ⊢
    refine ⟨_, rfl, g, A.CG, dx, _, rfl, R0.at_, T.clG, T.g_out, Nat.lt_of_le_of_lt (fput (fput (fput (fput (fput (fput (fput (Nat.le_refl 0)))))))) (by decide), ?_⟩
    replace R0 := R0.set (fs' := putF "out" (.ref ou) (putF "majors" (.ref mj) (putF "noted" (.ref nd) (putF "goals" (.ref gl) (putF "signalled" (.ref sg) (putF "boxes" (.ref bl) (putF "time" (.int 0) (putF "skaters" (.int b) []))))))))
    generalize upd H0 g _ = H0 at R0 ⊢
    rw [gf_init (.int (b : Int)) (.int 0) (.ref bl) (.ref sg) (.ref gl) (.ref nd) (.ref mj) (.ref ou)] at R0
    have nd14 := R0.nd
    refine k ⟨(b : Int), 0, bl, sg, gl, nd, mj, ou⟩ b0 b1 _ ?_ R0.kp ?_ (R0.fre (i := 7) rfl) (R0.fre (i := 6) rfl)
    · exact {
        at_ := ⟨dx, R0.at_⟩
        sk := rfl
        tm := rfl
        hb := R0.get (i := 5) rfl
        x0 := ⟨[], R0.get (i := 7) rfl, Refs.nil⟩
        x1 := ⟨[], R0.get (i := 6) rfl, Refs.nil⟩
        hs := ⟨[], R0.get (i := 4) rfl, Refs.nil⟩
        hg := R0.get (i := 3) rfl
        hn := R0.get (i := 2) rfl
        hm := R0.get (i := 1) rfl
        ho := R0.get (i := 0) rfl
        d0b := nd_ne nd14 (i := 7) (j := 5) rfl rfl rfl
        d0g := nd_ne nd14 (i := 7) (j := 3) rfl rfl rfl
        d0s := nd_ne nd14 (i := 7) (j := 4) rfl rfl rfl
        d1b := nd_ne nd14 (i := 6) (j := 5) rfl rfl rfl
        d1g := nd_ne nd14 (i := 6) (j := 3) rfl rfl rfl
        d1s := nd_ne nd14 (i := 6) (j := 4) rfl rfl rfl
        dbs := nd_ne nd14 (i := 5) (j := 4) rfl rfl rfl
        dbg := nd_ne nd14 (i := 5) (j := 3) rfl rfl rfl
        dgs := nd_ne nd14 (i := 3) (j := 4) rfl rfl rfl
        dnm := nd_ne nd14 (i := 2) (j := 1) rfl rfl rfl
        dno := nd_ne nd14 (i := 2) (j := 0) rfl rfl rfl
        dmo := nd_ne nd14 (i := 1) (j := 0) rfl rfl rfl
        ok := My.Good.start h3 h6
        sl := Nat.zero_le _ }
    · exact in7 (.inl rfl) (.inr (R0.fre (i := 5) rfl)) (.inr (R0.fre (i := 3) rfl)) (.inr (R0.fre (i := 4) rfl)) (.inr (R0.fre (i := 2) rfl)) (.inr (R0.fre (i := 1) rfl)) (.inr (R0.fre (i := 0) rfl))
theorem ok_maybegin {f : Addr} {fd : FuncData} (F : Fun K "may_begin" "may_begin" s_may_begin f fd) (T : Txt K mg A) : FnOk P w K mg base CX0 1 f fd ["skaters"] spMayBegin := by
  refine F.ok sc_may_begin (fun vs H Q E h => ?_) (fun cdv Ar outer s H vs Q E hr h => ?_)
  · obtain ⟨z, _⟩ := h
    rfl
  · obtain ⟨z, k⟩ := h
    refine ⟨_, (pss_one (ps_ret (pe_chain op_le op_le (gi T.FEWEST_SKATERS) (pv 0) (gi T.MOST_SKATERS)))), ?_⟩
    exact st_ret (ev_chain ev_c (ev_var rfl) ev_c) k
theorem ok_team {f f1 f2 f3 : Addr} {fd fd1 fd2 fd3 : FuncData} (F : Fun K "answer_of_team" "answer_of_team" s_answer_of_team f fd) (T : Txt K mg A)
    (D_Game_box : MDef K A.CG "box" "Game.box" s_Game_box ["self", "team"] f1 fd1) (G_Game_box : FnOk P w K mg base CX0 2 f1 fd1 ["self", "team"] (spBox A))
    (D_Game_minutes : MDef K A.CG "minutes" "Game.minutes" s_Game_minutes ["self", "team"] f2 fd2) (G_Game_minutes : FnOk P w K mg base CX0 1 f2 fd2 ["self", "team"] (spMinutes A))
    (D_Game_till : MDef K A.CG "till" "Game.till" s_Game_till ["self", "team"] f3 fd3) (G_Game_till : FnOk P w K mg base CX0 6 f3 fd3 ["self", "team"] (spTill A)) : FnOk P w K mg base CX0 7 f fd ["game", "call", "team"] (spTeam A) := by
  refine F.ok sc_answer_of_team (fun vs H Q E h => ?_) (fun cdv Ar outer s H vs Q E hr h => ?_)
  · obtain ⟨g, c, t, G, b0, b1, s, st, cc, _⟩ := h
    rfl
  · obtain ⟨g, c, t, G, b0, b1, s, st, cc, hG, hcc, k⟩ := h
    refine ⟨_, (pss_cons (ps_if (pt_cmpR op_notIn_seq (pv 2) (gt T.TEAMS) (by with_unfolding_all rfl))
      (pss_one (ps_ret (pe_lst (pa_cons (gi T.WRONG) pa_nil))))
      pss_nil)
    (pss_cons (ps_if (pt_cmpR op_eq (pv 1) (gi T.BOX) (nomark _))
      (pss_one (ps_ret (pe_meth (pv 0) T.clG D_Game_box.me G_Game_box (hr.mono (by decide)) D_Game_box.b .nil pass0 (pa_cons (pv 2) pa_nil))))
      pss_nil)
    (pss_cons (ps_if (pt_cmpR op_eq (pv 1) (gi T.MINUTES) (nomark _))
      (pss_one (ps_ret (pe_meth (pv 0) T.clG D_Game_minutes.me G_Game_minutes (hr.mono (by decide)) D_Game_minutes.b .nil pass0 (pa_cons (pv 2) pa_nil))))
      pss_nil)
    (pss_one (ps_ret (pe_meth (pv 0) T.clG D_Game_till.me G_Game_till (hr.mono (by decide)) D_Game_till.b .nil pass0 (pa_cons (pv 2) pa_nil))))))), ?_⟩
    obtain ⟨dx, hg⟩ := hG.at_
    have b3 := hG.ok.base3
    refine st_if (et_t (ev_notin (ev_var rfl) ev_c (.inr (T.sqTEAMS _)) rfl rfl)) (fun q => ?_) (fun q => ?_)
    · rw [inV01] at q
      have hno : Kg58.within t 0 1 = false := by
        cases e : Kg58.within t 0 1
        · rfl
        · rw [e] at q; cases q
      refine ⟨(by show 1 ≤ sizeLine; decide), fun r hr0 => fin_no k ?_ hG (Same.refl _) hr0⟩
      rcases hcc with ⟨_, rfl⟩ | ⟨_, rfl⟩ | ⟨_, rfl⟩
      · exact My.res_box_no b3 hno
      · exact My.res_minutes_no b3 hno
      · exact My.res_till_no b3 hno
    · rw [inV01] at q
      have hin : ¬ Kg58.within t 0 1 = false := fun e => by rw [e] at q; cases q
      obtain ⟨n, hn, rfl, hn2⟩ := My.within01 hin
      dsimp only [tNext]
      rcases hcc with ⟨rfl, rfl⟩ | ⟨rfl, rfl⟩ | ⟨rfl, rfl⟩
      · refine st_if (et_t (ev_eqI (ev_var rfl) ev_c)) (fun _ => ?_) (fun z => absurd z (by decide))
        rw [My.res_box b3 hin, hn2] at k
        exact tm_of (ev_var rfl) hg (gf_no_box G) (eva1 (ev_var rfl)) ⟨g, n, G, b0, b1, s, st, hG, hn, k⟩
      · refine st_if (et_t (ev_eqI (ev_var rfl) ev_c)) (fun z => absurd z (by decide)) (fun _ => ?_)
        dsimp only [tNext]
        refine st_if (et_t (ev_eqI (ev_var rfl) ev_c)) (fun _ => ?_) (fun z => absurd z (by decide))
        rw [My.res_minutes b3 hin, hn2] at k
        exact tm_of (ev_var rfl) hg (gf_no_minutes G) (eva1 (ev_var rfl)) ⟨g, n, G, b0, b1, s, st, hG, hn, k⟩
      · refine st_if (et_t (ev_eqI (ev_var rfl) ev_c)) (fun z => absurd z (by decide)) (fun _ => ?_)
        dsimp only [tNext]
        refine st_if (et_t (ev_eqI (ev_var rfl) ev_c)) (fun z => absurd z (by decide)) (fun _ => ?_)
        dsimp only [tNext]
        rw [My.res_till b3 hin, hn2] at k
        exact tm_of (ev_var rfl) hg (gf_no_till G) (eva1 (ev_var rfl)) ⟨g, n, G, b0, b1, s, st, hG, hn, k⟩
theorem ok_ingame {f f1 f2 f3 f4 f5 f6 : Addr} {fd fd1 fd2 fd3 fd4 fd5 fd6 : FuncData} (F : Fun K "answer_in_game" "answer_in_game" s_answer_in_game f fd) (T : Txt K mg A)
    (D_Game_clock : MDef K A.CG "clock" "Game.clock" s_Game_clock ["self", "time"] f1 fd1) (G_Game_clock : FnOk P w K mg base CX0 8 f1 fd1 ["self", "time"] (spClock A))
    (D_Game_stop : MDef K A.CG "stop" "Game.stop" s_Game_stop ["self", "time", "row"] f2 fd2) (G_Game_stop : FnOk P w K mg base CX0 8 f2 fd2 ["self", "time", "row"] (spStop A K))
    (D_Game_signal : MDef K A.CG "signal" "Game.signal" s_Game_signal ["self", "team", "player", "kind"] f3 fd3) (G_Game_signal : FnOk P w K mg base CX0 2 f3 fd3 ["self", "team", "player", "kind"] (spSignal A))
    (D_Game_goal : MDef K A.CG "goal" "Game.goal" s_Game_goal ["self", "time", "team"] f4 fd4) (G_Game_goal : FnOk P w K mg base CX0 8 f4 fd4 ["self", "time", "team"] (spGoal A))
    (D_Game_now : MDef K A.CG "now" "Game.now" s_Game_now ["self"] f5 fd5) (G_Game_now : FnOk P w K mg base CX0 4 f5 fd5 ["self"] (spNow A))
    (D_answer_of_team : Def K mg "answer_of_team" s_answer_of_team ["game", "call", "team"] f6 fd6) (G_answer_of_team : FnOk P w K mg base CX0 7 f6 fd6 ["game", "call", "team"] (spTeam A)) :
    FnOk P w K mg base CX0 9 f fd ["game", "call", "numbers", "row"] (spInGame A) := by
  refine F.ok sc_answer_in_game (fun vs H Q E h => ?_) (fun cdv Ar outer s H vs Q E hr h => ?_)
  · obtain ⟨g, nm, rw, r, G, b0, b1, s, st, _⟩ := h
    rfl
  · obtain ⟨g, nm, rw, r, G, b0, b1, s, st, hG, hok, hn1, hnm, hrw, hrl, hsl, k⟩ := h
    refine ⟨_, (pss_cons (ps_if (pt_cmpR op_eq (pv 1) (gi T.CLOCK) (nomark _))
      (pss_one (ps_ret (pe_meth (pv 0) T.clG D_Game_clock.me G_Game_clock (hr.mono (by decide)) D_Game_clock.b .nil pass0 (pa_cons (pe_ix ix_list (pv 2) pe_int (fun _ _ => rfl)) pa_nil))))
      pss_nil)
    (pss_cons (ps_if (pt_cmpR op_eq (pv 1) (gi T.STOP) (nomark _))
      (pss_one (ps_ret (pe_meth (pv 0) T.clG D_Game_stop.me G_Game_stop (hr.mono (by decide)) D_Game_stop.b .nil pass0 (pa_cons (pe_ix ix_list (pv 2) pe_int (fun _ _ => rfl)) (pa_cons (pv 3) pa_nil)))))
      pss_nil)
    (pss_cons (ps_if (pt_cmpR op_eq (pv 1) (gi T.SIGNAL) (nomark _))
      (pss_one (ps_ret (pe_meth (pv 0) T.clG D_Game_signal.me G_Game_signal (hr.mono (by decide)) D_Game_signal.b .nil pass0 (pa_cons (pe_ix ix_list (pv 2) pe_int (fun _ _ => rfl)) (pa_cons (pe_ix ix_list (pv 2) pe_int (fun _ _ => rfl)) (pa_cons (pe_ix ix_list (pv 2) pe_int (fun _ _ => rfl)) pa_nil))))))
      pss_nil)
    (pss_cons (ps_if (pt_cmpR op_eq (pv 1) (gi T.GOAL) (nomark _))
      (pss_one (ps_ret (pe_meth (pv 0) T.clG D_Game_goal.me G_Game_goal (hr.mono (by decide)) D_Game_goal.b .nil pass0 (pa_cons (pe_ix ix_list (pv 2) pe_int (fun _ _ => rfl)) (pa_cons (pe_ix ix_list (pv 2) pe_int (fun _ _ => rfl)) pa_nil)))))
      pss_nil)
    (pss_cons (ps_if (pt_cmpR op_eq (pv 1) (gi T.NOW) (nomark _))
      (pss_one (ps_ret (pe_meth0 (pv 0) T.clG D_Game_now.me G_Game_now (hr.mono (by decide)) D_Game_now.b .nil pass0)))
      pss_nil)
    (pss_one (ps_ret (pe_call G_answer_of_team (hr.mono (by decide)) rfl D_answer_of_team.mg D_answer_of_team.fn.kp D_answer_of_team.b .nil pass0 (pa_cons (pv 0) (pa_cons (pv 1) (pa_cons (pe_ix ix_list (pv 2) pe_int (fun _ _ => rfl)) pa_nil))))))))))), ?_⟩
    obtain ⟨dx, hg⟩ := hG.at_
    have no : ∀ {i j : Int} {tt : TT} {t u : TS} {D : Ends} {σ : L2.St}, EvT tt σ H (decide (i = j)) → ¬ i = j → u D σ H → tIfS tt t u D σ H := fun h1 h2 h3 => st_if h1 (fun z => absurd (of_decide_eq_true z) h2) (fun _ => h3)
    have yes : ∀ {i j : Int} {tt : TT} {t u : TS} {D : Ends} {σ : L2.St}, EvT tt σ H (decide (i = j)) → i = j → t D σ H → tIfS tt t u D σ H := fun h1 h2 h3 => st_if h1 (fun _ => h3) (fun z => absurd h2 (of_decide_eq_false z))
    rw [My.stepR_eq hok] at k
    cases hok with
    | c1 n => exact absurd rfl hn1
    | c2 n =>
      refine yes (et_t (ev_eqI (ev_var rfl) ev_c)) rfl ?_
      exact tm_of (ev_var rfl) hg (gf_no_clock G) (eva1 (ev_ixL (ev_var rfl) ev_c (SqL.of hnm) rfl)) ⟨g, n, G, b0, b1, s, st, hG, k⟩
    | c3 n l =>
      refine no (et_t (ev_eqI (ev_var rfl) ev_c)) (by first | decide | (dsimp only; decide)) ?_
      dsimp only [tNext]
      refine yes (et_t (ev_eqI (ev_var rfl) ev_c)) rfl ?_
      exact tm_of (ev_var rfl) hg (gf_no_stop G) (eva_cons (ev_ixL (ev_var rfl) ev_c (SqL.of hnm) rfl) (eva1 (ev_var rfl))) ⟨g, n, rw, l, G, b0, b1, s, st, hG, SqL.of hrw, hrl, k⟩
    | c4 a b c =>
      refine no (et_t (ev_eqI (ev_var rfl) ev_c)) (by first | decide | (dsimp only; decide)) ?_
      dsimp only [tNext]
      refine no (et_t (ev_eqI (ev_var rfl) ev_c)) (by first | decide | (dsimp only; decide)) ?_
      dsimp only [tNext]
      refine yes (et_t (ev_eqI (ev_var rfl) ev_c)) rfl ?_
      exact tm_of (ev_var rfl) hg (gf_no_signal G) (eva_cons (ev_ixL (ev_var rfl) ev_c (SqL.of hnm) rfl) (eva_cons (ev_ixL (ev_var rfl) ev_c (SqL.of hnm) rfl) (eva1 (ev_ixL (ev_var rfl) ev_c (SqL.of hnm) rfl)))) ⟨g, a, b, c, G, b0, b1, s, st, hG, hsl, k⟩
    | c5 a b =>
      refine no (et_t (ev_eqI (ev_var rfl) ev_c)) (by first | decide | (dsimp only; decide)) ?_
      dsimp only [tNext]
      refine no (et_t (ev_eqI (ev_var rfl) ev_c)) (by first | decide | (dsimp only; decide)) ?_
      dsimp only [tNext]
      refine no (et_t (ev_eqI (ev_var rfl) ev_c)) (by first | decide | (dsimp only; decide)) ?_
      dsimp only [tNext]
      refine yes (et_t (ev_eqI (ev_var rfl) ev_c)) rfl ?_
      exact tm_of (ev_var rfl) hg (gf_no_goal G) (eva_cons (ev_ixL (ev_var rfl) ev_c (SqL.of hnm) rfl) (eva1 (ev_ixL (ev_var rfl) ev_c (SqL.of hnm) rfl))) ⟨g, a, b, G, b0, b1, s, st, hG, k⟩
    | c6 =>
      refine no (et_t (ev_eqI (ev_var rfl) ev_c)) (by first | decide | (dsimp only; decide)) ?_
      dsimp only [tNext]
      refine no (et_t (ev_eqI (ev_var rfl) ev_c)) (by first | decide | (dsimp only; decide)) ?_
      dsimp only [tNext]
      refine no (et_t (ev_eqI (ev_var rfl) ev_c)) (by first | decide | (dsimp only; decide)) ?_
      dsimp only [tNext]
      refine no (et_t (ev_eqI (ev_var rfl) ev_c)) (by first | decide | (dsimp only; decide)) ?_
      dsimp only [tNext]
      refine yes (et_t (ev_eqI (ev_var rfl) ev_c)) rfl ?_
      exact tm_of (ev_var rfl) hg (gf_no_now G) eva_nil ⟨g, G, b0, b1, s, st, hG, k⟩
    | c7 n =>
      refine no (et_t (ev_eqI (ev_var rfl) ev_c)) (by first | decide | (dsimp only; decide)) ?_
      dsimp only [tNext]
      refine no (et_t (ev_eqI (ev_var rfl) ev_c)) (by first | decide | (dsimp only; decide)) ?_
      dsimp only [tNext]
      refine no (et_t (ev_eqI (ev_var rfl) ev_c)) (by first | decide | (dsimp only; decide)) ?_
      dsimp only [tNext]
      refine no (et_t (ev_eqI (ev_var rfl) ev_c)) (by first | decide | (dsimp only; decide)) ?_
      dsimp only [tNext]
      refine no (et_t (ev_eqI (ev_var rfl) ev_c)) (by first | decide | (dsimp only; decide)) ?_
      dsimp only [tNext]
      exact tc_of (eva_cons (ev_var rfl) (eva_cons (ev_var rfl) (eva1 (ev_ixL (ev_var rfl) ev_c (SqL.of hnm) rfl)))) ⟨g, 7, n, G, b0, b1, s, st, _, hG, .inl ⟨rfl, rfl⟩, k⟩
    | c8 n =>
      refine no (et_t (ev_eqI (ev_var rfl) ev_c)) (by first | decide | (dsimp only; decide)) ?_
      dsimp only [tNext]
      refine no (et_t (ev_eqI (ev_var rfl) ev_c)) (by first | decide | (dsimp only; decide)) ?_
      dsimp only [tNext]
      refine no (et_t (ev_eqI (ev_var rfl) ev_c)) (by first | decide | (dsimp only; decide)) ?_
      dsimp only [tNext]
      refine no (et_t (ev_eqI (ev_var rfl) ev_c)) (by first | decide | (dsimp only; decide)) ?_
      dsimp only [tNext]
      refine no (et_t (ev_eqI (ev_var rfl) ev_c)) (by first | decide | (dsimp only; decide)) ?_
      dsimp only [tNext]
      exact tc_of (eva_cons (ev_var rfl) (eva_cons (ev_var rfl) (eva1 (ev_ixL (ev_var rfl) ev_c (SqL.of hnm) rfl)))) ⟨g, 8, n, G, b0, b1, s, st, _, hG, .inr (.inl ⟨rfl, rfl⟩), k⟩
    | c9 n =>
      refine no (et_t (ev_eqI (ev_var rfl) ev_c)) (by first | decide | (dsimp only; decide)) ?_
      dsimp only [tNext]
      refine no (et_t (ev_eqI (ev_var rfl) ev_c)) (by first | decide | (dsimp only; decide)) ?_
      dsimp only [tNext]
      refine no (et_t (ev_eqI (ev_var rfl) ev_c)) (by first | decide | (dsimp only; decide)) ?_
      dsimp only [tNext]
      refine no (et_t (ev_eqI (ev_var rfl) ev_c)) (by first | decide | (dsimp only; decide)) ?_
      dsimp only [tNext]
      refine no (et_t (ev_eqI (ev_var rfl) ev_c)) (by first | decide | (dsimp only; decide)) ?_
      dsimp only [tNext]
      exact tc_of (eva_cons (ev_var rfl) (eva_cons (ev_var rfl) (eva1 (ev_ixL (ev_var rfl) ev_c (SqL.of hnm) rfl)))) ⟨g, 9, n, G, b0, b1, s, st, _, hG, .inr (.inr ⟨rfl, rfl⟩), k⟩
end
end Ice
namespace Ice
open PySem PySem.Spec PyProof.Rows L2
open Kg58 (Pen Told State Team runs running soonest minus after short ended singles marked cancel parts washed lengthOf minutesOf)
open My (PosL lefts lessAll Tab TabOk NSt StOk ToldOk RepT Good RC)
def CallAt (H0 H : Hp) (a : Addr) (r : RC) : Prop := ∃ nm rw, H0 nm = Option.none ∧ H0 rw = Option.none ∧ H a = some (.tup [.int r.call, .ref nm, .ref rw]) ∧ H nm = some (.lst (r.nums.map V.int)) ∧ H rw = some (.lst (r.row.map V.int))
def CallX (rd : Addr) (H0 H : Hp) (a : Addr) (r : RC) : Prop := ∃ nm rw, nm ≠ rd ∧ rw ≠ rd ∧ H0 nm = Option.none ∧ H0 rw = Option.none ∧ H a = some (.tup [.int r.call, .ref nm, .ref rw]) ∧ H nm = some (.lst (r.nums.map V.int)) ∧ H rw = some (.lst (r.row.map V.int))
theorem CallX.same {rd : Addr} {H0 H H' : Hp} {a : Addr} {r : RC} (s : Same H H') (h : CallX rd H0 H a r) : CallX rd H0 H' a r := by
  obtain ⟨nm, rw, h1, h2, f1, f2, h3, h4, h5⟩ := h
  exact ⟨nm, rw, h1, h2, f1, f2, s _ _ h3, s _ _ h4, s _ _ h5⟩
theorem CallX.app {rd : Addr} {H0 H : Hp} {a : Addr} {r : RC} {xs ys : List V} (h : CallX rd H0 H a r) (hd : H rd = some (.lst xs)) : CallX rd H0 (upd H rd (.lst ys)) a r := by
  obtain ⟨nm, rw, h1, h2, f1, f2, h3, h4, h5⟩ := h
  exact ⟨nm, rw, h1, h2, f1, f2, by rw [upd_ne (ne_of h3 hd (by intro z; cases z))]; exact h3, by rw [upd_ne h1]; exact h4, by rw [upd_ne h2]; exact h5⟩
inductive spReadI (K : PySem.W.Frag) (H : Hp) (Q : VK) : List V → Prop
  | mk (a : Addr) (rs : List RC) (h0 : SqL K H a ((rs.flatMap RC.flat).map V.int)) (h1 : (∀ r, r ∈ rs → r.Ok)) (h2 : (rs.flatMap RC.flat).length ≤ 10000) (h3 : ∀ (l : Addr) (H' : Hp), Same H H' → H l = Option.none → LstOf H' l (CallAt H H') rs → Q (.ref l) H') : spReadI K H Q [.ref a]
def spRead (K : PySem.W.Frag) : Sp := fun vs H Q _ => spReadI K H Q vs
inductive spAnswersI (K : PySem.W.Frag) (H : Hp) (Q : VK) : List V → Prop
  | mk (a : Addr) (rs : List RC) (h0 : SqL K H a ((rs.flatMap RC.flat).map V.int)) (h1 : (∀ r, r ∈ rs → r.Ok)) (h2 : (rs.flatMap RC.flat).length ≤ 10000) (h3 : rs.length ≤ 150) (h4 : ∀ (l : Addr) (H' : Hp), H' l = some (.lst ((My.toldR Kg58.init rs).map V.int)) → Q (.ref l) H') : spAnswersI K H Q [.ref a]
def spAnswers (K : PySem.W.Frag) : Sp := fun vs H Q _ => spAnswersI K H Q vs
def left (L : Nat) (σ : L2.St) (_ : Hp) : Nat := match σ with
  | _ :: _ :: some (V.int k) :: _ => ((L : Int) - k).toNat
  | _ => 0
theorem done_le : ∀ d : List RC, d.length ≤ (d.flatMap RC.flat).length
  | [] => Nat.le_refl _
  | x :: d => by
    rw [List.flatMap_cons, List.length_append, List.length_cons]
    have := My.flat_pos x
    have := done_le d
    omega
section
variable {P : Program} {w : World} {K : PySem.W.Frag} {mg : Str → Option Value} {base : Heap} {A : Ad}
inductive ReadI (H : Hp) (rs : List RC) (a rd : Addr) (H' : Hp) : L2.St → Prop
  | mk (v3 v4 v5 v6 : Option V) (done rest : List RC) (hrs : rs = done ++ rest) (s : Same H H') (as : List Addr) (hr : H' rd = some (.lst (as.map V.ref))) (hR : Refs (CallX rd H H') as done) :
    ReadI H rs a rd H' [some (.ref a), some (.ref rd), some (.int ((done.flatMap RC.flat).length : Int)), v3, v4, v5, v6]
theorem ok_read {f : Addr} {fd : FuncData} (F : Fun K "read_calls" "read_calls" s_read_calls f fd) (T : Txt K mg A) : FnOk P w K mg base CX0 1 f fd ["calls"] (spRead K) := by
  refine F.ok sc_read_calls (fun vs H Q E h => ?_) (fun cdv Ar outer s H vs Q E hr h => ?_)
  · obtain ⟨a, rs, _⟩ := h
    rfl
  · obtain ⟨a, rs, hS, hok, hlen, k⟩ := h
    have nd := sc_read_calls.nd
    refine ⟨_, (pss_cons (ps_set (i := 1) nd rfl (Or.inl rfl) (pe_lst pa_nil))
    (pss_cons (ps_set (i := 2) nd rfl (Or.inl rfl) pe_int)
    (pss_cons (ps_while PassesOwn.never (pt_cmpR op_lt (pv 2) (pe_callB call_len_seq (by rfl) T.len_ bt_len (pa_cons (pv 0) pa_nil)) (nomark _))
      (pss_cons (ps_set (i := 3) nd rfl (Or.inl rfl) (pe_ix ix_list (pv 0) (pv 2) (fun _ _ => rfl)))
      (pss_cons (ps_set (i := 4) nd rfl (Or.inl rfl) (pe_op op_add (pe_op op_add (pv 2) pe_int) (gd T.WHOLE_NUMBERS T.gdWHOLE_NUMBERS (pv 3) (fun _ _ => rfl))))
      (pss_cons (ps_set (i := 5) nd rfl (Or.inl rfl) (pe_slice sl_list (pv 0) (po_some (pe_op op_add (pv 2) pe_int)) (po_some (pv 4))))
      (pss_cons (ps_set (i := 6) nd rfl (Or.inl rfl) (pe_lst pa_nil))
      (pss_cons (ps_if (pt_cmpR op_eq (pv 3) (gi T.STOP) (nomark _))
        (pss_cons (ps_set (i := 6) nd rfl (Or.inl rfl) (pe_slice sl_list (pv 0) (po_some (pe_op op_add (pv 4) pe_int)) (po_some (pe_op op_add (pe_op op_add (pv 4) pe_int) (pe_ix ix_list (pv 0) (pv 4) (fun _ _ => rfl))))))
        (pss_one (ps_set (i := 4) nd rfl (Or.inl rfl) (pe_op op_add (pe_op op_add (pv 4) pe_int) (pe_ix ix_list (pv 0) (pv 4) (fun _ _ => rfl))))))
        pss_nil)
      (pss_cons (ps_expr (pe_bm PySem.F.plainAttrs_list PySem.F.slot_list_append PySem.F.type_list_append mt_append (pv 1) (pa_cons (pe_tup (pa_cons (pv 3) (pa_cons (pv 5) (pa_cons (pv 6) pa_nil)))) pa_nil)))
      (pss_one (ps_set (i := 2) nd rfl (Or.inl rfl) (pv 4))))))))))
    (pss_one (ps_ret (pv 1)))))), ?_⟩
    generalize hl : rs.flatMap RC.flat = l at hS hlen
    refine ⟨Nat.zero_le _, fun rd hrd => ?_⟩
    refine gn_of ?_
    refine gn_of ?_
    dsimp only
    have hml : (l.map V.int).length = l.length := List.length_map _
    have s0 : Same H (upd H rd (.lst [])) := Same.new hrd
    refine while_byN (fun σ H' => ReadI H rs a rd H' σ) (left l.length) ⟨none, none, none, none, [], rs, rfl, s0, [], upd_same, Refs.nil⟩ ?_ ?_
    · rintro D σ H1 hD ⟨v3, v4, v5, v6, done, rest, hrs, s1, as, hrd1, hR⟩
      have hS1 := s1.seq hS
      have hl2 : l = done.flatMap RC.flat ++ rest.flatMap RC.flat := by rw [← hl, hrs, List.flatMap_append]
      refine tt_of (et_t (ev_i (ev_var rfl) (ev_len (eva1 (ev_var rfl)) (.inl hS1)))) (iteB (fun q => ?_) (fun q => ?_))
      · have q' := of_decide_eq_true q
        rw [hml] at q'
        obtain ⟨r, rest', rfl⟩ : ∃ r rest', rest = r :: rest' := by
          cases rest with
          | nil =>
            rw [List.flatMap_nil, List.append_nil] at hl2
            rw [← hl2] at q'
            omega
          | cons r rest' => exact ⟨r, rest', rfl⟩
        have hrok : r.Ok := hok r (by rw [hrs]; simp)
        rw [List.flatMap_cons] at hl2
        have hkn : (done ++ [r]).flatMap RC.flat = done.flatMap RC.flat ++ r.flat := by
          rw [List.flatMap_append]
          simp
        generalize hpre : done.flatMap RC.flat = pre at hl2 hkn hD
        generalize rest'.flatMap RC.flat = post at hl2
        obtain ⟨tail, hflat⟩ : ∃ tail, r.flat = r.call :: (r.nums ++ tail) := ⟨_, rfl⟩
        have hl3 : l = pre ++ r.call :: (r.nums ++ (tail ++ post)) := by
          rw [hl2, hflat, List.cons_append, List.append_assoc]
        have hll : l.length = pre.length + 1 + r.nums.length + tail.length + post.length := by
          rw [hl3]
          simp only [List.length_append, List.length_cons]
          omega
        have hd1 : l.drop (pre.length + 1) = r.nums ++ (tail ++ post) := by
          rw [hl3, List.drop_append, List.drop_of_length_le (by omega), List.nil_append]
          have : pre.length + 1 - pre.length = 1 := by omega
          rw [this]
          rfl
        refine st_set (ev_ixL (ev_var rfl) (ev_var rfl) hS1 (ints_get (My.get_mid hl3))) ?_
        dsimp only
        have e1 : (pre.length : Int) + 1 + (r.nums.length : Int) = ((pre.length + 1 + r.nums.length : Nat) : Int) := by omega
        refine st_set (v := .int ((pre.length + 1 + r.nums.length : Nat) : Int)) ?_ ?_
        · rw [← e1]
          exact ev_i (ev_i (ev_var rfl) ev_c) (ev_gd (ev_var rfl) (My.wn_get hrok))
        dsimp only
        refine ⟨_, rfl, _, rfl, _, _, rfl, rfl, _, rfl, _, rfl, _, rfl, a, _, rfl, hS1, fun nm hnm => ?_⟩
        have e2 : (pre.length : Int) + 1 = ((pre.length + 1 : Nat) : Int) := by omega
        have hcut : cutV (l.map V.int) (some ((pre.length : Int) + 1)) (some ((pre.length + 1 + r.nums.length : Nat) : Int)) = r.nums.map V.int := by
          rw [e2, cutV_mid (by rw [hml]; omega) (by omega), ← List.map_drop, hd1, ← List.map_take]
          congr 1
          have : pre.length + 1 + r.nums.length - (pre.length + 1) = r.nums.length := by omega
          rw [this, List.take_append_of_le_length (Nat.le_refl _), List.take_length]
        have s2 : Same H1 (upd H1 nm (.lst (r.nums.map V.int))) := Same.new hnm
        rw [hcut]
        have hnm2 : upd H1 nm (.lst (r.nums.map V.int)) nm = some (.lst (r.nums.map V.int)) := upd_same
        have nmrd : nm ≠ rd := fun z => (ne_of_none hrd1 hnm) z.symm
        generalize upd H1 nm (.lst (r.nums.map V.int)) = H2 at s2 hnm2 ⊢
        refine gn_of ?_
        refine ⟨Nat.zero_le _, fun rw0 hrw0 => ?_⟩
        have s3 : Same H2 (upd H2 rw0 (.lst [])) := Same.new hrw0
        have hrw3 : upd H2 rw0 (.lst []) rw0 = some (.lst []) := upd_same
        have rw0rd : rw0 ≠ rd := fun z => (ne_of_none (s2 _ _ hrd1) hrw0) z.symm
        generalize upd H2 rw0 (.lst []) = H3 at s3 hrw3 ⊢
        have s13 := s2.trans s3
        refine gn_of ?_
        dsimp only
        refine sqP (R := fun N => ∀ (rw : Addr) (e : Nat) (H4 : Hp), Same H3 H4 → H4 rw = some (.lst (r.row.map V.int)) → rw ≠ rd → H rw = Option.none → e = pre.length + r.flat.length →
            N [some (.ref a), some (.ref rd), some (.int (pre.length : Int)), some (.int r.call), some (.int ((e : Nat) : Int)), some (.ref nm), some (.ref rw)] H4) ?_ fun D2 fin => ?_
        · intro rw e H4 s4 hrw hrwd hrwf he
          have s14 := s13.trans s4
          have hrd4 := s14 _ _ hrd1
          refine ⟨_, rfl, .inl ⟨rfl, _, SqL.of hrd4⟩, _, rfl, _, rfl, _, rfl, (by show 3 ≤ sizeLine; decide), fun tp htp => ?_⟩
          have sT : Same H4 (upd H4 tp (.tup [.int r.call, .ref nm, .ref rw])) := Same.new htp
          have hrd5 := sT _ _ hrd4
          refine ⟨rd, _, _, rfl, rfl, hrd5, ?_, ?_⟩
          · rw [List.length_map, hR.len]
            have hdl : done.length ≤ pre.length := by rw [← hpre]; exact done_le done
            exact line_of (by omega)
          refine st_set (ev_var rfl) ?_
          have hS5 : Same H (upd H4 tp (.tup [.int r.call, .ref nm, .ref rw])) := (s1.trans s14).trans sT
          have he : e = ((done ++ [r]).flatMap RC.flat).length := by rw [hkn, List.length_append, ← he]
          subst he
          refine hD _ _ ⟨_, _, _, _, done ++ [r], rest', ?_, hS5.upd hrd, as ++ [tp], ?_, ?_⟩ ?_
          · rw [hrs, List.append_assoc]
            rfl
          · rw [upd_same, List.map_append]
            rfl
          · refine (hR.imp fun x y z => (CallX.same (s14.trans sT) z).app hrd5).snoc (CallX.app ?_ hrd5)
            exact ⟨nm, rw, nmrd, hrwd, s1.free hnm, hrwf, upd_same, sT _ _ (s4 _ _ (s3 _ _ hnm2)), sT _ _ hrw⟩
          · show ((l.length : Int) - ((((done ++ [r]).flatMap RC.flat).length : Nat) : Int)).toNat < ((l.length : Int) - (pre.length : Int)).toNat
            have := My.flat_pos r
            rw [hkn, List.length_append]
            omega
        by_cases h3 : r.call = 3
        ·
          have hf := My.flat_stop hrok h3
          have ht : tail = (r.row.length : Int) :: r.row := by
            rw [hflat] at hf
            exact List.append_cancel_left (List.cons.inj hf).2
          subst ht
          have hS3 := s13.seq hS1
          have hge : l[pre.length + 1 + r.nums.length]? = some (r.row.length : Int) := by
            have hl4 : l = (pre ++ r.call :: r.nums) ++ (r.row.length : Int) :: (r.row ++ post) := by
              rw [hl3]
              simp
            have := My.get_mid hl4
            rw [List.length_append, List.length_cons] at this
            have e : pre.length + (r.nums.length + 1) = pre.length + 1 + r.nums.length := by omega
            rw [e] at this
            exact this
          have htl : ((r.row.length : Int) :: r.row).length = r.row.length + 1 := rfl
          refine st_if (et_t (ev_eqI (ev_var rfl) ev_c)) (fun _ => ?_) (fun z => absurd h3 (of_decide_eq_false z))
          refine ⟨_, rfl, _, rfl, _, _, rfl, rfl, _, rfl, _, rfl, _, _, rfl, rfl, _, rfl, _, rfl, a, _, _, _, rfl, rfl, hS3, ints_get hge, _, _, rfl, rfl, _, rfl, a, _, rfl, hS3, fun rw1 hrw1 => ?_⟩
          have e3 : ((pre.length + 1 + r.nums.length : Nat) : Int) + 1 = ((pre.length + 1 + r.nums.length + 1 : Nat) : Int) := by omega
          have e4 : ((pre.length + 1 + r.nums.length : Nat) : Int) + 1 + (r.row.length : Int) = ((pre.length + 1 + r.nums.length + 1 + r.row.length : Nat) : Int) := by omega
          have hcut2 : cutV (l.map V.int) (some (((pre.length + 1 + r.nums.length : Nat) : Int) + 1)) (some (((pre.length + 1 + r.nums.length : Nat) : Int) + 1 + (r.row.length : Int))) = r.row.map V.int := by
            rw [e4, e3, cutV_mid (by rw [hml]; omega) (by omega), ← List.map_drop, ← List.map_take]
            congr 1
            have hd2 : l.drop (pre.length + 1 + r.nums.length + 1) = r.row ++ post := by
              have : pre.length + 1 + r.nums.length + 1 = (pre.length + 1) + (r.nums.length + 1) := by omega
              rw [this, ← List.drop_drop, hd1, List.drop_append, List.drop_of_length_le (by omega), List.nil_append]
              have : r.nums.length + 1 - r.nums.length = 1 := by omega
              rw [this]
              rfl
            have : pre.length + 1 + r.nums.length + 1 + r.row.length - (pre.length + 1 + r.nums.length + 1) = r.row.length := by omega
            rw [hd2, this, List.take_append_of_le_length (Nat.le_refl _), List.take_length]
          rw [hcut2]
          have s4 : Same H3 (upd H3 rw1 (.lst (r.row.map V.int))) := Same.new hrw1
          have rw1rd : rw1 ≠ rd := fun z => (ne_of_none (s13 _ _ hrd1) hrw1) z.symm
          refine gn_of ?_
          dsimp only
          refine st_set (v := .int ((pre.length + 1 + r.nums.length + 1 + r.row.length : Nat) : Int)) ?_ ?_
          · rw [← e4]
            exact ev_i (ev_i (ev_var rfl) ev_c) (ev_ixL (ev_var rfl) (ev_var rfl) (s4.seq hS3) (ints_get hge))
          refine fin rw1 _ _ s4 upd_same rw1rd ((s1.trans s13).free hrw1) ?_
          rw [hf, List.length_cons, List.length_append, htl]
          omega
        · obtain ⟨hf, hrow⟩ := My.flat_not hrok h3
          refine st_if (et_t (ev_eqI (ev_var rfl) ev_c)) (fun z => absurd (of_decide_eq_true z) h3) (fun _ => ?_)
          dsimp only [tNext]
          refine fin rw0 _ _ (Same.refl _) (by rw [hrow]; exact hrw3) rw0rd ((s1.trans s2).free hrw0) ?_
          rw [hf, List.length_cons, List.append_nil]
          omega
      · refine st_ret (ev_var rfl) ?_
        have q' := of_decide_eq_false q
        rw [hml] at q'
        have hrest : rest = [] := by
          cases rest with
          | nil => rfl
          | cons r rest' =>
            have := congrArg List.length hl2
            rw [List.flatMap_cons, List.length_append, List.length_append] at this
            have := My.flat_pos r
            omega
        rw [hrest, List.append_nil] at hrs
        subst hrs
        exact k rd H1 s1 hrd ⟨as, hrd1, hR.imp fun x y z => by
          obtain ⟨nm, rw, _, _, f1, f2, h3, h4, h5⟩ := z
          exact ⟨nm, rw, f1, f2, h3, h4, h5⟩⟩
    · intro σ H' Q1 Q2 hq h
      obtain ⟨v, hv, v2, hv2, p, ys, e0, hsl, i, j, e1, e2, b, hb, h3⟩ := h
      exact ⟨v, hv, v2, hv2, p, ys, e0, hsl, i, j, e1, e2, b, hb, hq _ _ h3⟩
end
end Ice
namespace Ice
open PySem PySem.Spec PyProof.Rows L2
open Kg58 (Pen Told State Team runs running soonest minus after short ended singles marked cancel parts washed lengthOf minutesOf)
open My (PosL lefts lessAll Tab TabOk NSt StOk ToldOk RepT Good RC)
theorem row_le {r : RC} (h : r.Ok) : r.row.length ≤ r.flat.length := by
  by_cases h3 : r.call = 3
  · rw [My.flat_stop h h3, List.length_cons, List.length_append, List.length_cons]
    omega
  · rw [(My.flat_not h h3).2]
    exact Nat.zero_le _
theorem flat_le : ∀ {rs : List RC} {r : RC}, r ∈ rs → r.flat.length ≤ (rs.flatMap RC.flat).length
  | [], _, h => by cases h
  | x :: rs, r, h => by
    rw [List.flatMap_cons, List.length_append]
    rcases List.mem_cons.mp h with rfl | h
    · omega
    · have := flat_le h
      omega
theorem GameAt.other {A : Ad} {H : Hp} {g td : Addr} {G : GF} {b0 b1 : Addr} {s : State} {st : NSt} {xs ys : List V} (h : GameAt A H g G b0 b1 s st) (htd : H td = some (.lst xs)) (ho : td ∉ ownOf g G) (h0 : b0 ≠ td) (h1 : b1 ≠ td) :
    GameAt A (upd H td (.lst ys)) g G b0 b1 s st := by
  have keep : ∀ {b : Addr} {o : HO}, H b = some o → b ≠ td → upd H td (.lst ys) b = some o := fun {b o} hb hn => by rw [upd_ne hn]; exact hb
  have ne : ∀ {b : Addr}, b ∈ ownOf g G → b ≠ td := fun {b} hb z => ho (by rw [← z]; exact hb)
  obtain ⟨dx, hg⟩ := h.at_
  obtain ⟨ts, hts, hTR⟩ := h.hs
  exact { h with
    at_ := ⟨dx, keep hg (ne ow_g)⟩
    hb := keep h.hb (ne ow_bl)
    x0 := BoxAt.updL h.x0 htd h0
    x1 := BoxAt.updL h.x1 htd h1
    hs := ⟨ts, keep hts (ne ow_sg), hTR.imp fun _ _ z => TupAt.updL z htd⟩
    hg := keep h.hg (ne ow_gl)
    hn := keep h.hn (ne ow_nd)
    hm := keep h.hm (ne ow_mj)
    ho := keep h.ho (ne ow_ou) }
theorem box_ne {C : Addr} {H : Hp} {b td : Addr} {ps : List Pen} {acc : List Int} (hB : BoxAt C H b ps) (ht : H td = some (.lst (acc.map V.int))) (ha : acc ≠ []) : b ≠ td := by
  rintro rfl
  obtain ⟨as, e, _⟩ := hB
  rw [ht] at e
  have e2 : acc.map V.int = as.map V.ref := HO.lst.inj (Option.some.inj e)
  cases acc with
  | nil => exact ha rfl
  | cons x acc =>
    cases as with
    | nil => cases e2
    | cons y as => cases e2
def GV (A : Ad) (H1 H : Hp) (td : Addr) (gv : V) (s : State) (i : Nat) : Prop := (gv = .non ∧ s.base = 0) ∨ ∃ (g : Addr) (G : GF) (b0 b1 : Addr) (st : NSt), gv = .ref g ∧ GameAt A H g G b0 b1 s st ∧ (∀ x, x ∈ ownOf g G → H1 x = Option.none) ∧ b0 ≠ td ∧ b1 ≠ td ∧ s.signalled.length ≤ i
section
variable {P : Program} {w : World} {K : PySem.W.Frag} {mg : Str → Option Value} {base : Heap} {A : Ad}
inductive AnsI (A : Ad) (a td : Addr) (H1 : Hp) (rs : List RC) (i : Nat) (H' : Hp) : L2.St → Prop
  | mk (gv : V) (v3 v4 v5 v6 : Option V) (acc : List Int) (s : State) (kp : Keep [td] H1 H') (htd : H' td = some (.lst (acc.map V.int))) (hal : acc.length ≤ 1001 * i) (hne : 0 < i → acc ≠ []) (ht : My.toldR Kg58.init rs = acc ++ My.toldR s (rs.drop i))
    (hi0 : i = 0 → gv = .non) (hgv : GV A H1 H' td gv s i) : AnsI A a td H1 rs i H' [some (.ref a), some (.ref td), some gv, v3, v4, v5, v6]
theorem ok_answers {f f1 f2 f3 f4 : Addr} {fd fd1 fd2 fd3 fd4 : FuncData} (F : Fun K "answers" "answers" s_answers f fd) (T : Txt K mg A) (mkG : Mk K A.CG f3)
    (D_read_calls : Def K mg "read_calls" s_read_calls ["calls"] f1 fd1) (G_read_calls : FnOk P w K mg base CX0 1 f1 fd1 ["calls"] (spRead K))
    (D_may_begin : Def K mg "may_begin" s_may_begin ["skaters"] f2 fd2) (G_may_begin : FnOk P w K mg base CX0 1 f2 fd2 ["skaters"] spMayBegin)
    (D_Game_init : MDef K A.CG "__init__" "Game.__init__" s_Game_init ["self", "skaters"] f3 fd3) (G_Game_init : FnOk P w K mg base CX0 1 f3 fd3 ["self", "skaters"] (spGI A))
    (D_answer_in_game : Def K mg "answer_in_game" s_answer_in_game ["game", "call", "numbers", "row"] f4 fd4) (G_answer_in_game : FnOk P w K mg base CX0 9 f4 fd4 ["game", "call", "numbers", "row"] (spInGame A)) :
    FnOk P w K mg base CX0 10 f fd ["calls"] (spAnswers K) := by
  refine F.ok sc_answers (fun vs H Q E h => ?_) (fun cdv Ar outer s H vs Q E hr h => ?_)
  · obtain ⟨a, rs, _⟩ := h
    rfl
  · obtain ⟨a, rs, hS, hok, hlen, h150, k⟩ := h
    have nd := sc_answers.nd
    refine ⟨_, (pss_cons (ps_set (i := 1) nd rfl (Or.inl rfl) (pe_lst pa_nil))
    (pss_cons (ps_set (i := 2) nd rfl (Or.inl rfl) pe_non)
    (pss_cons (ps_for PassesOwn.never rfl (pi_list (pe_call G_read_calls (hr.mono (by decide)) rfl D_read_calls.mg D_read_calls.fn.kp D_read_calls.b .nil pass0 (pa_cons (pv 0) pa_nil))) (pg_tup rfl (pgs_cons (pg_name (i := 3) nd rfl (Or.inl rfl)) (pgs_cons (pg_name (i := 4) nd rfl (Or.inl rfl)) (pgs_cons (pg_name (i := 5) nd rfl (Or.inl rfl)) pgs_nil))))
      (pss_cons (ps_if (PW.pt (pw_and (pt_cmpR op_eq (pv 3) (gi T.BEGIN) (nomark _)) (pw_and1 (pt_val (pe_call G_may_begin (hr.mono (by decide)) rfl D_may_begin.mg D_may_begin.fn.kp D_may_begin.b .nil pass0 (pa_cons (pe_ix ix_list (pv 4) pe_int (fun _ _ => rfl)) pa_nil))))))
        (pss_cons (ps_set (i := 2) nd rfl (Or.inl rfl) (pe_make mkG G_Game_init (hr.mono (by decide)) rfl T.mgG D_Game_init.b .nil pass0 (pa_cons (pe_ix ix_list (pv 4) pe_int (fun _ _ => rfl)) pa_nil)))
        (pss_one (ps_set (i := 6) nd rfl (Or.inl rfl) (pe_lst (pa_cons pe_int pa_nil)))))
        (pss_one (ps_if (pt_cmpR op_eq (pv 3) (gi T.BEGIN) (nomark _))
          (pss_one (ps_set (i := 6) nd rfl (Or.inl rfl) (pe_lst (pa_cons (gi T.WRONG) pa_nil))))
          (pss_one (ps_if (pt_cmpR op_isN (pv 2) pe_non (nomark _))
            (pss_one (ps_set (i := 6) nd rfl (Or.inl rfl) (pe_lst (pa_cons (gi T.NO_GAME) pa_nil))))
            (pss_one (ps_set (i := 6) nd rfl (Or.inl rfl) (pe_call G_answer_in_game (hr.mono (by decide)) rfl D_answer_in_game.mg D_answer_in_game.fn.kp D_answer_in_game.b .nil pass0 (pa_cons (pv 2) (pa_cons (pv 3) (pa_cons (pv 4) (pa_cons (pv 5) pa_nil))))))))))))
      (pss_cons (ps_expr (pe_bm PySem.F.plainAttrs_list PySem.F.slot_list_append PySem.F.type_list_append mt_append (pv 1) (pa_cons (pe_callB call_len_seq (by rfl) T.len_ bt_len (pa_cons (pv 6) pa_nil)) pa_nil)))
      (pss_one (ps_expr (pe_bm PySem.F.plainAttrs_list PySem.F.slot_list_extend PySem.F.type_list_extend mt_extend (pv 1) (pa_cons (pv 6) pa_nil)))))))
    (pss_one (ps_ret (pv 1)))))), ?_⟩
    refine ⟨Nat.zero_le _, fun td htd0 => ?_⟩
    have s0 : Same H (upd H td (.lst [])) := Same.new htd0
    have htdU : upd H td (.lst []) td = some (.lst []) := upd_same
    generalize upd H td (.lst []) = H0 at s0 htdU ⊢
    refine gn_of ?_
    refine gn_of ?_
    dsimp only
    refine tc_of (eva1 (ev_var rfl)) ⟨a, rs, s0.seq hS, hok, hlen, fun rl H1 s1 hrlf hrl => ?_⟩
    obtain ⟨as, hrl, hR⟩ := hrl
    have htd1 := s1 _ _ htdU
    have hrltd : rl ≠ td := fun z => (ne_of_none htdU hrlf) z.symm
    refine ⟨rl, rfl, ⟨_, SqL.of hrl⟩, for_listN (K := K) (a := rl) (xs := as.map V.ref) (fun i σ H' => AnsI A a td H1 rs i H' σ) ⟨.non, none, none, none, none, [], Kg58.init, (Same.refl H1).keep _, htd1, Nat.le_refl _, fun z => absurd z (Nat.lt_irrefl _), rfl, fun _ => rfl, .inl ⟨rfl, rfl⟩⟩
      (fun i σ H' _ h => by cases h with | mk _ _ _ _ _ _ _ kp => exact SqL.of (kp _ _ hrl (notin1 hrltd))) ?_ ?_⟩
    · intro D i y σ H2 hD hi hI
      refine hideN fun N hN => ?_
      obtain ⟨gv, v3, v4, v5, v6, acc, s, kp, htd2, hal, hne, htold, hi0, hgv⟩ := hI
      obtain ⟨c, hc, rfl⟩ := map_get hi
      obtain ⟨r, hr', nm, rw, fn, fr, h1, h2, h3⟩ := hR.getA hc
      have hil : i < rs.length := (List.getElem?_eq_some_iff.mp hr').1
      have hrok : r.Ok := hok r (List.mem_of_getElem? hr')
      have nmtd : nm ≠ td := fun z => (ne_of_none htdU fn) z.symm
      have rwtd : rw ≠ td := fun z => (ne_of_none htdU fr) z.symm
      have hc2 := kp _ _ h1 (notin1 (ne_of h1 htd1 (by intro z; cases z)))
      have hnm2 := kp _ _ h2 (notin1 nmtd)
      have hrw2 := kp _ _ h3 (notin1 rwtd)
      have hrow : r.row.length ≤ 10000 := Nat.le_trans (row_le hrok) (Nat.le_trans (flat_le (List.mem_of_getElem? hr')) hlen)
      have hdrop : rs.drop i = r :: rs.drop (i + 1) := by
        rw [List.drop_eq_getElem_cons hil]
        congr 1
        exact (List.getElem?_eq_some_iff.mp hr').2
      rw [hdrop, My.toldR_cons] at htold
      refine ⟨c, _, rfl, SqT.of hc2, rfl, _, _, rfl, _, _, rfl, _, _, rfl, rfl, ?_⟩
      subst hN
      refine sqP (R := fun N => ∀ (gv' : V) (an : Addr) (H3 : Hp), H3 an = some (.lst ((My.stepR s r).2.map V.int)) → an ≠ td → Keep [td] H1 H3 → H3 td = some (.lst (acc.map V.int)) → (My.stepR s r).2.length ≤ 1000 → GV A H1 H3 td gv' (My.stepR s r).1 (i + 1) →
          N [some (.ref a), some (.ref td), some gv', some (.int r.call), some (.ref nm), some (.ref rw), some (.ref an)] H3) ?_ fun D2 rest => ?_
      · intro gv' an H3 han hatd kp3 htd3 hal3 hgv3
        refine st_append (ev_var rfl) htd3 (ev_len (eva1 (ev_var rfl)) (.inl (SqL.of han))) (by rw [List.length_map]; exact line_of (by omega)) ?_
        have han4 : upd H3 td (.lst (acc.map V.int ++ [.int (((My.stepR s r).2.map V.int).length : Int)])) an = some (.lst ((My.stepR s r).2.map V.int)) := by rw [upd_ne hatd]; exact han
        refine ⟨_, rfl, .inl ⟨rfl, _, SqL.of upd_same⟩, _, rfl, td, an, _, _, rfl, rfl, upd_same, han4, ?_, ?_⟩
        · rw [List.length_append, List.length_map, List.length_map]
          exact Nat.le_of_lt (line_of (by show acc.length + 1 + (My.stepR s r).2.length ≤ 1000000; omega))
        · rw [upd_upd]
          have elist : acc.map V.int ++ [V.int (((My.stepR s r).2.map V.int).length : Int)] ++ (My.stepR s r).2.map V.int = (acc ++ (((My.stepR s r).2.length : Int) :: (My.stepR s r).2)).map V.int := by
            rw [List.length_map, List.map_append, List.map_cons, List.append_assoc]
            rfl
          rw [elist]
          refine hD _ _ ⟨gv', _, _, _, _, acc ++ (((My.stepR s r).2.length : Int) :: (My.stepR s r).2), (My.stepR s r).1, kp3.upd (.inl List.mem_cons_self), upd_same, ?_, fun _ z => ?_, ?_, fun z => absurd z (Nat.succ_ne_zero _), ?_⟩
          · rw [List.length_append, List.length_cons]
            omega
          · have := congrArg List.length z
            rw [List.length_append, List.length_cons, List.length_nil] at this
            omega
          · rw [htold, List.append_assoc]
            rfl
          · rcases hgv3 with ⟨e1, e2⟩ | ⟨g, G, b0, b1, st, e1, hG, hown, n0, n1, hsg⟩
            · exact .inl ⟨e1, e2⟩
            · have hto : td ∉ ownOf g G := fun z => by
                have := hown td z
                rw [htd1] at this
                cases this
              exact .inr ⟨g, G, b0, b1, st, e1, GameAt.other hG htd3 hto n0 n1, hown, n0, n1, hsg⟩
      have gvSame : ∀ (H3 : Hp) (j : Nat), Same H2 H3 → i ≤ j → GV A H1 H3 td gv s j := fun H3 j s3 hj => by
        rcases hgv with ⟨e1, e2⟩ | ⟨g, G, b0, b1, st, e1, hG, hown, n0, n1, hsg⟩
        · exact .inl ⟨e1, e2⟩
        · exact .inr ⟨g, G, b0, b1, st, e1, hG.same s3, hown, n0, n1, Nat.le_trans hsg hj⟩
      have one : ∀ (v : Int), My.stepR s r = (s, [v]) → ∀ (an : Addr), H2 an = Option.none → _ := fun v hv an han => rest gv an (upd H2 an (.lst [.int v])) (by rw [upd_same, hv]; rfl) (fun z => by rw [z, htd2] at han; cases han)
        (kp.trans ((Same.new han).keep _)) ((Same.new han) _ _ htd2) (by rw [hv]; show 1 ≤ 1000; decide) (by rw [hv]; exact gvSame _ _ (Same.new han) (Nat.le_succ _))
      by_cases hc1 : r.call = 1
      ·
        obtain ⟨n, rfl⟩ : ∃ n, r = ⟨1, [n], []⟩ := by
          cases hrok with
          | c1 n => exact ⟨n, rfl⟩
          | _ => exact absurd hc1 (by first | decide | (dsimp only; decide))
        have hstep : My.stepR s ⟨1, [n], []⟩ = if Kg58.within n 3 6 = false then (s, [-1]) else ({ Kg58.init with base := n.toNat }, [0]) := (My.stepR_eq hrok).trans My.res_begin
        refine st_if_and (et_t (ev_eqI (ev_var rfl) ev_c)) (fun _ => ?_) (fun z => absurd rfl (of_decide_eq_false z))
        refine tc_of (eva1 (ev_ixL (ev_var rfl) ev_c (SqL.of hnm2) rfl)) ⟨n, _, rfl, iteB (fun q => ?_) (fun q => ?_)⟩
        · rw [if_neg (by rw [q]; decide)] at hstep
          obtain ⟨b, hb3, hb6, rfl⟩ : ∃ b : Nat, 3 ≤ b ∧ b ≤ 6 ∧ n = (b : Int) := by
            have q2 : (decide (3 ≤ n) && decide (n ≤ 6)) = true := q
            rw [Bool.and_eq_true] at q2
            have e1 := of_decide_eq_true q2.1
            have e2 := of_decide_eq_true q2.2
            exact ⟨n.toNat, by omega, by omega, by omega⟩
          refine ⟨_, rfl, nm, _, _, _, rfl, rfl, SqL.of hnm2, rfl, ?_⟩
          intro g dx ng ndx nex
          refine ⟨g, dx, b, upd_same, hb3, hb6, fun G b0 b1 H3 hG hk hown f0 f1 => ⟨rfl, ?_⟩⟩
          have s3 : Same H2 H3 := Same.made ng ndx hk
          refine gn_of ?_
          refine ⟨(by show 1 ≤ sizeLine; decide), fun an han => ?_⟩
          have s4 : Same H3 (upd H3 an (.lst [.int 0])) := Same.new han
          have s34 := s3.trans s4
          have htd4 := s34 _ _ htd2
          have up : ∀ {x : Addr}, (upd (upd H2 dx (.own g)) g (.ins A.CG dx [])) x = Option.none → H2 x = Option.none := fun {x} hx => by
            have e1 : x ≠ g := fun z => by rw [z, upd_same] at hx; cases hx
            rw [upd_ne e1] at hx
            have e2 : x ≠ dx := fun z => by rw [z, upd_same] at hx; cases hx
            rw [upd_ne e2] at hx
            exact hx
          have toH1 : ∀ {x : Addr}, H2 x = Option.none → H1 x = Option.none := fun {x} hx => by
            cases e : H1 x with
            | none => rfl
            | some o =>
              rw [kp _ _ e (notin1 fun z => by rw [z, htd2] at hx; cases hx)] at hx
              cases hx
          refine gn_of ?_
          have hst : (b : Int).toNat = b := rfl
          refine rest (.ref g) an _ (by rw [upd_same, hstep]; rfl) (fun z => by rw [z, s3 _ _ htd2] at han; cases han) (kp.trans (s34.keep _)) htd4 (by rw [hstep]; show 1 ≤ 1000; decide) ?_
          rw [hstep]
          refine .inr ⟨g, G, b0, b1, My.st0, rfl, hG.same s4, fun x hx => ?_, fun z => ?_, fun z => ?_, Nat.zero_le _⟩
          · rcases hown x hx with rfl | hx
            · exact toH1 ng
            · exact toH1 (up hx)
          · have := up f0
            rw [z, htd2] at this
            cases this
          · have := up f1
            rw [z, htd2] at this
            cases this
        · rw [if_pos q] at hstep
          refine st_if (et_t (ev_eqI (ev_var rfl) ev_c)) (fun _ => ?_) (fun z => absurd rfl (of_decide_eq_false z))
          exact ⟨(by show 1 ≤ sizeLine; decide), fun an han => one (-1) hstep an han⟩
      · refine st_if_and (et_t (ev_eqI (ev_var rfl) ev_c)) (fun z => absurd (of_decide_eq_true z) hc1) (fun _ => ?_)
        refine st_if (et_t (ev_eqI (ev_var rfl) ev_c)) (fun z => absurd (of_decide_eq_true z) hc1) (fun _ => ?_)
        have hnb : ∀ n, r.call' ≠ .begin_ n := fun n => by
          cases hrok with
          | c1 m => exact absurd rfl hc1
          | _ => intro z; cases z
        have hgv0 := hgv
        rcases hgv with ⟨rfl, hb0⟩ | ⟨g, G, b0, b1, st, rfl, hG, hown, n0, n1, hsg⟩
        · refine st_if (et_t (ev_isN (ev_var rfl))) (fun _ => ?_) (fun z => absurd z (by decide))
          exact ⟨(by show 1 ≤ sizeLine; decide), fun an han => one (-2) ((My.stepR_eq hrok).trans (My.res_none hb0 hnb)) an han⟩
        · refine st_if (et_t (ev_isN (ev_var rfl))) (fun z => absurd (of_decide_eq_true z) (by intro y; cases y)) (fun _ => ?_)
          have hi1 : 0 < i := Nat.pos_of_ne_zero fun z => by cases hi0 z
          have hsteplen : (My.stepR s r).2.length ≤ 1000 := by rw [My.stepR_eq hrok]; exact My.res_len hG.ok _
          have hstepsig : (My.stepR s r).1.signalled.length ≤ i + 1 := by
            rw [My.stepR_eq hrok]
            exact Nat.le_trans (My.res_sig hG.ok _) (by omega)
          refine tc_of (eva_cons (ev_var rfl) (eva_cons (ev_var rfl) (eva_cons (ev_var rfl) (eva1 (ev_var rfl))))) ⟨g, nm, rw, r, G, b0, b1, s, st, hG, hrok, hc1, hnm2, hrw2, hrow, by omega, ?_⟩
          intro an G' c0 c1 st' H3 hG3 han kp3 own3 hfr
          have tdown : td ∉ ownOf g G := fun z => by
            have := hown td z
            rw [htd1] at this
            cases this
          have htd3 := kp3 _ _ htd2 tdown
          have toH1 : ∀ {x : Addr}, H2 x = Option.none → H1 x = Option.none := fun {x} hx => by
            cases e : H1 x with
            | none => rfl
            | some o =>
              rw [kp _ _ e (notin1 fun z => by rw [z, htd2] at hx; cases hx)] at hx
              cases hx
          refine gn_of ?_
          refine rest (.ref g) an H3 han ?_ (fun b o e n => kp3 _ _ (kp _ _ e n) fun z => by
            have := hown b z
            rw [e] at this
            cases this) htd3 hsteplen (.inr ⟨g, G', c0, c1, st', rfl, hG3, fun x hx => ?_, box_ne hG3.x0 htd3 (hne hi1), box_ne hG3.x1 htd3 (hne hi1), hstepsig⟩)
          · rcases hfr with z | z
            · exact fun e => tdown (by rw [← e]; exact z)
            · exact fun e => by rw [e, htd2] at z; cases z
          · rcases own3 x hx with z | z
            · exact hown x z
            · exact toH1 z
    · rintro σ H2 ⟨gv, v3, v4, v5, v6, acc, s, kp, htd2, hal, hne, htold, hi0, hgv⟩
      dsimp only
      refine st_ret (ev_var rfl) ?_
      rw [List.length_map, hR.len, List.drop_length, My.toldR_nil, List.append_nil] at htold
      refine k td H2 ?_
      rw [htold]
      exact htd2
end
end Ice
set_option maxHeartbeats 4000000
namespace Ice
open PySem PySem.Spec PyProof.Rows L2
open Kg58 (Pen Told State Team runs running soonest minus after short ended singles marked cancel parts washed lengthOf minutesOf)
section
variable {K : PySem.W.Frag} {mg : Str → Option Value} {h : Heap}
theorem mkD {x : Str} {st : Stmt} {ps : List Str} {f : Addr} {oc : Value} {od an : Option Addr} {sl : Array (Option Value)} {kV doc pm cdv ct : Value} (X : K.In h) (G : h.Ns mainGlobals mg) (a : PySem.W.nsIn K mainGlobals x = some (some (.ref f)))
    (l : K.lookup f = some ⟨oc, od, .func (PySem.W.fnOf x x (defArgs st) (defBody st) (defScope st) .none kV doc pm an cdv ct), sl⟩) (c : PySem.W.codeIn K cdv x = true) (k : PySem.W.keepIn K (.ref f) = true)
    (b : ∀ us : List Value, us.length = ps.length → bindArgs (PySem.W.fnOf x x (defArgs st) (defBody st) (defScope st) .none kV doc pm an cdv ct) ⟨us, []⟩ = pure (ps.zip us)) :
    Def K mg x st ps f (PySem.W.fnOf x x (defArgs st) (defBody st) (defScope st) .none kV doc pm an cdv ct) := ⟨fun_mk l c k, PySem.W.mg_of X G a, .all b⟩
theorem mkM {C : Addr} {m q : Str} {st : Stmt} {ps : List Str} {f : Addr} {oc : Value} {od an : Option Addr} {sl : Array (Option Value)} {kV doc pm cdv ct : Value} (a : PySem.W.findIn K (.ref C) m = some (some (.ref f))) (i : PySem.W.isFn K (.ref f) = true)
    (l : K.lookup f = some ⟨oc, od, .func (PySem.W.fnOf m q (defArgs st) (defBody st) (defScope st) .none kV doc pm an cdv ct), sl⟩) (c : PySem.W.codeIn K cdv q = true) (k : PySem.W.keepIn K (.ref f) = true)
    (b : ∀ us : List Value, us.length = ps.length → bindArgs (PySem.W.fnOf m q (defArgs st) (defBody st) (defScope st) .none kV doc pm an cdv ct) ⟨us, []⟩ = pure (ps.zip us)) :
    MDef K C m q st ps f (PySem.W.fnOf m q (defArgs st) (defBody st) (defScope st) .none kV doc pm an cdv ct) := ⟨fun_mk l c k, ⟨a, i, k⟩, .all b⟩
theorem tup_of {H : Hp} {a : Addr} {xs : List V} {its : Array Value} {n : Nat} {sl : Array (Option Value)} (l : K.lookup a = some ⟨.type "tuple", none, .seq its n, sl⟩) (hs : its.size ≤ sizeLine) (hv : Vals xs its.toList) : SqT K H a xs :=
  .inr ⟨_, its, n, l, rfl, rfl, hs, hv⟩
end
theorem len_s {us : List Value} {n : Nat} (h : us.length = n + 1) : ∃ a r, us = a :: r ∧ r.length = n := by
  cases us with
  | nil => cases h
  | cons a r => exact ⟨a, r, rfl, Nat.succ.inj h⟩
theorem bz1 {F : FuncData} {p0 : Str} (h : ∀ a0 : Value, bindArgs F ⟨[a0], []⟩ = pure [(p0, a0)]) (us : List Value) (hl : us.length = [p0].length) : bindArgs F ⟨us, []⟩ = pure ([p0].zip us) := by
  obtain ⟨a0, us1, rfl, hl1⟩ := len_s (us := us) hl
  cases List.eq_nil_of_length_eq_zero hl1
  exact h _
theorem bz2 {F : FuncData} {p0 p1 : Str} (h : ∀ a0 a1 : Value, bindArgs F ⟨[a0, a1], []⟩ = pure [(p0, a0), (p1, a1)]) (us : List Value) (hl : us.length = [p0, p1].length) : bindArgs F ⟨us, []⟩ = pure ([p0, p1].zip us) := by
  obtain ⟨a0, us1, rfl, hl1⟩ := len_s (us := us) hl
  obtain ⟨a1, us2, rfl, hl2⟩ := len_s (us := us1) hl1
  cases List.eq_nil_of_length_eq_zero hl2
  exact h _ _
theorem bz3 {F : FuncData} {p0 p1 p2 : Str} (h : ∀ a0 a1 a2 : Value, bindArgs F ⟨[a0, a1, a2], []⟩ = pure [(p0, a0), (p1, a1), (p2, a2)]) (us : List Value) (hl : us.length = [p0, p1, p2].length) : bindArgs F ⟨us, []⟩ = pure ([p0, p1, p2].zip us) := by
  obtain ⟨a0, us1, rfl, hl1⟩ := len_s (us := us) hl
  obtain ⟨a1, us2, rfl, hl2⟩ := len_s (us := us1) hl1
  obtain ⟨a2, us3, rfl, hl3⟩ := len_s (us := us2) hl2
  cases List.eq_nil_of_length_eq_zero hl3
  exact h _ _ _
theorem bz4 {F : FuncData} {p0 p1 p2 p3 : Str} (h : ∀ a0 a1 a2 a3 : Value, bindArgs F ⟨[a0, a1, a2, a3], []⟩ = pure [(p0, a0), (p1, a1), (p2, a2), (p3, a3)]) (us : List Value) (hl : us.length = [p0, p1, p2, p3].length) : bindArgs F ⟨us, []⟩ = pure ([p0, p1, p2, p3].zip us) := by
  obtain ⟨a0, us1, rfl, hl1⟩ := len_s (us := us) hl
  obtain ⟨a1, us2, rfl, hl2⟩ := len_s (us := us1) hl1
  obtain ⟨a2, us3, rfl, hl3⟩ := len_s (us := us2) hl2
  obtain ⟨a3, us4, rfl, hl4⟩ := len_s (us := us3) hl3
  cases List.eq_nil_of_length_eq_zero hl4
  exact h _ _ _ _
theorem bz5 {F : FuncData} {p0 p1 p2 p3 p4 : Str} (h : ∀ a0 a1 a2 a3 a4 : Value, bindArgs F ⟨[a0, a1, a2, a3, a4], []⟩ = pure [(p0, a0), (p1, a1), (p2, a2), (p3, a3), (p4, a4)]) (us : List Value) (hl : us.length = [p0, p1, p2, p3, p4].length) : bindArgs F ⟨us, []⟩ = pure ([p0, p1, p2, p3, p4].zip us) := by
  obtain ⟨a0, us1, rfl, hl1⟩ := len_s (us := us) hl
  obtain ⟨a1, us2, rfl, hl2⟩ := len_s (us := us1) hl1
  obtain ⟨a2, us3, rfl, hl3⟩ := len_s (us := us2) hl2
  obtain ⟨a3, us4, rfl, hl4⟩ := len_s (us := us3) hl3
  obtain ⟨a4, us5, rfl, hl5⟩ := len_s (us := us4) hl4
  cases List.eq_nil_of_length_eq_zero hl5
  exact h _ _ _ _ _
theorem all {P : Program} {w : World} {K : PySem.W.Frag} {h : Heap} {mg : Str → Option Value} {fa : Addr} {CP CG tT tS tM tC dW r0 r1 r2 r3 r4 r5 f_Penalty_init f_Penalty_less f_running f_until_one_is_over f_with_less_left f_box_after f_times_over f_skaters_with f_minor_to_end f_of_kind f_boxes_of f_too_many f_without_first_minor f_threes f_well_told f_row_well_told f_Game_init f_Game_clock f_Game_stop f_Game_signal f_Game_goal f_Game_now f_Game_box f_Game_minutes f_Game_till f_Game_may_be f_Game_boxes_at f_Game_pass_to f_Game_both_skaters f_Game_strength f_Game_end_minor f_Game_tells_of_one_out f_Game_bring f_Game_note f_may_begin f_read_calls f_answer_of_team f_answer_in_game f_answers : Addr}
    {od_Penalty_init an_Penalty_init od_Penalty_less an_Penalty_less od_running an_running od_until_one_is_over an_until_one_is_over od_with_less_left an_with_less_left od_box_after an_box_after od_times_over an_times_over od_skaters_with an_skaters_with od_minor_to_end an_minor_to_end od_of_kind an_of_kind od_boxes_of an_boxes_of od_too_many an_too_many od_without_first_minor an_without_first_minor od_threes an_threes od_well_told an_well_told od_row_well_told an_row_well_told od_Game_init an_Game_init od_Game_clock an_Game_clock od_Game_stop an_Game_stop od_Game_signal an_Game_signal od_Game_goal an_Game_goal od_Game_now an_Game_now od_Game_box an_Game_box od_Game_minutes an_Game_minutes od_Game_till an_Game_till od_Game_may_be an_Game_may_be od_Game_boxes_at an_Game_boxes_at od_Game_pass_to an_Game_pass_to od_Game_both_skaters an_Game_both_skaters od_Game_strength an_Game_strength od_Game_end_minor an_Game_end_minor od_Game_tells_of_one_out an_Game_tells_of_one_out od_Game_bring an_Game_bring od_Game_note an_Game_note od_may_begin an_may_begin od_read_calls an_read_calls od_answer_of_team an_answer_of_team od_answer_in_game an_answer_in_game od_answers an_answers : Option Addr} {sl_Penalty_init sl_Penalty_less sl_running sl_until_one_is_over sl_with_less_left sl_box_after sl_times_over sl_skaters_with sl_minor_to_end sl_of_kind sl_boxes_of sl_too_many sl_without_first_minor sl_threes sl_well_told sl_row_well_told sl_Game_init sl_Game_clock sl_Game_stop sl_Game_signal sl_Game_goal sl_Game_now sl_Game_box sl_Game_minutes sl_Game_till sl_Game_may_be sl_Game_boxes_at sl_Game_pass_to sl_Game_both_skaters sl_Game_strength sl_Game_end_minor sl_Game_tells_of_one_out sl_Game_bring sl_Game_note sl_may_begin sl_read_calls sl_answer_of_team sl_answer_in_game sl_answers s_TEAMS s_r0 s_r1 s_r2 s_r3 s_r4 s_r5 s_MIN s_SEC s_SERVED : Array (Option Value)} {oc_Penalty_init kV_Penalty_init dc_Penalty_init pm_Penalty_init cd_Penalty_init ct_Penalty_init oc_Penalty_less kV_Penalty_less dc_Penalty_less pm_Penalty_less cd_Penalty_less ct_Penalty_less oc_running kV_running dc_running pm_running cd_running ct_running oc_until_one_is_over kV_until_one_is_over dc_until_one_is_over pm_until_one_is_over cd_until_one_is_over ct_until_one_is_over oc_with_less_left kV_with_less_left dc_with_less_left pm_with_less_left cd_with_less_left ct_with_less_left oc_box_after kV_box_after dc_box_after pm_box_after cd_box_after ct_box_after oc_times_over kV_times_over dc_times_over pm_times_over cd_times_over ct_times_over oc_skaters_with kV_skaters_with dc_skaters_with pm_skaters_with cd_skaters_with ct_skaters_with oc_minor_to_end kV_minor_to_end dc_minor_to_end pm_minor_to_end cd_minor_to_end ct_minor_to_end oc_of_kind kV_of_kind dc_of_kind pm_of_kind cd_of_kind ct_of_kind oc_boxes_of kV_boxes_of dc_boxes_of pm_boxes_of cd_boxes_of ct_boxes_of oc_too_many kV_too_many dc_too_many pm_too_many cd_too_many ct_too_many oc_without_first_minor kV_without_first_minor dc_without_first_minor pm_without_first_minor cd_without_first_minor ct_without_first_minor oc_threes kV_threes dc_threes pm_threes cd_threes ct_threes oc_well_told kV_well_told dc_well_told pm_well_told cd_well_told ct_well_told oc_row_well_told kV_row_well_told dc_row_well_told pm_row_well_told cd_row_well_told ct_row_well_told oc_Game_init kV_Game_init dc_Game_init pm_Game_init cd_Game_init ct_Game_init oc_Game_clock kV_Game_clock dc_Game_clock pm_Game_clock cd_Game_clock ct_Game_clock oc_Game_stop kV_Game_stop dc_Game_stop pm_Game_stop cd_Game_stop ct_Game_stop oc_Game_signal kV_Game_signal dc_Game_signal pm_Game_signal cd_Game_signal ct_Game_signal oc_Game_goal kV_Game_goal dc_Game_goal pm_Game_goal cd_Game_goal ct_Game_goal oc_Game_now kV_Game_now dc_Game_now pm_Game_now cd_Game_now ct_Game_now oc_Game_box kV_Game_box dc_Game_box pm_Game_box cd_Game_box ct_Game_box oc_Game_minutes kV_Game_minutes dc_Game_minutes pm_Game_minutes cd_Game_minutes ct_Game_minutes oc_Game_till kV_Game_till dc_Game_till pm_Game_till cd_Game_till ct_Game_till oc_Game_may_be kV_Game_may_be dc_Game_may_be pm_Game_may_be cd_Game_may_be ct_Game_may_be oc_Game_boxes_at kV_Game_boxes_at dc_Game_boxes_at pm_Game_boxes_at cd_Game_boxes_at ct_Game_boxes_at oc_Game_pass_to kV_Game_pass_to dc_Game_pass_to pm_Game_pass_to cd_Game_pass_to ct_Game_pass_to oc_Game_both_skaters kV_Game_both_skaters dc_Game_both_skaters pm_Game_both_skaters cd_Game_both_skaters ct_Game_both_skaters oc_Game_strength kV_Game_strength dc_Game_strength pm_Game_strength cd_Game_strength ct_Game_strength oc_Game_end_minor kV_Game_end_minor dc_Game_end_minor pm_Game_end_minor cd_Game_end_minor ct_Game_end_minor oc_Game_tells_of_one_out kV_Game_tells_of_one_out dc_Game_tells_of_one_out pm_Game_tells_of_one_out cd_Game_tells_of_one_out ct_Game_tells_of_one_out oc_Game_bring kV_Game_bring dc_Game_bring pm_Game_bring cd_Game_bring ct_Game_bring oc_Game_note kV_Game_note dc_Game_note pm_Game_note cd_Game_note ct_Game_note oc_may_begin kV_may_begin dc_may_begin pm_may_begin cd_may_begin ct_may_begin oc_read_calls kV_read_calls dc_read_calls pm_read_calls cd_read_calls ct_read_calls oc_answer_of_team kV_answer_of_team dc_answer_of_team pm_answer_of_team cd_answer_of_team ct_answer_of_team oc_answer_in_game kV_answer_in_game dc_answer_in_game pm_answer_in_game cd_answer_in_game ct_answer_in_game oc_answers kV_answers dc_answers pm_answers cd_answers ct_answers : Value} {e_TEAMS e_r0 e_r1 e_r2 e_r3 e_r4 e_r5 e_MIN e_SEC e_SERVED e_WN : Nat}
    {t_BEGIN t_CLOCK t_STOP t_SIGNAL t_GOAL t_NOW t_BOX t_MINUTES t_WRONG t_NO_GAME t_OUT_OF_GAME t_TOO_MANY t_FEWEST_SKATERS t_MOST_SKATERS t_LAST_PLAYER t_LAST_TIME t_MOST_COUNTING t_MOST_PENALTIES t_MAJORS_TO_BE_OUT t_NOBODY t_MINOR t_MAJOR t_MISCONDUCT t_DOUBLE_MINOR t_MATCH t_EXPULSION u1 u2 u3 u4 u5 u6 u7 u8 u9 u10 u11 u12 u13 u14 u15 u16 u17 u18 u19 u20 u21 u22 u23 u24 u25 u26 u27 u28 u29 u30 u31 u32 u33 u34 u35 : Tok}
    (X : K.In h) (G : h.Ns mainGlobals mg) (hfa : mg "answers" = some (.ref fa))
    (aP : PySem.W.nsIn K mainGlobals "Penalty" = some (some (.ref CP)))
    (aG : PySem.W.nsIn K mainGlobals "Game" = some (some (.ref CG)))
    (pgP : PySem.W.plainGet K CP Str.empty = true)
    (hdP : PySem.W.hasDictIn K CP = true)
    (poP : PySem.W.plainOver K CP = true)
    (saP : PySem.W.findIn K (.ref CP) "__setattr__" = some (some (.builtin "object.__setattr__")))
    (mkP : PySem.W.makesIn K CP = true)
    (kcP : PySem.W.keepIn K (.ref CP) = true)
    (pgG : PySem.W.plainGet K CG Str.empty = true)
    (hdG : PySem.W.hasDictIn K CG = true)
    (poG : PySem.W.plainOver K CG = true)
    (saG : PySem.W.findIn K (.ref CG) "__setattr__" = some (some (.builtin "object.__setattr__")))
    (mkG : PySem.W.makesIn K CG = true)
    (kcG : PySem.W.keepIn K (.ref CG) = true)
    (np_player : PySem.W.findIn K (.ref CP) "player" = some none)
    (np_kind : PySem.W.findIn K (.ref CP) "kind" = some none)
    (np_left : PySem.W.findIn K (.ref CP) "left" = some none)
    (np_counts : PySem.W.findIn K (.ref CP) "counts" = some none)
    (ng_skaters : PySem.W.findIn K (.ref CG) "skaters" = some none)
    (ng_time : PySem.W.findIn K (.ref CG) "time" = some none)
    (ng_boxes : PySem.W.findIn K (.ref CG) "boxes" = some none)
    (ng_signalled : PySem.W.findIn K (.ref CG) "signalled" = some none)
    (ng_goals : PySem.W.findIn K (.ref CG) "goals" = some none)
    (ng_noted : PySem.W.findIn K (.ref CG) "noted" = some none)
    (ng_majors : PySem.W.findIn K (.ref CG) "majors" = some none)
    (ng_out : PySem.W.findIn K (.ref CG) "out" = some none)
    (i_BEGIN : PySem.W.nsIn K mainGlobals "BEGIN" = some (some (.int (1) t_BEGIN)))
    (i_CLOCK : PySem.W.nsIn K mainGlobals "CLOCK" = some (some (.int (2) t_CLOCK)))
    (i_STOP : PySem.W.nsIn K mainGlobals "STOP" = some (some (.int (3) t_STOP)))
    (i_SIGNAL : PySem.W.nsIn K mainGlobals "SIGNAL" = some (some (.int (4) t_SIGNAL)))
    (i_GOAL : PySem.W.nsIn K mainGlobals "GOAL" = some (some (.int (5) t_GOAL)))
    (i_NOW : PySem.W.nsIn K mainGlobals "NOW" = some (some (.int (6) t_NOW)))
    (i_BOX : PySem.W.nsIn K mainGlobals "BOX" = some (some (.int (7) t_BOX)))
    (i_MINUTES : PySem.W.nsIn K mainGlobals "MINUTES" = some (some (.int (8) t_MINUTES)))
    (i_WRONG : PySem.W.nsIn K mainGlobals "WRONG" = some (some (.int (-1) t_WRONG)))
    (i_NO_GAME : PySem.W.nsIn K mainGlobals "NO_GAME" = some (some (.int (-2) t_NO_GAME)))
    (i_OUT_OF_GAME : PySem.W.nsIn K mainGlobals "OUT_OF_GAME" = some (some (.int (-4) t_OUT_OF_GAME)))
    (i_TOO_MANY : PySem.W.nsIn K mainGlobals "TOO_MANY" = some (some (.int (-5) t_TOO_MANY)))
    (i_FEWEST_SKATERS : PySem.W.nsIn K mainGlobals "FEWEST_SKATERS" = some (some (.int (3) t_FEWEST_SKATERS)))
    (i_MOST_SKATERS : PySem.W.nsIn K mainGlobals "MOST_SKATERS" = some (some (.int (6) t_MOST_SKATERS)))
    (i_LAST_PLAYER : PySem.W.nsIn K mainGlobals "LAST_PLAYER" = some (some (.int (99) t_LAST_PLAYER)))
    (i_LAST_TIME : PySem.W.nsIn K mainGlobals "LAST_TIME" = some (some (.int (6000) t_LAST_TIME)))
    (i_MOST_COUNTING : PySem.W.nsIn K mainGlobals "MOST_COUNTING" = some (some (.int (2) t_MOST_COUNTING)))
    (i_MOST_PENALTIES : PySem.W.nsIn K mainGlobals "MOST_PENALTIES" = some (some (.int (12) t_MOST_PENALTIES)))
    (i_MAJORS_TO_BE_OUT : PySem.W.nsIn K mainGlobals "MAJORS_TO_BE_OUT" = some (some (.int (3) t_MAJORS_TO_BE_OUT)))
    (i_NOBODY : PySem.W.nsIn K mainGlobals "NOBODY" = some (some (.int (-1) t_NOBODY)))
    (i_MINOR : PySem.W.nsIn K mainGlobals "MINOR" = some (some (.int (0) t_MINOR)))
    (i_MAJOR : PySem.W.nsIn K mainGlobals "MAJOR" = some (some (.int (1) t_MAJOR)))
    (i_MISCONDUCT : PySem.W.nsIn K mainGlobals "MISCONDUCT" = some (some (.int (2) t_MISCONDUCT)))
    (i_DOUBLE_MINOR : PySem.W.nsIn K mainGlobals "DOUBLE_MINOR" = some (some (.int (3) t_DOUBLE_MINOR)))
    (i_MATCH : PySem.W.nsIn K mainGlobals "MATCH" = some (some (.int (4) t_MATCH)))
    (i_EXPULSION : PySem.W.nsIn K mainGlobals "EXPULSION" = some (some (.int (5) t_EXPULSION)))
    (n_len : PySem.W.nsIn K mainGlobals "len" = some none)
    (n_min : PySem.W.nsIn K mainGlobals "min" = some none)
    (n_max : PySem.W.nsIn K mainGlobals "max" = some none)
    (n_sum : PySem.W.nsIn K mainGlobals "sum" = some none)
    (n_any : PySem.W.nsIn K mainGlobals "any" = some none)
    (n_all : PySem.W.nsIn K mainGlobals "all" = some none)
    (n_zip : PySem.W.nsIn K mainGlobals "zip" = some none)
    (n_range : PySem.W.nsIn K mainGlobals "range" = some none)
    (n_list : PySem.W.nsIn K mainGlobals "list" = some none)
    (n_int : PySem.W.nsIn K mainGlobals "int" = some none)
    (a_TEAMS : PySem.W.nsIn K mainGlobals "TEAMS" = some (some (.ref tT)))
    (l_TEAMS : K.lookup tT = some ⟨.type "tuple", none, .seq #[.int 0 u1, .int 1 u2] e_TEAMS, s_TEAMS⟩)
    (a_SERVED : PySem.W.nsIn K mainGlobals "SERVED" = some (some (.ref tS)))
    (l_SERVED : K.lookup tS = some ⟨.type "tuple", none, .seq #[.ref r0, .ref r1, .ref r2, .ref r3, .ref r4, .ref r5] e_SERVED, s_SERVED⟩)
    (l_r0 : K.lookup r0 = some ⟨.type "tuple", none, .seq #[.int 0 u3] e_r0, s_r0⟩)
    (l_r1 : K.lookup r1 = some ⟨.type "tuple", none, .seq #[.int 1 u4] e_r1, s_r1⟩)
    (l_r2 : K.lookup r2 = some ⟨.type "tuple", none, .seq #[.int 2 u5] e_r2, s_r2⟩)
    (l_r3 : K.lookup r3 = some ⟨.type "tuple", none, .seq #[.int 0 u6, .int 0 u7] e_r3, s_r3⟩)
    (l_r4 : K.lookup r4 = some ⟨.type "tuple", none, .seq #[.int 1 u8] e_r4, s_r4⟩)
    (l_r5 : K.lookup r5 = some ⟨.type "tuple", none, .seq #[] e_r5, s_r5⟩)
    (a_MIN : PySem.W.nsIn K mainGlobals "MINUTES_NOTED" = some (some (.ref tM)))
    (l_MIN : K.lookup tM = some ⟨.type "tuple", none, .seq #[.int 2 u9, .int 5 u10, .int 10 u11, .int 4 u12, .int 25 u13, .int 20 u14] e_MIN, s_MIN⟩)
    (a_SEC : PySem.W.nsIn K mainGlobals "SECONDS" = some (some (.ref tC)))
    (l_SEC : K.lookup tC = some ⟨.type "tuple", none, .seq #[.int 120 u15, .int 300 u16, .int 600 u17] e_SEC, s_SEC⟩)
    (a_WN : PySem.W.nsIn K mainGlobals "WHOLE_NUMBERS" = some (some (.ref dW)))
    (l_WN : K.lookup dW = some ⟨.type "dict", none, .dict #[⟨1, .int 1 u18, .int 1 u19⟩, ⟨2, .int 2 u20, .int 1 u21⟩, ⟨3, .int 3 u22, .int 1 u23⟩, ⟨4, .int 4 u24, .int 3 u25⟩, ⟨5, .int 5 u26, .int 2 u27⟩, ⟨6, .int 6 u28, .int 0 u29⟩, ⟨7, .int 7 u30, .int 1 u31⟩, ⟨8, .int 8 u32, .int 1 u33⟩, ⟨9, .int 9 u34, .int 1 u35⟩] e_WN, #[]⟩)
    (a_Penalty_init : PySem.W.findIn K (.ref CP) "__init__" = some (some (.ref f_Penalty_init)))
    (i_Penalty_init : PySem.W.isFn K (.ref f_Penalty_init) = true)
    (l_Penalty_init : K.lookup f_Penalty_init = some ⟨oc_Penalty_init, od_Penalty_init, .func (PySem.W.fnOf "__init__" "Penalty.__init__" (defArgs s_Penalty_init) (defBody s_Penalty_init) (defScope s_Penalty_init) .none kV_Penalty_init dc_Penalty_init pm_Penalty_init an_Penalty_init cd_Penalty_init ct_Penalty_init), sl_Penalty_init⟩)
    (c_Penalty_init : PySem.W.codeIn K cd_Penalty_init "Penalty.__init__" = true)
    (k_Penalty_init : PySem.W.keepIn K (.ref f_Penalty_init) = true)
    (a_Penalty_less : PySem.W.findIn K (.ref CP) "less" = some (some (.ref f_Penalty_less)))
    (i_Penalty_less : PySem.W.isFn K (.ref f_Penalty_less) = true)
    (l_Penalty_less : K.lookup f_Penalty_less = some ⟨oc_Penalty_less, od_Penalty_less, .func (PySem.W.fnOf "less" "Penalty.less" (defArgs s_Penalty_less) (defBody s_Penalty_less) (defScope s_Penalty_less) .none kV_Penalty_less dc_Penalty_less pm_Penalty_less an_Penalty_less cd_Penalty_less ct_Penalty_less), sl_Penalty_less⟩)
    (c_Penalty_less : PySem.W.codeIn K cd_Penalty_less "Penalty.less" = true)
    (k_Penalty_less : PySem.W.keepIn K (.ref f_Penalty_less) = true)
    (a_running : PySem.W.nsIn K mainGlobals "running" = some (some (.ref f_running)))
    (l_running : K.lookup f_running = some ⟨oc_running, od_running, .func (PySem.W.fnOf "running" "running" (defArgs s_running) (defBody s_running) (defScope s_running) .none kV_running dc_running pm_running an_running cd_running ct_running), sl_running⟩)
    (c_running : PySem.W.codeIn K cd_running "running" = true)
    (k_running : PySem.W.keepIn K (.ref f_running) = true)
    (a_until_one_is_over : PySem.W.nsIn K mainGlobals "until_one_is_over" = some (some (.ref f_until_one_is_over)))
    (l_until_one_is_over : K.lookup f_until_one_is_over = some ⟨oc_until_one_is_over, od_until_one_is_over, .func (PySem.W.fnOf "until_one_is_over" "until_one_is_over" (defArgs s_until_one_is_over) (defBody s_until_one_is_over) (defScope s_until_one_is_over) .none kV_until_one_is_over dc_until_one_is_over pm_until_one_is_over an_until_one_is_over cd_until_one_is_over ct_until_one_is_over), sl_until_one_is_over⟩)
    (c_until_one_is_over : PySem.W.codeIn K cd_until_one_is_over "until_one_is_over" = true)
    (k_until_one_is_over : PySem.W.keepIn K (.ref f_until_one_is_over) = true)
    (a_with_less_left : PySem.W.nsIn K mainGlobals "with_less_left" = some (some (.ref f_with_less_left)))
    (l_with_less_left : K.lookup f_with_less_left = some ⟨oc_with_less_left, od_with_less_left, .func (PySem.W.fnOf "with_less_left" "with_less_left" (defArgs s_with_less_left) (defBody s_with_less_left) (defScope s_with_less_left) .none kV_with_less_left dc_with_less_left pm_with_less_left an_with_less_left cd_with_less_left ct_with_less_left), sl_with_less_left⟩)
    (c_with_less_left : PySem.W.codeIn K cd_with_less_left "with_less_left" = true)
    (k_with_less_left : PySem.W.keepIn K (.ref f_with_less_left) = true)
    (a_box_after : PySem.W.nsIn K mainGlobals "box_after" = some (some (.ref f_box_after)))
    (l_box_after : K.lookup f_box_after = some ⟨oc_box_after, od_box_after, .func (PySem.W.fnOf "box_after" "box_after" (defArgs s_box_after) (defBody s_box_after) (defScope s_box_after) .none kV_box_after dc_box_after pm_box_after an_box_after cd_box_after ct_box_after), sl_box_after⟩)
    (c_box_after : PySem.W.codeIn K cd_box_after "box_after" = true)
    (k_box_after : PySem.W.keepIn K (.ref f_box_after) = true)
    (a_times_over : PySem.W.nsIn K mainGlobals "times_over" = some (some (.ref f_times_over)))
    (l_times_over : K.lookup f_times_over = some ⟨oc_times_over, od_times_over, .func (PySem.W.fnOf "times_over" "times_over" (defArgs s_times_over) (defBody s_times_over) (defScope s_times_over) .none kV_times_over dc_times_over pm_times_over an_times_over cd_times_over ct_times_over), sl_times_over⟩)
    (c_times_over : PySem.W.codeIn K cd_times_over "times_over" = true)
    (k_times_over : PySem.W.keepIn K (.ref f_times_over) = true)
    (a_skaters_with : PySem.W.nsIn K mainGlobals "skaters_with" = some (some (.ref f_skaters_with)))
    (l_skaters_with : K.lookup f_skaters_with = some ⟨oc_skaters_with, od_skaters_with, .func (PySem.W.fnOf "skaters_with" "skaters_with" (defArgs s_skaters_with) (defBody s_skaters_with) (defScope s_skaters_with) .none kV_skaters_with dc_skaters_with pm_skaters_with an_skaters_with cd_skaters_with ct_skaters_with), sl_skaters_with⟩)
    (c_skaters_with : PySem.W.codeIn K cd_skaters_with "skaters_with" = true)
    (k_skaters_with : PySem.W.keepIn K (.ref f_skaters_with) = true)
    (a_minor_to_end : PySem.W.nsIn K mainGlobals "minor_to_end" = some (some (.ref f_minor_to_end)))
    (l_minor_to_end : K.lookup f_minor_to_end = some ⟨oc_minor_to_end, od_minor_to_end, .func (PySem.W.fnOf "minor_to_end" "minor_to_end" (defArgs s_minor_to_end) (defBody s_minor_to_end) (defScope s_minor_to_end) .none kV_minor_to_end dc_minor_to_end pm_minor_to_end an_minor_to_end cd_minor_to_end ct_minor_to_end), sl_minor_to_end⟩)
    (c_minor_to_end : PySem.W.codeIn K cd_minor_to_end "minor_to_end" = true)
    (k_minor_to_end : PySem.W.keepIn K (.ref f_minor_to_end) = true)
    (a_of_kind : PySem.W.nsIn K mainGlobals "of_kind" = some (some (.ref f_of_kind)))
    (l_of_kind : K.lookup f_of_kind = some ⟨oc_of_kind, od_of_kind, .func (PySem.W.fnOf "of_kind" "of_kind" (defArgs s_of_kind) (defBody s_of_kind) (defScope s_of_kind) .none kV_of_kind dc_of_kind pm_of_kind an_of_kind cd_of_kind ct_of_kind), sl_of_kind⟩)
    (c_of_kind : PySem.W.codeIn K cd_of_kind "of_kind" = true)
    (k_of_kind : PySem.W.keepIn K (.ref f_of_kind) = true)
    (a_boxes_of : PySem.W.nsIn K mainGlobals "boxes_of" = some (some (.ref f_boxes_of)))
    (l_boxes_of : K.lookup f_boxes_of = some ⟨oc_boxes_of, od_boxes_of, .func (PySem.W.fnOf "boxes_of" "boxes_of" (defArgs s_boxes_of) (defBody s_boxes_of) (defScope s_boxes_of) .none kV_boxes_of dc_boxes_of pm_boxes_of an_boxes_of cd_boxes_of ct_boxes_of), sl_boxes_of⟩)
    (c_boxes_of : PySem.W.codeIn K cd_boxes_of "boxes_of" = true)
    (k_boxes_of : PySem.W.keepIn K (.ref f_boxes_of) = true)
    (a_too_many : PySem.W.nsIn K mainGlobals "too_many" = some (some (.ref f_too_many)))
    (l_too_many : K.lookup f_too_many = some ⟨oc_too_many, od_too_many, .func (PySem.W.fnOf "too_many" "too_many" (defArgs s_too_many) (defBody s_too_many) (defScope s_too_many) .none kV_too_many dc_too_many pm_too_many an_too_many cd_too_many ct_too_many), sl_too_many⟩)
    (c_too_many : PySem.W.codeIn K cd_too_many "too_many" = true)
    (k_too_many : PySem.W.keepIn K (.ref f_too_many) = true)
    (a_without_first_minor : PySem.W.nsIn K mainGlobals "without_first_minor" = some (some (.ref f_without_first_minor)))
    (l_without_first_minor : K.lookup f_without_first_minor = some ⟨oc_without_first_minor, od_without_first_minor, .func (PySem.W.fnOf "without_first_minor" "without_first_minor" (defArgs s_without_first_minor) (defBody s_without_first_minor) (defScope s_without_first_minor) .none kV_without_first_minor dc_without_first_minor pm_without_first_minor an_without_first_minor cd_without_first_minor ct_without_first_minor), sl_without_first_minor⟩)
    (c_without_first_minor : PySem.W.codeIn K cd_without_first_minor "without_first_minor" = true)
    (k_without_first_minor : PySem.W.keepIn K (.ref f_without_first_minor) = true)
    (a_threes : PySem.W.nsIn K mainGlobals "threes" = some (some (.ref f_threes)))
    (l_threes : K.lookup f_threes = some ⟨oc_threes, od_threes, .func (PySem.W.fnOf "threes" "threes" (defArgs s_threes) (defBody s_threes) (defScope s_threes) .none kV_threes dc_threes pm_threes an_threes cd_threes ct_threes), sl_threes⟩)
    (c_threes : PySem.W.codeIn K cd_threes "threes" = true)
    (k_threes : PySem.W.keepIn K (.ref f_threes) = true)
    (a_well_told : PySem.W.nsIn K mainGlobals "well_told" = some (some (.ref f_well_told)))
    (l_well_told : K.lookup f_well_told = some ⟨oc_well_told, od_well_told, .func (PySem.W.fnOf "well_told" "well_told" (defArgs s_well_told) (defBody s_well_told) (defScope s_well_told) .none kV_well_told dc_well_told pm_well_told an_well_told cd_well_told ct_well_told), sl_well_told⟩)
    (c_well_told : PySem.W.codeIn K cd_well_told "well_told" = true)
    (k_well_told : PySem.W.keepIn K (.ref f_well_told) = true)
    (a_row_well_told : PySem.W.nsIn K mainGlobals "row_well_told" = some (some (.ref f_row_well_told)))
    (l_row_well_told : K.lookup f_row_well_told = some ⟨oc_row_well_told, od_row_well_told, .func (PySem.W.fnOf "row_well_told" "row_well_told" (defArgs s_row_well_told) (defBody s_row_well_told) (defScope s_row_well_told) .none kV_row_well_told dc_row_well_told pm_row_well_told an_row_well_told cd_row_well_told ct_row_well_told), sl_row_well_told⟩)
    (c_row_well_told : PySem.W.codeIn K cd_row_well_told "row_well_told" = true)
    (k_row_well_told : PySem.W.keepIn K (.ref f_row_well_told) = true)
    (a_Game_init : PySem.W.findIn K (.ref CG) "__init__" = some (some (.ref f_Game_init)))
    (i_Game_init : PySem.W.isFn K (.ref f_Game_init) = true)
    (l_Game_init : K.lookup f_Game_init = some ⟨oc_Game_init, od_Game_init, .func (PySem.W.fnOf "__init__" "Game.__init__" (defArgs s_Game_init) (defBody s_Game_init) (defScope s_Game_init) .none kV_Game_init dc_Game_init pm_Game_init an_Game_init cd_Game_init ct_Game_init), sl_Game_init⟩)
    (c_Game_init : PySem.W.codeIn K cd_Game_init "Game.__init__" = true)
    (k_Game_init : PySem.W.keepIn K (.ref f_Game_init) = true)
    (a_Game_clock : PySem.W.findIn K (.ref CG) "clock" = some (some (.ref f_Game_clock)))
    (i_Game_clock : PySem.W.isFn K (.ref f_Game_clock) = true)
    (l_Game_clock : K.lookup f_Game_clock = some ⟨oc_Game_clock, od_Game_clock, .func (PySem.W.fnOf "clock" "Game.clock" (defArgs s_Game_clock) (defBody s_Game_clock) (defScope s_Game_clock) .none kV_Game_clock dc_Game_clock pm_Game_clock an_Game_clock cd_Game_clock ct_Game_clock), sl_Game_clock⟩)
    (c_Game_clock : PySem.W.codeIn K cd_Game_clock "Game.clock" = true)
    (k_Game_clock : PySem.W.keepIn K (.ref f_Game_clock) = true)
    (a_Game_stop : PySem.W.findIn K (.ref CG) "stop" = some (some (.ref f_Game_stop)))
    (i_Game_stop : PySem.W.isFn K (.ref f_Game_stop) = true)
    (l_Game_stop : K.lookup f_Game_stop = some ⟨oc_Game_stop, od_Game_stop, .func (PySem.W.fnOf "stop" "Game.stop" (defArgs s_Game_stop) (defBody s_Game_stop) (defScope s_Game_stop) .none kV_Game_stop dc_Game_stop pm_Game_stop an_Game_stop cd_Game_stop ct_Game_stop), sl_Game_stop⟩)
    (c_Game_stop : PySem.W.codeIn K cd_Game_stop "Game.stop" = true)
    (k_Game_stop : PySem.W.keepIn K (.ref f_Game_stop) = true)
    (a_Game_signal : PySem.W.findIn K (.ref CG) "signal" = some (some (.ref f_Game_signal)))
    (i_Game_signal : PySem.W.isFn K (.ref f_Game_signal) = true)
    (l_Game_signal : K.lookup f_Game_signal = some ⟨oc_Game_signal, od_Game_signal, .func (PySem.W.fnOf "signal" "Game.signal" (defArgs s_Game_signal) (defBody s_Game_signal) (defScope s_Game_signal) .none kV_Game_signal dc_Game_signal pm_Game_signal an_Game_signal cd_Game_signal ct_Game_signal), sl_Game_signal⟩)
    (c_Game_signal : PySem.W.codeIn K cd_Game_signal "Game.signal" = true)
    (k_Game_signal : PySem.W.keepIn K (.ref f_Game_signal) = true)
    (a_Game_goal : PySem.W.findIn K (.ref CG) "goal" = some (some (.ref f_Game_goal)))
    (i_Game_goal : PySem.W.isFn K (.ref f_Game_goal) = true)
    (l_Game_goal : K.lookup f_Game_goal = some ⟨oc_Game_goal, od_Game_goal, .func (PySem.W.fnOf "goal" "Game.goal" (defArgs s_Game_goal) (defBody s_Game_goal) (defScope s_Game_goal) .none kV_Game_goal dc_Game_goal pm_Game_goal an_Game_goal cd_Game_goal ct_Game_goal), sl_Game_goal⟩)
    (c_Game_goal : PySem.W.codeIn K cd_Game_goal "Game.goal" = true)
    (k_Game_goal : PySem.W.keepIn K (.ref f_Game_goal) = true)
    (a_Game_now : PySem.W.findIn K (.ref CG) "now" = some (some (.ref f_Game_now)))
    (i_Game_now : PySem.W.isFn K (.ref f_Game_now) = true)
    (l_Game_now : K.lookup f_Game_now = some ⟨oc_Game_now, od_Game_now, .func (PySem.W.fnOf "now" "Game.now" (defArgs s_Game_now) (defBody s_Game_now) (defScope s_Game_now) .none kV_Game_now dc_Game_now pm_Game_now an_Game_now cd_Game_now ct_Game_now), sl_Game_now⟩)
    (c_Game_now : PySem.W.codeIn K cd_Game_now "Game.now" = true)
    (k_Game_now : PySem.W.keepIn K (.ref f_Game_now) = true)
    (a_Game_box : PySem.W.findIn K (.ref CG) "box" = some (some (.ref f_Game_box)))
    (i_Game_box : PySem.W.isFn K (.ref f_Game_box) = true)
    (l_Game_box : K.lookup f_Game_box = some ⟨oc_Game_box, od_Game_box, .func (PySem.W.fnOf "box" "Game.box" (defArgs s_Game_box) (defBody s_Game_box) (defScope s_Game_box) .none kV_Game_box dc_Game_box pm_Game_box an_Game_box cd_Game_box ct_Game_box), sl_Game_box⟩)
    (c_Game_box : PySem.W.codeIn K cd_Game_box "Game.box" = true)
    (k_Game_box : PySem.W.keepIn K (.ref f_Game_box) = true)
    (a_Game_minutes : PySem.W.findIn K (.ref CG) "minutes" = some (some (.ref f_Game_minutes)))
    (i_Game_minutes : PySem.W.isFn K (.ref f_Game_minutes) = true)
    (l_Game_minutes : K.lookup f_Game_minutes = some ⟨oc_Game_minutes, od_Game_minutes, .func (PySem.W.fnOf "minutes" "Game.minutes" (defArgs s_Game_minutes) (defBody s_Game_minutes) (defScope s_Game_minutes) .none kV_Game_minutes dc_Game_minutes pm_Game_minutes an_Game_minutes cd_Game_minutes ct_Game_minutes), sl_Game_minutes⟩)
    (c_Game_minutes : PySem.W.codeIn K cd_Game_minutes "Game.minutes" = true)
    (k_Game_minutes : PySem.W.keepIn K (.ref f_Game_minutes) = true)
    (a_Game_till : PySem.W.findIn K (.ref CG) "till" = some (some (.ref f_Game_till)))
    (i_Game_till : PySem.W.isFn K (.ref f_Game_till) = true)
    (l_Game_till : K.lookup f_Game_till = some ⟨oc_Game_till, od_Game_till, .func (PySem.W.fnOf "till" "Game.till" (defArgs s_Game_till) (defBody s_Game_till) (defScope s_Game_till) .none kV_Game_till dc_Game_till pm_Game_till an_Game_till cd_Game_till ct_Game_till), sl_Game_till⟩)
    (c_Game_till : PySem.W.codeIn K cd_Game_till "Game.till" = true)
    (k_Game_till : PySem.W.keepIn K (.ref f_Game_till) = true)
    (a_Game_may_be : PySem.W.findIn K (.ref CG) "may_be" = some (some (.ref f_Game_may_be)))
    (i_Game_may_be : PySem.W.isFn K (.ref f_Game_may_be) = true)
    (l_Game_may_be : K.lookup f_Game_may_be = some ⟨oc_Game_may_be, od_Game_may_be, .func (PySem.W.fnOf "may_be" "Game.may_be" (defArgs s_Game_may_be) (defBody s_Game_may_be) (defScope s_Game_may_be) .none kV_Game_may_be dc_Game_may_be pm_Game_may_be an_Game_may_be cd_Game_may_be ct_Game_may_be), sl_Game_may_be⟩)
    (c_Game_may_be : PySem.W.codeIn K cd_Game_may_be "Game.may_be" = true)
    (k_Game_may_be : PySem.W.keepIn K (.ref f_Game_may_be) = true)
    (a_Game_boxes_at : PySem.W.findIn K (.ref CG) "boxes_at" = some (some (.ref f_Game_boxes_at)))
    (i_Game_boxes_at : PySem.W.isFn K (.ref f_Game_boxes_at) = true)
    (l_Game_boxes_at : K.lookup f_Game_boxes_at = some ⟨oc_Game_boxes_at, od_Game_boxes_at, .func (PySem.W.fnOf "boxes_at" "Game.boxes_at" (defArgs s_Game_boxes_at) (defBody s_Game_boxes_at) (defScope s_Game_boxes_at) .none kV_Game_boxes_at dc_Game_boxes_at pm_Game_boxes_at an_Game_boxes_at cd_Game_boxes_at ct_Game_boxes_at), sl_Game_boxes_at⟩)
    (c_Game_boxes_at : PySem.W.codeIn K cd_Game_boxes_at "Game.boxes_at" = true)
    (k_Game_boxes_at : PySem.W.keepIn K (.ref f_Game_boxes_at) = true)
    (a_Game_pass_to : PySem.W.findIn K (.ref CG) "pass_to" = some (some (.ref f_Game_pass_to)))
    (i_Game_pass_to : PySem.W.isFn K (.ref f_Game_pass_to) = true)
    (l_Game_pass_to : K.lookup f_Game_pass_to = some ⟨oc_Game_pass_to, od_Game_pass_to, .func (PySem.W.fnOf "pass_to" "Game.pass_to" (defArgs s_Game_pass_to) (defBody s_Game_pass_to) (defScope s_Game_pass_to) .none kV_Game_pass_to dc_Game_pass_to pm_Game_pass_to an_Game_pass_to cd_Game_pass_to ct_Game_pass_to), sl_Game_pass_to⟩)
    (c_Game_pass_to : PySem.W.codeIn K cd_Game_pass_to "Game.pass_to" = true)
    (k_Game_pass_to : PySem.W.keepIn K (.ref f_Game_pass_to) = true)
    (a_Game_both_skaters : PySem.W.findIn K (.ref CG) "both_skaters" = some (some (.ref f_Game_both_skaters)))
    (i_Game_both_skaters : PySem.W.isFn K (.ref f_Game_both_skaters) = true)
    (l_Game_both_skaters : K.lookup f_Game_both_skaters = some ⟨oc_Game_both_skaters, od_Game_both_skaters, .func (PySem.W.fnOf "both_skaters" "Game.both_skaters" (defArgs s_Game_both_skaters) (defBody s_Game_both_skaters) (defScope s_Game_both_skaters) .none kV_Game_both_skaters dc_Game_both_skaters pm_Game_both_skaters an_Game_both_skaters cd_Game_both_skaters ct_Game_both_skaters), sl_Game_both_skaters⟩)
    (c_Game_both_skaters : PySem.W.codeIn K cd_Game_both_skaters "Game.both_skaters" = true)
    (k_Game_both_skaters : PySem.W.keepIn K (.ref f_Game_both_skaters) = true)
    (a_Game_strength : PySem.W.findIn K (.ref CG) "strength" = some (some (.ref f_Game_strength)))
    (i_Game_strength : PySem.W.isFn K (.ref f_Game_strength) = true)
    (l_Game_strength : K.lookup f_Game_strength = some ⟨oc_Game_strength, od_Game_strength, .func (PySem.W.fnOf "strength" "Game.strength" (defArgs s_Game_strength) (defBody s_Game_strength) (defScope s_Game_strength) .none kV_Game_strength dc_Game_strength pm_Game_strength an_Game_strength cd_Game_strength ct_Game_strength), sl_Game_strength⟩)
    (c_Game_strength : PySem.W.codeIn K cd_Game_strength "Game.strength" = true)
    (k_Game_strength : PySem.W.keepIn K (.ref f_Game_strength) = true)
    (a_Game_end_minor : PySem.W.findIn K (.ref CG) "end_minor" = some (some (.ref f_Game_end_minor)))
    (i_Game_end_minor : PySem.W.isFn K (.ref f_Game_end_minor) = true)
    (l_Game_end_minor : K.lookup f_Game_end_minor = some ⟨oc_Game_end_minor, od_Game_end_minor, .func (PySem.W.fnOf "end_minor" "Game.end_minor" (defArgs s_Game_end_minor) (defBody s_Game_end_minor) (defScope s_Game_end_minor) .none kV_Game_end_minor dc_Game_end_minor pm_Game_end_minor an_Game_end_minor cd_Game_end_minor ct_Game_end_minor), sl_Game_end_minor⟩)
    (c_Game_end_minor : PySem.W.codeIn K cd_Game_end_minor "Game.end_minor" = true)
    (k_Game_end_minor : PySem.W.keepIn K (.ref f_Game_end_minor) = true)
    (a_Game_tells_of_one_out : PySem.W.findIn K (.ref CG) "tells_of_one_out" = some (some (.ref f_Game_tells_of_one_out)))
    (i_Game_tells_of_one_out : PySem.W.isFn K (.ref f_Game_tells_of_one_out) = true)
    (l_Game_tells_of_one_out : K.lookup f_Game_tells_of_one_out = some ⟨oc_Game_tells_of_one_out, od_Game_tells_of_one_out, .func (PySem.W.fnOf "tells_of_one_out" "Game.tells_of_one_out" (defArgs s_Game_tells_of_one_out) (defBody s_Game_tells_of_one_out) (defScope s_Game_tells_of_one_out) .none kV_Game_tells_of_one_out dc_Game_tells_of_one_out pm_Game_tells_of_one_out an_Game_tells_of_one_out cd_Game_tells_of_one_out ct_Game_tells_of_one_out), sl_Game_tells_of_one_out⟩)
    (c_Game_tells_of_one_out : PySem.W.codeIn K cd_Game_tells_of_one_out "Game.tells_of_one_out" = true)
    (k_Game_tells_of_one_out : PySem.W.keepIn K (.ref f_Game_tells_of_one_out) = true)
    (a_Game_bring : PySem.W.findIn K (.ref CG) "bring" = some (some (.ref f_Game_bring)))
    (i_Game_bring : PySem.W.isFn K (.ref f_Game_bring) = true)
    (l_Game_bring : K.lookup f_Game_bring = some ⟨oc_Game_bring, od_Game_bring, .func (PySem.W.fnOf "bring" "Game.bring" (defArgs s_Game_bring) (defBody s_Game_bring) (defScope s_Game_bring) .none kV_Game_bring dc_Game_bring pm_Game_bring an_Game_bring cd_Game_bring ct_Game_bring), sl_Game_bring⟩)
    (c_Game_bring : PySem.W.codeIn K cd_Game_bring "Game.bring" = true)
    (k_Game_bring : PySem.W.keepIn K (.ref f_Game_bring) = true)
    (a_Game_note : PySem.W.findIn K (.ref CG) "note" = some (some (.ref f_Game_note)))
    (i_Game_note : PySem.W.isFn K (.ref f_Game_note) = true)
    (l_Game_note : K.lookup f_Game_note = some ⟨oc_Game_note, od_Game_note, .func (PySem.W.fnOf "note" "Game.note" (defArgs s_Game_note) (defBody s_Game_note) (defScope s_Game_note) .none kV_Game_note dc_Game_note pm_Game_note an_Game_note cd_Game_note ct_Game_note), sl_Game_note⟩)
    (c_Game_note : PySem.W.codeIn K cd_Game_note "Game.note" = true)
    (k_Game_note : PySem.W.keepIn K (.ref f_Game_note) = true)
    (a_may_begin : PySem.W.nsIn K mainGlobals "may_begin" = some (some (.ref f_may_begin)))
    (l_may_begin : K.lookup f_may_begin = some ⟨oc_may_begin, od_may_begin, .func (PySem.W.fnOf "may_begin" "may_begin" (defArgs s_may_begin) (defBody s_may_begin) (defScope s_may_begin) .none kV_may_begin dc_may_begin pm_may_begin an_may_begin cd_may_begin ct_may_begin), sl_may_begin⟩)
    (c_may_begin : PySem.W.codeIn K cd_may_begin "may_begin" = true)
    (k_may_begin : PySem.W.keepIn K (.ref f_may_begin) = true)
    (a_read_calls : PySem.W.nsIn K mainGlobals "read_calls" = some (some (.ref f_read_calls)))
    (l_read_calls : K.lookup f_read_calls = some ⟨oc_read_calls, od_read_calls, .func (PySem.W.fnOf "read_calls" "read_calls" (defArgs s_read_calls) (defBody s_read_calls) (defScope s_read_calls) .none kV_read_calls dc_read_calls pm_read_calls an_read_calls cd_read_calls ct_read_calls), sl_read_calls⟩)
    (c_read_calls : PySem.W.codeIn K cd_read_calls "read_calls" = true)
    (k_read_calls : PySem.W.keepIn K (.ref f_read_calls) = true)
    (a_answer_of_team : PySem.W.nsIn K mainGlobals "answer_of_team" = some (some (.ref f_answer_of_team)))
    (l_answer_of_team : K.lookup f_answer_of_team = some ⟨oc_answer_of_team, od_answer_of_team, .func (PySem.W.fnOf "answer_of_team" "answer_of_team" (defArgs s_answer_of_team) (defBody s_answer_of_team) (defScope s_answer_of_team) .none kV_answer_of_team dc_answer_of_team pm_answer_of_team an_answer_of_team cd_answer_of_team ct_answer_of_team), sl_answer_of_team⟩)
    (c_answer_of_team : PySem.W.codeIn K cd_answer_of_team "answer_of_team" = true)
    (k_answer_of_team : PySem.W.keepIn K (.ref f_answer_of_team) = true)
    (a_answer_in_game : PySem.W.nsIn K mainGlobals "answer_in_game" = some (some (.ref f_answer_in_game)))
    (l_answer_in_game : K.lookup f_answer_in_game = some ⟨oc_answer_in_game, od_answer_in_game, .func (PySem.W.fnOf "answer_in_game" "answer_in_game" (defArgs s_answer_in_game) (defBody s_answer_in_game) (defScope s_answer_in_game) .none kV_answer_in_game dc_answer_in_game pm_answer_in_game an_answer_in_game cd_answer_in_game ct_answer_in_game), sl_answer_in_game⟩)
    (c_answer_in_game : PySem.W.codeIn K cd_answer_in_game "answer_in_game" = true)
    (k_answer_in_game : PySem.W.keepIn K (.ref f_answer_in_game) = true)
    (a_answers : PySem.W.nsIn K mainGlobals "answers" = some (some (.ref f_answers)))
    (l_answers : K.lookup f_answers = some ⟨oc_answers, od_answers, .func (PySem.W.fnOf "answers" "answers" (defArgs s_answers) (defBody s_answers) (defScope s_answers) .none kV_answers dc_answers pm_answers an_answers cd_answers ct_answers), sl_answers⟩)
    (c_answers : PySem.W.codeIn K cd_answers "answers" = true)
    (k_answers : PySem.W.keepIn K (.ref f_answers) = true)
    : ∃ fd : FuncData, (∀ (s : Shared) (us : List Value), us.length = (["calls"] : List Str).length → BindsTo s fd ⟨us, []⟩ ((["calls"] : List Str).zip us)) ∧ ∀ base : Heap, K.In base → base.Ns mainGlobals mg → FnOk P w K mg base CX0 10 fa fd ["calls"] (spAnswers K) := by
  have e := hfa.symm.trans (PySem.W.mg_of X G a_answers)
  cases e
  have D_Penalty_init := mkM (q := "Penalty.__init__") (st := s_Penalty_init) (ps := ["self", "player", "kind", "left", "counts"]) a_Penalty_init i_Penalty_init l_Penalty_init c_Penalty_init k_Penalty_init (bz5 fun _ _ _ _ _ => rfl)
  have D_Penalty_less := mkM (q := "Penalty.less") (st := s_Penalty_less) (ps := ["self", "seconds"]) a_Penalty_less i_Penalty_less l_Penalty_less c_Penalty_less k_Penalty_less (bz2 fun _ _ => rfl)
  have D_running := mkD (st := s_running) (ps := ["box"]) X G a_running l_running c_running k_running (bz1 fun _ => rfl)
  have D_until_one_is_over := mkD (st := s_until_one_is_over) (ps := ["box"]) X G a_until_one_is_over l_until_one_is_over c_until_one_is_over k_until_one_is_over (bz1 fun _ => rfl)
  have D_with_less_left := mkD (st := s_with_less_left) (ps := ["box", "seconds"]) X G a_with_less_left l_with_less_left c_with_less_left k_with_less_left (bz2 fun _ _ => rfl)
  have D_box_after := mkD (st := s_box_after) (ps := ["box", "seconds"]) X G a_box_after l_box_after c_box_after k_box_after (bz2 fun _ _ => rfl)
  have D_times_over := mkD (st := s_times_over) (ps := ["box", "time"]) X G a_times_over l_times_over c_times_over k_times_over (bz2 fun _ _ => rfl)
  have D_skaters_with := mkD (st := s_skaters_with) (ps := ["box", "skaters"]) X G a_skaters_with l_skaters_with c_skaters_with k_skaters_with (bz2 fun _ _ => rfl)
  have D_minor_to_end := mkD (st := s_minor_to_end) (ps := ["box"]) X G a_minor_to_end l_minor_to_end c_minor_to_end k_minor_to_end (bz1 fun _ => rfl)
  have D_of_kind := mkD (st := s_of_kind) (ps := ["box", "kind"]) X G a_of_kind l_of_kind c_of_kind k_of_kind (bz2 fun _ _ => rfl)
  have D_boxes_of := mkD (st := s_boxes_of) (ps := ["coming"]) X G a_boxes_of l_boxes_of c_boxes_of k_boxes_of (bz1 fun _ => rfl)
  have D_too_many := mkD (st := s_too_many) (ps := ["boxes", "coming"]) X G a_too_many l_too_many c_too_many k_too_many (bz2 fun _ _ => rfl)
  have D_without_first_minor := mkD (st := s_without_first_minor) (ps := ["signalled", "team"]) X G a_without_first_minor l_without_first_minor c_without_first_minor k_without_first_minor (bz2 fun _ _ => rfl)
  have D_threes := mkD (st := s_threes) (ps := ["row"]) X G a_threes l_threes c_threes k_threes (bz1 fun _ => rfl)
  have D_well_told := mkD (st := s_well_told) (ps := ["team", "player", "kind"]) X G a_well_told l_well_told c_well_told k_well_told (bz3 fun _ _ _ => rfl)
  have D_row_well_told := mkD (st := s_row_well_told) (ps := ["row"]) X G a_row_well_told l_row_well_told c_row_well_told k_row_well_told (bz1 fun _ => rfl)
  have D_Game_init := mkM (q := "Game.__init__") (st := s_Game_init) (ps := ["self", "skaters"]) a_Game_init i_Game_init l_Game_init c_Game_init k_Game_init (bz2 fun _ _ => rfl)
  have D_Game_clock := mkM (q := "Game.clock") (st := s_Game_clock) (ps := ["self", "time"]) a_Game_clock i_Game_clock l_Game_clock c_Game_clock k_Game_clock (bz2 fun _ _ => rfl)
  have D_Game_stop := mkM (q := "Game.stop") (st := s_Game_stop) (ps := ["self", "time", "row"]) a_Game_stop i_Game_stop l_Game_stop c_Game_stop k_Game_stop (bz3 fun _ _ _ => rfl)
  have D_Game_signal := mkM (q := "Game.signal") (st := s_Game_signal) (ps := ["self", "team", "player", "kind"]) a_Game_signal i_Game_signal l_Game_signal c_Game_signal k_Game_signal (bz4 fun _ _ _ _ => rfl)
  have D_Game_goal := mkM (q := "Game.goal") (st := s_Game_goal) (ps := ["self", "time", "team"]) a_Game_goal i_Game_goal l_Game_goal c_Game_goal k_Game_goal (bz3 fun _ _ _ => rfl)
  have D_Game_now := mkM (q := "Game.now") (st := s_Game_now) (ps := ["self"]) a_Game_now i_Game_now l_Game_now c_Game_now k_Game_now (bz1 fun _ => rfl)
  have D_Game_box := mkM (q := "Game.box") (st := s_Game_box) (ps := ["self", "team"]) a_Game_box i_Game_box l_Game_box c_Game_box k_Game_box (bz2 fun _ _ => rfl)
  have D_Game_minutes := mkM (q := "Game.minutes") (st := s_Game_minutes) (ps := ["self", "team"]) a_Game_minutes i_Game_minutes l_Game_minutes c_Game_minutes k_Game_minutes (bz2 fun _ _ => rfl)
  have D_Game_till := mkM (q := "Game.till") (st := s_Game_till) (ps := ["self", "team"]) a_Game_till i_Game_till l_Game_till c_Game_till k_Game_till (bz2 fun _ _ => rfl)
  have D_Game_may_be := mkM (q := "Game.may_be") (st := s_Game_may_be) (ps := ["self", "time"]) a_Game_may_be i_Game_may_be l_Game_may_be c_Game_may_be k_Game_may_be (bz2 fun _ _ => rfl)
  have D_Game_boxes_at := mkM (q := "Game.boxes_at") (st := s_Game_boxes_at) (ps := ["self", "time"]) a_Game_boxes_at i_Game_boxes_at l_Game_boxes_at c_Game_boxes_at k_Game_boxes_at (bz2 fun _ _ => rfl)
  have D_Game_pass_to := mkM (q := "Game.pass_to") (st := s_Game_pass_to) (ps := ["self", "time"]) a_Game_pass_to i_Game_pass_to l_Game_pass_to c_Game_pass_to k_Game_pass_to (bz2 fun _ _ => rfl)
  have D_Game_both_skaters := mkM (q := "Game.both_skaters") (st := s_Game_both_skaters) (ps := ["self"]) a_Game_both_skaters i_Game_both_skaters l_Game_both_skaters c_Game_both_skaters k_Game_both_skaters (bz1 fun _ => rfl)
  have D_Game_strength := mkM (q := "Game.strength") (st := s_Game_strength) (ps := ["self", "team"]) a_Game_strength i_Game_strength l_Game_strength c_Game_strength k_Game_strength (bz2 fun _ _ => rfl)
  have D_Game_end_minor := mkM (q := "Game.end_minor") (st := s_Game_end_minor) (ps := ["self", "team"]) a_Game_end_minor i_Game_end_minor l_Game_end_minor c_Game_end_minor k_Game_end_minor (bz2 fun _ _ => rfl)
  have D_Game_tells_of_one_out := mkM (q := "Game.tells_of_one_out") (st := s_Game_tells_of_one_out) (ps := ["self", "coming"]) a_Game_tells_of_one_out i_Game_tells_of_one_out l_Game_tells_of_one_out c_Game_tells_of_one_out k_Game_tells_of_one_out (bz2 fun _ _ => rfl)
  have D_Game_bring := mkM (q := "Game.bring") (st := s_Game_bring) (ps := ["self", "coming"]) a_Game_bring i_Game_bring l_Game_bring c_Game_bring k_Game_bring (bz2 fun _ _ => rfl)
  have D_Game_note := mkM (q := "Game.note") (st := s_Game_note) (ps := ["self", "who", "kind"]) a_Game_note i_Game_note l_Game_note c_Game_note k_Game_note (bz3 fun _ _ _ => rfl)
  have D_may_begin := mkD (st := s_may_begin) (ps := ["skaters"]) X G a_may_begin l_may_begin c_may_begin k_may_begin (bz1 fun _ => rfl)
  have D_read_calls := mkD (st := s_read_calls) (ps := ["calls"]) X G a_read_calls l_read_calls c_read_calls k_read_calls (bz1 fun _ => rfl)
  have D_answer_of_team := mkD (st := s_answer_of_team) (ps := ["game", "call", "team"]) X G a_answer_of_team l_answer_of_team c_answer_of_team k_answer_of_team (bz3 fun _ _ _ => rfl)
  have D_answer_in_game := mkD (st := s_answer_in_game) (ps := ["game", "call", "numbers", "row"]) X G a_answer_in_game l_answer_in_game c_answer_in_game k_answer_in_game (bz4 fun _ _ _ _ => rfl)
  have D_answers := mkD (st := s_answers) (ps := ["calls"]) X G a_answers l_answers c_answers k_answers (bz1 fun _ => rfl)
  have T : Txt K mg ⟨CP, CG, tT, tS, tM, tC, dW, [r0, r1, r2, r3, r4, r5]⟩ := {
    clP := ⟨pgP, hdP, poP, saP⟩
    clG := ⟨pgG, hdG, poG, saG⟩
    p_player := np_player
    p_kind := np_kind
    p_left := np_left
    p_counts := np_counts
    g_skaters := ng_skaters
    g_time := ng_time
    g_boxes := ng_boxes
    g_signalled := ng_signalled
    g_goals := ng_goals
    g_noted := ng_noted
    g_majors := ng_majors
    g_out := ng_out
    mgP := PySem.W.mg_of X G aP
    mgG := PySem.W.mg_of X G aG
    BEGIN := ⟨_, PySem.W.mg_of X G i_BEGIN⟩
    CLOCK := ⟨_, PySem.W.mg_of X G i_CLOCK⟩
    STOP := ⟨_, PySem.W.mg_of X G i_STOP⟩
    SIGNAL := ⟨_, PySem.W.mg_of X G i_SIGNAL⟩
    GOAL := ⟨_, PySem.W.mg_of X G i_GOAL⟩
    NOW := ⟨_, PySem.W.mg_of X G i_NOW⟩
    BOX := ⟨_, PySem.W.mg_of X G i_BOX⟩
    MINUTES := ⟨_, PySem.W.mg_of X G i_MINUTES⟩
    WRONG := ⟨_, PySem.W.mg_of X G i_WRONG⟩
    NO_GAME := ⟨_, PySem.W.mg_of X G i_NO_GAME⟩
    OUT_OF_GAME := ⟨_, PySem.W.mg_of X G i_OUT_OF_GAME⟩
    TOO_MANY := ⟨_, PySem.W.mg_of X G i_TOO_MANY⟩
    FEWEST_SKATERS := ⟨_, PySem.W.mg_of X G i_FEWEST_SKATERS⟩
    MOST_SKATERS := ⟨_, PySem.W.mg_of X G i_MOST_SKATERS⟩
    LAST_PLAYER := ⟨_, PySem.W.mg_of X G i_LAST_PLAYER⟩
    LAST_TIME := ⟨_, PySem.W.mg_of X G i_LAST_TIME⟩
    MOST_COUNTING := ⟨_, PySem.W.mg_of X G i_MOST_COUNTING⟩
    MOST_PENALTIES := ⟨_, PySem.W.mg_of X G i_MOST_PENALTIES⟩
    MAJORS_TO_BE_OUT := ⟨_, PySem.W.mg_of X G i_MAJORS_TO_BE_OUT⟩
    NOBODY := ⟨_, PySem.W.mg_of X G i_NOBODY⟩
    MINOR := ⟨_, PySem.W.mg_of X G i_MINOR⟩
    MAJOR := ⟨_, PySem.W.mg_of X G i_MAJOR⟩
    MISCONDUCT := ⟨_, PySem.W.mg_of X G i_MISCONDUCT⟩
    DOUBLE_MINOR := ⟨_, PySem.W.mg_of X G i_DOUBLE_MINOR⟩
    MATCH := ⟨_, PySem.W.mg_of X G i_MATCH⟩
    EXPULSION := ⟨_, PySem.W.mg_of X G i_EXPULSION⟩
    len_ := PySem.W.mg_none_of X G n_len
    min_ := PySem.W.mg_none_of X G n_min
    max_ := PySem.W.mg_none_of X G n_max
    sum_ := PySem.W.mg_none_of X G n_sum
    any_ := PySem.W.mg_none_of X G n_any
    all_ := PySem.W.mg_none_of X G n_all
    zip_ := PySem.W.mg_none_of X G n_zip
    range_ := PySem.W.mg_none_of X G n_range
    list_ := PySem.W.mg_none_of X G n_list
    int_ := PySem.W.mg_none_of X G n_int
    TEAMS := PySem.W.mg_of X G a_TEAMS
    sqTEAMS := fun H => tup_of l_TEAMS (by show 2 ≤ sizeLine; decide) (.cons ⟨_, rfl⟩ (.cons ⟨_, rfl⟩ .nil))
    SERVED := PySem.W.mg_of X G a_SERVED
    sqSERVED := fun H => tup_of l_SERVED (by show 6 ≤ sizeLine; decide) (.cons rfl (.cons rfl (.cons rfl (.cons rfl (.cons rfl (.cons rfl .nil))))))
    srvAt := fun k hk => by
      match k, hk with
      | 0, _ => exact ⟨r0, rfl, fun H => tup_of l_r0 (by show 1 ≤ sizeLine; decide) (.cons ⟨_, rfl⟩ .nil), _, l_r0, rfl, rfl⟩
      | 1, _ => exact ⟨r1, rfl, fun H => tup_of l_r1 (by show 1 ≤ sizeLine; decide) (.cons ⟨_, rfl⟩ .nil), _, l_r1, rfl, rfl⟩
      | 2, _ => exact ⟨r2, rfl, fun H => tup_of l_r2 (by show 1 ≤ sizeLine; decide) (.cons ⟨_, rfl⟩ .nil), _, l_r2, rfl, rfl⟩
      | 3, _ => exact ⟨r3, rfl, fun H => tup_of l_r3 (by show 2 ≤ sizeLine; decide) (.cons ⟨_, rfl⟩ (.cons ⟨_, rfl⟩ .nil)), _, l_r3, rfl, rfl⟩
      | 4, _ => exact ⟨r4, rfl, fun H => tup_of l_r4 (by show 1 ≤ sizeLine; decide) (.cons ⟨_, rfl⟩ .nil), _, l_r4, rfl, rfl⟩
      | 5, _ => exact ⟨r5, rfl, fun H => tup_of l_r5 (by show 0 ≤ sizeLine; decide) (.nil), _, l_r5, rfl, rfl⟩
      | k + 6, hk => exact absurd hk (by omega)
    MINUTES_NOTED := PySem.W.mg_of X G a_MIN
    sqMIN := fun H => tup_of l_MIN (by show 6 ≤ sizeLine; decide) (.cons ⟨_, rfl⟩ (.cons ⟨_, rfl⟩ (.cons ⟨_, rfl⟩ (.cons ⟨_, rfl⟩ (.cons ⟨_, rfl⟩ (.cons ⟨_, rfl⟩ .nil))))))
    SECONDS := PySem.W.mg_of X G a_SEC
    sqSEC := fun H => tup_of l_SEC (by show 3 ≤ sizeLine; decide) (.cons ⟨_, rfl⟩ (.cons ⟨_, rfl⟩ (.cons ⟨_, rfl⟩ .nil)))
    WHOLE_NUMBERS := PySem.W.mg_of X G a_WN
    gdWHOLE_NUMBERS := ⟨⟨_, _, _, l_WN, ⟨rfl, rfl, rfl⟩, rfl, .cons ⟨rfl, ⟨_, rfl⟩, ⟨_, rfl⟩⟩ (.cons ⟨rfl, ⟨_, rfl⟩, ⟨_, rfl⟩⟩ (.cons ⟨rfl, ⟨_, rfl⟩, ⟨_, rfl⟩⟩ (.cons ⟨rfl, ⟨_, rfl⟩, ⟨_, rfl⟩⟩ (.cons ⟨rfl, ⟨_, rfl⟩, ⟨_, rfl⟩⟩ (.cons ⟨rfl, ⟨_, rfl⟩, ⟨_, rfl⟩⟩ (.cons ⟨rfl, ⟨_, rfl⟩, ⟨_, rfl⟩⟩ (.cons ⟨rfl, ⟨_, rfl⟩, ⟨_, rfl⟩⟩ (.cons ⟨rfl, ⟨_, rfl⟩, ⟨_, rfl⟩⟩ (.nil)))))))))⟩, by decide⟩ }
  refine ⟨PySem.W.fnOf "answers" "answers" (defArgs s_answers) (defBody s_answers) (defScope s_answers) .none kV_answers dc_answers pm_answers an_answers cd_answers ct_answers, fun s us hu => .of_eq (bz1 (fun _ => rfl) us hu), fun base _ _ => ?_⟩
  have mkP : Mk K CP f_Penalty_init := ⟨mkP, a_Penalty_init, i_Penalty_init, kcP⟩
  have mkG : Mk K CG f_Game_init := ⟨mkG, a_Game_init, i_Game_init, kcG⟩
  have G_Penalty_init := ok_PI (P := P) (w := w) (base := base) D_Penalty_init.fn T
  have G_Penalty_less := ok_less (P := P) (w := w) (base := base) D_Penalty_less.fn T mkP G_Penalty_init D_Penalty_init.b
  have G_running := ok_run (P := P) (w := w) (base := base) D_running.fn T
  have G_until_one_is_over := ok_until (P := P) (w := w) (base := base) D_until_one_is_over.fn T D_running G_running
  have G_with_less_left := ok_with (P := P) (w := w) (base := base) D_with_less_left.fn T D_running G_running D_Penalty_less G_Penalty_less
  have G_box_after := ok_after (P := P) (w := w) (base := base) D_box_after.fn T D_until_one_is_over G_until_one_is_over D_with_less_left G_with_less_left
  have G_skaters_with := ok_skaters (P := P) (w := w) (base := base) D_skaters_with.fn T D_running G_running
  have G_minor_to_end := ok_minor (P := P) (w := w) (base := base) D_minor_to_end.fn T D_running G_running
  have G_of_kind := ok_ofkind (P := P) (w := w) (base := base) D_of_kind.fn T
  have G_times_over := ok_times (P := P) (w := w) (base := base) D_times_over.fn T D_until_one_is_over G_until_one_is_over D_with_less_left G_with_less_left
  have G_boxes_of := ok_boxes (P := P) (w := w) (base := base) D_boxes_of.fn T mkP G_Penalty_init D_Penalty_init D_of_kind G_of_kind
  have G_too_many := ok_many (P := P) (w := w) (base := base) D_too_many.fn T
  have G_well_told := ok_well (P := P) (w := w) (base := base) D_well_told.fn T
  have G_threes := ok_threes (P := P) (w := w) (base := base) D_threes.fn T
  have G_row_well_told := ok_rowwell (P := P) (w := w) (base := base) D_row_well_told.fn T D_threes G_threes D_well_told G_well_told
  have G_without_first_minor := ok_wash (P := P) (w := w) (base := base) D_without_first_minor.fn T
  have G_Game_may_be := ok_maybe (P := P) (w := w) (base := base) D_Game_may_be.fn T
  have G_Game_boxes_at := ok_boxesat (P := P) (w := w) (base := base) D_Game_boxes_at.fn T D_box_after G_box_after
  have G_Game_pass_to := ok_pass (P := P) (w := w) (base := base) D_Game_pass_to.fn T D_Game_boxes_at G_Game_boxes_at
  have G_Game_both_skaters := ok_both (P := P) (w := w) (base := base) D_Game_both_skaters.fn T D_skaters_with G_skaters_with
  have G_Game_strength := ok_strength (P := P) (w := w) (base := base) D_Game_strength.fn T D_Game_both_skaters G_Game_both_skaters
  have G_Game_end_minor := ok_end (P := P) (w := w) (base := base) D_Game_end_minor.fn T D_minor_to_end G_minor_to_end
  have G_Game_note := ok_note (P := P) (w := w) (base := base) D_Game_note.fn T
  have G_Game_tells_of_one_out := ok_tells (P := P) (w := w) (base := base) D_Game_tells_of_one_out.fn T
  have G_Game_bring := ok_bring (P := P) (w := w) (base := base) D_Game_bring.fn T D_boxes_of G_boxes_of D_Game_note G_Game_note
  have G_Game_clock := ok_clock (P := P) (w := w) (base := base) D_Game_clock.fn T D_Game_may_be G_Game_may_be D_Game_pass_to G_Game_pass_to D_Game_both_skaters G_Game_both_skaters
  have G_Game_now := ok_now (P := P) (w := w) (base := base) D_Game_now.fn T D_Game_both_skaters G_Game_both_skaters
  have G_Game_signal := ok_signal (P := P) (w := w) (base := base) D_Game_signal.fn T D_well_told G_well_told D_Game_tells_of_one_out G_Game_tells_of_one_out D_too_many G_too_many
  have G_Game_stop := ok_stop (P := P) (w := w) (base := base) D_Game_stop.fn T D_Game_may_be G_Game_may_be D_row_well_told G_row_well_told D_threes G_threes D_Game_tells_of_one_out G_Game_tells_of_one_out D_too_many G_too_many D_Game_boxes_at G_Game_boxes_at D_Game_pass_to G_Game_pass_to D_Game_bring G_Game_bring D_Game_both_skaters G_Game_both_skaters
  have G_Game_goal := ok_goal (P := P) (w := w) (base := base) D_Game_goal.fn T D_Game_may_be G_Game_may_be D_Game_pass_to G_Game_pass_to D_Game_strength G_Game_strength D_Game_end_minor G_Game_end_minor D_without_first_minor G_without_first_minor D_Game_bring G_Game_bring D_Game_both_skaters G_Game_both_skaters
  have G_Game_box := ok_box (P := P) (w := w) (base := base) D_Game_box.fn T D_running G_running
  have G_Game_till := ok_till (P := P) (w := w) (base := base) D_Game_till.fn T D_times_over G_times_over
  have G_Game_minutes := ok_minutes (P := P) (w := w) (base := base) D_Game_minutes.fn T
  have G_Game_init := ok_GI (P := P) (w := w) (base := base) D_Game_init.fn T
  have G_may_begin := ok_maybegin (P := P) (w := w) (base := base) D_may_begin.fn T
  have G_answer_of_team := ok_team (P := P) (w := w) (base := base) D_answer_of_team.fn T D_Game_box G_Game_box D_Game_minutes G_Game_minutes D_Game_till G_Game_till
  have G_answer_in_game := ok_ingame (P := P) (w := w) (base := base) D_answer_in_game.fn T D_Game_clock G_Game_clock D_Game_stop G_Game_stop D_Game_signal G_Game_signal D_Game_goal G_Game_goal D_Game_now G_Game_now D_answer_of_team G_answer_of_team
  have G_read_calls := ok_read (P := P) (w := w) (base := base) D_read_calls.fn T
  exact ok_answers D_answers.fn T mkG D_read_calls G_read_calls D_may_begin G_may_begin D_Game_init G_Game_init D_answer_in_game G_answer_in_game
end Ice
open PySem PySem.W PyProof.Rows
theorem PySem.W.Fast.tw7706365122357055649 : True := trivial
theorem PySem.W.Fast.tw10569519144913247043 : True := trivial
theorem PySem.W.Fast.tw2468322896552402515 : True := trivial
theorem PySem.W.Fast.tw1684976083660235701 : True := trivial
theorem PySem.W.Fast.tw18166395522497913305 : True := trivial
theorem PySem.W.Fast.tw12132541928711338714 : True := trivial
theorem PySem.W.Fast.tw8141362955723242691 : True := trivial
theorem PySem.W.Fast.tw5490777819883077533 : True := trivial
theorem PySem.W.Fast.tw1368743754207145905 : True := trivial
theorem PySem.W.Fast.tw17860112841237572135 : True := trivial
set_option maxRecDepth 100000 in
set_option maxHeartbeats 0 in
theorem PySem.Challenge.cw_icepenalties_s01_answers_holds : PySem.Challenge.rw_icepenalties_s01_answers.Holds := by
  w_on; k_headS; (case hw => exact ⟨[.list [.int 6]], by decide +kernel, by decide +kernel⟩)
  k_fillS
  refine L2.walk_specK (r := PySem.Challenge.rw_icepenalties_s01_answers) (k := 10) (CX := L2.CX0) (ps := ["calls"]) (sp := Ice.spAnswers) (by decide +kernel) rfl rfl ⟨rfl, by decide, by decide⟩ (fun w h Y => PySem.W.kIn_of Y) ?F ?S (fun _ _ _ _ z => z)
  case F =>
    intro w mg fa h Y KX G hmg
    refine' Ice.all KX G hmg ?aP ?aG ?pgP ?hdP ?poP ?saP ?mkP ?kcP ?pgG ?hdG ?poG ?saG ?mkG ?kcG ?np_player ?np_kind ?np_left ?np_counts ?ng_skaters ?ng_time ?ng_boxes ?ng_signalled ?ng_goals ?ng_noted ?ng_majors ?ng_out ?i_BEGIN ?i_CLOCK ?i_STOP ?i_SIGNAL ?i_GOAL ?i_NOW ?i_BOX ?i_MINUTES ?i_WRONG ?i_NO_GAME ?i_OUT_OF_GAME ?i_TOO_MANY ?i_FEWEST_SKATERS ?i_MOST_SKATERS ?i_LAST_PLAYER ?i_LAST_TIME ?i_MOST_COUNTING ?i_MOST_PENALTIES ?i_MAJORS_TO_BE_OUT ?i_NOBODY ?i_MINOR ?i_MAJOR ?i_MISCONDUCT ?i_DOUBLE_MINOR ?i_MATCH ?i_EXPULSION ?n_len ?n_min ?n_max ?n_sum ?n_any ?n_all ?n_zip ?n_range ?n_list ?n_int ?a_TEAMS ?l_TEAMS ?a_SERVED ?l_SERVED ?l_r0 ?l_r1 ?l_r2 ?l_r3 ?l_r4 ?l_r5 ?a_MIN ?l_MIN ?a_SEC ?l_SEC ?a_WN ?l_WN ?a_Penalty_init ?i_Penalty_init ?l_Penalty_init ?c_Penalty_init ?k_Penalty_init ?a_Penalty_less ?i_Penalty_less ?l_Penalty_less ?c_Penalty_less ?k_Penalty_less ?a_running ?l_running ?c_running ?k_running ?a_until_one_is_over ?l_until_one_is_over ?c_until_one_is_over ?k_until_one_is_over ?a_with_less_left ?l_with_less_left ?c_with_less_left ?k_with_less_left ?a_box_after ?l_box_after ?c_box_after ?k_box_after ?a_times_over ?l_times_over ?c_times_over ?k_times_over ?a_skaters_with ?l_skaters_with ?c_skaters_with ?k_skaters_with ?a_minor_to_end ?l_minor_to_end ?c_minor_to_end ?k_minor_to_end ?a_of_kind ?l_of_kind ?c_of_kind ?k_of_kind ?a_boxes_of ?l_boxes_of ?c_boxes_of ?k_boxes_of ?a_too_many ?l_too_many ?c_too_many ?k_too_many ?a_without_first_minor ?l_without_first_minor ?c_without_first_minor ?k_without_first_minor ?a_threes ?l_threes ?c_threes ?k_threes ?a_well_told ?l_well_told ?c_well_told ?k_well_told ?a_row_well_told ?l_row_well_told ?c_row_well_told ?k_row_well_told ?a_Game_init ?i_Game_init ?l_Game_init ?c_Game_init ?k_Game_init ?a_Game_clock ?i_Game_clock ?l_Game_clock ?c_Game_clock ?k_Game_clock ?a_Game_stop ?i_Game_stop ?l_Game_stop ?c_Game_stop ?k_Game_stop ?a_Game_signal ?i_Game_signal ?l_Game_signal ?c_Game_signal ?k_Game_signal ?a_Game_goal ?i_Game_goal ?l_Game_goal ?c_Game_goal ?k_Game_goal ?a_Game_now ?i_Game_now ?l_Game_now ?c_Game_now ?k_Game_now ?a_Game_box ?i_Game_box ?l_Game_box ?c_Game_box ?k_Game_box ?a_Game_minutes ?i_Game_minutes ?l_Game_minutes ?c_Game_minutes ?k_Game_minutes ?a_Game_till ?i_Game_till ?l_Game_till ?c_Game_till ?k_Game_till ?a_Game_may_be ?i_Game_may_be ?l_Game_may_be ?c_Game_may_be ?k_Game_may_be ?a_Game_boxes_at ?i_Game_boxes_at ?l_Game_boxes_at ?c_Game_boxes_at ?k_Game_boxes_at ?a_Game_pass_to ?i_Game_pass_to ?l_Game_pass_to ?c_Game_pass_to ?k_Game_pass_to ?a_Game_both_skaters ?i_Game_both_skaters ?l_Game_both_skaters ?c_Game_both_skaters ?k_Game_both_skaters ?a_Game_strength ?i_Game_strength ?l_Game_strength ?c_Game_strength ?k_Game_strength ?a_Game_end_minor ?i_Game_end_minor ?l_Game_end_minor ?c_Game_end_minor ?k_Game_end_minor ?a_Game_tells_of_one_out ?i_Game_tells_of_one_out ?l_Game_tells_of_one_out ?c_Game_tells_of_one_out ?k_Game_tells_of_one_out ?a_Game_bring ?i_Game_bring ?l_Game_bring ?c_Game_bring ?k_Game_bring ?a_Game_note ?i_Game_note ?l_Game_note ?c_Game_note ?k_Game_note ?a_may_begin ?l_may_begin ?c_may_begin ?k_may_begin ?a_read_calls ?l_read_calls ?c_read_calls ?k_read_calls ?a_answer_of_team ?l_answer_of_team ?c_answer_of_team ?k_answer_of_team ?a_answer_in_game ?l_answer_in_game ?c_answer_in_game ?k_answer_in_game ?a_answers ?l_answers ?c_answers ?k_answers
    (case aP => k_is); (case aG => k_is); (case pgP => k_is); (case hdP => k_is); (case poP => k_is); (case saP => k_is); (case mkP => k_is); (case kcP => k_is); (case pgG => k_is); (case hdG => k_is); (case poG => k_is)
    (case saG => k_is); (case mkG => k_is); (case kcG => k_is); (case np_player => k_is); (case np_kind => k_is); (case np_left => k_is); (case np_counts => k_is); (case ng_skaters => k_is); (case ng_time => k_is)
    (case ng_boxes => k_is); (case ng_signalled => k_is); (case ng_goals => k_is); (case ng_noted => k_is); (case ng_majors => k_is); (case ng_out => k_is); (case i_BEGIN => k_is); (case i_CLOCK => k_is)
    (case i_STOP => k_is); (case i_SIGNAL => k_is); (case i_GOAL => k_is); (case i_NOW => k_is); (case i_BOX => k_is); (case i_MINUTES => k_is); (case i_WRONG => k_is); (case i_NO_GAME => k_is); (case i_OUT_OF_GAME => k_is)
    (case i_TOO_MANY => k_is); (case i_FEWEST_SKATERS => k_is); (case i_MOST_SKATERS => k_is); (case i_LAST_PLAYER => k_is); (case i_LAST_TIME => k_is); (case i_MOST_COUNTING => k_is); (case i_MOST_PENALTIES => k_is)
    (case i_MAJORS_TO_BE_OUT => k_is); (case i_NOBODY => k_is); (case i_MINOR => k_is); (case i_MAJOR => k_is); (case i_MISCONDUCT => k_is); (case i_DOUBLE_MINOR => k_is); (case i_MATCH => k_is); (case i_EXPULSION => k_is)
    (case n_len => k_is); (case n_min => k_is); (case n_max => k_is); (case n_sum => k_is); (case n_any => k_is); (case n_all => k_is); (case n_zip => k_is); (case n_range => k_is); (case n_list => k_is)
    (case n_int => k_is); (case a_TEAMS => k_is); (case l_TEAMS => k_is); (case a_SERVED => k_is); (case l_SERVED => k_is); (case l_r0 => k_is); (case l_r1 => k_is); (case l_r2 => k_is); (case l_r3 => k_is)
    (case l_r4 => k_is); (case l_r5 => k_is); (case a_MIN => k_is); (case l_MIN => k_is); (case a_SEC => k_is); (case l_SEC => k_is); (case a_WN => k_is); (case l_WN => k_is); (case a_Penalty_init => k_is)
    (case i_Penalty_init => k_is); (case l_Penalty_init => k_is); (case c_Penalty_init => k_is); (case k_Penalty_init => k_is); (case a_Penalty_less => k_is); (case i_Penalty_less => k_is); (case l_Penalty_less => k_is)
    (case c_Penalty_less => k_is); (case k_Penalty_less => k_is); (case a_running => k_is); (case l_running => k_is); (case c_running => k_is); (case k_running => k_is); (case a_until_one_is_over => k_is)
    (case l_until_one_is_over => k_is); (case c_until_one_is_over => k_is); (case k_until_one_is_over => k_is); (case a_with_less_left => k_is); (case l_with_less_left => k_is); (case c_with_less_left => k_is)
    (case k_with_less_left => k_is); (case a_box_after => k_is); (case l_box_after => k_is); (case c_box_after => k_is); (case k_box_after => k_is); (case a_times_over => k_is); (case l_times_over => k_is)
    (case c_times_over => k_is); (case k_times_over => k_is); (case a_skaters_with => k_is); (case l_skaters_with => k_is); (case c_skaters_with => k_is); (case k_skaters_with => k_is); (case a_minor_to_end => k_is)
    (case l_minor_to_end => k_is); (case c_minor_to_end => k_is); (case k_minor_to_end => k_is); (case a_of_kind => k_is); (case l_of_kind => k_is); (case c_of_kind => k_is); (case k_of_kind => k_is); (case a_boxes_of => k_is)
    (case l_boxes_of => k_is); (case c_boxes_of => k_is); (case k_boxes_of => k_is); (case a_too_many => k_is); (case l_too_many => k_is); (case c_too_many => k_is); (case k_too_many => k_is); (case a_without_first_minor => k_is)
    (case l_without_first_minor => k_is); (case c_without_first_minor => k_is); (case k_without_first_minor => k_is); (case a_threes => k_is); (case l_threes => k_is); (case c_threes => k_is); (case k_threes => k_is)
    (case a_well_told => k_is); (case l_well_told => k_is); (case c_well_told => k_is); (case k_well_told => k_is); (case a_row_well_told => k_is); (case l_row_well_told => k_is); (case c_row_well_told => k_is)
    (case k_row_well_told => k_is); (case a_Game_init => k_is); (case i_Game_init => k_is); (case l_Game_init => k_is); (case c_Game_init => k_is); (case k_Game_init => k_is); (case a_Game_clock => k_is)
    (case i_Game_clock => k_is); (case l_Game_clock => k_is); (case c_Game_clock => k_is); (case k_Game_clock => k_is); (case a_Game_stop => k_is); (case i_Game_stop => k_is); (case l_Game_stop => k_is); (case c_Game_stop => k_is)
    (case k_Game_stop => k_is); (case a_Game_signal => k_is); (case i_Game_signal => k_is); (case l_Game_signal => k_is); (case c_Game_signal => k_is); (case k_Game_signal => k_is); (case a_Game_goal => k_is)
    (case i_Game_goal => k_is); (case l_Game_goal => k_is); (case c_Game_goal => k_is); (case k_Game_goal => k_is); (case a_Game_now => k_is); (case i_Game_now => k_is); (case l_Game_now => k_is); (case c_Game_now => k_is)
    (case k_Game_now => k_is); (case a_Game_box => k_is); (case i_Game_box => k_is); (case l_Game_box => k_is); (case c_Game_box => k_is); (case k_Game_box => k_is); (case a_Game_minutes => k_is); (case i_Game_minutes => k_is)
    (case l_Game_minutes => k_is); (case c_Game_minutes => k_is); (case k_Game_minutes => k_is); (case a_Game_till => k_is); (case i_Game_till => k_is); (case l_Game_till => k_is); (case c_Game_till => k_is)
    (case k_Game_till => k_is); (case a_Game_may_be => k_is); (case i_Game_may_be => k_is); (case l_Game_may_be => k_is); (case c_Game_may_be => k_is); (case k_Game_may_be => k_is); (case a_Game_boxes_at => k_is)
    (case i_Game_boxes_at => k_is); (case l_Game_boxes_at => k_is); (case c_Game_boxes_at => k_is); (case k_Game_boxes_at => k_is); (case a_Game_pass_to => k_is); (case i_Game_pass_to => k_is); (case l_Game_pass_to => k_is)
    (case c_Game_pass_to => k_is); (case k_Game_pass_to => k_is); (case a_Game_both_skaters => k_is); (case i_Game_both_skaters => k_is); (case l_Game_both_skaters => k_is); (case c_Game_both_skaters => k_is)
    (case k_Game_both_skaters => k_is); (case a_Game_strength => k_is); (case i_Game_strength => k_is); (case l_Game_strength => k_is); (case c_Game_strength => k_is); (case k_Game_strength => k_is); (case a_Game_end_minor => k_is)
    (case i_Game_end_minor => k_is); (case l_Game_end_minor => k_is); (case c_Game_end_minor => k_is); (case k_Game_end_minor => k_is); (case a_Game_tells_of_one_out => k_is); (case i_Game_tells_of_one_out => k_is)
    (case l_Game_tells_of_one_out => k_is); (case c_Game_tells_of_one_out => k_is); (case k_Game_tells_of_one_out => k_is); (case a_Game_bring => k_is); (case i_Game_bring => k_is); (case l_Game_bring => k_is)
    (case c_Game_bring => k_is); (case k_Game_bring => k_is); (case a_Game_note => k_is); (case i_Game_note => k_is); (case l_Game_note => k_is); (case c_Game_note => k_is); (case k_Game_note => k_is); (case a_may_begin => k_is)
    (case l_may_begin => k_is); (case c_may_begin => k_is); (case k_may_begin => k_is); (case a_read_calls => k_is); (case l_read_calls => k_is); (case c_read_calls => k_is); (case k_read_calls => k_is); (case a_answer_of_team => k_is)
    (case l_answer_of_team => k_is); (case c_answer_of_team => k_is); (case k_answer_of_team => k_is); (case a_answer_in_game => k_is); (case l_answer_in_game => k_is); (case c_answer_in_game => k_is); (case k_answer_in_game => k_is)
    (case a_answers => k_is); (case l_answers => k_is); (case c_answers => k_is); (case k_answers => k_is)
  case S =>
    intro K H xs a hO hwi hask hx
    cases hx with
    | cons h1 h2 =>
      cases h2
      cases h1 with
      | lst hs ha =>
        have e := L2.ints_dw a.1 _ ha
        subst e
        have q : ((Codec.inLen 0 10000 a.1 && a.1.all (Codec.inInt (Int.negSucc 2147483647) (Int.ofNat 2147483647))) && true) = true := hwi
        rw [Bool.and_eq_true, Bool.and_eq_true] at q
        have hl : a.1.length ≤ 10000 := (Codec.inNat_iff.mp q.1.1).2
        obtain ⟨rs, ok, el, h150, ea⟩ := My.asked_inv (show PyKg58.answers_asked a.1 = true from hask)
        rw [el] at hs hl
        refine ⟨_, rs, hs, ok, hl, h150, fun l H' hp => ?_⟩
        show L2.Dw K H' (.ref l) (.list ((PyKg58.answers a.1).map WData.int))
        rw [ea]
        exact .lst (L2.SqL.of hp) (L2.dw_ints _)
