import PyProof.Rows.All
import Wide.All
import OpenK.AllK
import Wide.FinOn
import PyProof.EqAt
import PyProof.EqKinds
import PyProof.TupleCall
import KE.BitLaws
import Open.SpecLaws
import KE.OsHead
import KE.OsGo
import KE.KSortTupG
import KE.KSortTupUse
import KE.KSortKeyAny
import KE.KMinKey
import KE.KDictList
import Sn99Neutral
import PySn99
import PySem.Challenge.RW_linkneighbours_s01_answers
set_option Elab.async false
set_option linter.all false
set_option maxRecDepth 100000
namespace L2
open PySem PySem.Spec PyProof.Rows
abbrev Key := Sum Int Str
def keyIs : Key → Value → Bool
  | .inl k, v => Value.isInt k v
  | .inr x, v => Value.isStrOf x v
def keyH (w : World) : Key → Int
  | .inl k => hashInt k
  | .inr x => hashStr w x
theorem keyIs_shape : ∀ {k : Key} {v : Value}, keyIs k v = true → (∃ i t, k = Sum.inl i ∧ v = Value.int i t) ∨ (∃ x t, k = Sum.inr x ∧ v = Value.str x t)
  | .inl i, v, h => by
    obtain ⟨t, e⟩ := Value.isInt_shape (k := i) (v := v) h
    exact .inl ⟨i, t, rfl, e⟩
  | .inr x, v, h => by
    obtain ⟨t, e⟩ := Value.isStrOf_shape (x := x) (v := v) h
    exact .inr ⟨x, t, rfl, e⟩
theorem keyIs_int (i : Int) (t : Tok) : keyIs (.inl i) (.int i t) = true := by simp [keyIs, Value.isInt]
theorem keyIs_str (x : Str) (t : Tok) : keyIs (.inr x) (.str x t) = true := by simp [keyIs, Value.isStrOf]
theorem key_ll (a b : Int) : decide ((Sum.inl a : Key) = Sum.inl b) = (a == b) := by
  by_cases e : a = b
  · subst e; simp
  · have h : ¬ (Sum.inl a : Key) = Sum.inl b := fun q => e (Sum.inl.inj q)
    rw [decide_eq_false h]
    exact (beq_eq_false_iff_ne.mpr e).symm
theorem key_rr (a b : Str) : decide ((Sum.inr a : Key) = Sum.inr b) = decide (a = b) := by
  by_cases e : a = b
  · subst e; simp
  · have h : ¬ (Sum.inr a : Key) = Sum.inr b := fun q => e (Sum.inr.inj q)
    rw [decide_eq_false h, decide_eq_false e]
theorem key_lr (a : Int) (b : Str) : decide ((Sum.inl a : Key) = Sum.inr b) = false := decide_eq_false (fun q => nomatch q)
theorem key_rl (a : Str) (b : Int) : decide ((Sum.inr a : Key) = Sum.inl b) = false := decide_eq_false (fun q => nomatch q)
def mixKind (prog : Program) (w : World) : PySem.KeyKind prog w Key where
  is := keyIs
  hash := keyH w
  inj := fun v a b ha hb => by
    rcases keyIs_shape ha with ⟨i, t, rfl, rfl⟩ | ⟨x, t, rfl, rfl⟩
    · rcases keyIs_shape hb with ⟨j, u, rfl, e⟩ | ⟨y, u, rfl, e⟩
      · injection e with e1 _; rw [e1]
      · exact nomatch e
    · rcases keyIs_shape hb with ⟨j, u, rfl, e⟩ | ⟨y, u, rfl, e⟩
      · exact nomatch e
      · injection e with e1 _; rw [e1]
  byValue := fun k v h => by
    rcases keyIs_shape h with ⟨i, t, rfl, rfl⟩ | ⟨x, t, rfl, rfl⟩ <;> rfl
  pyHash := fun hv h => by
    rcases keyIs_shape hv with ⟨i, t, rfl, rfl⟩ | ⟨x, t, rfl, rfl⟩
    · exact wpAny_pyHash_int h
    · exact wpAny_pyHash_str h
  eqBool := fun hu hv h => by
    rcases keyIs_shape hu with ⟨i, t, rfl, rfl⟩ | ⟨x, t, rfl, rfl⟩
    · rcases keyIs_shape hv with ⟨j, u, rfl, rfl⟩ | ⟨y, u, rfl, rfl⟩
      · rw [key_ll] at h; exact wpAny_eqBool_int h
      · rw [key_lr] at h; exact SeqAt.EqAt.int_str i t y u _ _ _ _ h
    · rcases keyIs_shape hv with ⟨j, u, rfl, rfl⟩ | ⟨y, u, rfl, rfl⟩
      · rw [key_rl] at h; exact SeqAt.EqAt.str_int x t j u _ _ _ _ h
      · rw [key_rr] at h; exact wpAny_eqBool_str h
  «strs» := fun k x t v h => by
    rcases keyIs_shape h with ⟨i, u, rfl, e⟩ | ⟨y, u, rfl, e⟩
    · exact nomatch e
    · injection e with e1 _
      subst e1
      cases v <;> rfl
theorem mixKind_int (prog : Program) (w : World) (i : Int) (t : Tok) : (mixKind prog w).is (.inl i) (.int i t) = true := keyIs_int i t
theorem mixKind_str (prog : Program) (w : World) (x : Str) (t : Tok) : (mixKind prog w).is (.inr x) (.str x t) = true := keyIs_str x t
end L2
namespace L2
open PySem PySem.Spec PyProof.Rows
inductive V where
  | non | bl (b : Bool) | int (i : Int) | str (x : Str) | byt (b : Array UInt8) | flt (b : UInt64) | ref (a : Addr) | ty (n : String)
  deriving DecidableEq
def RelV : V → Value → Prop
  | .non, u => u = Value.none
  | .bl b, u => u = Value.bool b
  | .int i, u => ∃ t, u = Value.int i t
  | .str x, u => ∃ t, u = Value.str x t
  | .byt b, u => ∃ t, u = Value.bytes b t
  | .flt b, u => ∃ t, u = Value.float b t
  | .ref a, u => u = Value.ref a
  | .ty n, u => u = Value.type n
abbrev Vals : List V → List Value → Prop := Paired RelV
theorem Vals.length {xs : List V} {us : List Value} (r : Vals xs us) : xs.length = us.length := Paired.length r
theorem Vals.get : ∀ {xs : List V} {us : List Value} {i : Nat} {x : V}, Vals xs us → xs[i]? = some x → ∃ u, us[i]? = some u ∧ RelV x u
  | _, _, _, _, .nil, e => by simp at e
  | _, _, 0, _, .cons r _, e => by simp at e; subst e; exact ⟨_, rfl, r⟩
  | _, _, i + 1, x, .cons _ t, e => by
    obtain ⟨u, h1, h2⟩ := Vals.get (i := i) (x := x) t (by simpa using e)
    exact ⟨u, by simpa using h1, h2⟩
theorem Vals.append : ∀ {xs ys : List V} {us ws : List Value}, Vals xs us → Vals ys ws → Vals (xs ++ ys) (us ++ ws)
  | _, _, _, _, .nil, s => s
  | _, _, _, _, .cons r t, s => .cons r (Vals.append t s)
theorem Vals.take : ∀ {xs : List V} {us : List Value} (n : Nat), Vals xs us → Vals (xs.take n) (us.take n)
  | _, _, 0, _ => .nil
  | _, _, _ + 1, .nil => .nil
  | _, _, n + 1, .cons r t => .cons r (Vals.take n t)
theorem Vals.drop : ∀ {xs : List V} {us : List Value} (n : Nat), Vals xs us → Vals (xs.drop n) (us.drop n)
  | _, _, 0, r => r
  | _, _, _ + 1, .nil => .nil
  | _, _, n + 1, .cons _ t => Vals.drop n t
def RelO : Option V → Option Value → Prop
  | some v, some u => RelV v u
  | none, none => True
  | _, _ => False
def KV {κ : Type} : List (κ × V) → List (κ × Value) → Prop := Paired fun (p : κ × V) (q : κ × Value) => p.1 = q.1 ∧ RelV p.2 q.2
def kV : Key → V
  | .inl i => .int i
  | .inr x => .str x
inductive HO where
    | lst (xs : List V)
    | tup (xs : List V)
    | dK (kvs : List (Key × V)) | dT (kvs : List (List Key × V))
    | set (S : Int → Bool) (n : Nat)
    | ins (C dx : Addr) (fs : List (Str × V))
    | own (x : Addr)
    | xd (fs : List (Str × V))
    | met (f x : Addr)
    | rng (lo hi : Int)
    | frz (o : Obj) (u : HO)
    | tbl (ps : Array Value)
    | ext (φ : Heap → Prop)
abbrev Hp := Addr → Option HO
def upd (H : Hp) (a : Addr) (o : HO) : Hp := fun b => if b = a then some o else H b
theorem upd_same {H : Hp} {a : Addr} {o : HO} : upd H a o a = some o := by unfold upd; rw [if_pos rfl]
theorem upd_ne {H : Hp} {a b : Addr} {o : HO} (h : b ≠ a) : upd H a o b = H b := by unfold upd; rw [if_neg h]
theorem upd_upd {H : Hp} {a : Addr} {o u : HO} : upd (upd H a o) a u = upd H a u := by
  funext b; unfold upd; split <;> rfl
theorem ne_of {H : Hp} {a b : Addr} {o u : HO} (h : H a = some o) (h' : H b = some u) (d : o ≠ u) : a ≠ b := by
  intro e; subst e; rw [h] at h'; exact d (Option.some.inj h')
theorem ne_of_none {H : Hp} {a b : Addr} {o : HO} (h : H a = some o) (h' : H b = none) : a ≠ b := by
  intro e; subst e; rw [h] at h'; cases h'
section
variable (P : Program) (w : World)
def ObjOk (H : Hp) (h : Heap) (a : Addr) : HO → Prop
  | .lst xs => xs.length ≤ sizeLine ∧ ∃ (its : List Value) (n : Nat), Vals xs its ∧ h.get? a = some { cls := .type "list", data := .seq its.toArray n }
  | .tup xs => xs.length ≤ sizeLine ∧ ∃ its : List Value, Vals xs its ∧ IsTup h a its.toArray
  | .dK kvs => kvs.length ≤ sizeLine ∧ (a == sysModules) = false ∧ ∃ vs, KV kvs vs ∧ h.DictOf (mixKind P w) a vs
  | .dT kvs => kvs.length ≤ sizeLine ∧ (a == sysModules) = false ∧ ∃ xs : List (List Key × Addr × Value),
      Paired (fun (p : List Key × V) (q : List Key × Addr × Value) => p.1 = q.1 ∧ H q.2.1 = some (.tup (p.1.map kV)) ∧ RelV p.2 q.2.2) kvs xs ∧
      ∃ o es ep, h.get? a = some o ∧ o.ExactDict ∧ o.data = .dict es ep ∧ es.toList = xs.map (entryOfKey (tupleKind (mixKind P w))) ∧ (xs.map (·.1)).Nodup
  | .set S n => h.SetOf (intKind P w) a S n
  | .ins C dx fs => H dx = some (.own a) ∧ fs.length ≤ 1000 ∧ dx ≠ a ∧ h.get? a = some (PySem.W.instObj C dx) ∧
      ∃ mA, h.Ns1 dx mA ∧ (∀ f, RelO (fs.lookup f) (mA f)) ∧ PySem.Within mA (fs.map (·.1))
  | .own _ => ∃ o, h.get? a = some o
  | .xd fs => ∃ mA, h.Ns1 a mA ∧ ∀ f, RelO (fs.lookup f) (mA f)
  | .rng lo hi => ∃ t u v, h.get? a = some { cls := .type "range", data := .fields #[.int lo t, .int hi u, .int 1 v] }
  | .frz o u => h.get? a = some o ∧ ObjOk H h a u
  | .tbl ps => h.get? a = some { cls := .none, data := .fields ps }
  | .met f x => h.get? a = some (PySem.W.methodObj (.ref f) (.ref x))
  | .ext φ => φ h ∧ (∃ o, h.get? a = some o) ∧ ∀ h1 h2 : Heap, φ h1 → (∀ o, h1.get? a = some o → h2.get? a = some o) → φ h2
def HOk (H : Hp) (h : Heap) : Prop := ∀ a o, H a = some o → ObjOk P w H h a o
end
section
variable {P : Program} {w : World} {H H' : Hp} {h h' : Heap} {a : Addr} {o : HO}
theorem ObjOk.lt (x : ObjOk P w H h a o) : a < h.objs.size := by
  cases o with
  | lst xs => obtain ⟨_, _, _, _, e⟩ := x; exact Heap.lt_size e
  | tup xs => obtain ⟨_, _, _, p⟩ := x; exact p.lt
  | dK kvs => obtain ⟨_, _, _, _, o, _, _, e, _⟩ := x; exact Heap.lt_size e
  | dT kvs => obtain ⟨_, _, _, _, o, _, _, e, _⟩ := x; exact Heap.lt_size e
  | set S n => obtain ⟨o, _, _, _, e, _⟩ := x; exact Heap.lt_size e
  | ins C dx fs => obtain ⟨_, _, _, e, _⟩ := x; exact Heap.lt_size e
  | own y => obtain ⟨_, e⟩ := x; exact Heap.lt_size e
  | xd fs => obtain ⟨_, ⟨_, _, _, e, _⟩, _⟩ := x; exact Heap.lt_size e
  | rng lo hi => obtain ⟨_, _, _, e⟩ := x; exact Heap.lt_size e
  | frz ob u => obtain ⟨e, _⟩ := x; exact Heap.lt_size e
  | tbl ps => exact Heap.lt_size (show h.get? a = some _ from x)
  | met f y => exact Heap.lt_size (show h.get? a = some _ from x)
  | ext φ => obtain ⟨_, ⟨_, e⟩, _⟩ := x; exact Heap.lt_size e
theorem Paired.mapP {α β : Type} {F G : α → β → Prop} : ∀ {l₁ : List α} {l₂ : List β}, Paired F l₁ l₂ → (∀ a b, F a b → G a b) → Paired G l₁ l₂
  | _, _, .nil, _ => .nil
  | _, _, .cons r t, f => .cons (f _ _ r) (Paired.mapP t f)
theorem ObjOk.stay (x : ObjOk P w H h a o) (k : ∀ b u, (b = a ∨ H b = some (.own a)) → h.get? b = some u → h'.get? b = some u)
    (ho : ∀ b, H b = some (.own a) → H' b = some (.own a)) (ht : ∀ b xs, H b = some (.tup xs) → H' b = some (.tup xs)) : ObjOk P w H' h' a o := by
  induction o with
  | lst xs => obtain ⟨z, its, n, r, e⟩ := x; exact ⟨z, its, n, r, k _ _ (.inl rfl) e⟩
  | tup xs => obtain ⟨z, its, r, ob, e, c⟩ := x; exact ⟨z, its, r, ob, k _ _ (.inl rfl) e, c⟩
  | dK kvs => obtain ⟨z, y, vs, r, ob, es, ep, e, c⟩ := x; exact ⟨z, y, vs, r, ob, es, ep, k _ _ (.inl rfl) e, c⟩
  | dT kvs =>
    obtain ⟨z, y, xs, r, ob, es, ep, e, c⟩ := x
    exact ⟨z, y, xs, Paired.mapP r fun p q z => ⟨z.1, ht _ _ z.2.1, z.2.2⟩, ob, es, ep, k _ _ (.inl rfl) e, c⟩
  | set S n => obtain ⟨ob, es, ep, t, e, c⟩ := x; exact ⟨ob, es, ep, t, k _ _ (.inl rfl) e, c⟩
  | ins C dx fs =>
    obtain ⟨d, z, ne, e, mA, ⟨od, es, ep, e2, c⟩, r⟩ := x
    exact ⟨ho _ d, z, ne, k _ _ (.inl rfl) e, mA, ⟨od, es, ep, k _ _ (.inr d) e2, c⟩, r⟩
  | own y => obtain ⟨ob, e⟩ := x; exact ⟨ob, k _ _ (.inl rfl) e⟩
  | xd fs => obtain ⟨mA, ⟨od, es, ep, e, c⟩, r⟩ := x; exact ⟨mA, ⟨od, es, ep, k _ _ (.inl rfl) e, c⟩, r⟩
  | rng lo hi => obtain ⟨t, u, v, e⟩ := x; exact ⟨t, u, v, k _ _ (.inl rfl) e⟩
  | frz ob u ih => obtain ⟨e, q⟩ := x; exact ⟨k _ _ (.inl rfl) e, ih q⟩
  | tbl ps =>
    have e : h.get? a = some { cls := .none, data := .fields ps } := x
    show h'.get? a = some { cls := .none, data := .fields ps }
    exact k a _ (.inl rfl) e
  | met f y =>
    have e : h.get? a = some (PySem.W.methodObj (.ref f) (.ref y)) := x
    show h'.get? a = some (PySem.W.methodObj (.ref f) (.ref y))
    exact k a _ (.inl rfl) e
  | ext φ => obtain ⟨p, ⟨o, e⟩, st⟩ := x; exact ⟨st _ _ p fun o q => k _ _ (.inl rfl) q, ⟨o, k _ _ (.inl rfl) e⟩, st⟩
theorem HOk.lt (x : HOk P w H h) (e : H a = some o) : a < h.objs.size := (x a o e).lt
theorem HOk.fresh (x : HOk P w H h) (e : h.objs.size ≤ a) : H a = none := by
  cases q : H a with
  | none => rfl
  | some u => exact absurd (Nat.lt_of_lt_of_le (x.lt q) e) (Nat.lt_irrefl _)
theorem HOk.kept (x : HOk P w H h) (k : ∀ b u, h.get? b = some u → h'.get? b = some u) : HOk P w H h' := fun a o e =>
  (x a o e).stay (fun b u _ q => k b u q) (fun _ q => q) fun _ _ q => q
theorem HOk.laid (x : HOk P w H h) (k : ∀ b u, h.get? b = some u → h'.get? b = some u) (hp : h.objs.size ≤ a) (new : ObjOk P w (upd H a o) h' a o) : HOk P w (upd H a o) h' := fun b u e => by
  have hn := x.fresh hp
  by_cases hb : b = a
  · subst hb; rw [upd_same] at e; cases e; exact new
  · rw [upd_ne hb] at e
    exact (x b u e).stay (fun c v _ q => k c v q) (fun c q => by rw [upd_ne (ne_of_none q hn)]; exact q) fun c xs q => by rw [upd_ne (ne_of_none q hn)]; exact q
end
def Rd (H : Hp) (a : Addr) (u : HO) : Prop := H a = some u ∨ ∃ o, H a = some (.frz o u)
theorem Rd.ok {P : Program} {w : World} {H : Hp} {h : Heap} {a : Addr} {u : HO} (r : Rd H a u) (x : HOk P w H h) : ObjOk P w H h a u := by
  rcases r with r | ⟨o, r⟩
  · exact x a u r
  · obtain ⟨_, q⟩ := x a _ r
    exact q
def Mut : Option HO → Prop
  | some (.lst _) => True
  | some (.dK _) => True
  | some (.dT _) => True
  | some (.set _ _) => True
  | some (.ins _ _ _) => True
  | some (.ext _) => True
  | _ => False
section
variable {P : Program} {w : World} {H : Hp} {h h' : Heap} {x e : Addr} {o' : HO}
theorem HOk.write (ok : HOk P w H h) (mu : Mut (H x)) (he : e = x ∨ H e = some (.own x)) (k : ∀ b u, b ≠ e → h.get? b = some u → h'.get? b = some u) (heo : ∃ u, h'.get? e = some u)
    (new : ObjOk P w (upd H x o') h' x o') : HOk P w (upd H x o') h' := fun b u q => by
  have nown : ∀ c y, H c = some (.own y) → c ≠ x := fun c y r z => by subst z; rw [r] at mu; exact mu
  have ntup : ∀ c xs, H c = some (.tup xs) → c ≠ x := fun c xs r z => by subst z; rw [r] at mu; exact mu
  by_cases hb : b = x
  · subst hb; rw [upd_same] at q; cases q; exact new
  · rw [upd_ne hb] at q
    by_cases hbe : b = e
    · have q' : H b = some (.own x) := by
        rcases he with z | z
        · exact absurd (hbe.trans z) hb
        · rw [hbe]; exact z
      rw [q] at q'; cases q'
      obtain ⟨v, hv⟩ := heo
      exact ⟨v, by rw [hbe]; exact hv⟩
    · refine (ok b u q).stay (fun c v hc r => k c v ?_ r) (fun c r => by rw [upd_ne (nown c b r)]; exact r) fun c xs r => by rw [upd_ne (ntup c xs r)]; exact r
      rcases hc with rfl | hc
      · exact hbe
      · rintro rfl
        rcases he with z | z
        · exact nown c b hc z
        · rw [hc] at z; cases z; exact hb rfl
end
structure Un (fs ex : List Addr) (H H' : Hp) (h h' : Heap) : Prop where
  keep : ∀ b o, h.get? b = some o → H b = none → b ∉ fs → b ∉ ex → h'.get? b = some o
  slot : ∀ b o, h.get? b = some o → H b = none → b ∈ fs → b ∉ ex → ∃ sl, h'.get? b = some { o with slots := sl }
  free : ∀ b o, h.get? b = some o → H b = none → b ∉ ex → H' b = none
  there : ∀ b o, h.get? b = some o → b ∉ ex → ∃ o', h'.get? b = some o'
  tups : ∀ b xs, H b = some (.tup xs) → H' b = some (.tup xs)
  frzs : ∀ b o u, H b = some (.frz o u) → H' b = some (.frz o u)
  tbls : ∀ b ps, H b = some (.tbl ps) → ∃ more, H' b = some (.tbl (ps ++ more))
section
variable {fs fs' ex ex' : List Addr} {H H1 H2 : Hp} {h h1 h2 h' : Heap} {a x e : Addr} {o : HO}
theorem Un.any (u : Un fs ex H H1 h h1) {b : Addr} {ob : Obj} (q : h.get? b = some ob) (n : H b = none) (hx : b ∉ ex) : ∃ sl, h1.get? b = some { ob with slots := sl } := by
  by_cases hb : b ∈ fs
  · exact u.slot b ob q n hb hx
  · exact ⟨ob.slots, u.keep b ob q n hb hx⟩
theorem Un.kept (k : ∀ b u, h.get? b = some u → h'.get? b = some u) : Un fs ex H H h h' :=
  ⟨fun b ob q _ _ _ => k b ob q, fun b ob q _ _ _ => ⟨ob.slots, k b ob q⟩, fun _ _ _ n _ => n, fun b ob q _ => ⟨ob, k b ob q⟩, fun _ _ q => q, fun _ _ _ q => q, fun _ ps q => ⟨#[], by rw [q]; simp⟩⟩
theorem Un.refl : Un fs ex H H h h := Un.kept fun _ _ q => q
theorem Un.laid (k : ∀ b u, h.get? b = some u → h'.get? b = some u) (hp : h.objs.size ≤ a) (hn : H a = none) : Un fs ex H (upd H a o) h h' where
  keep := fun b u q _ _ _ => k b u q
  slot := fun b u q _ _ _ => ⟨u.slots, k b u q⟩
  free := fun b u q n _ => by rw [upd_ne (Nat.ne_of_lt (Nat.lt_of_lt_of_le (Heap.lt_size q) hp))]; exact n
  there := fun b u q _ => ⟨u, k b u q⟩
  tups := fun b xs q => by rw [upd_ne (ne_of_none q hn)]; exact q
  frzs := fun b u xs q => by rw [upd_ne (ne_of_none q hn)]; exact q
  tbls := fun b ps q => ⟨#[], by rw [upd_ne (ne_of_none q hn), q]; simp⟩
theorem Un.write (mu : Mut (H x)) (he : e = x ∨ H e = some (.own x)) (k : ∀ b u, b ≠ e → h.get? b = some u → h'.get? b = some u) (heo : ∃ u, h'.get? e = some u) : Un fs ex H (upd H x o) h h' := by
  have hx : ∀ b, H b = none → b ≠ x := fun b n z => by subst z; rw [n] at mu; exact mu
  have hb : ∀ b, H b = none → b ≠ e := fun b n z => by
    subst z
    rcases he with r | r
    · exact hx b n r
    · rw [n] at r; cases r
  have hm : ∀ b u, H b = some u → ¬ Mut (some u) → b ≠ x := fun b u q nm z => by subst z; rw [q] at mu; exact nm mu
  refine ⟨fun b u q n _ _ => k b u (hb b n) q, fun b u q n _ _ => ⟨u.slots, k b u (hb b n) q⟩, fun b u q n _ => by rw [upd_ne (hx b n)]; exact n, fun b u q _ => ?_,
    fun b xs q => by rw [upd_ne (hm b _ q fun z => z)]; exact q, fun b u xs q => by rw [upd_ne (hm b _ q fun z => z)]; exact q, fun b ps q => ⟨#[], by rw [upd_ne (hm b _ q fun z => z), q]; simp⟩⟩
  by_cases hbe : b = e
  · subst hbe; exact heo
  · exact ⟨u, k b u hbe q⟩
end
def trk (h : Heap) (H : Hp) : List Addr := (List.range h.objs.size).filter fun a => (H a).isSome
def hidT (h : Heap) (H : Hp) : Heap := PySem.W.hideAll h (trk h H)
theorem hidT_size (h : Heap) (H : Hp) : (hidT h H).objs.size = h.objs.size := PySem.W.hideAll_size _ _
theorem hidT_get {h : Heap} {H : Hp} {b : Addr} {o : Obj} (e : h.get? b = some o) (n : H b = none) : (hidT h H).get? b = some o :=
  PySem.W.hideAll_get _ e fun hm => by
    have q : (H b).isSome = true := (List.mem_filter.mp hm).2
    rw [n] at q; simp at q
theorem of_hidT {h : Heap} {H : Hp} {b : Addr} {o : Obj} (e : (hidT h H).get? b = some o) : h.get? b = some o ∧ H b = none := by
  have e' : h.get? b = some o := PySem.W.of_hideAll (trk h H) e
  refine ⟨e', ?_⟩
  cases q : H b with
  | none => rfl
  | some x =>
    have hm : b ∈ trk h H := List.mem_filter.mpr ⟨List.mem_range.mpr (Heap.lt_size e'), by simp [q]⟩
    have z : (hidT h H).get? b = none := PySem.W.hideAll_none (trk h H) hm
    rw [z] at e; cases e
end L2
namespace L2
open PySem PySem.Spec PyProof.Rows
structure Mod (K : PySem.W.Frag) (mg : Str → Option Value) (base : Heap) : Prop where
  kin : K.In base
  glob : base.Ns mainGlobals mg
  blt : ∃ mb, base.Ns builtinsNs mb ∧ ∀ x : Str, x ≠ "__name__" → mb x = bootBuiltins x
  nolimit : base.NoLimit
structure Cx where
  prog : Program
  w : World
  K : PySem.W.Frag
  mg : Str → Option Value
  base : Heap
  A : Around
  N : List Str
  s_0 : Shared
  H_0 : Hp
  env : Env
  outer : List Env
  stack : List Env
  ex : List Addr
  fn : Str → Bool
  calm : Bool
  pn : List (Addr × Obj)
  xe : Value → Shared → Prop
def frs (l : List Env) : List Addr := l.filterMap (·.frame)
abbrev Cx.fs (X : Cx) : List Addr := frs X.outer
def Vis (sc : Scope) (x : Str) : Prop := sc.names.lookup x = some .local ∨ sc.names.lookup x = some .cell ∨ sc.names.lookup x = some .free
def Loc (sc : Scope) (x : Str) : Prop := sc.names.lookup x = some .local ∨ sc.names.lookup x = some .cell
def Look (env : Env) (h : Heap) (m : Str → Option Value) (x : Str) (u : Value) : Prop :=
  (env.kindOf x = some .local ∧ m x = some u) ∨ ((env.kindOf x = some .cell ∨ env.kindOf x = some .free) ∧ ∃ c, env.cells.lookup x = some c ∧ h.IsCell c (some u))
structure Cx.Ok (X : Cx) : Prop where
  mod : Mod X.K X.mg X.base
  kind : X.env.scope.kind = .function
  glob : X.env.globals = mainGlobals
  blt : X.env.builtins = builtinsNs
  above : X.s_0.heap.objs.size ≤ X.env.locals
  inj : ∀ x y c, X.env.cells.lookup x = some c → X.env.cells.lookup y = some c → x = y
  has : ∀ x, (X.env.kindOf x = some .cell ∨ X.env.kindOf x = some .free) → ∃ c, X.env.cells.lookup x = some c
  cab : ∀ x c, X.fn x = true → X.env.cells.lookup x = some c → X.s_0.heap.objs.size ≤ c
  hd : X.calm = true → X.A.handled = none
  frames : X.A.frames = some X.stack
  stk : X.stack = X.outer ∨ (X.stack = X.env :: X.outer ∧ X.env.frame = some X.env.locals)
  exf : ∀ b ∈ X.ex, b ≠ X.env.locals ∧ ∀ x c, X.env.cells.lookup x = some c → c ≠ b
  bs : ∀ b o, X.base.get? b = some o → X.s_0.heap.get? b = some o ∧ X.H_0 b = none
  bsz : X.base.objs.size ≤ X.s_0.heap.objs.size
  noex : ∀ b o, X.base.get? b = some o → b ∉ X.ex
  exfs : ∀ b ∈ X.ex, b ∉ X.fs
  funs : X.s_0.heap.FunFrames X.base X.outer
  frf : ∀ b ∈ X.fs, X.H_0 b = none
structure Inv (X : Cx) (pins : List (Addr × Obj)) (σ : List (Option V)) (H : Hp) (s : Shared) : Prop where
  ok : X.Ok
  os : s.os = X.s_0.os
  bare : AllBare s.gens
  base : Un X.fs X.ex X.H_0 H X.s_0.heap s.heap
  loc : ∃ m, s.heap.Ns X.env.locals m ∧ ∀ (i : Nat) (x : Str) (v : V), X.N[i]? = some x → σ[i]? = some (some v) → Vis X.env.scope x → ∃ u, RelV v u ∧ Look X.env s.heap m x u
  cell : ∀ x c, X.env.cells.lookup x = some c → ∃ v, s.heap.IsCell c v
  free : H X.env.locals = none
  freeC : ∀ x c, X.env.cells.lookup x = some c → H c = none
  pin : ∀ p ∈ X.pn ++ pins, s.heap.get? p.1 = some p.2 ∧ H p.1 = none ∧ p.1 ≠ X.env.locals ∧ p.1 ∉ X.fs ∧ ∀ v, p.2.data ≠ .cell v
  hok : HOk X.prog X.w H s.heap
  len : σ.length = X.N.length
section
variable {X : Cx} {pins : List (Addr × Obj)} {σ : List (Option V)} {H H' : Hp} {s : Shared} {h' : Heap}
theorem Cx.Ok.nofr (ok : X.Ok) {b : Addr} {o : Obj} (e : X.base.get? b = some o) : b ∉ X.fs := fun hb => by
  have := (ok.funs.mem hb).1
  rw [e] at this; cases this
theorem Inv.bs (I : Inv X pins σ H s) : ∀ b o, X.base.get? b = some o → s.heap.get? b = some o ∧ H b = none := fun b o e =>
  ⟨I.base.keep b o (I.ok.bs b o e).1 (I.ok.bs b o e).2 (I.ok.nofr e) (I.ok.noex b o e), I.base.free b o (I.ok.bs b o e).1 (I.ok.bs b o e).2 (I.ok.noex b o e)⟩
theorem Inv.bk (I : Inv X pins σ H s) : ∀ b o, X.base.get? b = some o → s.heap.get? b = some o := fun b o e => (I.bs b o e).1
theorem Inv.mod (I : Inv X pins σ H s) : Mod X.K X.mg X.base := I.ok.mod
theorem Inv.kIn (I : Inv X pins σ H s) : X.K.In s.heap := I.ok.mod.kin.keeps I.bk
theorem Inv.lt (I : Inv X pins σ H s) : X.env.locals < s.heap.objs.size := let ⟨_, hn, _⟩ := I.loc; hn.lt
theorem Inv.sz (I : Inv X pins σ H s) : X.s_0.heap.objs.size ≤ s.heap.objs.size := Nat.le_trans I.ok.above (Nat.le_of_lt I.lt)
theorem Inv.nofs (I : Inv X pins σ H s) {a : Addr} (h : s.heap.objs.size ≤ a) : a ∉ X.fs := fun hb => by
  obtain ⟨_, o, ho, _⟩ := I.ok.funs.mem hb
  exact absurd (Nat.lt_of_lt_of_le (Heap.lt_size ho) (Nat.le_trans I.sz h)) (Nat.lt_irrefl _)
theorem Inv.cne (I : Inv X pins σ H s) : ∀ x c, X.env.cells.lookup x = some c → c ≠ X.env.locals := fun x c e z => by
  obtain ⟨v, o, ho, hd⟩ := I.cell x c e
  obtain ⟨m, ⟨o', es, ep, ho', hd', _⟩, _⟩ := I.loc
  rw [z, ho'] at ho; cases ho; rw [hd'] at hd; cases hd
theorem Inv.funs (I : Inv X pins σ H s) : s.heap.FunFrames X.base X.outer := by
  have all : ∀ (l : List Env), (∀ b ∈ frs l, b ∈ X.fs) → X.s_0.heap.FunFrames X.base l → s.heap.FunFrames X.base l := by
    intro l
    induction l with
    | nil => intro _ _; trivial
    | cons env r ih =>
      intro hs hl
      obtain ⟨hk, ⟨L, o, hf, hn, ho, hd⟩, hr⟩ := hl
      have hL : L ∈ X.fs := hs L (by unfold frs; rw [List.filterMap_cons, hf]; exact List.mem_cons_self)
      obtain ⟨sl, e⟩ := I.base.slot L o ho (I.ok.frf L hL) hL fun z => I.ok.exfs L z hL
      exact ⟨hk, ⟨L, _, hf, hn, e, hd⟩, ih (fun b hb => hs b (by unfold frs; rw [List.filterMap_cons, hf]; exact List.mem_cons_of_mem _ hb)) hr⟩
  exact all X.outer (fun _ hb => hb) I.ok.funs
theorem Inv.stack (I : Inv X pins σ H s) : s.heap.FunFrames X.base X.stack := by
  rcases I.ok.stk with e | ⟨e, hf⟩
  · rw [e]; exact I.funs
  · rw [e]
    obtain ⟨m, hn, _⟩ := I.loc
    refine .cons (by rw [I.ok.kind]; decide) hf hn ?_ I.funs
    exact Heap.get?_none_of_le (Nat.le_trans I.ok.bsz I.ok.above)
theorem Inv.stkSub (I : Inv X pins σ H s) : ∀ b ∈ frs X.stack, b ∈ X.env.locals :: X.fs := fun b hb => by
  rcases I.ok.stk with e | ⟨e, hf⟩
  · rw [e] at hb; exact List.mem_cons_of_mem _ hb
  · rw [e] at hb
    unfold frs at hb
    rw [List.filterMap_cons, hf] at hb
    exact hb
theorem Inv.stkFree (I : Inv X pins σ H s) : ∀ b ∈ frs X.stack, H b = none := fun b hb => by
  rcases List.mem_cons.mp (I.stkSub b hb) with e | hb
  · rw [e]; exact I.free
  · obtain ⟨_, o, ho, _⟩ := I.ok.funs.mem hb
    exact I.base.free b o ho (I.ok.frf b hb) fun z => I.ok.exfs b z hb
theorem Inv.step {g' : Array GenState} {t' : Nat} {d' : Drawn} {ch : List Addr} (I : Inv X pins σ H s)
    (hch : ∀ b ∈ ch, (b ∈ X.ex ∨ X.s_0.heap.objs.size ≤ b) ∧ b ≠ X.env.locals ∧ (∀ x c, X.env.cells.lookup x = some c → c ≠ b) ∧ ∀ p ∈ X.pn ++ pins, p.1 ≠ b)
    (keep : ∀ b o, b ≠ X.env.locals → b ∉ X.fs → b ∉ ch → s.heap.get? b = some o → H b = none → h'.get? b = some o)
    (slot : ∀ b o, b ≠ X.env.locals → b ∈ X.fs → b ∉ ch → s.heap.get? b = some o → H b = none → ∃ sl, h'.get? b = some { o with slots := sl }) (free : ∀ b o, b ∉ ch → s.heap.get? b = some o → H b = none → H' b = none)
    (there : ∀ b o, b ∉ ch → s.heap.get? b = some o → ∃ o', h'.get? b = some o')
    (tups : ∀ b xs, H b = some (.tup xs) → H' b = some (.tup xs)) (frzs : ∀ b o u, H b = some (.frz o u) → H' b = some (.frz o u)) (tbls : ∀ b ps, H b = some (.tbl ps) → ∃ more, H' b = some (.tbl (ps ++ more)))
    (ns : ∀ m, s.heap.Ns X.env.locals m → h'.Ns X.env.locals m) (hok : HOk X.prog X.w H' h') (hg : AllBare g') :
    Inv X pins σ H' { s with heap := h', gens := g', drawn := d', toks := t' } := by
  have neL : ∀ b o, X.s_0.heap.get? b = some o → b ≠ X.env.locals := fun b o e => Nat.ne_of_lt (Nat.lt_of_lt_of_le (Heap.lt_size e) I.ok.above)
  have neC : ∀ b o, X.s_0.heap.get? b = some o → b ∉ X.ex → b ∉ ch := fun b o e hx hb => by
    rcases (hch b hb).1 with z | z
    · exact hx z
    · exact absurd (Nat.lt_of_lt_of_le (Heap.lt_size e) z) (Nat.lt_irrefl _)
  have cellK : ∀ x c, X.env.cells.lookup x = some c → ∀ v, s.heap.IsCell c v → h'.IsCell c v := fun x c e v ⟨o, ho, hd⟩ => by
    have nch : c ∉ ch := fun z => (hch c z).2.2.1 x c e rfl
    by_cases hc : c ∈ X.fs
    · obtain ⟨sl, q⟩ := slot c o (I.cne x c e) hc nch ho (I.freeC x c e)
      exact ⟨_, q, hd⟩
    · exact ⟨o, keep c o (I.cne x c e) hc nch ho (I.freeC x c e), hd⟩
  refine ⟨I.ok, I.os, hg, ⟨fun b o e n hb hx => ?_, fun b o e n hb hx => ?_, fun b o e n hx => ?_, fun b o e hx => ?_, fun b xs e => tups b xs (I.base.tups b xs e), fun b o xs e => frzs b o xs (I.base.frzs b o xs e), fun b ps e => ?_⟩, ?_, fun x c e => ?_, ?_, fun x c e => ?_, fun p hp => ?_, hok, I.len⟩
  · exact keep b o (neL b o e) hb (neC b o e hx) (I.base.keep b o e n hb hx) (I.base.free b o e n hx)
  · obtain ⟨sl, e1⟩ := I.base.slot b o e n hb hx
    obtain ⟨sl', e2⟩ := slot b _ (neL b o e) hb (neC b o e hx) e1 (I.base.free b o e n hx)
    exact ⟨sl', e2⟩
  · obtain ⟨o', e1⟩ := I.base.there b o e hx
    exact free b o' (neC b o e hx) e1 (I.base.free b o e n hx)
  · obtain ⟨o', e1⟩ := I.base.there b o e hx
    exact there b o' (neC b o e hx) e1
  · obtain ⟨m1, e1⟩ := I.base.tbls b ps e
    obtain ⟨m2, e2⟩ := tbls b _ e1
    exact ⟨m1 ++ m2, by rw [e2, Array.append_assoc]⟩
  · obtain ⟨m, hn, hl⟩ := I.loc
    refine ⟨m, ns m hn, fun i x v e1 e2 e3 => ?_⟩
    obtain ⟨u, r, l⟩ := hl i x v e1 e2 e3
    refine ⟨u, r, ?_⟩
    rcases l with l | ⟨k, c, e, z⟩
    · exact .inl l
    · exact .inr ⟨k, c, e, cellK x c e _ z⟩
  · obtain ⟨v, z⟩ := I.cell x c e
    exact ⟨v, cellK x c e v z⟩
  · obtain ⟨m, ⟨o, _, _, ho, _⟩, _⟩ := I.loc
    exact free _ o (fun z => (hch _ z).2.1 rfl) ho I.free
  · obtain ⟨v, o, ho, hd⟩ := I.cell x c e
    exact free c o (fun z => (hch c z).2.2.1 x c e rfl) ho (I.freeC x c e)
  · obtain ⟨e, n, ne, nf, d⟩ := I.pin p hp
    have nch : p.1 ∉ ch := fun z => (hch p.1 z).2.2.2 p hp rfl
    exact ⟨keep p.1 p.2 ne nf nch e n, free p.1 p.2 nch e n, ne, nf, d⟩
theorem Inv.un {t' : Nat} (I : Inv X pins σ H s) (u : Un X.fs [] H H' s.heap h') (hok : HOk X.prog X.w H' h') : Inv X pins σ H' { s with heap := h', toks := t' } := by
  obtain ⟨m, ⟨o, es, ep, ho, r⟩, _⟩ := id I.loc
  obtain ⟨sl, hL⟩ := u.any ho I.free (by simp)
  exact I.step (g' := s.gens) (d' := s.drawn) (ch := []) (fun _ z => nomatch z) (fun b o _ hb _ e n => u.keep b o e n hb (by simp)) (fun b o _ hb _ e n => u.slot b o e n hb (by simp)) (fun b o _ e n => u.free b o e n (by simp)) (fun b o _ e => u.there b o e (by simp)) u.tups u.frzs u.tbls (fun m' hm => by
    obtain ⟨o', es', ep', ho', r'⟩ := hm
    rw [ho] at ho'; cases ho'
    exact ⟨_, es', ep', hL, r'⟩) hok I.bare
theorem Inv.call {g' : Array GenState} {t' : Nat} {d' : Drawn} {ch : List Addr} (I : Inv X pins σ H s) (u : Un (frs X.stack) ch H H' s.heap h') (hok : HOk X.prog X.w H' h') (hg : AllBare g')
    (hch : ∀ b ∈ ch, (b ∈ X.ex ∨ X.s_0.heap.objs.size ≤ b) ∧ b ≠ X.env.locals ∧ (∀ x c, X.env.cells.lookup x = some c → c ≠ b) ∧ ∀ p ∈ X.pn ++ pins, p.1 ≠ b) :
    Inv X pins σ H' { s with heap := h', gens := g', drawn := d', toks := t' } := by
  obtain ⟨m, ⟨o, es, ep, ho, r⟩, _⟩ := id I.loc
  obtain ⟨sl, hL⟩ := u.any ho I.free fun z => (hch _ z).2.1 rfl
  exact I.step (ch := ch) hch (fun b o hL hb hc e n => u.keep b o e n (fun z => (List.mem_cons.mp (I.stkSub b z)).elim hL hb) hc) (fun b o _ _ hc e n => u.any e n hc) (fun b o hc e n => u.free b o e n hc) (fun b o hc e => u.there b o e hc) u.tups u.frzs u.tbls (fun m' hm => by
    obtain ⟨o', es', ep', ho', r'⟩ := hm
    rw [ho] at ho'; cases ho'
    exact ⟨_, es', ep', hL, r'⟩) hok hg
theorem Inv.turned {t' : Nat} {it : Addr} (I : Inv X pins σ H s) (k : ∀ b o, b ≠ it → s.heap.get? b = some o → h'.get? b = some o) (hn : H it = none) (hL : it ≠ X.env.locals)
    (h1 : it ∈ X.ex ∨ X.s_0.heap.objs.size ≤ it) (h2 : ∀ x c, X.env.cells.lookup x = some c → c ≠ it) (h3 : ∀ p ∈ X.pn ++ pins, p.1 ≠ it) : Inv X pins σ H { s with heap := h', toks := t' } := by
  have nit : ∀ b u, H b = some u → b ≠ it := fun b u e z => by rw [z, hn] at e; cases e
  refine I.step (g' := s.gens) (d' := s.drawn) (ch := [it]) (fun b hb => ?_) (fun b o _ _ hc e _ => k b o (fun z => hc (by simp [z])) e) (fun b o _ _ hc e _ => ⟨o.slots, k b o (fun z => hc (by simp [z])) e⟩) (fun _ _ _ _ n => n)
    (fun b o hc e => ⟨o, k b o (fun z => hc (by simp [z])) e⟩) (fun _ _ e => e) (fun _ _ _ e => e) (fun b ps e => ⟨#[], by rw [e]; simp⟩) (fun m hm => ?_) (fun b u e => ?_) I.bare
  · have e : b = it := by simpa using hb
    subst e
    exact ⟨h1, hL, h2, h3⟩
  · obtain ⟨o, es, ep, ho, r⟩ := hm
    exact ⟨o, es, ep, k _ o (Ne.symm hL) ho, r⟩
  · refine (I.hok b u e).stay (fun c v hc q => k c v ?_ q) (fun _ q => q) fun _ _ q => q
    rcases hc with z | z
    · rw [z]; exact nit b u e
    · exact nit c _ z
theorem Inv.tok (I : Inv X pins σ H s) (t : Nat) : Inv X pins σ H { s with toks := t } := I.un (h' := s.heap) (t' := t) Un.refl I.hok
theorem Inv.kept {t' : Nat} (I : Inv X pins σ H s) (k : ∀ b u, s.heap.get? b = some u → h'.get? b = some u) : Inv X pins σ H { s with heap := h', toks := t' } := I.un (Un.kept k) (I.hok.kept k)
theorem Inv.laid {a : Addr} {o : HO} {t' : Nat} (I : Inv X pins σ H s) (k : ∀ b u, s.heap.get? b = some u → h'.get? b = some u) (hp : s.heap.objs.size ≤ a) (new : ObjOk X.prog X.w (upd H a o) h' a o) :
    Inv X pins σ (upd H a o) { s with heap := h', toks := t' } := I.un (Un.laid k hp (I.hok.fresh hp)) (I.hok.laid k hp new)
theorem Inv.write {x e : Addr} {o : HO} {t' : Nat} (I : Inv X pins σ H s) (mu : Mut (H x)) (he : e = x ∨ H e = some (.own x)) (k : ∀ b u, b ≠ e → s.heap.get? b = some u → h'.get? b = some u) (heo : ∃ u, h'.get? e = some u)
    (new : ObjOk X.prog X.w (upd H x o) h' x o) : Inv X pins σ (upd H x o) { s with heap := h', toks := t' } := I.un (Un.write mu he k heo) (I.hok.write mu he k heo new)
theorem Inv.weak {σ' : List (Option V)} (I : Inv X pins σ H s) (hl : σ'.length = σ.length) (w : ∀ (i : Nat) v, σ'[i]? = some (some v) → σ[i]? = some (some v)) : Inv X pins σ' H s :=
  ⟨I.ok, I.os, I.bare, I.base, let ⟨m, hn, hl'⟩ := I.loc; ⟨m, hn, fun i x v e1 e2 e3 => hl' i x v e1 (w i v e2) e3⟩, I.cell, I.free, I.freeC, I.pin, I.hok, hl.trans I.len⟩
theorem Inv.pins_of {pins' : List (Addr × Obj)} (I : Inv X pins σ H s) (h : ∀ p ∈ pins', s.heap.get? p.1 = some p.2 ∧ H p.1 = none ∧ p.1 ≠ X.env.locals ∧ p.1 ∉ X.fs ∧ ∀ v, p.2.data ≠ .cell v) : Inv X pins' σ H s :=
  ⟨I.ok, I.os, I.bare, I.base, I.loc, I.cell, I.free, I.freeC, fun p hp => (List.mem_append.mp hp).elim (fun z => I.pin p (List.mem_append_left _ z)) (h p), I.hok, I.len⟩
theorem nodup_ix {N : List Str} (hN : N.Nodup) {i j : Nat} {x : Str} (a : N[i]? = some x) (b : N[j]? = some x) : i = j := by
  obtain ⟨h1, e1⟩ := List.getElem?_eq_some_iff.mp a
  obtain ⟨h2, e2⟩ := List.getElem?_eq_some_iff.mp b
  exact (List.getElem_inj hN).mp (e1.trans e2.symm)
theorem store_ok2 {M : Model} {A : Around} {E : Value → Shared → Prop} {i : Nat} {x : Str} {v : V} {u : Value} {Q : Unit → Shared → Prop} (I : Inv X pins σ H s) (hN : X.N.Nodup) (hi : X.N[i]? = some x) (hx : Loc X.env.scope x) (r : RelV v u)
    (h : ∀ s', Inv X pins (σ.set i (some v)) H s' → (∃ a, Heap.SameBut a s.heap s'.heap ∧ (a = X.env.locals ∨ X.env.cells.lookup x = some a)) → Q () s') (hf : X.fn x = true ∨ X.env.scope.names.lookup x = some .local := by first | exact .inl rfl | exact .inr rfl | assumption) : wpAny M A (storeName X.env x u) Q E s := by
  obtain ⟨m, hn, hl⟩ := id I.loc
  have hcls : (X.env.scope.kind == .class || (X.env.scope.kind == .module && X.env.locals != X.env.globals)) = false := by rw [I.ok.kind]; rfl
  have hiσ : i < σ.length := by rw [I.len]; exact (List.getElem?_eq_some_iff.mp hi).1
  have cne := I.cne
  have tracked : ∀ {a : Addr} {h' : Heap}, (∃ o, s.heap.get? a = some o ∧ H a = none) → Heap.SameBut a s.heap h' → HOk X.prog X.w H h' := fun {a h'} ha hs b ob e => by
    obtain ⟨_, _, hfree⟩ := ha
    refine (I.hok b ob e).stay (fun c w' hc q => (hs.2 c ?_).trans q) (fun _ q => q) fun _ _ q => q
    rintro rfl
    rcases hc with rfl | hc
    · rw [hfree] at e; cases e
    · rw [hfree] at hc; cases hc
  rcases hx with hk | hk
  · refine wpAny_storeName_local hk hn (fun h' hn' hs => ?_) hcls
    obtain ⟨oL, _, _, hoL, _⟩ := id hn
    refine h _ ⟨I.ok, I.os, I.bare, ⟨fun b o e n hb hx => ?_, fun b o e n hb hx => ?_, I.base.free, fun b o e hx => ?_, I.base.tups, I.base.frzs, I.base.tbls⟩, ⟨_, hn', fun j y v' e1 e2 e3 => ?_⟩, fun y c e => ?_, I.free, I.freeC, fun p hp => ?_, tracked ⟨oL, hoL, I.free⟩ hs, by simpa using I.len⟩ ⟨_, hs, .inl rfl⟩
    · exact (hs.2 b (Nat.ne_of_lt (Nat.lt_of_lt_of_le (Heap.lt_size e) I.ok.above))).trans (I.base.keep b o e n hb hx)
    · obtain ⟨sl, e1⟩ := I.base.slot b o e n hb hx
      exact ⟨sl, (hs.2 b (Nat.ne_of_lt (Nat.lt_of_lt_of_le (Heap.lt_size e) I.ok.above))).trans e1⟩
    · obtain ⟨o', e1⟩ := I.base.there b o e hx
      exact ⟨o', (hs.2 b (Nat.ne_of_lt (Nat.lt_of_lt_of_le (Heap.lt_size e) I.ok.above))).trans e1⟩
    · by_cases hj : j = i
      · subst hj
        rw [hi] at e1; cases e1
        rw [List.getElem?_set_self hiσ] at e2
        cases e2
        exact ⟨u, r, .inl ⟨hk, by simp⟩⟩
      · rw [List.getElem?_set_ne (Ne.symm hj)] at e2
        obtain ⟨u', r', q⟩ := hl j y v' e1 e2 e3
        refine ⟨u', r', ?_⟩
        rcases q with ⟨k, e⟩ | ⟨k, c, e, z⟩
        · refine .inl ⟨k, ?_⟩
          have : y ≠ x := fun e => hj (nodup_ix hN e1 (e ▸ hi))
          simp [this, e]
        · exact .inr ⟨k, c, e, z.sameBut hs (cne y c e)⟩
    · obtain ⟨w', z⟩ := I.cell y c e
      exact ⟨w', z.sameBut hs (cne y c e)⟩
    · obtain ⟨e, n, ne, nf, d⟩ := I.pin p hp
      exact ⟨(hs.2 p.1 ne).trans e, n, ne, nf, d⟩
  · have hfn : X.fn x = true := by
      rcases hf with z | z
      · exact z
      · rw [z] at hk; cases hk
    obtain ⟨c, hc⟩ := I.ok.has x (.inl hk)
    obtain ⟨w', z⟩ := I.cell x c hc
    refine wpAny_storeName_cell I.ok.kind hk hc z (fun h' hc' hs => ?_)
    obtain ⟨oc, hoc, hocd⟩ := id z
    refine h { s with heap := h' } ⟨I.ok, I.os, I.bare, ⟨fun b o e n hb hx => ?_, fun b o e n hb hx => ?_, I.base.free, fun b o e hx => ?_, I.base.tups, I.base.frzs, I.base.tbls⟩, ⟨m, hn.sameBut hs (Ne.symm (cne x c hc)), fun j y v' e1 e2 e3 => ?_⟩, fun y c' e => ?_, I.free, I.freeC, fun p hp => ?_, tracked ⟨oc, hoc, I.freeC x c hc⟩ hs, by simpa using I.len⟩ ⟨c, hs, .inr hc⟩
    · exact (hs.2 b (Nat.ne_of_lt (Nat.lt_of_lt_of_le (Heap.lt_size e) (I.ok.cab x c hfn hc)))).trans (I.base.keep b o e n hb hx)
    · obtain ⟨sl, e1⟩ := I.base.slot b o e n hb hx
      exact ⟨sl, (hs.2 b (Nat.ne_of_lt (Nat.lt_of_lt_of_le (Heap.lt_size e) (I.ok.cab x c hfn hc)))).trans e1⟩
    · obtain ⟨o', e1⟩ := I.base.there b o e hx
      exact ⟨o', (hs.2 b (Nat.ne_of_lt (Nat.lt_of_lt_of_le (Heap.lt_size e) (I.ok.cab x c hfn hc)))).trans e1⟩
    · by_cases hj : j = i
      · subst hj
        rw [hi] at e1; cases e1
        rw [List.getElem?_set_self hiσ] at e2
        cases e2
        exact ⟨u, r, .inr ⟨.inl hk, c, hc, hc'⟩⟩
      · rw [List.getElem?_set_ne (Ne.symm hj)] at e2
        obtain ⟨u', r', q⟩ := hl j y v' e1 e2 e3
        refine ⟨u', r', ?_⟩
        rcases q with q | ⟨k, c', e, z'⟩
        · exact .inl q
        · refine .inr ⟨k, c', e, z'.sameBut hs ?_⟩
          rintro rfl
          exact hj (nodup_ix hN e1 (I.ok.inj _ _ _ e hc ▸ hi))
    · by_cases hcc : c' = c
      · subst hcc; exact ⟨_, hc'⟩
      · obtain ⟨w2, z2⟩ := I.cell y c' e
        exact ⟨w2, z2.sameBut hs hcc⟩
    · obtain ⟨e, n, ne, nf, d⟩ := I.pin p hp
      refine ⟨(hs.2 p.1 ?_).trans e, n, ne, nf, d⟩
      intro q
      rw [q, hoc] at e
      have q' : oc = p.2 := Option.some.inj e
      exact d w' (by rw [← q']; exact hocd)
theorem store_ok {M : Model} {A : Around} {E : Value → Shared → Prop} {i : Nat} {x : Str} {v : V} {u : Value} {Q : Unit → Shared → Prop} (I : Inv X pins σ H s) (hN : X.N.Nodup) (hi : X.N[i]? = some x) (hx : Loc X.env.scope x) (r : RelV v u)
    (h : ∀ s', Inv X pins (σ.set i (some v)) H s' → Q () s') (hf : X.fn x = true ∨ X.env.scope.names.lookup x = some .local := by first | exact .inl rfl | exact .inr rfl | assumption) : wpAny M A (storeName X.env x u) Q E s :=
  store_ok2 I hN hi hx r (fun s' I' _ => h s' I') hf
theorem Inv.call' {s' : Shared} {ch : List Addr} (I : Inv X pins σ H s) (ho : s'.os = s.os) (u : Un (frs X.stack) ch H H' s.heap s'.heap) (hok : HOk X.prog X.w H' s'.heap) (hg : AllBare s'.gens)
    (hch : ∀ b ∈ ch, (b ∈ X.ex ∨ X.s_0.heap.objs.size ≤ b) ∧ b ≠ X.env.locals ∧ (∀ x c, X.env.cells.lookup x = some c → c ≠ b) ∧ ∀ p ∈ X.pn ++ pins, p.1 ≠ b) : Inv X pins σ H' s' := by
  obtain ⟨h', g', d', t', o'⟩ := s'
  have e : o' = s.os := ho
  subst e
  exact I.call (g' := g') (t' := t') (d' := d') u hok hg hch
end
abbrev XK := Value → Option Addr → Hp → Prop
abbrev St := List (Option V)
abbrev VK := V → Hp → Prop
abbrev TE := St → Hp → VK → Prop
abbrev TT := St → Hp → (Bool → Hp → Prop) → Prop
abbrev TA := St → Hp → (List V → Hp → Prop) → Prop
structure Ends where
  nx : St → Hp → Prop
  rt : VK
  bk : St → Hp → Prop := fun _ _ => False
  ct : St → Hp → Prop := fun _ _ => False
abbrev TS := Ends → St → Hp → Prop
def EP (X : Cx) (pins : List (Addr × Obj)) (σ : St) (Q : VK) (u : Value) (s' : Shared) : Prop := ∃ v H', Inv X pins σ H' s' ∧ RelV v u ∧ Q v H'
def TP (X : Cx) (pins : List (Addr × Obj)) (σ : St) (Q : Bool → Hp → Prop) (b : Bool) (s' : Shared) : Prop := ∃ H', Inv X pins σ H' s' ∧ Q b H'
def AP (X : Cx) (pins : List (Addr × Obj)) (σ : St) (Q : List V → Hp → Prop) (us : List Value) (s' : Shared) : Prop := ∃ vs H', Inv X pins σ H' s' ∧ Vals vs us ∧ Q vs H'
def SP (X : Cx) (pins : List (Addr × Obj)) (D : Ends) (f : Flow) (s' : Shared) : Prop :=
  match f with
  | .next => ∃ σ' H', Inv X pins σ' H' s' ∧ D.nx σ' H'
  | .brk => ∃ σ' H', Inv X pins σ' H' s' ∧ D.bk σ' H'
  | .cont => ∃ σ' H', Inv X pins σ' H' s' ∧ D.ct σ' H'
  | .ret u => ∃ v σ' H', Inv X pins σ' H' s' ∧ RelV v u ∧ D.rt v H'
def PE (X : Cx) (e : Expr) (t : TE) : Prop :=
  ∀ (pins : List (Addr × Obj)) (s : Shared) (σ : St) (H : Hp) (Q : VK), Inv X pins σ H s → t σ H Q → wpAny (model X.prog X.w) X.A (eval e X.env) (EP X pins σ Q) X.xe s
def PT (X : Cx) (e : Expr) (t : TT) : Prop :=
  ∀ (pins : List (Addr × Obj)) (s : Shared) (σ : St) (H : Hp) (Q : Bool → Hp → Prop), Inv X pins σ H s → t σ H Q → wpAny (model X.prog X.w) X.A (isTrue e X.env (eval e X.env)) (TP X pins σ Q) X.xe s
def PW (X : Cx) (e : Expr) (t : TT) : Prop :=
  ∀ (whole : Sem Value) (pins : List (Addr × Obj)) (s : Shared) (σ : St) (H : Hp) (Q : Bool → Hp → Prop), Inv X pins σ H s → t σ H Q → wpAny (model X.prog X.w) X.A (isTrue e X.env whole) (TP X pins σ Q) X.xe s
theorem PW.pt {X : Cx} {e : Expr} {t : TT} (h : PW X e t) : PT X e t := h _
def PA (X : Cx) (es : List Expr) (t : TA) : Prop :=
  ∀ (pos : Pos) (pins : List (Addr × Obj)) (s : Shared) (σ : St) (H : Hp) (Q : List V → Hp → Prop), Inv X pins σ H s → t σ H Q → wpAny (model X.prog X.w) X.A (spliced (backTo pos (starEach es X.env))) (AP X pins σ Q) X.xe s
def PS (X : Cx) (st : Stmt) (t : TS) : Prop :=
  ∀ (pins : List (Addr × Obj)) (s : Shared) (σ : St) (H : Hp) (D : Ends), Inv X pins σ H s → t D σ H → wpAny (model X.prog X.w) X.A (exec st X.env) (SP X pins D) X.xe s
def PSs (X : Cx) (st : List Stmt) (t : TS) : Prop :=
  ∀ (pins : List (Addr × Obj)) (s : Shared) (σ : St) (H : Hp) (D : Ends), Inv X pins σ H s → t D σ H → wpAny (model X.prog X.w) X.A (execs st X.env) (SP X pins D) X.xe s
theorem thn {α : Type} {t : Sem α} {Q Q' : α → Shared → Prop} {M : Model} {A : Around} {E : Value → Shared → Prop} {s : Shared} (h : wpAny M A t Q E s) (hQ : ∀ a s, Q a s → Q' a s) : wpAny M A t Q' E s := wpAny_mono h hQ fun _ _ x => x
end L2
namespace L2
open PySem PySem.Spec PyProof.Rows
section
variable {X : Cx}
def tVar (i : Nat) : TE := fun σ H Q => ∃ v, σ[i]? = some (some v) ∧ Q v H
def tC (v : V) : TE := fun _ H Q => Q v H
theorem pe_var {i : Nat} {x : Str} {pos : Pos} (hN : X.N[i]? = some x) (hv : Vis X.env.scope x) (hd : (x == ("__debug__" : Str)) = false := by decide) (hcd : (x == ("__classdict__" : Str)) = false := by decide) : PE X (.Name x pos) (tVar i) := by
  intro pins s σ H Q I h
  obtain ⟨v, e, h⟩ := h
  obtain ⟨m, hn, hl⟩ := I.loc
  obtain ⟨u, r, l⟩ := hl i x v hN e hv
  have fin : EP X pins σ Q u s := ⟨v, H, I, r, h⟩
  rcases l with ⟨hk, hm⟩ | ⟨hk, c, hc, hcell⟩
  · exact wpAny_Name (wpAny_loadName_local I.ok.kind hk hn hm fin) hd
  · rcases hk with hk | hk
    · exact wpAny_Name (wpAny_loadName_cell I.ok.kind hk hc hcell fin) hd
    · exact wpAny_Name (wpAny_loadName_free I.ok.kind hk hc hcell fin hcd) hd
theorem pe_int {i j pos} : PE X (.Constant (.int i) j pos) (tC (.int i)) := fun _ _ _ H _ I h => wpAny_Constant_int ⟨.int i, H, I.tok _, ⟨_, rfl⟩, h⟩
theorem pe_bl {b j pos} : PE X (.Constant (.bool b) j pos) (tC (.bl b)) := fun _ _ _ H _ I h => Constant_bool ⟨.bl b, H, I, rfl, h⟩
theorem pe_non {j pos} : PE X (.Constant .none j pos) (tC .non) := fun _ _ _ H _ I h => Constant_none ⟨.non, H, I, rfl, h⟩
def Gl (X : Cx) (x : Str) : Prop := X.env.kindOf x = some .globalImplicit
theorem ld_glob {E : Value → Shared → Prop} {pins : List (Addr × Obj)} {s : Shared} {σ : St} {H : Hp} {x : Str} {u : Value} {pos : Pos} {Q : Value → Shared → Prop} (I : Inv X pins σ H s) (hg : Gl X x) (hm : X.mg x = some u) (h : Q u s)
    (hd : (x == ("__debug__" : Str)) = false := by decide) : wpAny (model X.prog X.w) X.A (eval (.Name x pos) X.env) Q E s :=
  Calls.Name_function_global I.ok.kind hg (Calls.loadGlobal_global (by rw [I.ok.glob]; exact I.mod.glob.keeps I.bk) hm h) hd
theorem ld_blt {E : Value → Shared → Prop} {pins : List (Addr × Obj)} {s : Shared} {σ : St} {H : Hp} {x : Str} {u : Value} {pos : Pos} {Q : Value → Shared → Prop} (I : Inv X pins σ H s) (hg : Gl X x) (hm : X.mg x = none) (hv : bootBuiltins x = some u) (h : Q u s)
    (hn : x ≠ "__name__" := by decide) (hd : (x == ("__debug__" : Str)) = false := by decide) : wpAny (model X.prog X.w) X.A (eval (.Name x pos) X.env) Q E s := by
  obtain ⟨mb, h1, h2⟩ := I.mod.blt
  exact Calls.Name_function_global I.ok.kind hg (Calls.loadGlobal_builtin (by rw [I.ok.glob]; exact I.mod.glob.keeps I.bk) hm (by rw [I.ok.blt]; exact h1.keeps I.bk) ((h2 x hn).trans hv) h) hd
theorem pe_glob {x : Str} {v : V} {u : Value} {pos : Pos} (hg : Gl X x) (hm : X.mg x = some u) (r : RelV v u) (hd : (x == ("__debug__" : Str)) = false := by decide) : PE X (.Name x pos) (tC v) :=
  fun _ _ _ H _ I h => ld_glob I hg hm ⟨v, H, I, r, h⟩ hd
variable {a b : Expr} {ta tb : TE} {pos : Pos}
def PC (X : Cx) (op : CmpOp) (a b : Expr) (t : TE) : Prop :=
  ∀ (pins : List (Addr × Obj)) (s : Shared) (σ : St) (H : Hp) (Q : VK), Inv X pins σ H s → t σ H Q →
    wpAny (model X.prog X.w) X.A (eval a X.env) (fun v s₁ => wpAny (model X.prog X.w) X.A (eval b X.env) (fun u s₂ => wpAny (model X.prog X.w) X.A (compareOp op v u) (EP X pins σ Q) X.xe s₂) X.xe s₁) X.xe s
theorem nobehind (b : Expr) {op : CmpOp} (h : op ≠ .In) (h2 : op ≠ .NotIn) : behindInMarks op b = false := by
  have e1 : (op == CmpOp.In) = false := by cases op <;> first | rfl | exact absurd rfl h
  have e2 : (op == CmpOp.NotIn) = false := by cases op <;> first | rfl | exact absurd rfl h2
  cases b <;> simp [behindInMarks, e1, e2]
def tIsN (ta : TE) : TE := fun σ H Q => ta σ H fun x H1 => Q (.bl (decide (x = .non))) H1
def tNotN (ta : TE) : TE := fun σ H Q => ta σ H fun x H1 => Q (.bl (!decide (x = .non))) H1
theorem RelV.none_iff {x : V} {v : Value} (r : RelV x v) : (v == Value.none) = decide (x = .non) := by
  cases x with
  | non => cases r; rfl
  | bl _ => cases r; rfl
  | int _ => obtain ⟨t, rfl⟩ := r; rfl
  | str _ => obtain ⟨t, rfl⟩ := r; rfl
  | byt _ => obtain ⟨t, rfl⟩ := r; rfl
  | flt _ => obtain ⟨t, rfl⟩ := r; rfl
  | ref _ => cases r; rfl
  | ty _ => cases r; rfl
theorem pc_isN {j pos'} (ha : PE X a ta) : PC X .Is a (.Constant .none j pos') (tIsN ta) := by
  intro pins s σ H Q I h
  refine thn (ha pins s σ H _ I h) fun v s1 ⟨x, H1, I1, r1, q1⟩ => ?_
  exact Constant_none (is_none_gen ⟨.bl _, H1, I1, by rw [r1.none_iff]; rfl, q1⟩)
theorem pc_notN {j pos'} (ha : PE X a ta) : PC X .IsNot a (.Constant .none j pos') (tNotN ta) := by
  intro pins s σ H Q I h
  refine thn (ha pins s σ H _ I h) fun v s1 ⟨x, H1, I1, r1, q1⟩ => ?_
  exact Constant_none (isnot_none_gen ⟨.bl _, H1, I1, by rw [r1.none_iff]; rfl, q1⟩)
def tB (t : TE) : TT := fun σ H Q => t σ H fun x H1 => ∃ c, x = .bl c ∧ Q c H1
theorem pt_cmp {op : CmpOp} {t : TE} (h : PC X op a b t) (h1 : behindInMarks op b = false := by first | exact nobehind _ (by decide) (by decide) | rfl) : PT X (.Compare a [op] [b] pos) (tB t) := by
  intro pins s σ H Q I hw
  refine wpAny_isTrue_Compare1 (thn (h pins s σ H _ I hw) fun v s1 h1 => thn h1 fun u s2 h2 => thn h2 fun c s3 ⟨x, H1, I1, r1, q1⟩ => ?_) h1
  obtain ⟨d, rfl, q⟩ := q1
  cases r1
  exact wpAny_truthy_bool ⟨H1, I1, q⟩
theorem pt_val {e : Expr} {t : TE} (h : PE X e t) (he : ∀ whole, isTrue e X.env whole = (do let v ← whole; standAt e.pos; holding [v] (truthy v)) := by intro _; rfl) : PT X e (tB t) := by
  intro pins s σ H Q I hw
  refine isTrue_plain (thn (h pins s σ H _ I hw) fun v s1 ⟨x, H1, I1, r1, q1⟩ => ?_) (he _)
  obtain ⟨d, rfl, q⟩ := q1
  cases r1
  exact wpAny_truthy_bool ⟨H1, I1, q⟩
variable {tA tB' : TT} {rest : List Expr}
def tAnd (t u : TT) : TT := fun σ H Q => t σ H fun c H1 => if c = true then u σ H1 Q else Q false H1
def tOr (t u : TT) : TT := fun σ H Q => t σ H fun c H1 => if c = true then Q true H1 else u σ H1 Q
def tNot (t : TT) : TT := fun σ H Q => t σ H fun c H1 => Q (!c) H1
theorem pw_and1 (ha : PT X a tA) : PW X (.BoolOp .And [a] pos) tA := by
  intro wh pins s σ H Q I h
  refine isTrue_and (thn (ha pins s σ H Q I h) fun c s1 e => ?_)
  cases c with
  | true => exact isTrue_and_nil e
  | false => exact e
theorem pw_or1 (ha : PT X a tA) : PW X (.BoolOp .Or [a] pos) tA := by
  intro wh pins s σ H Q I h
  refine isTrue_or (thn (ha pins s σ H Q I h) fun c s1 e => ?_)
  cases c with
  | false => exact isTrue_or_nil e
  | true => exact e
theorem pw_and (ha : PT X a tA) (hb : PW X (.BoolOp .And (b :: rest) pos) tB') : PW X (.BoolOp .And (a :: b :: rest) pos) (tAnd tA tB') := by
  intro wh pins s σ H Q I h
  refine isTrue_and (thn (ha pins s σ H _ I h) fun c s1 ⟨H1, I1, q1⟩ => ?_)
  cases c with
  | true => exact hb wh pins s1 σ H1 Q I1 q1
  | false => exact ⟨H1, I1, q1⟩
theorem pw_or (ha : PT X a tA) (hb : PW X (.BoolOp .Or (b :: rest) pos) tB') : PW X (.BoolOp .Or (a :: b :: rest) pos) (tOr tA tB') := by
  intro wh pins s σ H Q I h
  refine isTrue_or (thn (ha pins s σ H _ I h) fun c s1 ⟨H1, I1, q1⟩ => ?_)
  cases c with
  | true => exact ⟨H1, I1, q1⟩
  | false => exact hb wh pins s1 σ H1 Q I1 q1
theorem pt_not (ha : PT X a tA) : PT X (.UnaryOp .Not a pos) (tNot tA) := by
  intro pins s σ H Q I h
  exact isTrue_not (ha pins s σ H (fun c H1 => Q (!c) H1) I h)
def tAndV (ta tb : TE) : TE := fun σ H Q => ta σ H fun x H1 => ∃ c, x = .bl c ∧ if c = true then tb σ H1 Q else Q (.bl false) H1
def tOrV (ta tb : TE) : TE := fun σ H Q => ta σ H fun x H1 => ∃ c, x = .bl c ∧ if c = true then Q (.bl true) H1 else tb σ H1 Q
theorem pe_one {op} {t : TE} (h : PE X a t) : PE X (.BoolOp op [a] pos) t := fun pins s σ H Q I hw => BoolOp_one (h pins s σ H Q I hw)
theorem pe_and (ha : PE X a ta) (hb : PE X (.BoolOp .And (b :: rest) pos) tb) : PE X (.BoolOp .And (a :: b :: rest) pos) (tAndV ta tb) := by
  intro pins s σ H Q I h
  refine BoolOp_and (thn (ha pins s σ H _ I h) fun v s1 ⟨x, H1, I1, r1, q1⟩ => ?_)
  obtain ⟨c, rfl, q1⟩ := q1
  cases r1
  refine wpAny_truthy_bool ?_
  cases c with
  | true => exact hb pins s1 σ H1 Q I1 q1
  | false => exact ⟨.bl false, H1, I1, rfl, q1⟩
theorem pe_or (ha : PE X a ta) (hb : PE X (.BoolOp .Or (b :: rest) pos) tb) : PE X (.BoolOp .Or (a :: b :: rest) pos) (tOrV ta tb) := by
  intro pins s σ H Q I h
  refine BoolOp_or (thn (ha pins s σ H _ I h) fun v s1 ⟨x, H1, I1, r1, q1⟩ => ?_)
  obtain ⟨c, rfl, q1⟩ := q1
  cases r1
  refine wpAny_truthy_bool ?_
  cases c with
  | false => exact hb pins s1 σ H1 Q I1 q1
  | true => exact ⟨.bl true, H1, I1, rfl, q1⟩
end
end L2
namespace L2
open PySem PySem.Spec PyProof.Rows
def SqL (K : PySem.W.Frag) (H : Hp) (a : Addr) (xs : List V) : Prop :=
  Rd H a (.lst xs) ∨
    ∃ (o : Obj) (its : Array Value) (n : Nat), K.lookup a = some o ∧ o.cls = .type "list" ∧ o.dict = none ∧ o.data = .seq its n ∧ its.size ≤ sizeLine ∧ Vals xs its.toList
def SqT (K : PySem.W.Frag) (H : Hp) (a : Addr) (xs : List V) : Prop :=
  Rd H a (.tup xs) ∨
    ∃ (o : Obj) (its : Array Value) (n : Nat), K.lookup a = some o ∧ o.cls = .type "tuple" ∧ o.data = .seq its n ∧ its.size ≤ sizeLine ∧ Vals xs its.toList
def absV : Value → Option V
  | .none => some .non
  | .bool b => some (.bl b)
  | .int i _ => some (.int i)
  | .str x _ => some (.str x)
  | .bytes b _ => some (.byt b)
  | .float b _ => some (.flt b)
  | .ref a => some (.ref a)
  | .type n => some (.ty n)
  | _ => none
theorem RelV.abs {x : V} {u : Value} (r : RelV x u) : absV u = some x := by
  cases x with
  | non => cases r; rfl
  | bl _ => cases r; rfl
  | int _ => obtain ⟨t, rfl⟩ := r; rfl
  | str _ => obtain ⟨t, rfl⟩ := r; rfl
  | byt _ => obtain ⟨t, rfl⟩ := r; rfl
  | flt _ => obtain ⟨t, rfl⟩ := r; rfl
  | ref _ => cases r; rfl
  | ty _ => cases r; rfl
theorem RelV.inj {x y : V} {u : Value} (r : RelV x u) (q : RelV y u) : x = y := Option.some.inj (r.abs.symm.trans q.abs)
theorem Vals.inj : ∀ {xs ys : List V} {us : List Value}, Vals xs us → Vals ys us → xs = ys
  | _, _, _, .nil, .nil => rfl
  | _, _, _, .cons r t, .cons r' t' => by rw [r.inj r', Vals.inj t t']
section
variable {X : Cx} {pins : List (Addr × Obj)} {σ : St} {H : Hp} {s : Shared} {a : Addr} {xs ys : List V}
theorem SqL.of {K : PySem.W.Frag} (h : H a = some (.lst xs)) : SqL K H a xs := .inl (.inl h)
theorem Inv.list (I : Inv X pins σ H s) (h : SqL X.K H a xs) : ∃ its : List Value, Vals xs its ∧ PlainL s.heap a its.toArray ∧ xs.length ≤ sizeLine := by
  rcases h with h | ⟨o, its, n, hk, hc, hd, hs, hz, r⟩
  · obtain ⟨z, its, n, r, e⟩ := h.ok I.hok
    exact ⟨its, r, ⟨_, n, e, rfl, rfl, rfl⟩, z⟩
  · refine ⟨its.toList, r, ⟨o, n, I.kIn a o hk, hc, hd, by simpa using hs⟩, ?_⟩
    have e := r.length
    simp only [Array.length_toList] at e
    omega
theorem Inv.tuple (I : Inv X pins σ H s) (h : SqT X.K H a xs) : ∃ its : List Value, Vals xs its ∧ IsTup s.heap a its.toArray ∧ xs.length ≤ sizeLine := by
  rcases h with h | ⟨o, its, n, hk, hc, hs, hz, r⟩
  · obtain ⟨z, its, r, p⟩ := h.ok I.hok
    exact ⟨its, r, p, z⟩
  · refine ⟨its.toList, r, ⟨o, I.kIn a o hk, hc, n, by simpa using hs⟩, ?_⟩
    have e := r.length
    simp only [Array.length_toList] at e
    omega
theorem Inv.list_inj (I : Inv X pins σ H s) (h : SqL X.K H a xs) (h' : SqL X.K H a ys) : xs = ys := by
  obtain ⟨its, r, ⟨o, n, e, _, _, d⟩, _⟩ := I.list h
  obtain ⟨its', r', ⟨o', n', e', _, _, d'⟩, _⟩ := I.list h'
  rw [e] at e'; cases e'
  rw [d] at d'
  injection d' with d1 _
  have : its = its' := by simpa using congrArg Array.toList d1
  subst this
  exact r.inj r'
end
abbrev Cx.wish (X : Cx) (E : Value → Shared → Prop) : Cx := { X with xe := E }
abbrev Cx.nox (X : Cx) : Cx := X.wish fun _ _ => False
theorem Cx.Ok.wish {X : Cx} (ok : X.Ok) (E : Value → Shared → Prop) : (X.wish E).Ok :=
  ⟨ok.mod, ok.kind, ok.glob, ok.blt, ok.above, ok.inj, ok.has, ok.cab, ok.hd, ok.frames, ok.stk, ok.exf, ok.bs, ok.bsz, ok.noex, ok.exfs, ok.funs, ok.frf⟩
theorem Cx.Ok.unwish {X : Cx} {E : Value → Shared → Prop} (ok : (X.wish E).Ok) : X.Ok :=
  ⟨ok.mod, ok.kind, ok.glob, ok.blt, ok.above, ok.inj, ok.has, ok.cab, ok.hd, ok.frames, ok.stk, ok.exf, ok.bs, ok.bsz, ok.noex, ok.exfs, ok.funs, ok.frf⟩
section
variable {X : Cx} {pins : List (Addr × Obj)} {σ : St} {H : Hp} {s : Shared} {E : Value → Shared → Prop}
theorem Inv.wish (I : Inv X pins σ H s) (E : Value → Shared → Prop) : Inv (X.wish E) pins σ H s := ⟨I.ok.wish E, I.os, I.bare, I.base, I.loc, I.cell, I.free, I.freeC, I.pin, I.hok, I.len⟩
theorem Inv.unwish (I : Inv (X.wish E) pins σ H s) : Inv X pins σ H s := ⟨I.ok.unwish, I.os, I.bare, I.base, I.loc, I.cell, I.free, I.freeC, I.pin, I.hok, I.len⟩
theorem SP.unwish {D : Ends} {f : Flow} {s' : Shared} (h : SP (X.wish E) pins D f s') : SP X pins D f s' := by
  cases f with
  | next => obtain ⟨σ', H', I, q⟩ := h; exact ⟨σ', H', I.unwish, q⟩
  | brk => obtain ⟨σ', H', I, q⟩ := h; exact ⟨σ', H', I.unwish, q⟩
  | cont => obtain ⟨σ', H', I, q⟩ := h; exact ⟨σ', H', I.unwish, q⟩
  | ret u => obtain ⟨v, σ', H', I, r, q⟩ := h; exact ⟨v, σ', H', I.unwish, r, q⟩
theorem PSs.nox {st : List Stmt} {t : TS} (h : PSs X.nox st t) : PSs X st t := fun pins s σ H D I hw =>
  wpAny_mono (h pins s σ H D (I.wish _) hw) (fun _ _ q => q.unwish) fun _ _ z => False.elim z
end
section
variable {X : Cx} {st : Stmt} {rest : List Stmt} {t u : TS} {e : Expr} {te : TE} {pos : Pos}
def tNext : TS := fun D σ H => D.nx σ H
def tSeq (t u : TS) : TS := fun D σ H => t { D with nx := u D } σ H
theorem pss_nil : PSs X [] tNext := fun _ _ σ H _ I h => wpAny_execs_nil ⟨σ, H, I, h⟩
theorem pss_cons (h1 : PS X st t) (h2 : PSs X rest u) : PSs X (st :: rest) (tSeq t u) := by
  intro pins s σ H D I h
  refine wpAny_execs_cons (thn (h1 pins s σ H { D with nx := u D } I h) fun f s1 q => ?_)
  cases f with
  | next =>
    obtain ⟨σ', H', I', q⟩ := q
    exact h2 pins s1 σ' H' D I' q
  | ret v => exact q
  | brk => exact q
  | cont => exact q
theorem pss_one (h1 : PS X st t) : PSs X [st] t := by
  intro pins s σ H D I h
  refine wpAny_execs_cons (thn (h1 pins s σ H D I h) fun f s1 q => ?_)
  cases f with
  | next => exact wpAny_execs_nil q
  | ret v => exact q
  | brk => exact q
  | cont => exact q
theorem Inv.quiet {pins : List (Addr × Obj)} {σ : St} {H : Hp} {s : Shared} (I : Inv X pins σ H s) : interactive X.env = false := by simp [interactive, I.ok.kind]
def tDrop (te : TE) : TS := fun D σ H => te σ H fun _ H1 => D.nx σ H1
theorem ps_expr (he : PE X e te) (hs : swapsWith e none pos.line X.env = pure false := by rfl) : PS X (.Expr e pos) (tDrop te) := by
  intro pins s σ H D I h
  exact wpAny_Expr_any (thn (he pins s σ H _ I h) fun v s1 ⟨x, H1, I1, r1, q1⟩ => ⟨σ, H1, I1, q1⟩) I.quiet hs
def tRet (te : TE) : TS := fun D σ H => te σ H D.rt
theorem ps_ret (he : PE X e te) : PS X (.Return (some e) pos) (tRet te) := by
  intro pins s σ H D I h
  exact wpAny_Return_some (thn (he pins s σ H _ I h) fun v s1 ⟨x, H1, I1, r1, q1⟩ => ⟨x, σ, H1, I1, r1, q1⟩)
def tRetN : TS := fun D _ H => D.rt .non H
theorem ps_retN : PS X (.Return none pos) tRetN := fun _ _ σ H _ I h => wpAny_Return_none ⟨.non, σ, H, I, rfl, h⟩
def tIfS (c : TT) (t u : TS) : TS := fun D σ H => c σ H fun b H1 => if b = true then t D σ H1 else u D σ H1
theorem ps_if {c : Expr} {a b : List Stmt} {tc : TT} (hc : PT X c tc) (ha : PSs X a t) (hb : PSs X b u) : PS X (.If c a b pos) (tIfS tc t u) := by
  intro pins s σ H D I h
  refine wpAny_If (thn (hc pins s σ H _ I h) fun d s1 ⟨H1, I1, q1⟩ => ?_)
  cases d with
  | true => exact ha pins s1 σ H1 D I1 q1
  | false => exact hb pins s1 σ H1 D I1 q1
def tNever : TS := fun _ _ _ => False
theorem ps_never : PS X st tNever := fun _ _ _ _ _ _ h => h.elim
end
abbrev TG := V → St → Hp → (St → Hp → Prop) → Prop
def PG (X : Cx) (target : Expr) (t : TG) : Prop :=
  ∀ (pins : List (Addr × Obj)) (s : Shared) (σ : St) (H : Hp) (v : V) (u : Value) (Q : St → Hp → Prop), Inv X pins σ H s → RelV v u → t v σ H Q →
    wpAny (model X.prog X.w) X.A (assign target X.env u) (fun _ s' => ∃ σ' H', Inv X pins σ' H' s' ∧ Q σ' H') X.xe s
section
variable {X : Cx} {pos : Pos}
def gName (i : Nat) : TG := fun v σ H Q => Q (σ.set i (some v)) H
theorem pg_name {i : Nat} {x : Str} (hN : X.N.Nodup) (hi : X.N[i]? = some x) (hx : Loc X.env.scope x) (hf : X.fn x = true ∨ X.env.scope.names.lookup x = some .local := by first | exact .inl rfl | exact .inr rfl | assumption) : PG X (.Name x pos) (gName i) := by
  intro pins s σ H v u Q I r h
  exact wpAny_assign_Name (store_ok I hN hi hx r (fun s' I' => ⟨_, H, I', h⟩) hf)
def tAsg (te : TE) (g : TG) : TS := fun D σ H => te σ H fun x H1 => g x σ H1 D.nx
theorem ps_set {i : Nat} {x : Str} {e : Expr} {te : TE} {pos' : Pos} (hN : X.N.Nodup) (hi : X.N[i]? = some x) (hx : Loc X.env.scope x) (he : PE X e te) (hs : swapsWith e (some (.Name x pos')) pos.line X.env = pure false := by rfl) (hf : X.fn x = true ∨ X.env.scope.names.lookup x = some .local := by first | exact .inl rfl | exact .inr rfl | assumption) :
    PS X (.Assign [.Name x pos'] e pos) (tAsg te (gName i)) := by
  intro pins s σ H D I h
  refine wpAny_Assign_Name (thn (he pins s σ H _ I h) fun v s1 ⟨y, H1, I1, r1, q1⟩ => ?_) hs
  exact store_ok I1 hN hi hx r1 (fun s2 I2 => ⟨_, H1, I2, q1⟩) hf
end
section
variable {X : Cx} {pos : Pos}
def tWhile (c : TT) (tb : TS) : TS := fun D σ H => ∃ W : Nat → St → Hp → Prop, (∃ m, W m σ H) ∧ ∀ m σ H, W m σ H →
  c σ H fun b H1 => if b = true then ∃ N : St → Hp → Prop, (∀ σ' H', N σ' H' → ∃ m', m' < m ∧ W m' σ' H') ∧ tb { D with nx := N, ct := N, bk := D.nx } σ H1 else D.nx σ H1
theorem ps_while {c : Expr} {body : List Stmt} {tc : TT} {tb : TS} (hp : PassesOwn (model X.prog X.w) X.A X.env X.xe) (hc : PT X c tc) (hb : PSs X body tb) : PS X (.While c body [] pos) (tWhile tc tb) := by
  intro pins s σ H D I h
  obtain ⟨W, ⟨m0, w0⟩, turn⟩ := h
  refine wpAny_While (codeAny_whileLoop (fun n s' => ∃ σ' H', Inv X pins σ' H' s' ∧ W n σ' H') ?_ m0 ⟨σ, H, I, w0⟩)
  rintro n s1 ⟨σ1, H1, I1, w1⟩
  refine wpAny_passesOwn hp (thn (hc pins s1 σ1 H1 _ I1 (turn n σ1 H1 w1)) fun b s2 ⟨H2, I2, q2⟩ => ?_)
  cases b with
  | true =>
    obtain ⟨N, hN, q2⟩ := q2
    rw [if_pos rfl]
    refine wpAny_passesOwn hp (thn (hb pins s2 σ1 H2 _ I2 q2) fun f s3 q3 => ?_)
    cases f with
    | next =>
      obtain ⟨σ3, H3, I3, n3⟩ := q3
      obtain ⟨m', hm, w3⟩ := hN σ3 H3 n3
      exact ⟨m', hm, σ3, H3, I3, w3⟩
    | cont =>
      obtain ⟨σ3, H3, I3, n3⟩ := q3
      obtain ⟨m', hm, w3⟩ := hN σ3 H3 n3
      exact ⟨m', hm, σ3, H3, I3, w3⟩
    | brk => exact q3
    | ret v => exact q3
  | false =>
    rw [if_neg Bool.false_ne_true]
    exact wpAny_execs_nil ⟨σ1, H2, I2, q2⟩
end
structure It where
  go : Nat → Hp → Prop
  yld : Nat → Hp → V → Hp → Prop
  stop : Nat → Hp → Prop
def FpOk (X : Cx) (pins : List (Addr × Obj)) (H : Hp) (b : Addr) : Prop :=
  H b = none ∧ b ≠ X.env.locals ∧ b ∉ X.fs ∧ (b ∈ X.ex ∨ X.s_0.heap.objs.size ≤ b) ∧ (∀ x c, X.env.cells.lookup x = some c → c ≠ b) ∧ ∀ p ∈ X.pn ++ pins, p.1 ≠ b
theorem Inv.fpOk {X : Cx} {pins : List (Addr × Obj)} {σ : St} {H H' : Hp} {s : Shared} {b : Addr} (I : Inv X pins σ H s) (hb : s.heap.objs.size ≤ b) (hn : H' b = none) : FpOk X pins H' b := by
  refine ⟨hn, Nat.ne_of_gt (Nat.lt_of_lt_of_le I.lt hb), I.nofs hb, .inr (Nat.le_trans I.sz hb), fun x c e z => ?_, fun p hp z => ?_⟩
  · obtain ⟨v, q⟩ := I.cell x c e
    exact absurd (Nat.lt_of_lt_of_le q.lt (by rw [z]; exact hb)) (Nat.lt_irrefl _)
  · exact absurd (Nat.lt_of_lt_of_le (Heap.lt_size (I.pin p hp).1) (by rw [z]; exact hb)) (Nat.lt_irrefl _)
structure Turn (P : Program) (w : World) (K : PySem.W.Frag) (tg : Expr) (J : It) (fp : List Addr) (it : Addr) (tn : Nat → Heap → Prop) : Prop where
  mem : it ∈ fp
  obj : ∀ i h, tn i h → ∀ b ∈ fp, ∃ o, h.get? b = some o ∧ ∀ v, o.data ≠ .cell v
  keep : ∀ i h h', tn i h → (∀ b ∈ fp, ∀ o, h.get? b = some o → h'.get? b = some o) → tn i h'
  item : ∀ (X : Cx), X.prog = P → X.w = w → X.K = K → X.calm = true → ∀ (i : Nat) (pins : List (Addr × Obj)) (s : Shared) (σ : St) (H : Hp) (E : Value → Shared → Prop), Inv X pins σ H s → (∀ b ∈ fp, FpOk X pins H b) → tn i s.heap → J.go i H →
    wpAny (model P w) X.A (pyNext (.ref it)) (fun r s1 => ∃ u, r = some u ∧
      wpAny (model P w) X.A (letOwnedTupleGo tg (.ref it) u) (fun _ s2 => ∃ x H', Inv X pins σ H' s2 ∧ RelV x u ∧ J.yld i H x H' ∧ tn (i + 1) s2.heap ∧ ∀ b ∈ fp, H' b = none) E s1) E s
  done : ∀ (X : Cx), X.prog = P → X.w = w → X.K = K → X.calm = true → ∀ (i : Nat) (pins : List (Addr × Obj)) (s : Shared) (σ : St) (H : Hp) (E : Value → Shared → Prop), Inv X pins σ H s → (∀ b ∈ fp, FpOk X pins H b) → tn i s.heap → J.stop i H →
    wpAny (model P w) X.A (pyNext (.ref it)) (fun r s1 => r = none ∧ Inv X pins σ H s1) E s
  self : ∀ (A : Around) (i : Nat) (s : Shared) (Q : Value → Shared → Prop) (E : Value → Shared → Prop), tn i s.heap → Q (.ref it) s → wpAny (model P w) A (pyIter (.ref it)) Q E s
abbrev TI := St → Hp → (It → Hp → Prop) → Prop
def PIE (X : Cx) (pins : List (Addr × Obj)) (σ : St) (tg : Expr) (R : It → Hp → Prop) (itv : Value) (s2 : Shared) : Prop :=
  ∃ (it : Addr) (fp : List Addr) (tn : Nat → Heap → Prop) (J : It) (H' : Hp), itv = .ref it ∧ Inv X pins σ H' s2 ∧ Turn X.prog X.w X.K tg J fp it tn ∧ tn 0 s2.heap ∧ (∀ b ∈ fp, FpOk X pins H' b) ∧ R J H'
def PI (X : Cx) (tg iter : Expr) (wi : TI) : Prop :=
  ∀ (pins : List (Addr × Obj)) (s : Shared) (σ : St) (H : Hp) (R : It → Hp → Prop), Inv X pins σ H s → wi σ H R →
    wpAny (model X.prog X.w) X.A (eval iter X.env) (fun v s1 => wpAny (model X.prog X.w) X.A (pyIter v) (PIE X pins σ tg R) X.xe s1) X.xe s
theorem go_of {M : Model} {A : Around} {E : Value → Shared → Prop} {s : Shared} {tg : Expr} {it : Addr} {u : Value} {o : Obj} {n : String} {vs : Array Value} {Q : Unit → Shared → Prop} (ho : s.heap.get? it = some o) (hc : o.cls = .type n) (hd : o.data = .fields vs)
    (hn : ["enumerate", "zip", "dict_itemiterator", "dict_reverseitemiterator", "odict_iterator", "itertools.zip_longest", "itertools.pairwise"].contains n = false) (hQ : Q () s) : wpAny M A (letOwnedTupleGo tg (.ref it) u) Q E s := by
  unfold letOwnedTupleGo
  cases tg <;> first
    | exact wpAny_pure hQ
    | (cases u <;> first
        | exact wpAny_pure hQ
        | (refine wpAny_bind (wpAny_load ho ?_)
           rw [hc, hd]
           show wpAny M A (if (["enumerate", "zip", "dict_itemiterator", "dict_reverseitemiterator", "odict_iterator", "itertools.zip_longest", "itertools.pairwise"].contains n && vs[0]? == some (rawInt _)) = true then _ else _) Q E s
           rw [if_neg (by intro h; rw [hn, Bool.false_and] at h; cases h)]
           exact wpAny_pure hQ))
def Itl (K : PySem.W.Frag) (a : Addr) : It :=
  ⟨fun i H => ∃ xs x, SqL K H a xs ∧ xs[i]? = some x, fun i H x H' => H' = H ∧ ∀ xs, SqL K H a xs → xs[i]? = some x, fun i H => ∃ xs, SqL K H a xs ∧ xs.length ≤ i⟩
def Itr (lo : Int) (n : Nat) : It := ⟨fun i _ => i < n, fun i H x H' => H' = H ∧ x = .int (lo + i), fun i _ => n ≤ i⟩
theorem turn_list {P : Program} {w : World} {K : PySem.W.Frag} {tg : Expr} (a it : Addr) : Turn P w K tg (Itl K a) [it] it (fun i h => h.IsListIter it a i) where
  mem := by simp
  obj := fun i h st b hb => by
    have e : b = it := by simpa using hb
    subst e
    obtain ⟨o, e, c, d⟩ := st
    exact ⟨o, e, fun v z => by rw [d] at z; cases z⟩
  keep := fun i h h' st k => st.at fun o e => k it (by simp) o e
  item := by
    intro X hP hw hK hc i pins s σ H E I hf st hg
    subst hP hw hK
    obtain ⟨xs, x, hq, hx⟩ := hg
    obtain ⟨its, rv, p, hz⟩ := I.list hq
    obtain ⟨u, hu, ru⟩ := rv.get hx
    obtain ⟨f0, f1, f2, f3, f4, f5⟩ := hf it (by simp)
    refine wpAny_pyNext_list_item st p.isList (x := u) (by simpa using hu) fun h' st' sb => ?_
    have I1 : Inv X pins σ H { s with heap := h' } := I.turned (t' := s.toks) (fun b o hb e => (sb.2 b hb).trans e) f0 f1 f3 f4 f5
    obtain ⟨o, e, c, d⟩ := id st'
    exact ⟨u, rfl, go_of (s := { s with heap := h' }) e c d (by decide) ⟨x, H, I1, ru, ⟨rfl, fun ys hy => by rw [I.list_inj hy hq]; exact hx⟩, st', fun b hb => (hf b hb).1⟩⟩
  done := by
    intro X hP hw hK hc i pins s σ H E I hf st hg
    subst hP hw hK
    obtain ⟨xs, hq, hx⟩ := hg
    obtain ⟨its, rv, p, hz⟩ := I.list hq
    obtain ⟨f0, f1, f2, f3, f4, f5⟩ := hf it (by simp)
    have hl := rv.length
    exact wpAny_pyNext_list_end (I.ok.hd hc) st p.isList (by simp; omega) fun h' eb => ⟨rfl, I.turned (t' := s.toks) (fun b o hb e => eb b o hb e) f0 f1 f3 f4 f5⟩
  self := fun _ _ _ _ _ st h => wpAny_pyIter_listiter st h
theorem turn_range {P : Program} {w : World} {K : PySem.W.Frag} {tg : Expr} (it : Addr) (lo : Int) (n : Nat) : Turn P w K tg (Itr lo n) [it] it (fun i h => IsRangeIter h it (lo + (i : Nat) * 1) ((n : Int) - (i : Nat)) 1) where
  mem := by simp
  obj := fun i h st b hb => by
    have e : b = it := by simpa using hb
    subst e
    exact ⟨_, st, fun v z => by
      have z' : Data.fields _ = Data.cell v := z
      cases z'⟩
  keep := fun i h h' st k => k it (by simp) _ st
  item := by
    intro X hP hw hK hc i pins s σ H E I hf st hg
    subst hP hw hK
    obtain ⟨f0, f1, f2, f3, f4, f5⟩ := hf it (by simp)
    have W := Walks.range (prog := X.prog) (w := X.w) (I.ok.hd hc) it lo 1 n
    refine W.item i s _ _ hg st fun v h' tk hv st' kk => ?_
    obtain ⟨t, rfl⟩ := hv
    have I1 : Inv X pins σ H { s with heap := h', toks := tk } := I.turned (fun b o hb e => kk b o (by simpa using hb) e) f0 f1 f3 f4 f5
    refine ⟨_, rfl, go_of (s := { s with heap := h', toks := tk }) (n := "range_iterator") st' rfl rfl (by decide) ⟨.int (lo + i), H, I1, ⟨t, ?_⟩, ⟨rfl, rfl⟩, st', fun b hb => (hf b hb).1⟩⟩
    rw [Int.mul_one]
  done := by
    intro X hP hw hK hc i pins s σ H E I hf st hg
    subst hP hw hK
    obtain ⟨f0, f1, f2, f3, f4, f5⟩ := hf it (by simp)
    exact wpAny_pyNext_range_end (I.ok.hd hc) st (by have : n ≤ i := hg; omega) fun h' eb => ⟨rfl, I.turned (t' := s.toks) (fun b o hb e => eb b o hb e) f0 f1 f3 f4 f5⟩
  self := fun _ _ _ _ _ st h => wpAny_pyIter_rangeiter st h
end L2
namespace L2
open PySem PySem.Spec PyProof.Rows
section
variable {X : Cx} {tg : Expr}
def iList (K : PySem.W.Frag) (tl : TE) : TI := fun σ H R => tl σ H fun x H1 => ∃ a, x = .ref a ∧ (∃ xs, SqL K H1 a xs) ∧ R (Itl K a) H1
theorem pi_list {l : Expr} {tl : TE} (hl : PE X l tl) : PI X tg l (iList X.K tl) := by
  intro pins s σ H R I h
  refine thn (hl pins s σ H _ I h) fun v s1 ⟨x, H1, I1, r1, q1⟩ => ?_
  obtain ⟨a, e, ⟨xs, hq⟩, q⟩ := q1
  subst e
  cases r1
  obtain ⟨its, rv, p, hz⟩ := I1.list hq
  refine wpAny_pyIter_list p.isList ?_
  refine ⟨s1.heap.objs.size, [s1.heap.objs.size], _, _, H1, rfl, I1.kept (t' := s1.toks) fun b o e => Heap.get?_push_of_some _ e, turn_list a _, ⟨_, Heap.get?_push_size _ rfl, rfl, rfl⟩, fun b hb => ?_, q⟩
  have e : b = s1.heap.objs.size := by simpa using hb
  subst e
  exact I1.fpOk (Nat.le_refl _) (I1.hok.fresh (Nat.le_refl _))
theorem range_it {pins : List (Addr × Obj)} {σ : St} {H : Hp} {s : Shared} {R : It → Hp → Prop} {E : Value → Shared → Prop} {lo hi : Int} {t u v : Tok} {tk : Nat} (I : Inv X pins σ H s) (h1 : -(2 ^ 62) ≤ lo) (h2 : lo < 2 ^ 62) (h3 : -(2 ^ 62) ≤ hi) (h4 : hi < 2 ^ 62)
    (q : R (Itr lo (hi - lo).toNat) H) : wpAny (model X.prog X.w) X.A (pyIter (.ref s.heap.objs.size)) (PIE X pins σ tg R) E { s with heap := s.heap.push { cls := .type "range", data := .fields #[.int lo t, .int hi u, .int 1 v] }, toks := tk } := by
  refine wpAny_pyIter_range (IsRange.new ..) (small_one h1 h2 h3 h4) ?_
  have I1 : Inv X pins σ H { s with heap := s.heap.push { cls := .type "range", data := .fields #[.int lo t, .int hi u, .int 1 v] }, toks := tk } := I.kept fun b o e => Heap.get?_push_of_some _ e
  refine ⟨(s.heap.push { cls := .type "range", data := .fields #[.int lo t, .int hi u, .int 1 v] }).objs.size, [(s.heap.push { cls := .type "range", data := .fields #[.int lo t, .int hi u, .int 1 v] }).objs.size], _, _, H, rfl,
    I1.kept (t' := tk) fun b o e => Heap.get?_push_of_some _ e, turn_range _ lo (hi - lo).toNat, ?_, fun b hb => ?_, q⟩
  · have e1 : lo + ((0 : Nat) : Int) * 1 = lo := by simp
    have e2 : (((hi - lo).toNat : Nat) : Int) - ((0 : Nat) : Int) = Builtin.Range.rangeSize lo hi 1 := by rw [rangeSize_one]; split <;> omega
    show IsRangeIter _ _ (lo + ((0 : Nat) : Int) * 1) ((((hi - lo).toNat : Nat) : Int) - ((0 : Nat) : Int)) 1
    rw [e1, e2]
    exact Heap.get?_push_size _ rfl
  · have e : b = (s.heap.push { cls := .type "range", data := .fields #[.int lo t, .int hi u, .int 1 v] }).objs.size := by simpa using hb
    subst e
    exact I1.fpOk (Nat.le_refl _) (I1.hok.fresh (Nat.le_refl _))
def iRng1 (ta : TA) : TI := fun σ H R => ta σ H fun vs H1 => ∃ j : Int, vs = [.int j] ∧ -(2 ^ 62) ≤ j ∧ j < 2 ^ 62 ∧ R (Itr 0 j.toNat) H1
theorem pi_range1 {a : Expr} {ta : TA} {p pos : Pos} (hg : Gl X "range") (hm : X.mg "range" = none) (ha : PA X [a] ta) (hs : starEach [a] X.env = [(false, eval a X.env)] := by rfl) : PI X tg (.Call (.Name "range" p) [a] [] pos) (iRng1 ta) := by
  intro pins s σ H R I h
  refine Call_ (ld_blt I hg hm boot_range (PyProof.Rows.callWith_type1 (thn (ha pos pins s σ H _ I h) fun us s1 ⟨vs, H1, I1, r1, q1⟩ => ?_) hs rfl))
  obtain ⟨j, e, q1, q2, q⟩ := q1
  subst e
  cases r1 with
  | cons r rr =>
    cases rr
    obtain ⟨t, rfl⟩ := r
    exact call_range_1 (range_it I1 (by omega) (by omega) q1 q2 (by simpa using q))
def tFor (wi : TI) (g : TG) (tb : TS) : TS := fun D σ H => wi σ H fun J H1 => ∃ W : Nat → Nat → St → Hp → Prop, (∃ m, W 0 m σ H1) ∧ ∀ i m σ H, W i m σ H →
  (J.stop i H ∧ D.nx σ H) ∨ (J.go i H ∧ ∃ N : St → Hp → Prop, (∀ σ' H', N σ' H' → ∃ m', m' < m ∧ W (i + 1) m' σ' H') ∧ ∀ x H', J.yld i H x H' → g x σ H' fun σ2 H2 => tb { D with nx := N, ct := N, bk := D.nx } σ2 H2)
def pinsAt (fp : List Addr) (h : Heap) : List (Addr × Obj) := fp.filterMap fun b => (h.get? b).map fun o => (b, o)
theorem mem_pinsAt {fp : List Addr} {h : Heap} {b : Addr} {o : Obj} (hb : b ∈ fp) (e : h.get? b = some o) : (b, o) ∈ pinsAt fp h := List.mem_filterMap.mpr ⟨b, hb, by rw [e]; rfl⟩
theorem of_pinsAt {fp : List Addr} {h : Heap} {p : Addr × Obj} (hp : p ∈ pinsAt fp h) : p.1 ∈ fp ∧ h.get? p.1 = some p.2 := by
  obtain ⟨b, hb, e⟩ := List.mem_filterMap.mp hp
  cases q : h.get? b with
  | none => rw [q] at e; cases e
  | some o =>
    rw [q] at e
    have e' : (b, o) = p := Option.some.inj e
    subst e'
    exact ⟨hb, q⟩
theorem Inv.pinned {pins : List (Addr × Obj)} {σ : St} {H : Hp} {s : Shared} {fp : List Addr} (I : Inv X pins σ H s) (hf : ∀ b ∈ fp, FpOk X pins H b) (ho : ∀ b ∈ fp, ∃ o, s.heap.get? b = some o ∧ ∀ v, o.data ≠ .cell v) : Inv X (pins ++ pinsAt fp s.heap) σ H s :=
  I.pins_of fun p hp => (List.mem_append.mp hp).elim (fun z => I.pin p (List.mem_append_right _ z)) fun z => by
    obtain ⟨hb, e⟩ := of_pinsAt z
    obtain ⟨f0, f1, f2, _⟩ := hf p.1 hb
    obtain ⟨o, e', d⟩ := ho p.1 hb
    rw [e] at e'; cases e'
    exact ⟨e, f0, f1, f2, d⟩
theorem Inv.unpinned {pins pl : List (Addr × Obj)} {σ : St} {H : Hp} {s : Shared} (I : Inv X (pins ++ pl) σ H s) : Inv X pins σ H s := I.pins_of fun p hp => I.pin p (List.mem_append_right _ (List.mem_append_left _ hp))
theorem ps_for {iter : Expr} {body : List Stmt} {wi : TI} {g : TG} {tb : TS} {pos : Pos} (hp : PassesOwn (model X.prog X.w) X.A X.env X.xe) (hc : X.calm = true) (hi : PI X tg iter wi) (hg : PG X tg g) (hb : PSs X body tb)
    (hs : ∀ x, foldedSetIterable iter X.env x = pure x := by intro _; rfl) : PS X (.For tg iter body [] pos) (tFor wi g tb) := by
  intro pins s σ H D I h
  refine wpAny_For (thn (hi pins s σ H _ I h) fun v s1 h1 => thn h1 fun itv s2 h2 => ?_) hs
  obtain ⟨it, fp, tn, J, H2, e, I2, T, st2, f2, W, ⟨m0, w0⟩, turn⟩ := h2
  subst e
  have stat : ∀ {H' : Hp}, (∀ b ∈ fp, H' b = none) → ∀ b ∈ fp, FpOk X pins H' b := fun hn b hb => ⟨hn b hb, (f2 b hb).2⟩
  refine codeAny_forLoop_any (fun n s' => ∃ i σ' H', Inv X pins σ' H' s' ∧ tn i s'.heap ∧ (∀ b ∈ fp, H' b = none) ∧ W i n σ' H') ?_ m0 ⟨0, σ, H2, I2, st2, fun b hb => (f2 b hb).1, w0⟩
  rintro n s3 ⟨i, σ3, H3, I3, st3, fr3, w3⟩
  rcases turn i n σ3 H3 w3 with ⟨stop, qn⟩ | ⟨go, N, hN, step⟩
  · refine wpAny_passesOwn hp (thn (T.done X rfl rfl rfl hc i pins s3 σ3 H3 X.xe I3 (stat fr3) st3 stop) fun r s4 ⟨hr, I4⟩ => ?_)
    subst hr
    exact wpAny_execs_nil ⟨σ3, H3, I4, qn⟩
  · refine wpAny_passesOwn hp (thn (T.item X rfl rfl rfl hc i pins s3 σ3 H3 X.xe I3 (stat fr3) st3 go) fun r s4 ⟨u, hr, h4⟩ => ?_)
    subst hr
    refine wpAny_passesOwn hp (thn h4 fun _ s5 ⟨x, H5, I5, r5, y5, st5, fr5⟩ => ?_)
    have I5' := I5.pinned (stat fr5) (T.obj _ _ st5)
    refine wpAny_passesOwn hp (thn (hg _ s5 σ3 H5 x u _ I5' r5 (step x H5 y5)) fun _ s6 ⟨σ6, H6, I6, q6⟩ => ?_)
    refine wpAny_passesOwn hp (thn (hb _ s6 σ6 H6 _ I6 q6) fun f s7 q7 => ?_)
    have again : ∀ {σ7 : St} {H7 : Hp}, Inv X (pins ++ pinsAt fp s5.heap) σ7 H7 s7 → N σ7 H7 → ∃ m, m < n ∧ ∃ i σ' H', Inv X pins σ' H' s7 ∧ tn i s7.heap ∧ (∀ b ∈ fp, H' b = none) ∧ W i m σ' H' := fun {σ7 H7} I7 n7 => by
      obtain ⟨m', hm, w7⟩ := hN σ7 H7 n7
      refine ⟨m', hm, i + 1, σ7, H7, I7.unpinned, T.keep _ _ _ st5 fun b hb o e => (I7.pin (b, o) (List.mem_append_right _ (List.mem_append_right _ (mem_pinsAt hb e)))).1, fun b hb => ?_, w7⟩
      obtain ⟨o, e, d⟩ := T.obj _ _ st5 b hb
      exact (I7.pin (b, o) (List.mem_append_right _ (List.mem_append_right _ (mem_pinsAt hb e)))).2.1
    cases f with
    | next => obtain ⟨σ7, H7, I7, n7⟩ := q7; exact again I7 n7
    | cont => obtain ⟨σ7, H7, I7, n7⟩ := q7; exact again I7 n7
    | brk => obtain ⟨σ7, H7, I7, q7⟩ := q7; exact ⟨σ7, H7, I7.unpinned, q7⟩
    | ret v => obtain ⟨x7, σ7, H7, I7, r7, q7⟩ := q7; exact ⟨x7, σ7, H7, I7.unpinned, r7, q7⟩
end
theorem for_list {K : PySem.W.Frag} {a : Addr} {xs : List V} {g : TG} {tb : TS} {D : Ends} {σ : St} {H : Hp} (Pv : Nat → St → Hp → Prop) (h0 : Pv 0 σ H) (hl : ∀ i σ H, i ≤ xs.length → Pv i σ H → SqL K H a xs)
    (hs : ∀ i x σ H, xs[i]? = some x → Pv i σ H → g x σ H fun σ2 H2 => tb { D with nx := Pv (i + 1), ct := Pv (i + 1), bk := D.nx } σ2 H2) (hd : ∀ σ H, Pv xs.length σ H → D.nx σ H) :
    ∃ W : Nat → Nat → St → Hp → Prop, (∃ m, W 0 m σ H) ∧ ∀ i m σ H, W i m σ H →
      ((Itl K a).stop i H ∧ D.nx σ H) ∨ ((Itl K a).go i H ∧ ∃ N : St → Hp → Prop, (∀ σ' H', N σ' H' → ∃ m', m' < m ∧ W (i + 1) m' σ' H') ∧ ∀ x H', (Itl K a).yld i H x H' → g x σ H' fun σ2 H2 => tb { D with nx := N, ct := N, bk := D.nx } σ2 H2) := by
  refine ⟨fun i m σ H => m = xs.length - i ∧ i ≤ xs.length ∧ Pv i σ H, ⟨xs.length, by simp, Nat.zero_le _, h0⟩, ?_⟩
  rintro i m σ H ⟨rfl, hi, p⟩
  have q := hl i σ H hi p
  by_cases hlt : i < xs.length
  · refine .inr ⟨⟨xs, xs[i], q, by simp [hlt]⟩, Pv (i + 1), fun σ' H' p' => ⟨xs.length - (i + 1), by omega, rfl, hlt, p'⟩, fun x H' y => ?_⟩
    obtain ⟨e, y⟩ := y
    subst e
    exact hs i x σ _ (y xs q) p
  · have e : i = xs.length := by omega
    subst e
    exact .inl ⟨⟨xs, q, Nat.le_refl _⟩, hd σ H p⟩
end L2
namespace L2
open PySem PySem.Spec PyProof.Rows
abbrev R2 := V → V → Hp → VK → Prop
def OpR (X : Cx) (f : Value → Value → Sem Value) (r : R2) : Prop :=
  ∀ (pins : List (Addr × Obj)) (s : Shared) (σ : St) (H : Hp) (x y : V) (v u : Value) (Q : VK), Inv X pins σ H s → RelV x v → RelV y u → r x y H Q →
    wpAny (model X.prog X.w) X.A (f v u) (EP X pins σ Q) X.xe s
def CallR (X : Cx) (f : Value) (r : List V → Hp → VK → Prop) : Prop :=
  ∀ (pins : List (Addr × Obj)) (s : Shared) (σ : St) (H : Hp) (xs : List V) (us : List Value) (Q : VK), Inv X pins σ H s → Vals xs us → r xs H Q →
    wpAny (model X.prog X.w) X.A (call f us) (EP X pins σ Q) X.xe s
def tOp (r : R2) (ta tb : TE) : TE := fun σ H Q => ta σ H fun x H1 => tb σ H1 fun y H2 => r x y H2 Q
def rI (C : Int → Int → Prop) (g : Int → Int → V) : R2 := fun x y H Q => ∃ i j, x = .int i ∧ y = .int j ∧ C i j ∧ Q (g i j) H
def rI0 (g : Int → Int → V) : R2 := fun x y H Q => ∃ i j, x = .int i ∧ y = .int j ∧ Q (g i j) H
section
variable {X : Cx} {a b c : Expr} {ta tb tc : TE} {pos : Pos}
theorem binT (ha : PE X a ta) (hb : PE X b tb) {pins : List (Addr × Obj)} {s : Shared} {σ : St} {H : Hp} {R : V → V → Hp → Prop} (I : Inv X pins σ H s)
    (h : ta σ H fun x H1 => tb σ H1 fun y H2 => R x y H2) {Q : Value → Shared → Prop} {f : Value → Value → Sem Value}
    (hf : ∀ v u s2 x y H2, Inv X pins σ H2 s2 → RelV x v → RelV y u → R x y H2 → wpAny (model X.prog X.w) X.A (f v u) Q X.xe s2) :
    wpAny (model X.prog X.w) X.A (eval a X.env) (fun v s₁ => wpAny (model X.prog X.w) X.A (eval b X.env) (fun u s₂ => wpAny (model X.prog X.w) X.A (f v u) Q X.xe s₂) X.xe s₁) X.xe s := by
  refine thn (ha pins s σ H _ I h) fun v s1 ⟨x, H1, I1, r1, q1⟩ => ?_
  refine thn (hb pins s1 σ H1 _ I1 q1) fun u s2 ⟨y, H2, I2, r2, q2⟩ => ?_
  exact hf v u s2 x y H2 I2 r1 r2 q2
theorem pe_op {op : Operator} {r : R2} (ho : OpR X (binaryOp op) r) (ha : PE X a ta) (hb : PE X b tb) : PE X (.BinOp a op b pos) (tOp r ta tb) := by
  intro pins s σ H Q I h
  exact wpAny_BinOp (binT ha hb I h fun v u s2 x y H2 I2 rx ry q => ho pins s2 σ H2 x y v u Q I2 rx ry q)
theorem opI {f : Value → Value → Sem Value} {C : Int → Int → Prop} {g : Int → Int → Int}
    (rule : ∀ (i j : Int) (t u : Tok) (s : Shared) (Q : Value → Shared → Prop) (E : Value → Shared → Prop), C i j → Q (.int (g i j) s.toks) { s with toks := s.toks + 1 } → wpAny (model X.prog X.w) X.A (f (.int i t) (.int j u)) Q E s) :
    OpR X f (rI C fun i j => .int (g i j)) := by
  intro pins s σ H x y v u Q I rx ry h
  obtain ⟨i, j, rfl, rfl, hc, q⟩ := h
  obtain ⟨t, rfl⟩ := rx
  obtain ⟨t', rfl⟩ := ry
  exact rule i j t t' s _ _ hc ⟨.int (g i j), H, I.tok _, ⟨_, rfl⟩, q⟩
theorem opI0 {f : Value → Value → Sem Value} {g : Int → Int → Int}
    (rule : ∀ (i j : Int) (t u : Tok) (s : Shared) (Q : Value → Shared → Prop) (E : Value → Shared → Prop), Q (.int (g i j) s.toks) { s with toks := s.toks + 1 } → wpAny (model X.prog X.w) X.A (f (.int i t) (.int j u)) Q E s) :
    OpR X f (rI0 fun i j => .int (g i j)) := by
  intro pins s σ H x y v u Q I rx ry h
  obtain ⟨i, j, rfl, rfl, q⟩ := h
  obtain ⟨t, rfl⟩ := rx
  obtain ⟨t', rfl⟩ := ry
  exact rule i j t t' s _ _ ⟨.int (g i j), H, I.tok _, ⟨_, rfl⟩, q⟩
theorem opB0 {f : Value → Value → Sem Value} {g : Int → Int → Bool}
    (rule : ∀ (i j : Int) (t u : Tok) (s : Shared) (Q : Value → Shared → Prop) (E : Value → Shared → Prop), Q (.bool (g i j)) s → wpAny (model X.prog X.w) X.A (f (.int i t) (.int j u)) Q E s) :
    OpR X f (rI0 fun i j => .bl (g i j)) := by
  intro pins s σ H x y v u Q I rx ry h
  obtain ⟨i, j, rfl, rfl, q⟩ := h
  obtain ⟨t, rfl⟩ := rx
  obtain ⟨t', rfl⟩ := ry
  exact rule i j t t' s _ _ ⟨.bl (g i j), H, I, rfl, q⟩
def CMul (i j : Int) : Prop := (-(2 ^ 64) < i ∧ i < 2 ^ 64) ∨ (-(2 ^ 64) < j ∧ j < 2 ^ 64)
theorem CMul.ok {i j : Int} (h : CMul i j) : IntMulOk i j := by
  rcases h with ⟨h1, h2⟩ | ⟨h1, h2⟩
  · exact .of_left (intBits_le_64 h1 h2)
  · exact .of_right (intBits_le_64 h1 h2)
theorem two_pow_nn (k : Nat) : (0 : Int) ≤ 2 ^ k := by
  rw [two_pow_cast]
  exact Int.natCast_nonneg _
theorem op_add : OpR X (binaryOp .Add) (rI0 fun i j => .int (i + j)) := opI0 fun _ _ _ _ _ _ _ q => add_int q
theorem op_sub : OpR X (binaryOp .Sub) (rI0 fun i j => .int (i - j)) := opI0 fun _ _ _ _ _ _ _ q => sub_int q
theorem op_mul : OpR X (binaryOp .Mult) (rI CMul fun i j => .int (i * j)) := opI fun _ _ _ _ _ _ _ hc q => mul_int q hc.ok
theorem op_shr : OpR X (binaryOp .RShift) (rI (fun _ j => 0 ≤ j) fun i j => .int (i / 2 ^ j.toNat)) := opI fun i j _ _ _ _ _ hc q =>
  rshift_int hc (by rw [Int.fdiv_eq_ediv_of_nonneg i (two_pow_nn _)]; exact q)
theorem op_and : OpR X (binaryOp .BitAnd) (rI0 fun i j => .int (Builtin.bitAnd i j)) := opI0 fun _ _ _ _ _ _ _ q => and_int q
end
def scal : V → V → Bool
  | .non, .non => true | .non, .int _ => true | .int _, .non => true | .non, .bl _ => true | .bl _, .non => true | .non, .str _ => true | .str _, .non => true
  | .int _, .int _ => true | .bl _, .bl _ => true | .str _, .str _ => true | .byt _, .byt _ => true
  | .int _, .str _ => true | .str _, .int _ => true | .bl _, .str _ => true | .str _, .bl _ => true
  | _, _ => false
def rEq : R2 := fun x y H Q => scal x y = true ∧ Q (.bl (decide (x = y))) H
def rNe : R2 := fun x y H Q => scal x y = true ∧ Q (.bl (!decide (x = y))) H
theorem dec_int {i j : Int} : decide (V.int i = V.int j) = (i == j) := by
  rw [Bool.eq_iff_iff]
  simp
theorem dec_bl {i j : Bool} : decide (V.bl i = V.bl j) = (i == j) := by
  rw [Bool.eq_iff_iff]
  simp
theorem dec_str {i j : Str} : decide (V.str i = V.str j) = (i == j) := by
  rw [Bool.eq_iff_iff]
  simp
theorem dec_byt {i j : Array UInt8} : decide (V.byt i = V.byt j) = (i.toList == j.toList) := by
  rw [Bool.eq_iff_iff]
  cases i
  cases j
  simp
section
variable {X : Cx} {a b c : Expr} {ta tb tc : TE} {pos : Pos}
theorem fin_bl {pins : List (Addr × Obj)} {σ : St} {H : Hp} {s : Shared} {Q : VK} {k k' : Bool} (I : Inv X pins σ H s) (q : Q (.bl k) H) (e : k = k') : EP X pins σ Q (.bool k') s := by
  subst e
  exact ⟨.bl k, H, I, rfl, q⟩
theorem op_eq : OpR X (compareOp .Eq) rEq := by
  intro pins s σ H x y v u Q I rx ry h
  obtain ⟨hs, q⟩ := h
  cases x with
  | non =>
    cases rx
    cases y with
    | non => cases ry; exact PySem.EqNone.eq_none_none (fin_bl I q (by simp))
    | bl j => cases ry; exact PySem.EqNone.eq_none_bool (fin_bl I q (by simp))
    | int j => obtain ⟨t', rfl⟩ := ry; exact PySem.EqNone.eq_none_int (fin_bl I q (by simp))
    | str j => obtain ⟨t', rfl⟩ := ry; exact PySem.EqNone.eq_none_str (fin_bl I q (by simp))
    | _ => exact absurd (show false = true from hs) Bool.false_ne_true
  | bl i =>
    cases rx
    cases y with
    | non => cases ry; exact PySem.EqNone.eq_bool_none (fin_bl I q (by simp))
    | bl j => cases ry; exact eq_bool (fin_bl I q dec_bl)
    | str j => obtain ⟨t', rfl⟩ := ry; exact PySem.EqMixed.eq_bool_str (fin_bl I q (by simp))
    | _ => exact absurd (show false = true from hs) Bool.false_ne_true
  | int i =>
    obtain ⟨t, rfl⟩ := rx
    cases y with
    | non => cases ry; exact PySem.EqNone.eq_int_none (fin_bl I q (by simp))
    | int j => obtain ⟨t', rfl⟩ := ry; exact eq_int (fin_bl I q dec_int)
    | str j => obtain ⟨t', rfl⟩ := ry; exact PySem.EqMixed.eq_int_str (fin_bl I q (by simp))
    | _ => exact absurd (show false = true from hs) Bool.false_ne_true
  | str i =>
    obtain ⟨t, rfl⟩ := rx
    cases y with
    | non => cases ry; exact PySem.EqNone.eq_str_none (fin_bl I q (by simp))
    | bl j => cases ry; exact PySem.EqMixed.eq_str_bool (fin_bl I q (by simp))
    | int j => obtain ⟨t', rfl⟩ := ry; exact PySem.EqMixed.eq_str_int (fin_bl I q (by simp))
    | str j => obtain ⟨t', rfl⟩ := ry; exact eq_str (fin_bl I q dec_str)
    | _ => exact absurd (show false = true from hs) Bool.false_ne_true
  | byt i =>
    obtain ⟨t, rfl⟩ := rx
    cases y with
    | byt j => obtain ⟨t', rfl⟩ := ry; exact PySem.W.eq_bytes (fin_bl I q dec_byt)
    | _ => exact absurd (show false = true from hs) Bool.false_ne_true
  | _ => cases y <;> exact absurd (show false = true from hs) Bool.false_ne_true
theorem op_ne : OpR X (compareOp .NotEq) rNe := by
  intro pins s σ H x y v u Q I rx ry h
  obtain ⟨hs, q⟩ := h
  cases x with
  | non =>
    cases rx
    cases y with
    | non => cases ry; exact PySem.EqNone.ne_none_none (fin_bl I q (by simp))
    | bl j => cases ry; exact PySem.EqNone.ne_none_bool (fin_bl I q (by simp))
    | int j => obtain ⟨t', rfl⟩ := ry; exact PySem.EqNone.ne_none_int (fin_bl I q (by simp))
    | str j => obtain ⟨t', rfl⟩ := ry; exact PySem.EqNone.ne_none_str (fin_bl I q (by simp))
    | _ => exact absurd (show false = true from hs) Bool.false_ne_true
  | bl i =>
    cases rx
    cases y with
    | non => cases ry; exact PySem.EqNone.ne_bool_none (fin_bl I q (by simp))
    | bl j => cases ry; exact ne_bool (fin_bl I q (congrArg not dec_bl))
    | str j => obtain ⟨t', rfl⟩ := ry; exact PySem.EqMixed.ne_bool_str (fin_bl I q (by simp))
    | _ => exact absurd (show false = true from hs) Bool.false_ne_true
  | int i =>
    obtain ⟨t, rfl⟩ := rx
    cases y with
    | non => cases ry; exact PySem.EqNone.ne_int_none (fin_bl I q (by simp))
    | int j => obtain ⟨t', rfl⟩ := ry; exact ne_int (fin_bl I q (congrArg not dec_int))
    | str j => obtain ⟨t', rfl⟩ := ry; exact PySem.EqMixed.ne_int_str (fin_bl I q (by simp))
    | _ => exact absurd (show false = true from hs) Bool.false_ne_true
  | str i =>
    obtain ⟨t, rfl⟩ := rx
    cases y with
    | non => cases ry; exact PySem.EqNone.ne_str_none (fin_bl I q (by simp))
    | bl j => cases ry; exact PySem.EqMixed.ne_str_bool (fin_bl I q (by simp))
    | int j => obtain ⟨t', rfl⟩ := ry; exact PySem.EqMixed.ne_str_int (fin_bl I q (by simp))
    | str j => obtain ⟨t', rfl⟩ := ry; exact ne_str (fin_bl I q (congrArg not dec_str))
    | _ => exact absurd (show false = true from hs) Bool.false_ne_true
  | byt i =>
    obtain ⟨t, rfl⟩ := rx
    cases y with
    | byt j => obtain ⟨t', rfl⟩ := ry; exact PySem.W.ne_bytes (fin_bl I q (congrArg not dec_byt))
    | _ => exact absurd (show false = true from hs) Bool.false_ne_true
  | _ => cases y <;> exact absurd (show false = true from hs) Bool.false_ne_true
theorem op_lt : OpR X (compareOp .Lt) (rI0 fun i j => .bl (decide (i < j))) := opB0 fun _ _ _ _ _ _ _ q => lt_int q
theorem op_le : OpR X (compareOp .LtE) (rI0 fun i j => .bl (decide (i ≤ j))) := opB0 fun _ _ _ _ _ _ _ q => le_int q
theorem op_gt : OpR X (compareOp .Gt) (rI0 fun i j => .bl (decide (j < i))) := opB0 fun _ _ _ _ _ _ _ q => gt_int q
theorem nomark (b : Expr) {op : CmpOp} (h : op ≠ .In := by decide) (h2 : op ≠ .NotIn := by decide) : behindInMarks op b = false := by
  have e1 : (op == CmpOp.In) = false := by cases op <;> first | rfl | exact absurd rfl h
  have e2 : (op == CmpOp.NotIn) = false := by cases op <;> first | rfl | exact absurd rfl h2
  cases b <;> simp [behindInMarks, e1, e2]
theorem pe_cmpR {op : CmpOp} {r : R2} (ho : OpR X (compareOp op) r) (ha : PE X a ta) (hb : PE X b tb) (hm : behindInMarks op b = false) : PE X (.Compare a [op] [b] pos) (tOp r ta tb) := by
  intro pins s σ H Q I h
  exact wpAny_Compare1 (binT ha hb I h fun v u s2 x y H2 I2 rx ry q => ho pins s2 σ H2 x y v u Q I2 rx ry q) hm
def tTest (t : TE) : TT := fun σ H Q => t σ H fun x H' => ∃ k, x = .bl k ∧ Q k H'
theorem pt_cmpR {op : CmpOp} {r : R2} (ho : OpR X (compareOp op) r) (ha : PE X a ta) (hb : PE X b tb) (hm : behindInMarks op b = false) : PT X (.Compare a [op] [b] pos) (tTest (tOp r ta tb)) := by
  intro pins s σ H Q I h
  refine wpAny_isTrue_Compare1 (thn (ha pins s σ H _ I h) fun v s1 ⟨x, H1, I1, r1, q1⟩ => thn (hb pins s1 σ H1 _ I1 q1) fun u s2 ⟨y, H2, I2, r2, q2⟩ =>
    thn (ho pins s2 σ H2 x y v u _ I2 r1 r2 q2) fun c s3 ⟨z, H3, I3, r3, k, e, q3⟩ => ?_) hm
  subst e
  cases r3
  exact wpAny_truthy_bool ⟨H3, I3, q3⟩
theorem line63 : (sizeLine : Nat) < 2 ^ 63 := by rw [sizeLine_eq]; decide
theorem vals1 {x : V} {us : List Value} (r : Vals [x] us) : ∃ u, us = [u] ∧ RelV x u := by
  cases r with
  | cons r1 r2 => cases r2; exact ⟨_, rfl, r1⟩
end
end L2
namespace L2
open PySem PySem.Spec PyProof.Rows
structure ObjM (h : Heap) (x dx C : Addr) (mA : Str → Option Value) : Prop where
  obj : h.get? x = some (PySem.W.instObj C dx)
  ns : h.Ns1 dx mA
  ne : dx ≠ x
theorem lookIn_ns {h : Heap} {dx : Addr} {mA : Str → Option Value} (n : h.Ns1 dx mA) : ∃ od, h.get? dx = some od ∧ ∀ name, PySem.W.lookIn name od = some (mA name) := by
  obtain ⟨o, es, ep, ho, hd, hk, _, hm⟩ := n
  refine ⟨o, ho, fun name => ?_⟩
  have e := hm name
  unfold nsFind findBy at e
  rw [← Array.find?_toList] at e
  unfold PySem.W.lookIn
  rw [hd]
  dsimp only
  split
  · rename_i y q
    rw [q] at e
    exact congrArg some e
  · rename_i q
    rw [q] at e
    have a : es.toList.any (·.refKey) = false := by
      rw [List.any_eq_false]
      intro y hy
      obtain ⟨z, t, hkey⟩ := hk y (Array.mem_toList_iff.mp hy)
      simp [DictEntry.refKey, hkey]
    have a' : ¬ es.toList.any (·.refKey) = true := by rw [a]; exact Bool.false_ne_true
    rw [if_neg a']
    exact congrArg some e
theorem ObjM.look {h : Heap} {x dx C : Addr} {mA : Str → Option Value} (I : ObjM h x dx C mA) : ∃ od, PySem.W.InstAt h x (PySem.W.instObj C dx) C (some od) ∧ ∀ name, PySem.W.lookIn name od = some (mA name) :=
  let ⟨od, ho, hl⟩ := lookIn_ns I.ns
  ⟨od, ⟨I.obj, rfl, rfl, ho⟩, hl⟩
section
variable {prog : Program} {w : World} {A : Around} {E : Value → Shared → Prop} {s : Shared} {K : PySem.W.Frag} {x dx C f : Addr} {mA : Str → Option Value} {name : Str} {v : Value}
theorem get_map {expr : Bool} {Q : Value → Shared → Prop} (X : K.In s.heap) (I : ObjM s.heap x dx C mA) (hg : PySem.W.plainGet K C name = true) (hh : PySem.W.hasDictIn K C = true)
    (ha : PySem.W.findIn K (.ref C) name = some none) (hv : mA name = some v) (hv' : PySem.W.handedIn v = true) (h : Q v { s with toks := s.toks + 1 }) :
    wpAny (model prog w) A (getAttr (.ref x) name expr) Q E s := by
  obtain ⟨od, J, hl⟩ := I.look
  exact PySem.W.get_value X J (PySem.W.plainGet_of hg).1 (PySem.W.findObj_own hh ha rfl (by rw [hl, hv])) hv' h
theorem get_meth {pl : Sem Bool} {Q : Value × List Value → Shared → Prop} (X : K.In s.heap) (I : ObjM s.heap x dx C mA) (hg : PySem.W.plainGet K C name = true)
    (hf : PySem.W.findIn K (.ref C) name = some (some (.ref f))) (ht : PySem.W.isFn K (.ref f) = true) (hv : mA name = none) (h : Q (.ref f, [.ref x]) s) :
    wpAny (model prog w) A (getMethod (.ref x) name pl) Q E s := by
  obtain ⟨od, J, hl⟩ := I.look
  exact PySem.W.method_fn X J (PySem.W.plainGet_of hg).1 (PySem.W.plainGet_of hg).2 hf (beq_iff_eq.mp ht) (by show (PySem.W.lookIn name od).map (·.isSome) = some false; rw [hl, hv]; rfl) h
theorem set_map {ns : List Str} {Q : Unit → Shared → Prop} (X : K.In s.heap) (I : ObjM s.heap x dx C mA)
    (hs : PySem.W.findIn K (.ref C) "__setattr__" = some (some (.builtin "object.__setattr__"))) (hp : PySem.W.plainOver K C = true) (ht : PySem.W.takerIn K C name = some none) (hh : PySem.W.hasDictIn K C = true)
    (hw : PySem.Within mA ns) (hsz : ns.length ≤ sizeLine)
    (h : ∀ h', ObjM h' x dx C (fun y => if y = name then some v else mA y) → Heap.SameBut dx s.heap h' → Q () { s with heap := h', toks := s.toks + 2 }) :
    wpAny (model prog w) A (setAttr (.ref x) name v) Q E s := by
  obtain ⟨od, J, hl⟩ := I.look
  refine PySem.W.set_plain X J hs (PySem.W.osa_open (s := { s with toks := s.toks + 1 }) (r := none) X J hp ht fun b => ?_)
  obtain ⟨cd, hc, hd'⟩ := PySem.W.any_some hh
  have hx : s.heap.get? x = some ⟨.ref C, some dx, .plain, #[]⟩ := I.obj
  refine wpAny_bind (wpAny_pure (wpAny_bind (wpAny_bind (wpAny_loadPart hx (wpAny_bind (PySem.W.Looks.here (s := { s with toks := s.toks + 1 }) (PySem.W.looks_clsIn X hc) ?_))))))
  rw [hd']
  refine wpAny_pure (a := some dx) (wpAny_bind (wpAny_pure (wpAny_bind ?_)))
  refine wpAny_nsSet1 (s := { s with toks := s.toks + 1 }) I.ns fun h' hn2 hs2 => ?_
  obtain ⟨oD, esD, epD, hoD, hdD, hcD⟩ := hn2.count (PySem.Within.cons name v hw)
  refine wpAny_bind (wpAny_lookBehind hoD (by rw [hdD]; exact pastItsLine_dict (Nat.le_trans hcD (by rw [List.length_cons]; omega))) ?_)
  exact wpAny_pure (h _ ⟨(hs2.2 _ (Ne.symm I.ne)).trans I.obj, hn2, I.ne⟩ hs2)
theorem make_map {R : Result → Shared → Prop} {vs : List Value} {kw : List (Str × Value)} (X : K.In s.heap) (hm : PySem.W.makesIn K C = true)
    (hi : PySem.W.findIn K (.ref C) "__init__" = some (some (.ref f))) (hf : PySem.W.typeIn K (.ref f) = some (.type "function"))
    (h : codeAny (model prog w) (A.under (.builtin "type.__call__" ⟨.ref C :: vs, kw⟩)) (.call (.ref f) ⟨.ref (s.heap.objs.size + 1) :: vs, kw⟩) (PySem.W.InitBack (s.heap.objs.size + 1) R)
      { s with heap := (s.heap.push PySem.W.emptyDict).push (PySem.W.instObj C s.heap.objs.size) }) :
    codeAny (model prog w) A (.call (.ref C) ⟨vs, kw⟩) R s := by
  obtain ⟨hh, g, d, t, os⟩ := s
  exact PySem.W.make_core (PySem.W.makes_of X hm) (PySem.W.looks_findIn X hi) (fun self => PySem.W.bind_fn X self hf) (.inl rfl) h
end
def putF (f : Str) (v : V) : List (Str × V) → List (Str × V)
  | [] => [(f, v)]
  | (g, x) :: r => if g = f then (g, v) :: r else (g, x) :: putF f v r
theorem lookup_putF (f g : Str) (v : V) : ∀ fs : List (Str × V), (putF f v fs).lookup g = if g = f then some v else fs.lookup g
  | [] => by
    show List.lookup g [(f, v)] = _
    by_cases h : g = f
    · have hb : (g == f) = true := beq_iff_eq.mpr h
      simp only [List.lookup, hb, if_pos h]
    · have hb : (g == f) = false := beq_eq_false_iff_ne.mpr h
      simp only [List.lookup, hb, if_neg h]
  | (k, x) :: r => by
    have ih := lookup_putF f g v r
    rw [show putF f v ((k, x) :: r) = (if k = f then (k, v) :: r else (k, x) :: putF f v r) from rfl]
    by_cases hk : k = f
    · rw [if_pos hk]
      by_cases h : g = k
      · have hb : (g == k) = true := beq_iff_eq.mpr h
        simp only [List.lookup, hb, if_pos (h.trans hk)]
      · have hb : (g == k) = false := beq_eq_false_iff_ne.mpr h
        simp only [List.lookup, hb, if_neg (fun e : g = f => h (e.trans hk.symm))]
    · rw [if_neg hk]
      by_cases h : g = k
      · have hb : (g == k) = true := beq_iff_eq.mpr h
        simp only [List.lookup, hb, if_neg (fun e : g = f => hk (h.symm.trans e))]
      · have hb : (g == k) = false := beq_eq_false_iff_ne.mpr h
        simp only [List.lookup, hb]
        exact ih
theorem keys_putF (f : Str) (v : V) : ∀ fs : List (Str × V), f ∈ (putF f v fs).map (·.1) ∧ ∀ g, g ∈ fs.map (·.1) → g ∈ (putF f v fs).map (·.1)
  | [] => ⟨by simp [putF], fun g h => by simp at h⟩
  | (k, x) :: r => by
    obtain ⟨i1, i2⟩ := keys_putF f v r
    rw [show putF f v ((k, x) :: r) = (if k = f then (k, v) :: r else (k, x) :: putF f v r) from rfl]
    by_cases hk : k = f
    · rw [if_pos hk]
      subst hk
      exact ⟨by simp, fun g h => by simpa using h⟩
    · rw [if_neg hk]
      refine ⟨?_, fun g h => ?_⟩
      · rw [List.map_cons]
        exact List.mem_cons_of_mem _ i1
      · rw [List.map_cons] at h ⊢
        rcases List.mem_cons.mp h with e | e
        · exact List.mem_cons.mpr (.inl e)
        · exact List.mem_cons_of_mem _ (i2 g e)
theorem length_putF (f : Str) (v : V) : ∀ fs : List (Str × V), (putF f v fs).length ≤ fs.length + 1
  | [] => by simp [putF]
  | (k, x) :: r => by
    have ih := length_putF f v r
    rw [show putF f v ((k, x) :: r) = (if k = f then (k, v) :: r else (k, x) :: putF f v r) from rfl]
    by_cases hk : k = f
    · rw [if_pos hk, List.length_cons, List.length_cons]; omega
    · rw [if_neg hk, List.length_cons, List.length_cons]; omega
theorem RelO.some_of {v : V} {o : Option Value} (r : RelO (some v) o) : ∃ u, o = some u ∧ RelV v u := by
  cases o with
  | none => exact (show False from r).elim
  | some u => exact ⟨u, rfl, r⟩
theorem RelO.none_of {o : Option Value} (r : RelO none o) : o = none := by
  cases o with
  | none => rfl
  | some u => exact (show False from r).elim
theorem handed_of {v : V} {u : Value} (r : RelV v u) : PySem.W.handedIn u = true := by
  cases v with
  | non => cases (show u = Value.none from r); rfl
  | bl b => cases (show u = Value.bool b from r); rfl
  | int i => obtain ⟨t, e⟩ := (show ∃ t, u = Value.int i t from r); cases e; rfl
  | str x => obtain ⟨t, e⟩ := (show ∃ t, u = Value.str x t from r); cases e; rfl
  | byt b => obtain ⟨t, e⟩ := (show ∃ t, u = Value.bytes b t from r); cases e; rfl
  | flt b => obtain ⟨t, e⟩ := (show ∃ t, u = Value.float b t from r); cases e; rfl
  | ref a => cases (show u = Value.ref a from r); rfl
  | ty n => cases (show u = Value.type n from r); rfl
section
variable {P : Program} {w : World} {H H' : Hp} {h h' : Heap} {a C dx : Addr} {fs fs' : List (Str × V)}
theorem ins_get (hok : HOk P w H h) (e : H a = some (.ins C dx fs)) : ∃ mA, ObjM h a dx C mA ∧ (∀ f, RelO (fs.lookup f) (mA f)) ∧ PySem.Within mA (fs.map (·.1)) ∧ fs.length ≤ 1000 ∧ H dx = some (.own a) := by
  obtain ⟨d, z, ne, ob, mA, n, r, q⟩ := (show ObjOk P w H h a (.ins C dx fs) from hok a _ e)
  exact ⟨mA, ⟨ob, n, ne⟩, r, q, z, d⟩
end
structure Cls (K : PySem.W.Frag) (C : Addr) : Prop where
  pg : PySem.W.plainGet K C Str.empty = true
  hd : PySem.W.hasDictIn K C = true
  po : PySem.W.plainOver K C = true
  sa : PySem.W.findIn K (.ref C) "__setattr__" = some (some (.builtin "object.__setattr__"))
theorem Cls.get {K : PySem.W.Frag} {C : Addr} (c : Cls K C) (f : Str) : PySem.W.plainGet K C f = true := c.pg
def NoAttr (K : PySem.W.Frag) (C : Addr) (f : Str) : Prop := PySem.W.findIn K (.ref C) f = some none
theorem NoAttr.taker {K : PySem.W.Frag} {C : Addr} {f : Str} (n : NoAttr K C f) : PySem.W.takerIn K C f = some none := by
  unfold PySem.W.takerIn
  rw [show PySem.W.findIn K (.ref C) f = some none from n]
  rfl
structure Meth (K : PySem.W.Frag) (C : Addr) (m : Str) (f : Addr) : Prop where
  at_ : PySem.W.findIn K (.ref C) m = some (some (.ref f))
  fn : PySem.W.isFn K (.ref f) = true
  kp : PySem.W.keepIn K (.ref f) = true
section
variable {X : Cx} {pins : List (Addr × Obj)} {σ : St} {H : Hp} {s : Shared} {a C dx : Addr} {fs : List (Str × V)} {f : Str} {v : V} {A : Around} {E : Value → Shared → Prop}
theorem getattr_ok {b : Bool} {Q : Value → Shared → Prop} (I : Inv X pins σ H s) (e : H a = some (.ins C dx fs)) (c : Cls X.K C) (n : NoAttr X.K C f) (l : fs.lookup f = some v)
    (h : ∀ u s', Inv X pins σ H s' → RelV v u → Q u s') : wpAny (model X.prog X.w) A (getAttr (.ref a) f b) Q E s := by
  obtain ⟨mA, O, r, _, _, _⟩ := ins_get I.hok e
  obtain ⟨u, hu, ru⟩ := RelO.some_of (v := v) (o := mA f) (by rw [← l]; exact r f)
  exact get_map I.kIn O (c.get f) c.hd n hu (handed_of ru) (h u _ (I.tok _) ru)
theorem getmeth_ok {m : Str} {g : Addr} {pl : Sem Bool} {Q : Value × List Value → Shared → Prop} (I : Inv X pins σ H s) (e : H a = some (.ins C dx fs)) (c : Cls X.K C) (k : Meth X.K C m g) (l : fs.lookup m = none)
    (h : Q (.ref g, [.ref a]) s) : wpAny (model X.prog X.w) A (getMethod (.ref a) m pl) Q E s := by
  obtain ⟨mA, O, r, _, _, _⟩ := ins_get I.hok e
  have hn : mA m = none := RelO.none_of (by rw [← l]; exact r m)
  exact get_meth I.kIn O (c.get m) k.at_ k.fn hn h
theorem setattr_ok {y : V} {u : Value} {Q : Unit → Shared → Prop} (I : Inv X pins σ H s) (e : H a = some (.ins C dx fs)) (c : Cls X.K C) (n : NoAttr X.K C f) (hl : fs.length < 1000) (ry : RelV y u)
    (h : ∀ s', Inv X pins σ (upd H a (.ins C dx (putF f y fs))) s' → Q () s') : wpAny (model X.prog X.w) A (setAttr (.ref a) f u) Q E s := by
  obtain ⟨mA, O, r, wi, _, ho⟩ := ins_get I.hok e
  have hz : (fs.map (·.1)).length ≤ sizeLine := by rw [List.length_map, sizeLine_eq]; omega
  refine set_map I.kIn O c.sa c.po n.taker c.hd wi hz fun h' O' sb => h _ ?_
  have hd : ∃ o, h'.get? dx = some o := let ⟨o, _, _, e', _⟩ := O'.ns; ⟨o, e'⟩
  refine I.write (x := a) (e := dx) (by rw [e]; exact True.intro) (.inr ho) (fun b q hb z => (sb.2 b hb).trans z) hd ?_
  refine ⟨by rw [upd_ne O.ne]; exact ho, ?_, O.ne, O'.obj, _, O'.ns, fun g => ?_, fun g hg => ?_⟩
  · have := length_putF f y fs; omega
  · show RelO ((putF f y fs).lookup g) (if g = f then some u else mA g)
    rw [lookup_putF]
    by_cases q : g = f
    · rw [if_pos q, if_pos q]; exact ry
    · rw [if_neg q, if_neg q]; exact r g
  · by_cases q : g = f
    · rw [q]; exact (keys_putF f y fs).1
    · refine (keys_putF f y fs).2 g (wi g fun z => hg ?_)
      show (if g = f then some u else mA g) = none
      rw [if_neg q]; exact z
theorem Inv.made (I : Inv X pins σ H s) : Inv X pins σ (upd (upd H s.heap.objs.size (.own (s.heap.objs.size + 1))) (s.heap.objs.size + 1) (.ins C s.heap.objs.size []))
    { s with heap := (s.heap.push PySem.W.emptyDict).push (PySem.W.instObj C s.heap.objs.size) } := by
  have e1 : (s.heap.push PySem.W.emptyDict).get? s.heap.objs.size = some PySem.W.emptyDict := Heap.get?_push_size s.heap rfl
  have e2 : ((s.heap.push PySem.W.emptyDict).push (PySem.W.instObj C s.heap.objs.size)).get? (s.heap.objs.size + 1) = some (PySem.W.instObj C s.heap.objs.size) := by
    have := Heap.get?_push_size (s.heap.push PySem.W.emptyDict) (o := PySem.W.instObj C s.heap.objs.size) rfl
    rwa [Heap.size_push] at this
  have e3 : (s.heap.push PySem.W.emptyDict).Ns s.heap.objs.size (fun _ => none) := ⟨PySem.W.emptyDict, #[], _, e1, rfl, (fun e he => absurd he (by simp)), fun _ => rfl⟩
  have I1 := I.laid (a := s.heap.objs.size) (o := .own (s.heap.objs.size + 1)) (h' := s.heap.push PySem.W.emptyDict) (t' := s.toks) (fun b u q => Heap.get?_push_of_some _ q) (Nat.le_refl _) ⟨_, e1⟩
  refine I1.laid (a := s.heap.objs.size + 1) (o := .ins C s.heap.objs.size []) (t' := s.toks) (fun b u q => Heap.get?_push_of_some _ q) (Nat.le_of_eq (Heap.size_push _ _)) ?_
  have ne : s.heap.objs.size ≠ s.heap.objs.size + 1 := Nat.ne_of_lt (Nat.lt_succ_self _)
  refine ⟨by rw [upd_ne ne, upd_same], Nat.zero_le _, ne, e2, fun _ => none, (Heap.Ns1.of_empty e3).at fun o q => Heap.get?_push_of_some _ q, fun _ => True.intro, fun y hy => absurd rfl hy⟩
theorem attr_of {prog : Program} {w : World} {env : Env} {e : Expr} {f : Str} {pos : Pos} {s : Shared} {Q : Value → Shared → Prop} (hb : attributeBase e f env (eval e env) = eval e env)
    (h : wpAny (model prog w) A (eval e env) (fun o s₁ => wpAny (model prog w) A (getAttr o f true) Q E s₁) E s) : wpAny (model prog w) A (eval (.Attribute e f pos) env) Q E s :=
  Attribute_any_ h (by rw [arm_eval_Attribute, hb])
end
def tFld (K : PySem.W.Frag) (ta : TE) (f : Str) : TE := fun σ H Q => ta σ H fun x H1 => ∃ a C dx fs v, x = .ref a ∧ H1 a = some (.ins C dx fs) ∧ Cls K C ∧ NoAttr K C f ∧ fs.lookup f = some v ∧ Q v H1
def sFld (K : PySem.W.Frag) (ta tv : TE) (f : Str) : TS := fun D σ H => tv σ H fun y H1 => ta σ H1 fun x H2 => ∃ a C dx fs, x = .ref a ∧ H2 a = some (.ins C dx fs) ∧ Cls K C ∧ NoAttr K C f ∧ fs.length < 1000 ∧
  D.nx σ (upd H2 a (.ins C dx (putF f y fs)))
def InOp (X : Cx) (op : Operator) (rd : V → V → Hp → VK → Prop) : Prop :=
  ∀ (pins : List (Addr × Obj)) (s : Shared) (σ : St) (H : Hp) (x y : V) (u v : Value) (Q : VK), Inv X pins σ H s → RelV x u → RelV y v → rd x y H Q → wpAny (model X.prog X.w) X.A (inplaceOp op u v) (EP X pins σ Q) X.xe s
def sFldAug (K : PySem.W.Frag) (ta tv : TE) (rd : V → V → Hp → VK → Prop) (f : Str) : TS := fun D σ H => ta σ H fun x H1 => ∃ a C dx fs v, x = .ref a ∧ H1 a = some (.ins C dx fs) ∧ Cls K C ∧ NoAttr K C f ∧ fs.lookup f = some v ∧
  tv σ H1 fun y H2 => rd v y H2 fun z H3 => ∃ dx' fs', H3 a = some (.ins C dx' fs') ∧ fs'.length < 1000 ∧ D.nx σ (upd H3 a (.ins C dx' (putF f z fs')))
section
variable {X : Cx} {o e value : Expr} {f : Str} {pos pos' tpos : Pos} {ta tv : TE}
theorem pe_fld (he : PE X e ta) (hb : attributeBase e f X.env (eval e X.env) = eval e X.env) : PE X (.Attribute e f pos) (tFld X.K ta f) := by
  intro pins s σ H Q I h
  refine attr_of hb (thn (he pins s σ H _ I h) fun u s1 ⟨x, H1, I1, rx, a, C, dx, fs, v, ex, ea, c, n, l, q⟩ => ?_)
  subst ex
  obtain rfl : u = Value.ref a := rx
  exact getattr_ok I1 ea c n l fun u' s2 I2 ru => ⟨v, H1, I2, ru, q⟩
theorem ps_fld (ha : PE X o ta) (hv : PE X value tv) (hs : swapsWith value (some (.Attribute o f pos')) pos.line X.env = pure false) : PS X (.Assign [.Attribute o f pos'] value pos) (sFld X.K ta tv f) := by
  intro pins s σ H D I h
  refine plainObj_wpAny_Assign_Attribute (thn (hv pins s σ H _ I h) fun u s1 ⟨y, H1, I1, ry, q⟩ => thn (ha pins s1 σ H1 _ I1 q) fun ov s2 ⟨x, H2, I2, rx, a, C, dx, fs, ex, ea, c, n, l, q2⟩ => ?_) hs
  subst ex
  obtain rfl : ov = Value.ref a := rx
  exact setattr_ok I2 ea c n l ry fun s3 I3 => ⟨σ, _, I3, q2⟩
theorem ps_fldaug {op : Operator} {rd : V → V → Hp → VK → Prop} (ha : PE X o ta) (hv : PE X value tv) (hop : InOp X op rd) : PS X (.AugAssign (.Attribute o f tpos) op value pos) (sFldAug X.K ta tv rd f) := by
  intro pins s σ H D I h
  refine wpAny_AugAssign_AttributeAny (thn (ha pins s σ H _ I h) fun ov s1 ⟨x, H1, I1, rx, a, C, dx, fs, v, ex, ea, c, n, l, q⟩ => ?_)
  subst ex
  obtain rfl : ov = Value.ref a := rx
  refine getattr_ok I1 ea c n l fun u s2 I2 ru => thn (hv pins s2 σ H1 _ I2 q) fun w3 s3 ⟨y, H2, I3, ry, q3⟩ => thn (hop pins s3 σ H2 v y u w3 _ I3 ru ry q3) fun w4 s4 ⟨z, H3, I4, rz, dx', fs', ea', l', q4⟩ => ?_
  exact setattr_ok I4 ea' c n l' rz fun s5 I5 => ⟨σ, _, I5, q4⟩
def rAdd : V → V → Hp → VK → Prop := fun x y H Q => ∃ i j, x = .int i ∧ y = .int j ∧ Q (.int (i + j)) H
theorem in_add : InOp X .Add rAdd := by
  rintro pins s σ H x y u v Q I rx ry ⟨i, j, rfl, rfl, q⟩
  obtain ⟨t, rfl⟩ := (show ∃ t, u = Value.int i t from rx)
  obtain ⟨t', rfl⟩ := (show ∃ t', v = Value.int j t' from ry)
  exact PyProof.Rows.iadd_int ⟨.int (i + j), H, I.tok _, ⟨_, rfl⟩, q⟩
end
end L2
namespace L2
open PySem PySem.Spec PyProof.Rows
structure Room (k : Nat) (A : Around) : Prop where
  hd : A.handled = none
  dp : A.depth + 3 * k + 5 < recursionLimit
  un : A.units + 16 * k + 200 < cLine
theorem Room.mono {j k : Nat} {A : Around} (r : Room k A) (h : j ≤ k) : Room j A := ⟨r.hd, by have := r.dp; omega, by have := r.un; omega⟩
theorem Room.deeper {k : Nat} {A : Around} (r : Room (k + 1) A) (env : Env) : Room k (A.deeper env) :=
  ⟨r.hd, by have := r.dp; show A.depth + 1 + 3 * k + 5 < _; omega, by have := r.un; show A.units + 3 + 16 * k + 200 < _; omega⟩
theorem Room.in1 {k : Nat} {A : Around} (r : Room (k + 1) A) : Room k A.in1 :=
  ⟨r.hd, by have := r.dp; show A.depth + 3 * k + 5 < _; omega, by have := r.un; show A.units + 1 + 16 * k + 200 < _; omega⟩
theorem make_depth {A : Around} {C : Addr} {us : List Value} {kw : List (Str × Value)} : (A.under (.builtin "type.__call__" ⟨.ref C :: us, kw⟩)).depth = A.depth + 1 := by
  first | rfl | simp [Around.under, Code.weight, Code.isCreation, Code.isGuard, Code.isCaller, Code.frames, Code.isFrame, guardIds]
theorem make_units {A : Around} {C : Addr} {us : List Value} {kw : List (Str × Value)} : (A.under (.builtin "type.__call__" ⟨.ref C :: us, kw⟩)).units = A.units + 1 := by
  first | rfl | simp [Around.under, Code.cUnits, Code.frames, Code.isFrame]
theorem Room.make {k : Nat} {A : Around} (r : Room (k + 1) A) (C : Addr) (us : List Value) (kw : List (Str × Value)) : Room k (A.under (.builtin "type.__call__" ⟨.ref C :: us, kw⟩)) :=
  ⟨r.hd, by have := r.dp; rw [make_depth]; omega, by have := r.un; rw [make_units]; omega⟩
theorem Room.depth {k : Nat} {A : Around} (r : Room k A) : A.depth < recursionLimit := by have := r.dp; omega
theorem Room.units {k : Nat} {A : Around} (r : Room k A) : A.units + 64 < cLine := by have := r.un; omega
theorem Room.units0 {k : Nat} {A : Around} (r : Room k A) : A.units < cLine := by have := r.un; omega
def tNil : TA := fun _ H Q => Q [] H
def tCons (ta : TE) (tr : TA) : TA := fun σ H Q => ta σ H fun x H1 => tr σ H1 fun xs H2 => Q (x :: xs) H2
section
variable {X : Cx} {e : Expr} {es : List Expr} {te : TE} {t : TA} {pos : Pos}
theorem pa_nil : PA X [] tNil := fun _ _ _ _ H Q I h => Calls.spliced_nil ⟨[], H, I, .nil, h⟩
theorem pa_cons (ha : PE X e te) (hr : PA X es t) (hs : starEach (e :: es) X.env = (false, eval e X.env) :: starEach es X.env := by rfl) : PA X (e :: es) (tCons te t) := by
  intro pos pins s σ H Q I h
  rw [hs]
  show wpAny _ _ (spliced ((false, eval e X.env) :: backTo pos (starEach es X.env))) _ _ s
  refine Calls.spliced_cons (thn (ha pins s σ H _ I h) fun u s1 ⟨x, H1, I1, r1, q1⟩ => ?_)
  exact thn (hr pos pins s1 σ H1 _ I1 q1) fun us s2 ⟨xs, H2, I2, r2, q2⟩ => ⟨x :: xs, H2, I2, .cons r1 r2, q2⟩
def tTup (t : TA) : TE := fun σ H Q => t σ H fun xs H1 => xs.length ≤ sizeLine ∧ ∀ p, H1 p = none → Q (.ref p) (upd H1 p (.tup xs))
def tLst (t : TA) : TE := fun σ H Q => t σ H fun xs H1 => xs.length ≤ sizeLine ∧ ∀ p, H1 p = none → Q (.ref p) (upd H1 p (.lst xs))
theorem pe_tup {x1} (h : PA X es t) : PE X (.Tuple es x1 pos) (tTup t) := by
  intro pins s σ H Q I hq
  refine wpAny_Tuple_spliced (thn (h pos pins s σ H _ I hq) fun us s1 ⟨xs, H1, I1, r, z, q⟩ => ⟨by rw [← r.length]; exact z, ?_⟩)
  have hf : H1 s1.heap.objs.size = none := I1.hok.fresh (Nat.le_refl _)
  refine ⟨.ref s1.heap.objs.size, upd H1 s1.heap.objs.size (.tup xs), I1.laid (t' := s1.toks) (fun b u e => Heap.get?_push_of_some _ e) (Nat.le_refl _) ?_, rfl, q _ hf⟩
  exact ⟨z, us, r, ⟨_, Heap.get?_push_size _ rfl, rfl, _, rfl⟩⟩
theorem pe_lst (h : PA X es t) : PE X (.List es pos) (tLst t) := by
  intro pins s σ H Q I hq
  refine wpAny_List_spliced (thn (h pos pins s σ H _ I hq) fun us s1 ⟨xs, H1, I1, r, z, q⟩ => ⟨by rw [← r.length]; exact z, ?_⟩)
  have hf : H1 s1.heap.objs.size = none := I1.hok.fresh (Nat.le_refl _)
  refine ⟨.ref s1.heap.objs.size, upd H1 s1.heap.objs.size (.lst xs), I1.laid (t' := s1.toks) (fun b u e => Heap.get?_push_of_some _ e) (Nat.le_refl _) ?_, rfl, q _ hf⟩
  exact ⟨z, us, 0, r, Heap.get?_push_size _ rfl⟩
end
abbrev Sp := List V → Hp → VK → XK → Prop
abbrev CXT := List Env → Hp → Shared → XK → Value → Shared → Prop
structure Env0 (P : Program) (w : World) (K : PySem.W.Frag) (mg : Str → Option Value) (base : Heap) (A : Around) (outer : List Env) (s : Shared) (H : Hp) : Prop where
  frames : A.frames = some outer
  mod : Mod K mg base
  bs : ∀ b o, base.get? b = some o → s.heap.get? b = some o ∧ H b = none
  bsz : base.objs.size ≤ s.heap.objs.size
  funs : s.heap.FunFrames base outer
  frf : ∀ b ∈ frs outer, H b = none
  hok : HOk P w H s.heap
  bare : AllBare s.gens
def CE (outer : List Env) (P : Program) (w : World) (H : Hp) (s : Shared) (Q : VK) (u : Value) (s' : Shared) : Prop :=
  ∃ v H', s'.os = s.os ∧ AllBare s'.gens ∧ Un (frs outer) [] H H' s.heap s'.heap ∧ HOk P w H' s'.heap ∧ RelV v u ∧ Q v H'
def CR (CX : CXT) (outer : List Env) (P : Program) (w : World) (H : Hp) (s : Shared) (Q : VK) (E : XK) (r : Result) (s' : Shared) : Prop :=
  match r with
  | .ok (.ret u) => CE outer P w H s Q u s'
  | .ok _ => False
  | .error e => CX outer H s E e s'
structure FnOk (P : Program) (w : World) (K : PySem.W.Frag) (mg : Str → Option Value) (base : Heap) (CX : CXT) (k : Nat) (f : Addr) (fd : FuncData) (ps : List Str) (sp : Sp) : Prop where
  len : ∀ vs H Q E, sp vs H Q E → vs.length = ps.length
  run : ∀ (A : Around) (outer : List Env) (s : Shared) (H : Hp) (args : Args) (us : List Value) (vs : List V) (Q : VK) (E : XK), Room k A → Env0 P w K mg base A outer s H → BindsTo s fd args (ps.zip us) → Vals vs us → sp vs H Q E →
    codeAny (model P w) A (.call (.ref f) args) (CR CX outer P w H s Q E) s
theorem Env0.make {P : Program} {w : World} {K : PySem.W.Frag} {mg : Str → Option Value} {base : Heap} {A : Around} {outer : List Env} {s : Shared} {H : Hp} (e : Env0 P w K mg base A outer s H) (C : Addr) (us : List Value) (kw : List (Str × Value)) :
    Env0 P w K mg base (A.under (.builtin "type.__call__" ⟨.ref C :: us, kw⟩)) outer s H := ⟨by first | exact e.frames | (simpa [Around.under, Code.envs, Code.isFrame, pushEnvs] using e.frames), e.mod, e.bs, e.bsz, e.funs, e.frf, e.hok, e.bare⟩
section
variable {X : Cx} {pins : List (Addr × Obj)} {σ : St} {H : Hp} {s s' : Shared}
theorem Inv.env0 (I : Inv X pins σ H s) : Env0 X.prog X.w X.K X.mg X.base X.A X.stack s H :=
  ⟨I.ok.frames, I.ok.mod, I.bs, Nat.le_trans I.ok.bsz I.sz, I.stack, I.stkFree, I.hok, I.bare⟩
theorem Inv.after {Q : VK} {u : Value} (I : Inv X pins σ H s) (h : CE X.stack X.prog X.w H s Q u s') : EP X pins σ Q u s' := by
  obtain ⟨v, H', os, bare, un, hok, r, q⟩ := h
  obtain ⟨hh, g, d, t, os'⟩ := s'
  obtain rfl : os' = s.os := os
  exact ⟨v, H', I.call (h' := hh) (g' := g) (d' := d) (t' := t) (ch := []) un hok bare (fun b z => absurd z (by simp)), r, q⟩
end
def tCall (sp : Sp) (dvs : List V) (E : XK) (t : TA) : TE := fun σ H Q => t σ H fun vs H1 => sp (vs ++ dvs) H1 Q E
def tMeth (C : Addr) (m : Str) (sp : Sp) (dvs : List V) (E : XK) (ta : TE) (t : TA) : TE := fun σ H Q => ta σ H fun x H1 => ∃ a dx fs, x = .ref a ∧ H1 a = some (.ins C dx fs) ∧ fs.lookup m = none ∧
  t σ H1 fun vs H2 => sp (x :: (vs ++ dvs)) H2 Q E
def tMake (C : Addr) (sp : Sp) (dvs : List V) (E : XK) (t : TA) : TE := fun σ H Q => t σ H fun vs H1 => ∀ x dx, H1 x = none → H1 dx = none → dx ≠ x →
  sp (.ref x :: (vs ++ dvs)) (upd (upd H1 dx (.own x)) x (.ins C dx [])) (fun v H2 => v = .non ∧ Q (.ref x) H2) E
def Binds (K : PySem.W.Frag) (fd : FuncData) (ps : List Str) (ds : List Value) : Prop :=
  ∀ (s : Shared) (us : List Value), K.In s.heap → (us ++ ds).length = ps.length → BindsTo s fd ⟨us, []⟩ (ps.zip (us ++ ds))
theorem Binds.all {K : PySem.W.Frag} {fd : FuncData} {ps : List Str} (h : ∀ us : List Value, us.length = ps.length → bindArgs fd ⟨us, []⟩ = pure (ps.zip us)) : Binds K fd ps [] := fun s us _ hl => by
  rw [List.append_nil] at hl ⊢
  exact .of_eq (h us hl)
def Passes (CX : CXT) (X : Cx) (E : XK) : Prop := ∀ (pins : List (Addr × Obj)) (σ : St) (H : Hp) (s : Shared) (e : Value) (s' : Shared), Inv X pins σ H s → CX X.stack H s E e s' → X.xe e s'
section
variable {X : Cx} {CX : CXT} {k : Nat} {f C : Addr} {fd : FuncData} {ps : List Str} {sp : Sp} {dvs : List V} {ds : List Value} {E : XK} {x m : Str} {p pos apos : Pos} {e o : Expr} {es : List Expr} {ta : TE} {t : TA}
theorem run_fn {pins : List (Addr × Obj)} {σ : St} {H : Hp} {s : Shared} {Q : VK} {us : List Value} {vs : List V} (F : FnOk X.prog X.w X.K X.mg X.base CX k f fd ps sp) (hr : Room k X.A) (hb : Binds X.K fd ps ds) (hd : Vals dvs ds) (hx : Passes CX X E)
    (I : Inv X pins σ H s) (r : Vals vs us) (h : sp (vs ++ dvs) H Q E) : wpAny (model X.prog X.w) X.A (call (.ref f) us) (EP X pins σ Q) X.xe s := by
  have r2 : Vals (vs ++ dvs) (us ++ ds) := r.append hd
  have hl : (us ++ ds).length = ps.length := by rw [← r2.length]; exact F.len _ _ _ _ h
  refine wpAny_call (codeAny_mono (F.run X.A X.stack s H ⟨us, []⟩ (us ++ ds) (vs ++ dvs) Q E hr I.env0 (hb s us I.kIn hl) r2 h) fun r s' hq => ?_)
  cases r with
  | error e => exact hx pins σ H s e s' I hq
  | ok fl =>
    cases fl with
    | ret u => exact I.after hq
    | next => exact False.elim hq
    | brk => exact False.elim hq
    | cont => exact False.elim hq
theorem pe_call (F : FnOk X.prog X.w X.K X.mg X.base CX k f fd ps sp) (hr : Room k X.A) (hg : Gl X x) (hm : X.mg x = some (.ref f)) (hk : PySem.W.keepIn X.K (.ref f) = true) (hb : Binds X.K fd ps ds) (hd : Vals dvs ds) (hx : Passes CX X E)
    (ha : PA X (e :: es) t) (hdb : (x == ("__debug__" : Str)) = false := by decide) (he : starEach (e :: es) X.env = (false, eval e X.env) :: starEach es X.env := by rfl) (hpl : (backTo pos (starEach es X.env)).any (·.1) = false := by rfl) :
    PE X (.Call (.Name x p) (e :: es) [] pos) (tCall sp dvs E t) := by
  intro pins s σ H Q I h
  refine wpAny_Call_Name_kw (ld_glob I hg hm ?_ hdb)
  refine PySem.W.callWith_K (h₀ := X.base) I.ok.mod.kin hk (thn (ha pos pins s σ H _ I h) fun us s1 ⟨vs, H1, I1, r, q⟩ => ⟨I1.kIn, ?_⟩) he hpl
  exact run_fn F hr hb hd hx I1 r q
theorem pe_meth {pl : Sem Bool} (he : PE X o ta) (c : Cls X.K C) (hm : Meth X.K C m f) (F : FnOk X.prog X.w X.K X.mg X.base CX k f fd ps sp) (hr : Room k X.A) (hb : Binds X.K fd ps ds) (hd : Vals dvs ds) (hx : Passes CX X E) (ha : PA X (e :: es) t)
    (hst : starEach (e :: es) X.env = (false, eval e X.env) :: starEach es X.env := by rfl) (hpl : (backTo pos (starEach es X.env)).any (·.1) = false := by rfl)
    (ht : eval (.Call (.Attribute o m apos) (e :: es) [] pos) X.env = (do
      let ov ← eval o X.env
      standAt apos.atName
      let (f, first) ← holding [ov] (getMethod ov m pl)
      callWith pos f first (backTo pos (starEach (e :: es) X.env)) (backToKw pos (keywordEach [] X.env))) := by rfl) :
    PE X (.Call (.Attribute o m apos) (e :: es) [] pos) (tMeth C m sp dvs E ta t) := by
  intro pins s σ H Q I h
  refine PySem.W.methodCall_KW (pl := pl) (thn (he pins s σ H _ I h) fun u s1 ⟨x, H1, I1, rx, a, dx, fs, ex, ea, l, q⟩ => ?_) ht
  subst ex
  obtain rfl : u = Value.ref a := rx
  refine getmeth_ok I1 ea c hm l ?_
  refine PySem.W.callWith_K (first := [.ref a]) (h₀ := X.base) I.ok.mod.kin hm.kp (thn (ha pos pins s1 σ H1 _ I1 q) fun us s2 ⟨vs, H2, I2, r, q2⟩ => ⟨I2.kIn, ?_⟩) hst hpl
  exact run_fn (us := .ref a :: us) (vs := .ref a :: vs) F hr hb hd hx I2 (.cons rfl r) q2
theorem pe_meth0 {pl : Sem Bool} (he : PE X o ta) (c : Cls X.K C) (hm : Meth X.K C m f) (F : FnOk X.prog X.w X.K X.mg X.base CX k f fd ps sp) (hr : Room k X.A) (hb : Binds X.K fd ps ds) (hd : Vals dvs ds) (hx : Passes CX X E)
    (ht : eval (.Call (.Attribute o m apos) [] [] pos) X.env = (do
      let ov ← eval o X.env
      standAt apos.atName
      let (f, first) ← holding [ov] (getMethod ov m pl)
      callWith pos f first (backTo pos (starEach [] X.env)) (backToKw pos (keywordEach [] X.env))) := by rfl) :
    PE X (.Call (.Attribute o m apos) [] [] pos) (tMeth C m sp dvs E ta tNil) := by
  intro pins s σ H Q I h
  refine PySem.W.methodCall_KW (pl := pl) (thn (he pins s σ H _ I h) fun u s1 ⟨x, H1, I1, rx, a, dx, fs, ex, ea, l, q⟩ => ?_) ht
  subst ex
  obtain rfl : u = Value.ref a := rx
  refine getmeth_ok I1 ea c hm l ?_
  exact PySem.W.callWith_K0 (first := [.ref a]) I1.kIn hm.kp (run_fn (us := [.ref a]) (vs := [.ref a]) F hr hb hd hx I1 (.cons rfl .nil) q)
structure Mk (K : PySem.W.Frag) (C f : Addr) : Prop where
  makes : PySem.W.makesIn K C = true
  init : PySem.W.findIn K (.ref C) "__init__" = some (some (.ref f))
  fn : PySem.W.isFn K (.ref f) = true
  kp : PySem.W.keepIn K (.ref C) = true
theorem run_make {pins : List (Addr × Obj)} {σ : St} {H : Hp} {s : Shared} {Q : VK} {us : List Value} {vs : List V} (M : Mk X.K C f) (F : FnOk X.prog X.w X.K X.mg X.base CX k f fd ps sp) (hr : Room (k + 1) X.A) (hb : Binds X.K fd ps ds) (hd : Vals dvs ds)
    (hx : Passes CX X E) (I : Inv X pins σ H s) (r : Vals vs us)
    (h : ∀ x dx, H x = none → H dx = none → dx ≠ x → sp (.ref x :: (vs ++ dvs)) (upd (upd H dx (.own x)) x (.ins C dx [])) (fun v H2 => v = .non ∧ Q (.ref x) H2) E) :
    wpAny (model X.prog X.w) X.A (call (.ref C) us) (EP X pins σ Q) X.xe s := by
  have hq := h (s.heap.objs.size + 1) s.heap.objs.size (I.hok.fresh (Nat.le_succ _)) (I.hok.fresh (Nat.le_refl _)) (Nat.ne_of_lt (Nat.lt_succ_self _))
  have I2 := Inv.made (C := C) I
  have r2 : Vals (V.ref (s.heap.objs.size + 1) :: (vs ++ dvs)) (Value.ref (s.heap.objs.size + 1) :: (us ++ ds)) := .cons rfl (r.append hd)
  have hl : (Value.ref (s.heap.objs.size + 1) :: us ++ ds).length = ps.length := by
    have e := r2.length
    rw [F.len _ _ _ _ hq] at e
    exact e.symm
  refine wpAny_call (make_map (f := f) I.kIn M.makes M.init (beq_iff_eq.mp M.fn) (codeAny_mono (F.run _ X.stack _ _ ⟨Value.ref (s.heap.objs.size + 1) :: us, []⟩ (Value.ref (s.heap.objs.size + 1) :: (us ++ ds)) _ _ E (hr.make C us [])
    (I2.env0.make C us []) (hb _ (Value.ref (s.heap.objs.size + 1) :: us) I2.kIn hl) r2 hq) fun r s' hq' => ?_))
  cases r with
  | error e => exact hx pins σ _ _ e s' I2 hq'
  | ok fl =>
    cases fl with
    | ret u =>
      obtain ⟨v, H', I3, rv, ev, q3⟩ := I2.after hq'
      subst ev
      exact ⟨rv, ⟨V.ref (s.heap.objs.size + 1), H', I3, rfl, q3⟩⟩
    | next => exact False.elim hq'
    | brk => exact False.elim hq'
    | cont => exact False.elim hq'
theorem pe_make (M : Mk X.K C f) (F : FnOk X.prog X.w X.K X.mg X.base CX k f fd ps sp) (hr : Room (k + 1) X.A) (hg : Gl X x) (hm : X.mg x = some (.ref C)) (hb : Binds X.K fd ps ds) (hd : Vals dvs ds) (hx : Passes CX X E)
    (ha : PA X (e :: es) t) (hdb : (x == ("__debug__" : Str)) = false := by decide) (he : starEach (e :: es) X.env = (false, eval e X.env) :: starEach es X.env := by rfl) (hpl : (backTo pos (starEach es X.env)).any (·.1) = false := by rfl) :
    PE X (.Call (.Name x p) (e :: es) [] pos) (tMake C sp dvs E t) := by
  intro pins s σ H Q I h
  refine wpAny_Call_Name_kw (ld_glob I hg hm ?_ hdb)
  refine PySem.W.callWith_K (h₀ := X.base) I.ok.mod.kin M.kp (thn (ha pos pins s σ H _ I h) fun us s1 ⟨vs, H1, I1, r, q⟩ => ⟨I1.kIn, ?_⟩) he hpl
  exact run_make M F hr hb hd hx I1 r q
theorem pe_make0 (M : Mk X.K C f) (F : FnOk X.prog X.w X.K X.mg X.base CX k f fd ps sp) (hr : Room (k + 1) X.A) (hg : Gl X x) (hm : X.mg x = some (.ref C)) (hb : Binds X.K fd ps ds) (hd : Vals dvs ds) (hx : Passes CX X E)
    (hdb : (x == ("__debug__" : Str)) = false := by decide) : PE X (.Call (.Name x p) [] [] pos) (tMake C sp dvs E tNil) := by
  intro pins s σ H Q I h
  refine wpAny_Call_Name_kw (ld_glob I hg hm ?_ hdb)
  exact PySem.W.callWith_K0 I.kIn M.kp (run_make (us := []) M F hr hb hd hx I .nil h)
end
structure FnScope (N P : List Str) (sc : Scope) : Prop where
  kind : sc.kind = .function
  co : sc.isCoroutine = false
  gen : sc.isGenerator = false
  nd : N.Nodup
  pre : N.take P.length = P
  par : ∀ x ∈ P, sc.names.lookup x = some .local ∨ sc.names.lookup x = some .cell
  nofree : ∀ y ∈ sc.names, y.2 ≠ .free
theorem bindL_out {kindOf : Str → Option NameKind} {x : Str} : ∀ {binds : List (Str × Value)} {m : Str → Option Value}, (∀ v, (x, v) ∉ binds) → bindL kindOf binds m x = m x
  | [], _, _ => rfl
  | (n, v) :: r, m, h => by
    unfold bindL
    rw [bindL_out fun w hw => h w (List.mem_cons_of_mem _ hw)]
    split
    · have : x ≠ n := by rintro rfl; exact h v List.mem_cons_self
      simp [this]
    · rfl
theorem bindC_out {kindOf : Str → Option NameKind} {x : Str} : ∀ {binds : List (Str × Value)} {m : Str → Option Value}, (∀ v, (x, v) ∉ binds) → bindC kindOf binds m x = m x
  | [], _, _ => rfl
  | (n, v) :: r, m, h => by
    unfold bindC
    rw [bindC_out fun w hw => h w (List.mem_cons_of_mem _ hw)]
    split
    · rfl
    · have : x ≠ n := by rintro rfl; exact h v List.mem_cons_self
      simp [this]
theorem bindL_get {kindOf : Str → Option NameKind} {x : Str} {v : Value} : ∀ {P : List Str} {vs : List Value} {i : Nat} {m : Str → Option Value}, P.Nodup → P[i]? = some x → vs[i]? = some v → kindOf x = some .local →
    bindL kindOf (P.zip vs) m x = some v
  | [], _, _, _, _, h, _, _ => by simp at h
  | _ :: _, [], _, _, _, _, h, _ => by simp at h
  | p :: P, w :: vs, 0, m, nd, h1, h2, hk => by
    simp at h1 h2; subst h1; subst h2
    show bindL kindOf ((p, w) :: P.zip vs) m p = _
    unfold bindL
    rw [bindL_out fun v hv => (List.nodup_cons.mp nd).1 (List.of_mem_zip hv).1, if_pos hk]
    simp
  | p :: P, w :: vs, i + 1, m, nd, h1, h2, hk => by
    show bindL kindOf ((p, w) :: P.zip vs) m x = _
    unfold bindL
    exact bindL_get (i := i) (List.nodup_cons.mp nd).2 (by simpa using h1) (by simpa using h2) hk
theorem bindC_get {kindOf : Str → Option NameKind} {x : Str} {v : Value} : ∀ {P : List Str} {vs : List Value} {i : Nat} {m : Str → Option Value}, P.Nodup → P[i]? = some x → vs[i]? = some v → kindOf x ≠ some .local →
    bindC kindOf (P.zip vs) m x = some v
  | [], _, _, _, _, h, _, _ => by simp at h
  | _ :: _, [], _, _, _, _, h, _ => by simp at h
  | p :: P, w :: vs, 0, m, nd, h1, h2, hk => by
    simp at h1 h2; subst h1; subst h2
    show bindC kindOf ((p, w) :: P.zip vs) m p = _
    unfold bindC
    rw [bindC_out fun v hv => (List.nodup_cons.mp nd).1 (List.of_mem_zip hv).1, if_neg hk]
    simp
  | p :: P, w :: vs, i + 1, m, nd, h1, h2, hk => by
    show bindC kindOf ((p, w) :: P.zip vs) m x = _
    unfold bindC
    exact bindC_get (i := i) (List.nodup_cons.mp nd).2 (by simpa using h1) (by simpa using h2) hk
def start (N : List Str) (vs : List V) : St := vs.map some ++ List.replicate (N.length - vs.length) none
def cxOf (CX : CXT) (P : Program) (w : World) (K : PySem.W.Frag) (mg : Str → Option Value) (base : Heap) (N : List Str) (qual : Str) (scope : Scope) (f : Addr) (cd : Value) (A : Around) (outer : List Env) (s : Shared) (H : Hp) (E : XK) : Cx where
  prog := P
  w := w
  K := K
  mg := mg
  base := base
  A := A.deeper (envOfC qual scope s.heap.objs.size f cd)
  N := N
  s_0 := s
  H_0 := H
  env := envOfC qual scope s.heap.objs.size f cd
  outer := outer
  stack := envOfC qual scope s.heap.objs.size f cd :: outer
  ex := []
  calm := true
  fn := fun _ => true
  pn := []
  xe := fun e s' => wpAny (model P w) (A.deeper (envOfC qual scope s.heap.objs.size f cd)) (leaving (envOfC qual scope s.heap.objs.size f cd) e) (fun _ s'' => CX outer H s E e s'') (fun e' s'' => CX outer H s E e' s'') s'
theorem cell_has {sc : Scope} {n : Nat} {x : Str} (h : sc.names.lookup x = some .cell) : ∃ c, (cellsFrom n sc.names []).lookup x = some c := by
  have q := PySem.W.cellsFrom_some sc.names n [] (.inl h)
  exact Option.isSome_iff_exists.mp q
theorem inv_start {CX : CXT} {P : Program} {w : World} {K : PySem.W.Frag} {mg : Str → Option Value} {base : Heap} {N ps : List Str} {qual : Str} {scope : Scope} {f : Addr} {cd : Value} {A : Around} {outer : List Env} {s s1 : Shared} {H : Hp} {E : XK} {us : List Value} {vs : List V}
    (S : FnScope N ps scope) (hd : A.handled = none) (e0 : Env0 P w K mg base A outer s H) (hl : vs.length = ps.length) (r : Vals vs us)
    (x : InCallC s s.heap.objs.size (bindL (envOfC qual scope s.heap.objs.size f cd).kindOf (ps.zip us) fun _ => none) (cellsFrom (s.heap.objs.size + 1) scope.names []) (bindC (envOfC qual scope s.heap.objs.size f cd).kindOf (ps.zip us) fun _ => none) s1) :
    Inv (cxOf CX P w K mg base N qual scope f cd A outer s H E) [] (start N vs) H s1 := by
  have hpl : ps.length ≤ N.length := by have := congrArg List.length S.pre; rw [List.length_take] at this; omega
  obtain ⟨h1, tk, rfl, hk⟩ := x.done
  have noA : ∀ b : Addr, b ∉ (cxOf CX P w K mg base N qual scope f cd A outer s H E).ex := fun b z => absurd (show b ∈ ([] : List Addr) from z) (by simp)
  refine ⟨⟨e0.mod, S.kind, rfl, rfl, Nat.le_refl _, fun y z c h1 h2 => ?_, fun y hy => ?_, fun y c _ h => ?_, fun _ => hd, Around.frames_deeper e0.frames, .inr ⟨rfl, rfl⟩, fun b z => absurd z (noA b), e0.bs, e0.bsz, fun b _ _ => noA b, fun b z => absurd z (noA b), e0.funs, e0.frf⟩,
    rfl, e0.bare, Un.kept hk, ⟨_, x.toInCall.ns, fun i y v h1 h2 h3 => ?_⟩, fun y c h => ⟨_, x.cell y c h⟩, e0.hok.fresh (Nat.le_refl _), fun y c h => ?_, fun p hp => absurd (show p ∈ ([] : List (Addr × Obj)) from hp) (by simp), e0.hok.kept hk, ?_⟩
  · exact name_of_addr x.apart (PySem.mem_of_lookup h1) (PySem.mem_of_lookup h2)
  · have hy : scope.names.lookup y = some .cell ∨ scope.names.lookup y = some .free := hy
    rcases hy with hy | hy
    · exact cell_has hy
    · exact absurd rfl (S.nofree _ (PySem.mem_of_lookup hy))
  · exact Nat.le_of_lt (x.above y c (PySem.mem_of_lookup h))
  · have hi : i < vs.length := by
      unfold start at h2
      by_cases hi : i < vs.length
      · exact hi
      · rw [List.getElem?_append_right (by simpa using hi)] at h2
        rw [List.getElem?_replicate] at h2
        split at h2 <;> cases h2
    have ha : vs[i]? = some v := by
      unfold start at h2
      rw [List.getElem?_append_left (by simpa using hi), List.getElem?_map] at h2
      cases e : vs[i]? with
      | none => rw [e] at h2; cases h2
      | some a => rw [e] at h2; cases h2; rfl
    obtain ⟨u, hu, rv⟩ := r.get ha
    have hp : ps[i]? = some y := by
      rw [← S.pre, List.getElem?_take_of_lt (by omega)]; exact h1
    have ndP : ps.Nodup := by rw [← S.pre]; exact S.nd.sublist (List.take_sublist _ _)
    refine ⟨u, rv, ?_⟩
    rcases S.par y (List.mem_of_getElem? hp) with k | k
    · exact .inl ⟨k, bindL_get ndP hp hu k⟩
    · obtain ⟨c, e⟩ := cell_has (n := s.heap.objs.size + 1) k
      refine .inr ⟨.inl k, c, e, ?_⟩
      have q := x.cell y c e
      rw [bindC_get ndP hp hu (by show scope.names.lookup y ≠ _; rw [k]; decide)] at q
      exact q
  · exact e0.hok.fresh (Nat.le_of_lt (x.above y c (PySem.mem_of_lookup h)))
  · unfold start
    show _ = N.length
    rw [List.length_append, List.length_map, List.length_replicate]
    omega
theorem fn_of {CX : CXT} {P : Program} {w : World} {K : PySem.W.Frag} {mg : Str → Option Value} {base : Heap} {k : Nat} {f : Addr} {name qual : Str} {params : Arguments} {body : List Stmt} {scope : Scope} {dV kV doc pm cdv ct oc : Value} {an od : Option Addr}
    {osl : Array (Option Value)} {N ps : List Str} {sp : Sp} (lk : K.lookup f = some ⟨oc, od, .func (PySem.W.fnOf name qual params body scope dV kV doc pm an cdv ct), osl⟩) (hcd : PySem.W.codeIn K cdv qual = true) (S : FnScope N ps scope)
    (len : ∀ vs H Q E, sp vs H Q E → vs.length = ps.length)
    (hbody : ∀ (A : Around) (outer : List Env) (s : Shared) (H : Hp) (vs : List V) (Q : VK) (E : XK), Room k (A.deeper (envOfC qual scope s.heap.objs.size f cdv)) → sp vs H Q E →
      ∃ t, PSs (cxOf CX P w K mg base N qual scope f cdv A outer s H E) body t ∧ t { nx := fun _ H' => Q .non H', rt := Q } (start N vs) H) :
    FnOk P w K mg base CX (k + 1) f (PySem.W.fnOf name qual params body scope dV kV doc pm an cdv ct) ps sp := by
  refine ⟨len, fun A outer s H args us vs Q E hr e0 hb r hsp => ?_⟩
  have hl := len _ _ _ _ hsp
  have KX : K.In s.heap := e0.mod.kin.keeps fun b o e => (e0.bs b o e).1
  have lim : s.heap.NoLimit := e0.mod.nolimit.keeps fun b o e => (e0.bs b o e).1
  have hkind : ∀ y ∈ ps.zip us, scope.names.lookup y.1 = some .local ∨ (scope.names.lookup y.1 = some .cell ∧ ((cellsFrom (s.heap.objs.size + 1) scope.names []).lookup y.1).isSome = true) := fun ⟨n, v⟩ hy => by
    rcases S.par n (List.of_mem_zip hy).1 with q | q
    · exact .inl q
    · exact .inr ⟨q, PySem.W.cellsFrom_some _ _ _ (.inl q)⟩
  refine codeAny_call_function hr.depth (KX _ _ lk) rfl S.co S.gen rfl (PySem.W.codeRec_of KX hcd) (hb _ _ _ _ ?_)
  refine wpAny_newFunctionEnv_cells S.kind hkind fun env he s1 x => ?_
  subst he
  refine ⟨lim.keeps x.toInCall.keep, codeAny_func ?_⟩
  obtain ⟨t, ht, hq⟩ := hbody A outer s H vs Q E (hr.deeper _) hsp
  have I : Inv (cxOf CX P w K mg base N qual scope f cdv A outer s H E) [] (start N vs) H s1 := inv_start S hr.hd e0 hl r x
  refine wpAny_mono (ht [] s1 (start N vs) H _ I hq) (fun fl s' hs => ?_) fun e s' hs => hs
  have fin : ∀ {σ' : St} {H' : Hp} {v : V} {u : Value}, Inv (cxOf CX P w K mg base N qual scope f cdv A outer s H E) [] σ' H' s' → RelV v u → Q v H' → CE outer P w H s Q u s' :=
    fun {σ' H' v u} J rv q => ⟨v, H', J.os, J.bare, J.base, J.hok, rv, q⟩
  cases fl with
  | ret u =>
    obtain ⟨v, σ', H', J, rv, q⟩ := hs
    exact fin J rv q
  | next =>
    obtain ⟨σ', H', J, q⟩ := hs
    exact fin (v := V.non) (u := Value.none) J rfl q
  | brk =>
    obtain ⟨_, _, _, q⟩ := hs
    exact False.elim q
  | cont =>
    obtain ⟨_, _, _, q⟩ := hs
    exact False.elim q
end L2
namespace L2
open PySem PySem.Spec PyProof.Rows
section
variable {X : Cx} {x : Str} {p pos : Pos} {e : Expr} {es : List Expr} {t : TA} {id T : String} {r : List V → Hp → VK → Prop}
def tCB (r : List V → Hp → VK → Prop) (t : TA) : TE := fun σ H Q => t σ H fun vs H1 => r vs H1 Q
theorem pe_callB (hc : CallR X (.builtin id) r) (hg : Gl X x) (hm : X.mg x = none) (hv : bootBuiltins x = some (.builtin id)) (ha : PA X (e :: es) t) (hn : x ≠ "__name__" := by decide) (hdb : (x == ("__debug__" : Str)) = false := by decide)
    (he : starEach (e :: es) X.env = (false, eval e X.env) :: starEach es X.env := by rfl) (hpl : (backTo pos (starEach es X.env)).any (·.1) = false := by rfl) : PE X (.Call (.Name x p) (e :: es) [] pos) (tCB r t) := by
  intro pins s σ H Q I h
  refine wpAny_Call_Name_kw (ld_blt I hg hm hv ?_ hn hdb)
  exact PyProof.Rows.callWith_builtin1 (thn (ha pos pins s σ H _ I h) fun us s1 ⟨vs, H1, I1, r1, q1⟩ => hc pins s1 σ H1 vs us Q I1 r1 q1) he hpl
theorem pe_callTy (hc : CallR X (.type T) r) (hg : Gl X x) (hm : X.mg x = none) (hv : bootBuiltins x = some (.type T)) (ha : PA X (e :: es) t) (hn : x ≠ "__name__" := by decide) (hdb : (x == ("__debug__" : Str)) = false := by decide)
    (he : starEach (e :: es) X.env = (false, eval e X.env) :: starEach es X.env := by rfl) (hpl : (backTo pos (starEach es X.env)).any (·.1) = false := by rfl) : PE X (.Call (.Name x p) (e :: es) [] pos) (tCB r t) := by
  intro pins s σ H Q I h
  refine wpAny_Call_Name_kw (ld_blt I hg hm hv ?_ hn hdb)
  exact PyProof.Rows.callWith_type1 (thn (ha pos pins s σ H _ I h) fun us s1 ⟨vs, H1, I1, r1, q1⟩ => hc pins s1 σ H1 vs us Q I1 r1 q1) he hpl
end
end L2
namespace HT
open PySem PyProof.Rows
def lexLt : List Int → List Int → Bool
  | [], [] => false
  | [], _ :: _ => true
  | _ :: _, [] => false
  | x :: xs, y :: ys => if x = y then lexLt xs ys else decide (x < y)
theorem lexLt_cons (x y : Int) (xs ys : List Int) : lexLt (x :: xs) (y :: ys) = if x = y then lexLt xs ys else decide (x < y) := rfl
theorem lexLt_nil_nil : lexLt [] [] = false := rfl
theorem lexLt_nil_cons (y : Int) (ys : List Int) : lexLt [] (y :: ys) = true := rfl
theorem lexLt_cons_nil (x : Int) (xs : List Int) : lexLt (x :: xs) [] = false := rfl
theorem eqAt_int (A : Around) (s : Shared) (a : Int) (t : Tok) (c : Int) (u : Tok) : ∃ e, SeqAt.EqAt A s (.int a t) (.int c u) e ∧ (e = true ↔ a = c) :=
  ⟨(a == c), SeqAt.EqAt.int_int a t c u, by simp⟩
theorem rcLt_int (A : Around) (s : Shared) (a : Int) (t : Tok) (c : Int) (u : Tok) (prog : Program) (w : World) (E : Value → Shared → Prop) (Q : Value → Shared → Prop) (h : Q (.bool (decide (a < c))) s) :
    wpAny (model prog w) A (richCompare .Lt (.int a t) (.int c u)) Q E s :=
  (PyProof.Rows.lt_int h : wpAny (model prog w) A (compareOp .Lt (.int a t) (.int c u)) Q E s)
section
open PySem.SeqAt
open PySem.AutoSeq1 (wpAny_loadPart')
open PySem.MeetsSeq PySem.MeetsSeq2 PySem.MeetsSeq3
theorem tuple_lt_ints (l b : Addr) (items items2 : Array Value) (n n2 : Nat) (dd dd2 : Option Addr) (sl sl2 : Array (Option Value)) (ns ms : List Int) (hi : IntsAre items.toList ns) (hj : IntsAre items2.toList ms) :
    Meets (Builtin.«tuple.__lt__» ⟨[.ref l, .ref b], []⟩)
      (fun _ R s => s.heap.get? l = some { cls := .type "tuple", dict := dd, data := .seq items n, slots := sl } ∧ s.heap.get? b = some { cls := .type "tuple", dict := dd2, data := .seq items2 n2, slots := sl2 } ∧
        R (.ok (.ret (.bool (lexLt ns ms)))) s) :=
  .of_wp fun prog w A R s h => by
    obtain ⟨hp, g, d, tk, os⟩ := s; obtain ⟨hl, hb, h⟩ := h
    have f2 := AutoSeq1.sub_tuple_tuple
    have z1 : items.size = ns.length := by rw [← hi.length]; simp
    have z2 : items2.size = ms.length := by rw [← hj.length]; simp
    wp_walk using wpAny_loadPart' hl, wpAny_loadPart' hb, wpAny_forIn_list _ (fun rest b s' => b.1 = none ∧ s' = ⟨hp, g, d, tk, os⟩ ∧ ∃ (vs ws : List Value) (ns' ms' : List Int), rest = vs.zip ws ∧
      IntsAre vs ns' ∧ IntsAre ws ms' ∧ ns'.length + items2.size = ms'.length + items.size ∧ R (.ok (.ret (.bool (lexLt ns' ms')))) ⟨hp, g, d, tk, os⟩) _
    case turn =>
      rintro ⟨y, x⟩ rest b s' ⟨hb', rfl, vs, ws, ns', ms', hz, hvi, hwi, hlen, hR⟩
      cases hvi with
      | nil => rw [List.zip_nil_left] at hz; cases hz
      | cons a t hvi' =>
        cases hwi with
        | nil => rw [List.zip_nil_right] at hz; cases hz
        | cons c u hwi' =>
          rw [List.zip_cons_cons] at hz
          injection hz with hyx hrest
          injection hyx with hy hx
          subst hy hx
          rw [lexLt_cons] at hR
          simp only [List.length_cons] at hlen
          obtain ⟨e, he, hiff⟩ := eqAt_int A.in1 ⟨hp, g, d, tk, os⟩ a t c u
          refine wpAny_bind (he prog w _ _ ?_)
          cases e with
          | true =>
            rw [if_pos (hiff.mp rfl)] at hR
            wp_walk
            exact ⟨rfl, rfl, _, _, _, _, hrest, hvi', hwi', by omega, hR⟩
          | false =>
            rw [if_neg (fun q => absurd (hiff.mpr q) Bool.false_ne_true)] at hR
            have hri := rcLt_int A.in1 ⟨hp, g, d, tk, os⟩ a t c u prog w
            wp_walk using hri
            exact ⟨_, rfl, by simpa using hR⟩
    case fin =>
      rintro ⟨b1, b2⟩ s' ⟨hb', rfl, vs, ws, ns', ms', hz, hvi, hwi, hlen, hR⟩
      simp only at hb'
      subst hb'
      have hv : lexLt ns' ms' = decide (items.size < items2.size) := by
        cases hvi with
        | nil =>
          cases hwi with
          | nil =>
            simp only [List.length_nil] at hlen
            rw [lexLt_nil_nil]
            exact (decide_eq_false (by omega)).symm
          | cons c u hw =>
            simp only [List.length_nil, List.length_cons] at hlen
            rw [lexLt_nil_cons]
            exact (decide_eq_true (by omega)).symm
        | cons a t hv =>
          cases hwi with
          | nil =>
            simp only [List.length_nil, List.length_cons] at hlen
            rw [lexLt_cons_nil]
            exact (decide_eq_false (by omega)).symm
          | cons c u hw =>
            rw [List.zip_cons_cons] at hz
            cases hz
      rw [hv] at hR
      wp_walk
      exact ⟨_, rfl, by simpa [Builtin.Tuple.tupleCompareSizes] using hR⟩
    case h =>
      exact ⟨rfl, rfl, items.toList, items2.toList, ns, ms, rfl, hi, hj, by omega, h⟩
end
section
variable {prog : Program} {w : World} {A : Around} {E : Value → Shared → Prop} {s : Shared}
theorem lt_tupInts {l b : Addr} {items items2 : Array Value} {ns ms : List Int} {Q : Value → Shared → Prop} (hl : IsTup s.heap l items) (hb : IsTup s.heap b items2) (hi : IntsAre items.toList ns) (hj : IntsAre items2.toList ms)
    (hu : A.units < cLine) (h : Q (.bool (lexLt ns ms)) s) : wpAny (model prog w) A (compareOp .Lt (.ref l) (.ref b)) Q E s := by
  obtain ⟨⟨cls, dd, data, sl⟩, ho, hc, n, hd⟩ := id hl
  obtain ⟨⟨cls2, dd2, data2, sl2⟩, ho2, hc2, n2, hd2⟩ := id hb
  simp only at hc hd hc2 hd2
  subst hc hd hc2 hd2
  exact richCompare_meets_room (op := .Lt) ⟨_, ho, rfl⟩ ⟨_, ho2, rfl⟩ PySem.F.slot_tuple_lt PySem.F.entry_tuple_lt (PySem.F.args_tuple_lt_2 _ _) (tuple_lt_ints l b items items2 n n2 dd dd2 sl sl2 ns ms hi hj)
    ⟨ho, ho2, show Value.bool (lexLt ns ms) ≠ Value.notImplemented ∧ Q (.bool (lexLt ns ms)) s from ⟨(fun x => nomatch x), h⟩⟩ hu
def sIx (n d : Nat) : Option Int → Nat
  | none => d
  | some v => if v < 0 then (v + (n : Int)).toNat else min v.toNat n
theorem sIx_nat (n d k : Nat) : sIx n d (some (k : Int)) = min k n := by
  show (if (k : Int) < 0 then ((k : Int) + (n : Int)).toNat else min (k : Int).toNat n) = min k n
  rw [if_neg (by omega), Int.toNat_natCast]
end
end HT
namespace L2
open PySem PySem.Spec PyProof.Rows
abbrev TO := St → Hp → (Option Int → Hp → Prop) → Prop
def PO (X : Cx) (e : Option Expr) (t : TO) : Prop :=
  ∀ (pins : List (Addr × Obj)) (s : Shared) (σ : St) (H : Hp) (Q : Option Int → Hp → Prop), Inv X pins σ H s → t σ H Q →
    wpAny (model X.prog X.w) X.A (evalPart e X.env) (fun u s' => ∃ o H', Inv X pins σ H' s' ∧ IsPart u o ∧ Q o H') X.xe s
def tPart (t : TE) : TO := fun σ H Q => t σ H fun x H1 => ∃ i, x = .int i ∧ Q (some i) H1
theorem intsAre_of {ns : List Int} : ∀ {us : List Value}, Vals (ns.map V.int) us → IntsAre us ns := by
  induction ns with
  | nil => intro us r; rw [List.map_nil] at r; cases r; exact .nil
  | cons n ns ih =>
    intro us r
    rw [List.map_cons] at r
    cases r with
    | cons r1 r2 =>
      obtain ⟨t, e⟩ := r1
      subst e
      exact .cons n t (ih r2)
section
variable {X : Cx} {e : Expr} {te : TE} {lo hi : Option Expr} {tl th : TO} {pos p2 : Pos}
theorem po_some (h : PE X e te) : PO X (some e) (tPart te) := by
  intro pins s σ H Q I hw
  rw [evalPart_some]
  refine thn (h pins s σ H _ I hw) fun u s1 ⟨x, H1, I1, r1, q1⟩ => ?_
  obtain ⟨i, rfl, q⟩ := q1
  obtain ⟨t, rfl⟩ := r1
  exact ⟨some i, H1, I1, .int i t, q⟩
def SlR (X : Cx) (r : V → Option Int → Option Int → Hp → VK → Prop) : Prop :=
  ∀ (pins : List (Addr × Obj)) (s : Shared) (σ : St) (H : Hp) (x : V) (v vl vu : Value) (lo hi : Option Int) (sl : Addr) (Q : VK), Inv X pins σ H s → RelV x v → s.heap.IsSliceOf sl vl vu .none → IsPart vl lo → IsPart vu hi → r x lo hi H Q →
    ∃ T id, typeLookup (.type T) "__getitem__" = pure (some (.builtin id)) ∧ s.TypeIs v T ∧ wpAny (model X.prog X.w) X.A (getItem v (.ref sl)) (EP X pins σ Q) X.xe s
def tSl (r : V → Option Int → Option Int → Hp → VK → Prop) (te : TE) (tl th : TO) : TE := fun σ H Q => te σ H fun x H1 => tl σ H1 fun l H2 => th σ H2 fun u H3 => r x l u H3 Q
theorem pe_slice {r : V → Option Int → Option Int → Hp → VK → Prop} (hr : SlR X r) (he : PE X e te) (hl : PO X lo tl) (hu : PO X hi th) : PE X (.Subscript e (.Slice lo hi none p2) pos) (tSl r te tl th) := by
  intro pins s σ H Q I h
  refine Subscript_ (thn (he pins s σ H _ I h) fun v s1 ⟨x, H1, I1, r1, q1⟩ => ?_)
  refine wpAny_Slice (thn (hl pins s1 σ H1 _ I1 q1) fun vl s2 ⟨l, H2, I2, pl, q2⟩ => thn (hu pins s2 σ H2 _ I2 q2) fun vu s3 ⟨u, H3, I3, pu, q3⟩ => ?_)
  rw [evalPart_none]
  refine wpAny_pure ?_
  have I4 : Inv X pins σ H3 { s3 with heap := s3.heap.push { cls := .type "slice", data := .fields #[vl, vu, .none] } } := I3.kept (t' := s3.toks) fun b ob q => Heap.get?_push_of_some _ q
  obtain ⟨T, id, hT, ht, hg⟩ := hr pins { s3 with heap := s3.heap.push { cls := .type "slice", data := .fields #[vl, vu, .none] } } σ H3 x v vl vu l u s3.heap.objs.size Q I4 r1 (Heap.IsSliceOf.new ..) pl pu q3
  show wpAny (model X.prog X.w) X.A (subscriptTail e (.Slice lo hi none p2) v (.ref s3.heap.objs.size)) (EP X pins σ Q) X.xe { s3 with heap := s3.heap.push { cls := .type "slice", data := .fields #[vl, vu, .none] } }
  exact tail_any (ops := [.ref s3.heap.objs.size, v]) ht hT hg (by with_unfolding_all rfl)
def cutV (xs : List V) (lo hi : Option Int) : List V := (xs.drop (HT.sIx xs.length 0 lo)).take (HT.sIx xs.length xs.length hi - HT.sIx xs.length 0 lo)
theorem cutV_length (xs : List V) (lo hi : Option Int) : (cutV xs lo hi).length ≤ xs.length := by
  unfold cutV
  rw [List.length_take, List.length_drop]
  omega
end
end L2
namespace L2
open PySem PySem.Spec PyProof.Rows
def ixN (n : Nat) (i : Int) : Option Nat := if 0 ≤ i then (if i < n then some i.toNat else none) else if -(n : Int) ≤ i then some (i + n).toNat else none
def atI {α : Type} (xs : List α) (i : Int) : Option α := (ixN xs.length i).bind fun j => xs[j]?
theorem ixN_seq {n : Nat} {i : Int} {j : Nat} (h : ixN n i = some j) : seqIndex? i n = some j ∧ j < n ∧ -(n : Int) ≤ i ∧ i < n := by
  unfold ixN at h
  by_cases h0 : 0 ≤ i
  · rw [if_pos h0] at h
    by_cases h1 : i < n
    · rw [if_pos h1] at h
      have e : i.toNat = j := Option.some.inj h
      exact ⟨by rw [seqIndex_of h0 h1, e], by omega, by omega, h1⟩
    · rw [if_neg h1] at h; cases h
  · rw [if_neg h0] at h
    by_cases h1 : -(n : Int) ≤ i
    · rw [if_pos h1] at h
      have e : (i + n).toNat = j := Option.some.inj h
      exact ⟨by rw [seqIndex_neg (by omega) h1, e], by omega, h1, by omega⟩
    · rw [if_neg h1] at h; cases h
theorem atI_get {α : Type} {xs : List α} {i : Int} {v : α} (h : atI xs i = some v) : ∃ j, seqIndex? i xs.length = some j ∧ xs[j]? = some v ∧ j < xs.length ∧ -(xs.length : Int) ≤ i ∧ i < xs.length := by
  unfold atI at h
  cases e : ixN xs.length i with
  | none => rw [e] at h; cases h
  | some j =>
    rw [e] at h
    obtain ⟨h1, h2, h3, h4⟩ := ixN_seq e
    exact ⟨j, h1, h, h2, h3, h4⟩
theorem atI_nat {α : Type} {xs : List α} {j : Nat} {v : α} (h : xs[j]? = some v) : atI xs (j : Int) = some v := by
  have hj : j < xs.length := (List.getElem?_eq_some_iff.mp h).1
  have e : ixN xs.length (j : Int) = some j := by
    unfold ixN
    rw [if_pos (by omega), if_pos (by omega)]; simp
  unfold atI; rw [e]; exact h
def PlainIx (b : Expr) : Prop := ∀ o i, subscripted b false o i = operate [o, i] (getItem o i)
def IxR (X : Cx) (r : R2) : Prop :=
  ∀ (value slice : Expr) (pins : List (Addr × Obj)) (s : Shared) (σ : St) (H : Hp) (x y : V) (v u : Value) (Q : VK), Inv X pins σ H s → RelV x v → RelV y u → r x y H Q →
    subscripted slice false v u = operate [v, u] (getItem v u) → wpAny (model X.prog X.w) X.A (subscriptTail value slice v u) (EP X pins σ Q) X.xe s
def MtR (X : Cx) (id : String) (r : V → List V → Hp → VK → Prop) : Prop :=
  ∀ (pins : List (Addr × Obj)) (s : Shared) (σ : St) (H : Hp) (x : V) (xs : List V) (v : Value) (us : List Value) (Q : VK), Inv X pins σ H s → RelV x v → Vals xs us → r x xs H Q →
    wpAny (model X.prog X.w) X.A (call (.builtin id) (v :: us)) (EP X pins σ Q) X.xe s
section
variable {X : Cx} {a b : Expr} {ta tb : TE} {pos : Pos}
theorem pe_ix {r : R2} (hr : IxR X r) (ha : PE X a ta) (hb : PE X b tb) (hs : PlainIx b) : PE X (.Subscript a b pos) (tOp r ta tb) := by
  intro pins s σ H Q I h
  exact Subscript_ (binT ha hb I h fun v u s2 x y H2 I2 rx ry q => hr a b pins s2 σ H2 x y v u Q I2 rx ry q (hs _ _))
def rIxL (K : PySem.W.Frag) : R2 := fun x y H Q => ∃ p xs i v, x = .ref p ∧ y = .int i ∧ SqL K H p xs ∧ atI xs i = some v ∧ Q v H
theorem ix_list : IxR X (rIxL X.K) := by
  intro value slice pins s σ H x y v u Q I rx ry h hs
  obtain ⟨p, xs, i, z, rfl, rfl, hq, he, q⟩ := h
  cases rx
  obtain ⟨t, rfl⟩ := ry
  obtain ⟨its, r, pl, hz⟩ := I.list hq
  obtain ⟨j, h1, h2, h3, h4, h5⟩ := atI_get he
  obtain ⟨w, ew, rw'⟩ := r.get h2
  have hl := r.length
  have hn := line63
  have fin : EP X pins σ Q w s := ⟨z, H, I, rw', q⟩
  by_cases h0 : 0 ≤ i
  · have hj : i.toNat = j := by
      rw [seqIndex_of h0 h5] at h1
      exact Option.some.inj h1
    exact item_listR pl.isList h0 (by omega) (by rw [hj]; simpa using ew) fin hs
  · have hj : (i + (its.toArray.size : Int)).toNat = j := by
      rw [seqIndex_neg (by omega) h4] at h1
      rw [List.size_toArray, ← hl]
      exact Option.some.inj h1
    exact subscriptTail_builtinR (x := w) pl.isList.typeIs slot_list_getitem.lookup
      (wpAny_getItem_list_neg (Q := fun r s' => r = w ∧ EP X pins σ Q r s') pl.isList (by omega) (by rw [List.size_toArray] <;> omega) (by omega) (by rw [hj]; simpa using ew) ⟨rfl, fin⟩) hs
theorem slice_bounds (lo hi : Option Int) (n : Nat) : (sliceBounds lo hi none n).1 = ((HT.sIx n 0 lo : Nat) : Int) ∧ (sliceBounds lo hi none n).2.1 = ((HT.sIx n n hi : Nat) : Int) ∧ (sliceBounds lo hi none n).2.2 = 1 := by
  refine ⟨?_, ?_, rfl⟩
  · cases lo with
    | none => simp [sliceBounds, HT.sIx]
    | some i =>
      simp only [sliceBounds, HT.sIx, Option.getD_none, show (1 : Int) > 0 by decide, if_true]
      by_cases h : i < 0
      · simp only [h, if_true] <;> omega
      · simp only [h, if_false] <;> omega
  · cases hi with
    | none => simp [sliceBounds, HT.sIx]
    | some i =>
      simp only [sliceBounds, HT.sIx, Option.getD_none, show (1 : Int) > 0 by decide, if_true]
      by_cases h : i < 0
      · simp only [h, if_true] <;> omega
      · simp only [h, if_false] <;> omega
theorem slicePick_cut (its : List Value) (lo hi : Option Int) : slicePick its.toArray lo hi none = ((its.drop (HT.sIx its.length 0 lo)).take (HT.sIx its.length its.length hi - HT.sIx its.length 0 lo)).toArray := by
  obtain ⟨h1, h2, h3⟩ := slice_bounds lo hi its.toArray.size
  unfold slicePick
  rw [h1, h2, h3]
  simp only [sliceRange_one, pick_run, List.size_toArray] <;> rfl
def rSlL (K : PySem.W.Frag) : V → Option Int → Option Int → Hp → VK → Prop := fun x lo hi H Q => ∃ a xs, x = .ref a ∧ SqL K H a xs ∧ ∀ p, H p = none → Q (.ref p) (upd H p (.lst (cutV xs lo hi)))
theorem sl_list : SlR X (rSlL X.K) := by
  intro pins s σ H x v vl vu lo hi sl Q I rx hs pl pu h
  obtain ⟨a, xs, rfl, hx, q⟩ := h
  cases rx
  obtain ⟨its, r, ht, hz⟩ := I.list hx
  have hlen := r.length
  refine ⟨"list", _, slot_list_getitem.lookup, ht.isList.typeIs, ?_⟩
  refine wpAny_getItem_list_slice ht.isList hs pl pu .none (by simp) ?_ (by rw [List.size_toArray] <;> omega)
  rw [slicePick_cut, ← hlen]
  refine ⟨.ref s.heap.objs.size, _, I.laid (t' := s.toks) (o := .lst (cutV xs lo hi)) (fun b ob q => Heap.get?_push_of_some _ q) (Nat.le_refl _) ?_, rfl, q _ (I.hok.fresh (Nat.le_refl _))⟩
  exact ⟨Nat.le_trans (cutV_length xs lo hi) hz, _, 0, (r.drop (HT.sIx xs.length 0 lo)).take (HT.sIx xs.length xs.length hi - HT.sIx xs.length 0 lo), Heap.get?_push_size _ rfl⟩
theorem call_len_seq : CallR X (.builtin "len") (fun xs H Q => ∃ p ys, xs = [.ref p] ∧ (SqL X.K H p ys ∨ SqT X.K H p ys) ∧ Q (.int ys.length) H) := by
  intro pins s σ H xs us Q I r h
  obtain ⟨p, ys, rfl, hq, q⟩ := h
  obtain ⟨u, rfl, rx⟩ := vals1 r
  cases rx
  have hn := line63
  rcases hq with hq | hq
  · obtain ⟨its, r', pl, hz⟩ := I.list hq
    have hlen := r'.length
    exact Calls.call_len_list pl.isList (by simp only [List.size_toArray] <;> omega) ⟨.int ys.length, H, I.tok _, ⟨s.toks + 1, by rw [List.size_toArray, hlen]⟩, q⟩
  · obtain ⟨its, r', pl, hz⟩ := I.tuple hq
    have hlen := r'.length
    exact len_tuple pl (by simp only [List.size_toArray] <;> omega) ⟨.int ys.length, H, I.tok _, ⟨s.toks + 1, by rw [List.size_toArray, hlen]⟩, q⟩
def tyV (K : PySem.W.Frag) (T : String) (x : V) (H : Hp) : Prop := match x with
  | .str _ => T = "str"
  | .int _ => T = "int"
  | .ref p => (T = "list" ∧ ∃ xs, SqL K H p xs) ∨ (T = "tuple" ∧ ∃ o, K.lookup p = some o ∧ o.cls = .type "tuple" ∧ o.dict = none) ∨
      (T = "dict" ∧ ((∃ kvs, H p = some (.dK kvs)) ∨ ∃ kvs, H p = some (.dT kvs))) ∨ (T = "set" ∧ ∃ S n, H p = some (.set S n))
  | _ => False
theorem tyV_is {pins : List (Addr × Obj)} {σ : St} {H : Hp} {s : Shared} {T : String} {x : V} {v : Value} (I : Inv X pins σ H s) (r : RelV x v) (ty : tyV X.K T x H) :
    s.TypeIs v T ∧ ∀ a, v = .ref a → ∃ ob, s.heap.get? a = some ob ∧ ob.dict = none := by
  cases x with
  | str z =>
    obtain ⟨t, rfl⟩ := r
    cases (show T = "str" from ty)
    exact ⟨typeIs_str s z t, fun _ e => nomatch e⟩
  | int i =>
    obtain ⟨t, rfl⟩ := r
    cases (show T = "int" from ty)
    exact ⟨typeIs_int s i t, fun _ e => nomatch e⟩
  | ref p =>
    cases r
    rcases ty with ⟨rfl, xs, hq⟩ | ⟨rfl, o, hk, hc, hd⟩ | ⟨rfl, hk⟩ | ⟨rfl, S, n, hk⟩
    · obtain ⟨its, _, pl, _⟩ := I.list hq
      refine ⟨pl.isList.typeIs, fun a e => ?_⟩
      cases e
      obtain ⟨o, n, e, c, hd, _⟩ := pl
      exact ⟨o, e, hd⟩
    · refine ⟨⟨o, I.kIn p o hk, hc⟩, fun a e => ?_⟩
      cases e
      exact ⟨o, I.kIn _ o hk, hd⟩
    · have z : ∃ o, s.heap.get? p = some o ∧ o.ExactDict := by
        rcases hk with ⟨kvs, hk⟩ | ⟨kvs, hk⟩
        · obtain ⟨_, _, _, _, o, _, _, e, ex, _⟩ := I.hok p _ hk
          exact ⟨o, e, ex⟩
        · obtain ⟨_, _, _, _, o, _, _, e, ex, _⟩ := I.hok p _ hk
          exact ⟨o, e, ex⟩
      obtain ⟨o, e, ex⟩ := z
      refine ⟨⟨o, e, ex.1⟩, fun a e2 => ?_⟩
      cases e2
      exact ⟨o, e, ex.2.1⟩
    · obtain ⟨o, _, _, _, e, ex, _⟩ := I.hok p _ hk
      refine ⟨⟨o, e, ex.1⟩, fun a e2 => ?_⟩
      cases e2
      exact ⟨o, e, ex.2.1⟩
  | _ => exact False.elim ty
def tBM (K : PySem.W.Frag) (T : String) (r : V → List V → Hp → VK → Prop) (to : TE) (t : TA) : TE := fun σ H Q => to σ H fun x H1 => tyV K T x H1 ∧ t σ H1 fun xs H2 => r x xs H2 Q
variable {o e : Expr} {es : List Expr} {to : TE} {t : TA} {name : Str} {apos cpos : Pos} {T id : String} {r : V → List V → Hp → VK → Prop}
theorem pe_bm (pa : PlainAttrs T) (slot : Slot T name id) (hty : typeOf (.builtin id) = pure (.type "method_descriptor")) (hm : MtR X id r) (ho : PE X o to) (ha : PA X (e :: es) t)
    (hbase : attributeBase o name X.env (eval o X.env) = eval o X.env := by rfl)
    (hfew : ((backTo cpos (starEach (e :: es) X.env)).all (fun x => !x.1) && (backToKw cpos (keywordEach [] X.env)).all (fun x => x.1.isSome)
      && decide ((e :: es).length + ([] : List Keyword).length + (if ([] : List Keyword).isEmpty then 0 else 1) < 30)) = true := by rfl)
    (hline : (apos.endLine == cpos.line) = true := by rfl) (hs : starEach (e :: es) X.env = (false, eval e X.env) :: starEach es X.env := by rfl) (hplain : (backTo cpos (starEach es X.env)).any (·.1) = false := by rfl) :
    PE X (.Call (.Attribute o name apos) (e :: es) [] cpos) (tBM X.K T r to t) := by
  intro pins s σ H Q I h
  refine wpAny_Call_method_late hbase hfew hline rfl (thn (ho pins s σ H _ I h) fun v s1 ⟨x, H1, I1, r1, ty, q1⟩ => ?_)
  obtain ⟨h1, h2⟩ := tyV_is I1 r1 ty
  refine ⟨T, id, pa, slot, hty, h1, h2, ?_⟩
  have hA := ha cpos pins s1 σ H1 _ I1 q1
  rw [hs] at hA ⊢
  refine Calls.callWith_builtin (by show (false || (backTo cpos (starEach es X.env)).any (·.1)) = false; rw [hplain] <;> rfl) (Calls.evalArgs_plain ?_)
  exact thn hA fun us s2 ⟨vs, H2, I2, r2, q2⟩ => hm pins s2 σ H2 x vs v us Q I2 r1 r2 q2
/- xs.append(e), list.index on a module's tuple .. are MtR facts of 06m -/
end
end L2
namespace L2
open PySem PySem.Spec PyProof.Rows
def MtM (X : Cx) (id : String) (r : V → List V → Hp → VK → Prop) : Prop :=
  ∀ (pins : List (Addr × Obj)) (s : Shared) (σ : St) (H : Hp) (x : V) (xs : List V) (v : Value) (us : List Value) (Q : VK), Inv X pins σ H s → RelV x v → Vals xs us → r x xs H Q →
    wpAny (model X.prog X.w) X.A (call (.builtin id) (v :: us)) (EP X pins σ Q) X.xe s
theorem Vals.one : ∀ {x : V} {us : List Value}, Vals [x] us → ∃ u, us = [u] ∧ RelV x u
  | _, _, .cons r .nil => ⟨_, rfl, r⟩
theorem Vals.two : ∀ {x y : V} {us : List Value}, Vals [x, y] us → ∃ u v, us = [u, v] ∧ RelV x u ∧ RelV y v
  | _, _, _, .cons r (.cons q .nil) => ⟨_, _, rfl, r, q⟩
theorem Vals.eraseIdx : ∀ {xs : List V} {us : List Value} (i : Nat), Vals xs us → Vals (xs.eraseIdx i) (us.eraseIdx i)
  | _, _, _, .nil => .nil
  | _, _, 0, .cons _ t => t
  | _, _, i + 1, .cons r t => .cons r (Vals.eraseIdx i t)
theorem len_erase {α : Type} : ∀ (l : List α) (i : Nat), (l.eraseIdx i).length ≤ l.length
  | [], _ => Nat.le_refl _
  | _ :: _, 0 => Nat.le_succ _
  | _ :: r, i + 1 => Nat.succ_le_succ (len_erase r i)
section
variable {X : Cx} {pins : List (Addr × Obj)} {σ : St} {H : Hp} {s : Shared} {l b : Addr} {xs ys zs : List V}
theorem Inv.lset {its its' : List Value} {n : Nat} {f : Array Value → Array Value} {t' : Nat} (I : Inv X pins σ H s) (hH : H l = some (.lst xs))
    (e : s.heap.get? l = some { cls := .type "list", data := .seq its.toArray n }) (hf : f its.toArray = its'.toArray) (hv : Vals ys its') (hz : ys.length ≤ sizeLine) :
    Inv X pins σ (upd H l (.lst ys)) { s with heap := s.heap.update l (Obj.mapSeq f), toks := t' } := by
  have q := PySem.IsL.update e f
  rw [hf] at q
  refine I.write (x := l) (e := l) (by rw [hH]; exact trivial) (.inl rfl) (fun b' u hb hu => (Heap.get?_update_other s.heap (Obj.mapSeq f) (Ne.symm hb)).trans hu) ⟨_, q⟩ ?_
  exact ⟨hz, its', _, hv, q⟩
theorem Inv.lnew {its : List Value} {t' : Nat} (I : Inv X pins σ H s) (hv : Vals ys its) (hz : ys.length ≤ sizeLine) :
    Inv X pins σ (upd H s.heap.objs.size (.lst ys)) { s with heap := s.heap.push { cls := .type "list", data := .seq its.toArray }, toks := t' } :=
  I.laid (fun _ _ q => Heap.get?_push_of_some _ q) (Nat.le_refl _) ⟨hz, its, 0, hv, Heap.get?_push_size _ rfl⟩
theorem Inv.fresh (I : Inv X pins σ H s) : H s.heap.objs.size = none := I.hok.fresh (Nat.le_refl _)
theorem Inv.lstM (I : Inv X pins σ H s) (hH : H l = some (.lst xs)) : xs.length ≤ sizeLine ∧ ∃ (its : List Value) (n : Nat), Vals xs its ∧ xs.length = its.length ∧ s.heap.get? l = some { cls := .type "list", data := .seq its.toArray n } := by
  obtain ⟨z, its, n, r, e⟩ := I.hok l _ hH
  exact ⟨z, its, n, r, r.length, e⟩
theorem notLongL {n : Nat} (h : n ≤ sizeLine) : Builtin.List.listTooLong n = false := by
  unfold Builtin.List.listTooLong
  exact decide_eq_false (by omega)
end
section
variable {X : Cx}
def rAppend : V → List V → Hp → VK → Prop := fun x vs H Q => ∃ l xs y, x = .ref l ∧ vs = [y] ∧ H l = some (.lst xs) ∧ xs.length < sizeLine ∧ Q .non (upd H l (.lst (xs ++ [y])))
theorem mt_append : MtM X "list.append" rAppend := by
  intro pins s σ H x vs v us Q I rx rv h
  obtain ⟨l, xs, y, rfl, rfl, hH, hz, q⟩ := h
  cases rx
  obtain ⟨u, rfl, ru⟩ := rv.one
  obtain ⟨z, its, n, r, hl, e⟩ := I.lstM hH
  refine call_meets F.slot_list_append ⟨_, e, rfl⟩ F.entry_list_append (F.args_list_append_2 _ _) (PySem.list_append l its.toArray n u (by rw [List.size_toArray]; omega)) ⟨e, ?_⟩
  refine ⟨.non, _, I.lset (its' := its ++ [u]) hH e (by simp) (r.append (.cons ru .nil)) ?_, rfl, q⟩
  rw [List.length_append, List.length_singleton]
  omega
def rExtend : V → List V → Hp → VK → Prop := fun x vs H Q => ∃ l b xs zs, x = .ref l ∧ vs = [.ref b] ∧ H l = some (.lst xs) ∧ H b = some (.lst zs) ∧ xs.length + zs.length ≤ sizeLine ∧ Q .non (upd H l (.lst (xs ++ zs)))
theorem mt_extend : MtM X "list.extend" rExtend := by
  intro pins s σ H x vs v us Q I rx rv h
  obtain ⟨l, b, xs, zs, rfl, rfl, hH, hB, hz, q⟩ := h
  cases rx
  obtain ⟨u, rfl, ru⟩ := rv.one
  cases ru
  obtain ⟨z, its, n, r, hl, e⟩ := I.lstM hH
  obtain ⟨z2, its2, n2, r2, hl2, e2⟩ := I.lstM hB
  have hsz : its.toArray.size + its2.toArray.size ≤ sizeLine := by rw [List.size_toArray, List.size_toArray]; omega
  have hlong : ¬ (!its.toArray.isEmpty && Builtin.List.listTooLong (its.toArray.size + its2.toArray.size)) = true := by
    rw [notLongL hsz, Bool.and_false]
    exact Bool.false_ne_true
  refine call_meets F.slot_list_extend ⟨_, e, rfl⟩ F.entry_list_extend (F.args_list_extend_2 _ _)
    (AutoSeq1.list_extend_list_list_0 l its.toArray n b its2.toArray n2 hlong (by rw [List.size_toArray]; omega) (by omega)) ⟨e, e2, ?_⟩
  refine ⟨.non, _, I.lset (its' := its ++ its2) hH e (by simp) (r.append r2) ?_, rfl, q⟩
  rw [List.length_append]
  omega
def rPopAt : V → List V → Hp → VK → Prop := fun x vs H Q => ∃ l xs i k y, x = .ref l ∧ vs = [.int i] ∧ H l = some (.lst xs) ∧ -(2 ^ 63) ≤ i ∧ i < 2 ^ 63 ∧ seqIndex? i xs.length = some k ∧ xs[k]? = some y ∧ Q y (upd H l (.lst (xs.eraseIdx k)))
theorem mt_popAt : MtM X "list.pop" rPopAt := by
  intro pins s σ H x vs v us Q I rx rv h
  obtain ⟨l, xs, i, k, y, rfl, rfl, hH, h1, h2, hk, hy, q⟩ := h
  cases rx
  obtain ⟨u, rfl, ru⟩ := rv.one
  obtain ⟨t, rfl⟩ := ru
  obtain ⟨z, its, n, r, hl, e⟩ := I.lstM hH
  obtain ⟨w, hw, rw'⟩ := r.get hy
  refine call_meets F.slot_list_pop ⟨_, e, rfl⟩ F.entry_list_pop (F.args_list_pop_2 _ _)
    (MeetsSeq.list_pop_at l its.toArray n i t k w (fitsIndex_both h1 h2) (by rw [List.size_toArray, ← hl]; exact hk) (by rw [← Array.getElem?_toList]; exact hw) (by rw [List.size_toArray]; omega)) ⟨e, ?_⟩
  refine ⟨y, _, I.lset (its' := its.eraseIdx k) hH e ?_ (r.eraseIdx k) ?_, rw', q⟩
  · show its.toArray.eraseIdxIfInBounds k = (its.eraseIdx k).toArray
    rw [List.eraseIdxIfInBounds_toArray]
  · have := len_erase xs k
    omega
end
end L2
namespace L2
open PySem PySem.Spec PyProof.Rows
theorem Vals.ints : ∀ {ns : List Int} {us : List Value}, Vals (ns.map V.int) us → IntsAre us ns
  | [], us, h => by
    rw [List.map_nil] at h
    cases h
    exact IntsAre.nil
  | n :: ns, us, h => by
    rw [List.map_cons] at h
    cases h with
    | cons r t =>
      obtain ⟨k, rfl⟩ := r
      exact IntsAre.cons n k (Vals.ints t)
theorem Vals.ref1 {a : Addr} {us : List Value} (r : Vals [V.ref a] us) : us = [Value.ref a] := by
  cases r with
  | cons r t =>
    cases t
    cases r
    rfl
section
variable {prog : Program} {w : World} {A : Around} {E : Value → Shared → Prop} {s : Shared} {l : Addr} {its : List Value} {ns : List Int} {Q : Value → Shared → Prop}
theorem min_raw (hh : A.handled = none) (hl : s.heap.IsList l its.toArray) (hi : IntsAre its ns) (hne : 0 < ns.length)
    (h : ∀ h' tk M t', (∀ b o, s.heap.get? b = some o → h'.get? b = some o) → M ∈ ns → (∀ a, a ∈ ns → M ≤ a) → Q (.int M t') { s with heap := h', toks := tk }) : wpAny (model prog w) A (call (.builtin "min") [.ref l]) Q E s := by
  obtain ⟨xs, e⟩ := hi.allInts.items
  have hn : numsOf (intItems xs).toList = ns := by rw [← e]; exact hi.numsOf
  rw [nums_intItems] at hn
  subst hn
  rw [e] at hl
  have hsz : 0 < xs.size := by simpa using hne
  refine PySem.min_intList hh hl hsz fun v h' tk hv hk => ?_
  obtain ⟨t, rfl⟩ := intItems_at hv
  obtain ⟨h1, h2⟩ := argBest_lt (numAt xs) (xs.size - 1)
  refine h h' tk _ t hk ?_ fun a ha => ?_
  · rw [numAt_eq]; exact PySem.getD_mem (by rw [List.length_map, Array.length_toList]; omega)
  · obtain ⟨j, hj, rfl⟩ := mem_getD ha
    rw [List.length_map, Array.length_toList] at hj
    rw [← numAt_eq]; exact h2 j (by omega)
end
section
variable {X : Cx}
def rMin (K : PySem.W.Frag) : List V → Hp → VK → Prop := fun vs H Q => ∃ (a : Addr) (ns : List Int), vs = [V.ref a] ∧ SqL K H a (ns.map V.int) ∧ 0 < ns.length ∧ ∀ m, m ∈ ns → (∀ y, y ∈ ns → m ≤ y) → Q (.int m) H
theorem cr_min (hc : X.calm = true) : CallR X (.builtin "min") (rMin X.K) := by
  intro pins s σ H vs us Q I r h
  obtain ⟨a, ns, rfl, hs, hne, q⟩ := h
  obtain ⟨its, rv, hl, _⟩ := I.list hs
  rw [Vals.ref1 r]
  exact min_raw (I.ok.hd hc) hl.isList rv.ints hne fun h' tk m t' hk h1 h2 => ⟨.int _, H, I.kept hk, ⟨_, rfl⟩, q m h1 h2⟩
end
end L2
namespace L2
open PySem PySem.Spec PyProof.Rows
abbrev CellAt (h : Heap) (c : Addr) (v : Option Value) : Prop := h.IsCell c v
def relS (scope sc : Scope) : Scope :=
  { scope with names := scope.names.map fun (n, k) => if (k == .free && sc.kind == .function && sc.names.lookup n == some .cell) then (n, .cell) else (n, k) }
def cloFrom (cells : List (Str × Addr)) : List (Str × NameKind) → List (Str × Addr) → List (Str × Addr)
  | [], acc => acc
  | (n, k) :: r, acc => if k == .free then cloFrom cells r ((n, (cells.lookup n).getD 0) :: acc) else cloFrom cells r acc
theorem closure_loop (env : Env) (f : Str × NameKind → List (Str × Addr) → Sem (ForInStep (List (Str × Addr))))
    (hf : ∀ n k c, f (n, k) c = if k == .free then (do let a ← cellOf env n; pure (.yield ((n, a) :: c))) else pure (.yield c)) :
    ∀ (names : List (Str × NameKind)) (acc : List (Str × Addr)), (∀ y ∈ names, y.2 = .free → ∃ c, env.cells.lookup y.1 = some c) → forIn names acc f = pure (cloFrom env.cells names acc)
  | [], acc, _ => by rw [List.forIn_nil]; rfl
  | (n, k) :: r, acc, h => by
    rw [List.forIn_cons, hf]
    have ih := fun acc => closure_loop env f hf r acc fun y hy => h y (List.mem_cons_of_mem _ hy)
    unfold cloFrom
    by_cases hk : (k == NameKind.free) = true
    · rw [if_pos hk, if_pos hk]
      obtain ⟨c, hc⟩ := h (n, k) List.mem_cons_self (by simpa using hk)
      have e : cellOf env n = pure c := by unfold cellOf; rw [hc]
      rw [e]
      have e2 : (env.cells.lookup n).getD 0 = c := by rw [hc]; rfl
      rw [e2]
      exact ih _
    · rw [if_neg hk, if_neg hk]
      exact ih _
theorem closure_ok {scope : Scope} {env : Env} (h : ∀ y ∈ scope.names, y.2 = .free → ∃ c, env.cells.lookup y.1 = some c) : closureFor scope env = pure (cloFrom env.cells scope.names []) := by
  simp only [closureFor]
  rw [closure_loop env _ (fun n k c => rfl) scope.names [] h]
  rfl
theorem mem_lookup {α : Type} : ∀ {l : List (Str × α)} {n : Str} {c : α}, (n, c) ∈ l → ∃ c', l.lookup n = some c'
  | (k, v) :: r, n, c, h => by
    rw [List.lookup_cons]
    cases hb : n == k with
    | true => exact ⟨_, rfl⟩
    | false =>
      rcases List.mem_cons.mp h with e | h
      · cases e; simp at hb
      · exact mem_lookup h
theorem cloFrom_mem {cells : List (Str × Addr)} : ∀ {names : List (Str × NameKind)} {acc : List (Str × Addr)} {n : Str} {c : Addr}, (n, c) ∈ cloFrom cells names acc → (n, c) ∈ acc ∨ ((n, .free) ∈ names ∧ c = (cells.lookup n).getD 0)
  | [], _, _, _, h => .inl h
  | (m, k) :: r, acc, n, c, h => by
    unfold cloFrom at h
    split at h
    · rename_i hk
      have hk : k = .free := by simpa using hk
      rcases cloFrom_mem h with h | ⟨h1, h2⟩
      · rcases List.mem_cons.mp h with e | h
        · cases e; exact .inr ⟨hk ▸ List.mem_cons_self, rfl⟩
        · exact .inl h
      · exact .inr ⟨List.mem_cons_of_mem _ h1, h2⟩
    · rcases cloFrom_mem h with h | ⟨h1, h2⟩
      · exact .inl h
      · exact .inr ⟨List.mem_cons_of_mem _ h1, h2⟩
theorem cloFrom_acc {cells : List (Str × Addr)} : ∀ {names : List (Str × NameKind)} {acc : List (Str × Addr)} {p : Str × Addr}, p ∈ acc → p ∈ cloFrom cells names acc
  | [], _, _, h => h
  | (m, k) :: r, acc, p, h => by
    unfold cloFrom
    split
    · exact cloFrom_acc (List.mem_cons_of_mem _ h)
    · exact cloFrom_acc h
theorem cloFrom_has {cells : List (Str × Addr)} : ∀ {names : List (Str × NameKind)} {acc : List (Str × Addr)} {n : Str}, (n, .free) ∈ names → (n, (cells.lookup n).getD 0) ∈ cloFrom cells names acc
  | (m, k) :: r, acc, n, h => by
    unfold cloFrom
    rcases List.mem_cons.mp h with e | h
    · cases e
      exact cloFrom_acc List.mem_cons_self
    · split
      · exact cloFrom_has h
      · exact cloFrom_has h
theorem cells_mem : ∀ {names : List (Str × NameKind)} {h : Heap} {acc : List (Str × Addr)} {x : Str} {c : Addr}, (x, c) ∈ cellsFrom h.objs.size names acc →
    (x, c) ∈ acc ∨ ((x, .cell) ∈ names ∧ h.objs.size ≤ c ∧ CellAt (pushCells h names) c none)
  | [], _, _, _, _, h => .inl h
  | (n, k) :: r, h, acc, x, c, hm => by
    unfold cellsFrom at hm
    unfold pushCells
    split at hm
    · rename_i hk
      rw [if_pos hk]
      have hk : k = .cell := by simpa using hk
      rw [← Heap.size_push h { cls := .type "cell", data := .cell none }] at hm
      rcases cells_mem hm with hm | ⟨h1, h2, h3⟩
      · rcases List.mem_cons.mp hm with e | hm
        · cases e
          exact .inr ⟨hk ▸ List.mem_cons_self, Nat.le_refl _, _, pushCells_keeps r _ _ _ (Heap.get?_push_size _ rfl), rfl⟩
        · exact .inl hm
      · rw [Heap.size_push] at h2
        exact .inr ⟨List.mem_cons_of_mem _ h1, Nat.le_of_succ_le h2, h3⟩
    · rename_i hk
      rw [if_neg hk]
      rcases cells_mem hm with hm | ⟨h1, h2, h3⟩
      · exact .inl hm
      · exact .inr ⟨List.mem_cons_of_mem _ h1, h2, h3⟩
theorem cells_acc : ∀ {names : List (Str × NameKind)} {n : Nat} {acc : List (Str × Addr)} {p : Str × Addr}, p ∈ acc → p ∈ cellsFrom n names acc
  | [], _, _, _, h => h
  | (m, k) :: r, n, acc, p, h => by
    unfold cellsFrom
    split
    · exact cells_acc (List.mem_cons_of_mem _ h)
    · exact cells_acc h
theorem cells_has : ∀ {names : List (Str × NameKind)} {n : Nat} {acc : List (Str × Addr)} {x : Str}, (x, .cell) ∈ names → ∃ c, (x, c) ∈ cellsFrom n names acc
  | (m, k) :: r, n, acc, x, h => by
    unfold cellsFrom
    rcases List.mem_cons.mp h with e | h
    · cases e
      exact ⟨n, cells_acc List.mem_cons_self⟩
    · split
      · exact cells_has h
      · exact cells_has h
theorem cells_inj : ∀ {names : List (Str × NameKind)} {h : Heap} {acc : List (Str × Addr)} {x y : Str} {c : Addr}, (∀ p ∈ acc, p.2 < h.objs.size) → (∀ x y c, (x, c) ∈ acc → (y, c) ∈ acc → x = y) →
    (x, c) ∈ cellsFrom h.objs.size names acc → (y, c) ∈ cellsFrom h.objs.size names acc → x = y
  | [], _, _, _, _, _, _, hi, h1, h2 => hi _ _ _ h1 h2
  | (n, k) :: r, h, acc, x, y, c, hl, hi, h1, h2 => by
    unfold cellsFrom at h1 h2
    split at h1
    · rename_i hk
      rw [if_pos hk] at h2
      rw [← Heap.size_push h { cls := .type "cell", data := .cell none }] at h1 h2
      refine cells_inj (h := h.push _) (fun p hp => ?_) (fun x y c a b => ?_) h1 h2
      · rw [Heap.size_push]
        rcases List.mem_cons.mp hp with rfl | hp
        · exact Nat.lt_succ_self _
        · exact Nat.lt_succ_of_lt (hl p hp)
      · rcases List.mem_cons.mp a with e | a <;> rcases List.mem_cons.mp b with e' | b
        · cases e; cases e'; rfl
        · cases e; exact absurd (hl _ b) (Nat.lt_irrefl _)
        · cases e'; exact absurd (hl _ a) (Nat.lt_irrefl _)
        · exact hi _ _ _ a b
    · rename_i hk
      rw [if_neg hk] at h2
      exact cells_inj hl hi h1 h2
theorem newEnv_comp {M : Model} {A : Around} {E : Value → Shared → Prop} {s : Shared} {scope : Scope} {globals : Addr} {closure : List (Str × Addr)} {qual : Str} {func : Option Addr} {code : Value} {around : Env} {builtins : Addr} {Q : Env → Shared → Prop}
    (h : Q (newEnv scope s.heap.objs.size globals (cellsFrom (s.heap.objs.size + 1) scope.names closure) qual func code (some around) builtins)
      { s with heap := pushCells (s.heap.push { cls := .type "dict", data := .dict #[] }) scope.names }) :
    wpAny M A (newFunctionEnv scope globals closure [] qual func code (some around) builtins) Q E s := by
  simp only [newFunctionEnv, Option.isSome_some, if_true]
  refine wpAny_bind (wpAny_alloc ?_)
  refine wpAny_bind (wpAny_layCells _ (fun n k c => rfl) scope.names closure _ _ ?_)
  rw [show ({ s with heap := s.heap.push { cls := .type "dict", data := .dict #[] } } : Shared).heap.objs.size = s.heap.objs.size + 1 from Heap.size_push ..]
  rw [List.forIn_nil]
  exact wpAny_bind (wpAny_pure (wpAny_pure h))
theorem lookup_relS {sc : Scope} : ∀ {names : List (Str × NameKind)} {x : Str} {k : NameKind},
    (names.map fun (n, k) => if (k == NameKind.free && sc.kind == .function && sc.names.lookup n == some .cell) then (n, NameKind.cell) else (n, k)).lookup x = some k →
    ∃ k', names.lookup x = some k' ∧ (k = k' ∨ (k' = .free ∧ k = .cell))
  | [], _, _, h => by simp at h
  | (n, k₀) :: r, x, k, h => by
    have ih := @lookup_relS sc r x k
    have h' : List.lookup x ((if (k₀ == NameKind.free && sc.kind == .function && sc.names.lookup n == some .cell) = true then (n, NameKind.cell) else (n, k₀)) :: (r.map _)) = some k := h
    cases hx : x == n with
    | true =>
      simp only [List.lookup_cons, hx]
      by_cases hc : (k₀ == NameKind.free && sc.kind == .function && sc.names.lookup n == some .cell) = true
      · rw [if_pos hc] at h'
        simp only [List.lookup_cons, hx] at h'
        cases h'
        simp only [Bool.and_eq_true, beq_iff_eq] at hc
        exact ⟨k₀, rfl, .inr ⟨hc.1.1, rfl⟩⟩
      · rw [if_neg hc] at h'
        simp only [List.lookup_cons, hx] at h'
        cases h'
        exact ⟨_, rfl, .inl rfl⟩
    | false =>
      simp only [List.lookup_cons, hx]
      by_cases hc : (k₀ == NameKind.free && sc.kind == .function && sc.names.lookup n == some .cell) = true
      · rw [if_pos hc] at h'
        simp only [List.lookup_cons, hx] at h'
        exact ih h'
      · rw [if_neg hc] at h'
        simp only [List.lookup_cons, hx] at h'
        exact ih h'
structure BlkOk (N : List Str) (sc scope : Scope) (own : List (Str × Nat)) : Prop where
  kind : scope.kind = .function
  uniq : ∀ y ∈ scope.names, scope.names.lookup y.1 = some y.2
  ix : ∀ p ∈ own, N[p.2]? = some p.1
  free : ∀ y ∈ scope.names, y.2 = .free → sc.names.lookup y.1 = some .cell ∨ sc.names.lookup y.1 = some .free
  own : ∀ y ∈ scope.names, y.2 = .local ∨ y.2 = .cell → y.1 ∈ own.map (·.1) ∨ y.1 ∉ N
def wipe (σ : St) : List Nat → St
  | [] => σ
  | v :: vs => (wipe σ vs).set v none
theorem wipe_length (σ : St) : ∀ vs : List Nat, (wipe σ vs).length = σ.length
  | [] => rfl
  | v :: vs => by unfold wipe; rw [List.length_set, wipe_length σ vs]
theorem wipe_some {σ : St} {i : Nat} {x : V} : ∀ {vs : List Nat}, (wipe σ vs)[i]? = some (some x) → σ[i]? = some (some x) ∧ i ∉ vs
  | [], h => ⟨h, by simp⟩
  | v :: vs, h => by
    unfold wipe at h
    by_cases hi : v = i
    · subst hi
      by_cases hv : v < (wipe σ vs).length
      · rw [List.getElem?_set_self hv] at h; cases h
      · rw [List.getElem?_eq_none (by simpa using hv)] at h; cases h
    · rw [List.getElem?_set_ne hi] at h
      obtain ⟨h1, h2⟩ := wipe_some h
      exact ⟨h1, by simp only [List.mem_cons, not_or]; exact ⟨fun e => hi e.symm, h2⟩⟩
abbrev Cx.blk (X : Cx) (s : Shared) (H : Hp) (scope : Scope) (cenv : Env) (fp : List Addr) : Cx := { X with s_0 := s, H_0 := H, env := cenv, outer := X.stack, ex := fp, fn := fun x => scope.names.lookup x == some .cell, pn := [], xe := fun _ _ => False }
section
variable {X : Cx} {pins : List (Addr × Obj)} {σ : St} {H : Hp} {s : Shared}
theorem block_start {scope : Scope} {own : List (Str × Nat)} {fp : List Addr} (I : Inv X pins σ H s) (ok : BlkOk X.N X.env.scope scope own) (hN : X.N.Nodup) (hfp : ∀ b ∈ fp, FpOk X pins H b ∧ b < s.heap.objs.size) :
    Inv (X.blk s H scope (compEnvC scope (cellsFrom (s.heap.objs.size + 1) scope.names (cloFrom X.env.cells scope.names [])) s.heap.objs.size X.env) fp) [] (wipe σ (own.map (·.2))) H { s with heap := pushCells (s.heap.push { cls := .type "dict", data := .dict #[] }) scope.names } := by
  have hfree : ∀ y ∈ scope.names, y.2 = .free → ∃ c, X.env.cells.lookup y.1 = some c := fun y hy e => by
    rcases ok.free y hy e with k | k
    · exact I.ok.has _ (.inl k)
    · exact I.ok.has _ (.inr k)
  generalize hcenv : compEnvC scope (cellsFrom (s.heap.objs.size + 1) scope.names (cloFrom X.env.cells scope.names [])) s.heap.objs.size X.env = cenv
  have kp : ∀ b o, s.heap.get? b = some o → (pushCells (s.heap.push { cls := .type "dict", data := .dict #[] }) scope.names).get? b = some o := fun b o e => pushCells_keeps _ _ _ _ (Heap.get?_push_of_some _ e)
  have hL : cenv.locals = s.heap.objs.size := by rw [← hcenv]; rfl
  have hcl : cenv.cells = cellsFrom (s.heap.objs.size + 1) scope.names (cloFrom X.env.cells scope.names []) := by rw [← hcenv]; rfl
  have hsc : cenv.scope = relS scope X.env.scope := by rw [← hcenv]; rfl
  rw [← Heap.size_push s.heap { cls := .type "dict", data := .dict #[] }] at hcl
  have cm : ∀ {y c}, (y, c) ∈ cloFrom X.env.cells scope.names [] → X.env.cells.lookup y = some c ∧ c < s.heap.objs.size := fun {y c} hm => by
    rcases cloFrom_mem hm with hm | ⟨h1, rfl⟩
    · cases hm
    · obtain ⟨c, hc⟩ := hfree _ h1 rfl
      rw [hc]
      obtain ⟨w, z⟩ := I.cell _ _ hc
      exact ⟨rfl, z.lt⟩
  have mem : ∀ {y c}, cenv.cells.lookup y = some c → (X.env.cells.lookup y = some c ∧ c < s.heap.objs.size) ∨ (s.heap.objs.size + 1 ≤ c ∧ CellAt (pushCells (s.heap.push { cls := .type "dict", data := .dict #[] }) scope.names) c none) := fun {y c} e => by
    rw [hcl] at e
    rcases cells_mem (PySem.mem_of_lookup e) with hm | ⟨_, h2, h3⟩
    · exact .inl (cm hm)
    · rw [Heap.size_push] at h2; exact .inr ⟨h2, h3⟩
  have look : ∀ {y}, scope.names.lookup y = some .free → ∃ c, cenv.cells.lookup y = some c ∧ X.env.cells.lookup y = some c := fun {y} hl => by
    have hy : (y, NameKind.free) ∈ scope.names := PySem.mem_of_lookup hl
    obtain ⟨c', e'⟩ := mem_lookup (cells_acc (names := scope.names) (n := (s.heap.push { cls := .type "dict", data := .dict #[] }).objs.size) (cloFrom_has (cells := X.env.cells) (acc := []) hy))
    rw [← hcl] at e'
    refine ⟨c', e', ?_⟩
    rw [hcl] at e'
    rcases cells_mem (PySem.mem_of_lookup e') with hm | ⟨h1, _, _⟩
    · exact (cm hm).1
    · have := ok.uniq _ h1
      rw [hl] at this; cases this
  have okB : (X.blk s H scope cenv fp).Ok := by
    refine ⟨I.ok.mod, by show cenv.scope.kind = _; rw [hsc]; exact ok.kind, by show cenv.globals = _; rw [← hcenv]; exact I.ok.glob, by show cenv.builtins = _; rw [← hcenv]; exact I.ok.blt, by show s.heap.objs.size ≤ cenv.locals; rw [hL]; exact Nat.le_refl _,
      fun y z c e1 e2 => ?_, fun y hy => ?_, fun y c z e => ?_, I.ok.hd, I.ok.frames, .inl rfl, fun b hb => ⟨?_, fun y c e z => ?_⟩, I.bs, Nat.le_trans I.ok.bsz I.sz, fun b o e hb => ?_, fun b hb z => ?_, I.stack, I.stkFree⟩
    · have e1 : cenv.cells.lookup y = some c := e1
      have e2 : cenv.cells.lookup z = some c := e2
      rw [hcl] at e1 e2
      refine cells_inj (fun p hp => ?_) (fun y z c a b => I.ok.inj y z c (cm a).1 (cm b).1) (PySem.mem_of_lookup e1) (PySem.mem_of_lookup e2)
      rw [Heap.size_push]
      exact Nat.lt_succ_of_lt (cm (y := p.1) (c := p.2) hp).2
    · show ∃ c, cenv.cells.lookup y = some c
      have key : ∀ k, cenv.kindOf y = some k → (k = .cell ∨ k = .free) → ∃ c, cenv.cells.lookup y = some c := fun k hk hk' => by
        unfold Env.kindOf at hk
        rw [hsc] at hk
        obtain ⟨k', e, r⟩ := lookup_relS hk
        have : k' = .cell ∨ k' = .free := by
          rcases r with rfl | ⟨rfl, _⟩
          · exact hk'
          · exact .inr rfl
        rcases this with rfl | rfl
        · obtain ⟨c, hm⟩ := cells_has (n := (s.heap.push { cls := .type "dict", data := .dict #[] }).objs.size) (acc := cloFrom X.env.cells scope.names []) (PySem.mem_of_lookup e)
          obtain ⟨c', e'⟩ := mem_lookup hm
          exact ⟨c', by rw [hcl]; exact e'⟩
        · obtain ⟨c, h1, _⟩ := look e
          exact ⟨c, h1⟩
      rcases hy with hy | hy
      · exact key _ hy (.inl rfl)
      · exact key _ hy (.inr rfl)
    · have z : (scope.names.lookup y == some NameKind.cell) = true := z
      have z : scope.names.lookup y = some .cell := by simpa using z
      have e : cenv.cells.lookup y = some c := e
      rw [hcl] at e
      rcases cells_mem (PySem.mem_of_lookup e) with hm | ⟨_, h2, _⟩
      · rcases cloFrom_mem hm with hm | ⟨h1, _⟩
        · cases hm
        · have q := ok.uniq _ h1
          rw [z] at q; cases q
      · rw [Heap.size_push] at h2
        exact Nat.le_of_succ_le h2
    · show b ≠ cenv.locals
      rw [hL]; exact Nat.ne_of_lt (hfp b hb).2
    · have e : cenv.cells.lookup y = some c := e
      rcases mem e with ⟨h1, _⟩ | ⟨h1, _⟩
      · exact (hfp b hb).1.2.2.2.2.1 y c h1 z
      · have h2 : s.heap.objs.size + 1 ≤ b := by rw [← z]; exact h1
        exact absurd (Nat.lt_of_lt_of_le (hfp b hb).2 (Nat.le_of_succ_le h2)) (Nat.lt_irrefl _)
    · rcases (hfp b hb).1.2.2.2.1 with z | z
      · exact I.ok.noex b o e z
      · exact absurd (Nat.lt_of_lt_of_le (Heap.lt_size e) (Nat.le_trans I.ok.bsz z)) (Nat.lt_irrefl _)
    · rcases List.mem_cons.mp (I.stkSub b z) with z | z
      · exact (hfp b hb).1.2.1 z
      · exact (hfp b hb).1.2.2.1 z
  refine ⟨okB, rfl, I.bare, Un.kept kp, ⟨fun _ => none, ?_, fun i y av e1 e2 e3 => ?_⟩, fun y c e => ?_, ?_, fun y c e => ?_, fun p hp => ?_, I.hok.kept kp, by rw [wipe_length]; exact I.len⟩
  · show Heap.Ns _ cenv.locals _
    rw [hL]
    exact Heap.Ns.keeps (Heap.Ns.new ..) fun b o e => pushCells_keeps _ _ _ _ e
  · obtain ⟨e2, hne⟩ := wipe_some e2
    have hfr : scope.names.lookup y = some .free ∧ (cenv.kindOf y = some .cell ∨ cenv.kindOf y = some .free) := by
      have key : ∀ k, cenv.scope.names.lookup y = some k → k = .local ∨ k = .cell ∨ k = .free → scope.names.lookup y = some .free ∧ (cenv.kindOf y = some .cell ∨ cenv.kindOf y = some .free) := fun k hk hk' => by
        have hk0 := hk
        rw [hsc] at hk
        obtain ⟨k', e, r⟩ := lookup_relS hk
        have no : ¬ (k' = .local ∨ k' = .cell) := fun hh => by
          rcases ok.own _ (PySem.mem_of_lookup e) hh with e' | e'
          · obtain ⟨p, hp, hpy⟩ := List.mem_map.mp e'
            have e3 := ok.ix p hp
            have : p.1 = y := hpy
            rw [this] at e3
            exact hne (List.mem_map.mpr ⟨p, hp, nodup_ix hN e3 e1⟩)
          · exact e' (List.mem_of_getElem? e1)
        rcases r with rfl | ⟨rfl, rfl⟩
        · rcases hk' with rfl | rfl | rfl
          · exact absurd (.inl rfl) no
          · exact absurd (.inr rfl) no
          · exact ⟨e, .inr hk0⟩
        · exact ⟨e, .inl hk0⟩
      have e3 : Vis cenv.scope y := e3
      rcases e3 with e3 | e3 | e3
      · exact key _ e3 (.inl rfl)
      · exact key _ e3 (.inr (.inl rfl))
      · exact key _ e3 (.inr (.inr rfl))
    obtain ⟨m, hn, hl⟩ := I.loc
    have hvis : Vis X.env.scope y := (ok.free _ (PySem.mem_of_lookup hfr.1) rfl).elim (fun k => .inr (.inl k)) (fun k => .inr (.inr k))
    obtain ⟨w, r, q⟩ := hl i y av e1 e2 hvis
    refine ⟨w, r, .inr ⟨hfr.2, ?_⟩⟩
    obtain ⟨c, h1, h2⟩ := look hfr.1
    rcases q with ⟨k, _⟩ | ⟨_, c', e', z⟩
    · have k : X.env.scope.names.lookup y = some .local := k
      rcases ok.free _ (PySem.mem_of_lookup hfr.1) rfl with k' | k' <;> rw [show X.env.scope.names.lookup y = _ from k'] at k <;> cases k
    · rw [h2] at e'; cases e'
      exact ⟨c, h1, z.keeps kp⟩
  · have e : cenv.cells.lookup y = some c := e
    rcases mem e with ⟨h1, _⟩ | ⟨_, z⟩
    · obtain ⟨w, z⟩ := I.cell y c h1
      exact ⟨w, z.keeps kp⟩
    · exact ⟨_, z⟩
  · show H cenv.locals = none
    rw [hL]; exact I.hok.fresh (Nat.le_refl _)
  · have e : cenv.cells.lookup y = some c := e
    rcases mem e with ⟨h1, _⟩ | ⟨h1, _⟩
    · exact I.freeC y c h1
    · exact I.hok.fresh (Nat.le_of_succ_le h1)
  · exact absurd (show p ∈ ([] : List (Addr × Obj)) ++ [] from hp) (by simp)
theorem app_ok {E : Value → Shared → Prop} {D : Addr} {xs : List V} {y : V} {v : Value} {Q : Value → Shared → Prop} (I : Inv X pins σ H s) (hD : H D = some (.lst xs)) (hz : xs.length < sizeLine) (r : RelV y v)
    (h : ∀ s', Inv X pins σ (upd H D (.lst (xs ++ [y]))) s' → Q .none s') : wpAny (model X.prog X.w) X.A (call (.builtin "list.append") [.ref D, v]) Q E s := by
  obtain ⟨hz', its, n, ri, e⟩ := I.hok D _ hD
  have hl := ri.length
  refine append_at (hsz := by rw [List.size_toArray]; omega) e fun h' sb ho' => ?_
  refine h { s with heap := h' } (I.write (t' := s.toks) (by rw [hD]; trivial) (.inl rfl) (fun b u hb q => (sb.2 b hb).trans q) ⟨_, ho'⟩ ⟨by rw [List.length_append]; exact hz, its ++ [v], n + 1, ri.append (.cons r .nil), ?_⟩)
  rw [ho']
  simp
def PTs (X : Cx) (ifs : List Expr) (t : TT) : Prop :=
  ∀ (pins : List (Addr × Obj)) (s : Shared) (σ : St) (H : Hp) (Q : Bool → Hp → Prop), Inv X pins σ H s → t σ H Q →
    wpAny (model X.prog X.w) X.A (forIn ifs true fun c r => if r = true then do let ok ← isTrue c X.env (eval c X.env); pure (ForInStep.yield ok) else pure (ForInStep.yield r)) (TP X pins σ Q) X.xe s
def tYes : TT := fun _ H Q => Q true H
theorem pts_nil : PTs X [] tYes := fun _ _ _ H _ I h => wpAny_tests_nil ⟨H, I, h⟩
theorem pts_one {c : Expr} {t : TT} (h : PT X c t) : PTs X [c] t := fun pins s σ H Q I hw => wpAny_tests_one (h pins s σ H Q I hw)
end
theorem thnF {α : Type} {t : Sem α} {Q Q' : α → Shared → Prop} {M : Model} {A : Around} {E : Value → Shared → Prop} {s : Shared} (h : wpAny M A t Q (fun _ _ => False) s) (hQ : ∀ a s, Q a s → Q' a s) : wpAny M A t Q' E s := wpAny_mono h hQ fun _ _ z => False.elim z
theorem compLoop_any {prog : Program} {w : World} {A : Around} {R : Result → Shared → Prop} {s : Shared} {elt target iter : Expr} {ifs : List Expr} {scope : Scope} {pos : Pos} {it acc : Value} {env : Env} (I : Nat → Shared → Prop)
    (turn : ∀ n s, I n s → wpAny (model prog w) A (pyNext it) (fun r s₁ => match r with
      | none => R (.ok .next) s₁
      | some v => wpAny (model prog w) A (letOwnedTupleGo target it v) (fun _ s₁' => wpAny (model prog w) A (assign target env v) (fun _ s₂ =>
          wpAny (model prog w) A (forIn ifs true fun c r => if r = true then do let ok ← isTrue c env (eval c env); pure (ForInStep.yield ok) else pure (ForInStep.yield r)) (fun ok s₃ =>
            if ok = true then wpAny (model prog w) A (eval elt env) (fun x s₄ =>
              wpAny (model prog w) A (call (.builtin "list.append") [acc, x]) (fun _ s₅ => ∃ m, m < n ∧ I m s₅) (notedBy (model prog w) A env fun e s' => R (.error e) s') s₄) (notedBy (model prog w) A env fun e s' => R (.error e) s') s₃
            else ∃ m, m < n ∧ I m s₃) (notedBy (model prog w) A env fun e s' => R (.error e) s') s₂) (notedBy (model prog w) A env fun e s' => R (.error e) s') s₁') (notedBy (model prog w) A env fun e s' => R (.error e) s') s₁) (notedBy (model prog w) A env fun e s' => R (.error e) s') s)
    (n : Nat) (h : I n s) :
    codeAny (model prog w) A (.compLoop (.ListComp elt [⟨target, iter, ifs, 0⟩] scope pos) 0 it acc env) R s := by
  refine codeAny_loop rfl I (fun n s hI => ?_) n h
  show wpAny _ A ((compTurn (.ListComp elt [⟨target, iter, ifs, 0⟩] scope pos) 0 it acc env).onRaise (fun x => do noteFrame x env; theTreesLotGoes x)) _ _ s
  refine wpAny_noted ?_
  rw [compTurn_list]
  refine wpAny_bind (wpAny_standAt (wpAny_bind (wpAny_mono (turn n s hI) (fun r s₁ h₁ => ?_) fun _ _ h' => h')))
  cases r with
  | none => exact wpAny_pure h₁
  | some v =>
    refine wpAny_bind (wpAny_mono h₁ (fun _ s₁' h₁' => ?_) fun _ _ h' => h')
    refine wpAny_bind (wpAny_mono h₁' (fun _ s₂ h₂ => wpAny_bind (wpAny_mono h₂ (fun ok s₃ h₃ => ?_) fun _ _ h' => h')) fun _ _ h' => h')
    cases ok with
    | false => exact wpAny_pure ⟨rfl, h₃⟩
    | true =>
      exact wpAny_bind (wpAny_bind (wpAny_mono h₃ (fun x s₄ h₄ => wpAny_bind (wpAny_mono h₄ (fun _ s₅ h₅ => wpAny_pure (wpAny_pure ⟨rfl, h₅⟩)) fun _ _ h' => h')) fun _ _ h' => h'))
section
variable {X : Cx}
def tLc (wi : TI) (g : TG) (tt : TT) (te : TE) (vs : List Nat) : TE := fun σ H Q => wi σ H fun J H1 => ∀ D, H1 D = none → ∃ W : Nat → Nat → Hp → Prop, (∃ m, W 0 m (upd H1 D (.lst []))) ∧ ∀ i m H, W i m H →
  (J.stop i H ∧ Q (.ref D) H) ∨ (J.go i H ∧ ∃ Nx : Hp → Prop, (∀ H', Nx H' → ∃ m', m' < m ∧ W (i + 1) m' H') ∧ ∀ x H', J.yld i H x H' → g x (wipe σ vs) H' fun σ2 H2 => wipe σ2 vs = wipe σ vs ∧ tt σ2 H2 fun b H3 =>
    if b = true then te σ2 H3 fun y H4 => ∃ acc, H4 D = some (.lst acc) ∧ acc.length < sizeLine ∧ Nx (upd H4 D (.lst (acc ++ [y]))) else Nx H3)
theorem lc_core {pins : List (Addr × Obj)} {s : Shared} {σ : St} {H : Hp} {Q : VK} {elt tg iter : Expr} {ifs : List Expr} {scope : Scope} {own : List (Str × Nat)} {pos pos' : Pos} {wi : TI} {g : TG} {tt : TT} {te : TE} {use : Option (Value → Sem Unit)} {Qf : Value → Shared → Prop}
    (hc : X.calm = true) (hN : X.N.Nodup) (I : Inv X pins σ H s) (hi : PI X tg iter wi) (ok : BlkOk X.N X.env.scope scope own)
    (hg : ∀ (s : Shared) (H : Hp) (C : Addr) (cl : List (Str × Addr)) (fp : List Addr), PG (X.blk s H scope (compEnvC scope cl C X.env) fp) tg g) (ht : ∀ (s : Shared) (H : Hp) (C : Addr) (cl : List (Str × Addr)) (fp : List Addr), PTs (X.blk s H scope (compEnvC scope cl C X.env) fp) ifs tt)
    (he : ∀ (s : Shared) (H : Hp) (C : Addr) (cl : List (Str × Addr)) (fp : List Addr), PE (X.blk s H scope (compEnvC scope cl C X.env) fp) elt te) (hs : ∀ x, foldedSetIterable iter X.env x = pure x)
    (h : tLc wi g tt te (own.map (·.2)) σ H Q)
    (hRR : ∀ D C s' m H', Inv X pins σ H' s' → Q (.ref D) H' → s'.heap.Ns C m → FpOk X pins H' C → compPost (model X.prog X.w) X.A X.xe use Qf (.ref D) C (.ok .next) s') :
    wpAny (model X.prog X.w) X.A (comprehension (.ListComp elt [⟨tg, iter, ifs, 0⟩] scope pos) scope X.env pos' (newList []) false (eval iter X.env) use) Qf X.xe s := by
  have hfree : ∀ y ∈ scope.names, y.2 = .free → ∃ c, X.env.cells.lookup y.1 = some c := fun y hy e => by
    rcases ok.free y hy e with k | k
    · exact I.ok.has _ (.inl k)
    · exact I.ok.has _ (.inr k)
  refine wpAny_comprehension_free (use := use) rfl hs (closure_ok hfree) ok.kind (fun y hy e => by rw [ok.uniq y hy, e])
    (thn (hi pins s σ H _ I h) fun xv s1 hx => thn hx fun itv s2 h2 => ?_)
  obtain ⟨it, fp, tn, J, H2, e, I2, T, st2, f2, q⟩ := h2
  subst e
  refine wpAny_newObj_type (newEnv_comp ?_) (by show 0 ≤ sizeLine; decide)
  generalize hD : s2.heap.objs.size = D
  have hDn : H2 D = none := I2.hok.fresh (Nat.le_of_eq hD)
  obtain ⟨W, ⟨m0, w0⟩, turn⟩ := q D hDn
  generalize hs3 : ({ s2 with heap := s2.heap.push { cls := .type "list", data := .seq ([] : List Value).toArray } } : Shared) = s3
  have I3 : Inv X pins σ (upd H2 D (.lst [])) s3 := by
    rw [← hs3]
    refine I2.laid (t' := s2.toks) (fun b o e => Heap.get?_push_of_some _ e) (Nat.le_of_eq hD) ⟨Nat.zero_le _, [], 0, .nil, ?_⟩
    rw [← hD]
    exact Heap.get?_push_size _ rfl
  have h3 : s3.heap = s2.heap.push { cls := .type "list", data := .seq ([] : List Value).toArray } := by rw [← hs3]
  have sz : ∀ b ∈ fp, b < s2.heap.objs.size := fun b hb => by
    obtain ⟨o, e, _⟩ := T.obj _ _ st2 b hb
    exact Heap.lt_size e
  have f3 : ∀ b ∈ fp, FpOk X pins (upd H2 D (.lst [])) b ∧ b < s3.heap.objs.size := fun b hb => by
    have hlt := sz b hb
    refine ⟨⟨?_, (f2 b hb).2⟩, by rw [h3, Heap.size_push]; exact Nat.lt_succ_of_lt hlt⟩
    rw [upd_ne (by rw [← hD]; exact Nat.ne_of_lt hlt)]
    exact (f2 b hb).1
  have st3 : tn 0 s3.heap := T.keep _ _ _ st2 fun b _ o e => by rw [h3]; exact Heap.get?_push_of_some _ e
  have I4 := block_start I3 ok hN f3
  have pg := hg s3 (upd H2 D (.lst [])) s3.heap.objs.size (cellsFrom (s3.heap.objs.size + 1) scope.names (cloFrom X.env.cells scope.names [])) fp
  have pt := ht s3 (upd H2 D (.lst [])) s3.heap.objs.size (cellsFrom (s3.heap.objs.size + 1) scope.names (cloFrom X.env.cells scope.names [])) fp
  have pe := he s3 (upd H2 D (.lst [])) s3.heap.objs.size (cellsFrom (s3.heap.objs.size + 1) scope.names (cloFrom X.env.cells scope.names [])) fp
  show codeAny _ _ (.compStart (.ListComp elt [⟨tg, iter, ifs, 0⟩] scope pos) 0 (.ref it) (.ref D) (compEnvC scope (cellsFrom (s3.heap.objs.size + 1) scope.names (cloFrom X.env.cells scope.names [])) s3.heap.objs.size X.env)) (compPost (model X.prog X.w) X.A X.xe use Qf (.ref D) s3.heap.objs.size) { s3 with heap := pushCells (s3.heap.push { cls := .type "dict", data := .dict #[] }) scope.names }
  have nfp : ∀ b ∈ fp, (upd H2 D (.lst [])) b = none := fun b hb => (f3 b hb).1.1
  generalize hce : compEnvC scope (cellsFrom (s3.heap.objs.size + 1) scope.names (cloFrom X.env.cells scope.names [])) s3.heap.objs.size X.env = ce at I4 pg pt pe ⊢
  have cL : ce.locals = s3.heap.objs.size := by subst hce; rfl
  generalize hH3 : upd H2 D (.lst []) = H3 at I3 I4 pg pt pe w0 nfp f3
  generalize hs4 : ({ s3 with heap := pushCells (s3.heap.push { cls := .type "dict", data := .dict #[] }) scope.names } : Shared) = s4 at I4 ⊢
  have st4 : tn 0 s4.heap := T.keep _ _ _ st3 fun b _ o e => by rw [← hs4]; exact pushCells_keeps _ _ _ _ (Heap.get?_push_of_some _ e)
  have stat : ∀ {σ' : St} {H' : Hp} {s' : Shared}, Inv (X.blk s3 H3 scope ce fp) [] σ' H' s' → (∀ b ∈ fp, H' b = none) → ∀ b ∈ fp, FpOk (X.blk s3 H3 scope ce fp) [] H' b := fun {σ' H' s'} I' hn b hb =>
    ⟨hn b hb, (I'.ok.exf b hb).1, I'.ok.exfs b hb, .inl hb, fun x c e => (I'.ok.exf b hb).2 x c e, fun p hp => absurd (show p ∈ ([] : List (Addr × Obj)) ++ [] from hp) (by simp)⟩
  have loop : codeAny (model X.prog X.w) X.A (.compLoop (.ListComp elt [⟨tg, iter, ifs, 0⟩] scope pos) 0 (.ref it) (.ref D) ce) (compPost (model X.prog X.w) X.A X.xe use Qf (.ref D) s3.heap.objs.size) s4 := by
    refine compLoop_any (fun n s' => ∃ i H', Inv (X.blk s3 H3 scope ce fp) [] (wipe σ (own.map (·.2))) H' s' ∧ tn i s'.heap ∧ (∀ b ∈ fp, H' b = none) ∧ W i n H') ?_ m0 ⟨0, H3, I4, st4, nfp, w0⟩
    rintro n s5 ⟨i, H5, I5, st5, n5, w5⟩
    rcases turn i n H5 w5 with ⟨stop, qq⟩ | ⟨go, Nx, hNx, step⟩
    · have td := T.done (X.blk s3 H3 scope ce fp) rfl rfl rfl hc i [] s5 _ H5 (fun _ _ => False) I5 (stat I5 n5) st5 stop
      refine thnF td fun r s6 ⟨hr, I6⟩ => ?_
      subst hr
      have I7 : Inv X pins σ H5 s6 := I3.call' (ch := fp) I6.os I6.base I6.hok I6.bare fun b hb => ⟨(f3 b hb).1.2.2.2.1, (f3 b hb).1.2.1, (f3 b hb).1.2.2.2.2.1, (f3 b hb).1.2.2.2.2.2⟩
      have nC : H5 s3.heap.objs.size = none := by
        have z : H5 ce.locals = none := I6.free
        rw [cL] at z
        exact z
      obtain ⟨m, hn, _⟩ := I6.loc
      have hn : s6.heap.Ns ce.locals m := hn
      rw [cL] at hn
      exact hRR D s3.heap.objs.size s6 m H5 I7 qq hn (I3.fpOk (Nat.le_refl _) nC)
    · have ti := T.item (X.blk s3 H3 scope ce fp) rfl rfl rfl hc i [] s5 _ H5 (fun _ _ => False) I5 (stat I5 n5) st5 go
      refine thnF ti fun r s6 ⟨u, hr, h6⟩ => ?_
      subst hr
      refine thnF h6 fun _ s7 ⟨x, H7, I7, r7, y7, st7, n7⟩ => ?_
      have I7' := I7.pinned (stat I7 n7) (T.obj _ _ st7)
      refine thnF (pg _ s7 _ H7 x u _ I7' r7 (step x H7 y7)) fun _ s8 ⟨σ8, H8, I8, hw8, q8⟩ => ?_
      refine thnF (pt _ s8 σ8 H8 _ I8 q8) fun b s9 ⟨H9, I9, q9⟩ => ?_
      have fin : ∀ {s' : Shared} {H' : Hp}, Inv (X.blk s3 H3 scope ce fp) ([] ++ pinsAt fp s7.heap) σ8 H' s' → Nx H' → ∃ m, m < n ∧ ∃ i H', Inv (X.blk s3 H3 scope ce fp) [] (wipe σ (own.map (·.2))) H' s' ∧ tn i s'.heap ∧ (∀ b ∈ fp, H' b = none) ∧ W i m H' := fun {s' H'} I' nx => by
        obtain ⟨m', hm, w'⟩ := hNx H' nx
        have pin' : ∀ b ∈ fp, ∀ o, s7.heap.get? b = some o → s'.heap.get? b = some o ∧ H' b = none := fun b hb o e =>
          let z := I'.pin (b, o) (List.mem_append_right _ (List.mem_append_right _ (mem_pinsAt hb e)))
          ⟨z.1, z.2.1⟩
        have hl : (wipe σ (own.map (·.2))).length = σ8.length := by rw [← hw8, wipe_length]
        refine ⟨m', hm, i + 1, H', (I'.unpinned (pins := [])).weak hl (fun j v e => ?_), T.keep _ _ _ st7 fun b hb o e => (pin' b hb o e).1, fun b hb => ?_, w'⟩
        · rw [← hw8] at e
          exact (wipe_some e).1
        · obtain ⟨o, e, _⟩ := T.obj _ _ st7 b hb
          exact (pin' b hb o e).2
      cases b with
      | false =>
        simp only [Bool.false_eq_true, if_false] at q9 ⊢
        exact fin I9 q9
      | true =>
        simp only [if_true] at q9 ⊢
        refine thnF (pe _ s9 σ8 H9 _ I9 q9) fun z s10 ⟨yv, H10, I10, r10, acc, hD10, hz10, nx⟩ => ?_
        exact app_ok (X := X.blk s3 H3 scope ce fp) I10 hD10 hz10 r10 fun s11 I11 => fin I11 nx
  exact codeAny_compStart_list loop (T.self X.A 0 _ _ _ st4 loop)
theorem pe_lc {elt tg iter : Expr} {ifs : List Expr} {scope : Scope} {own : List (Str × Nat)} {pos : Pos} {wi : TI} {g : TG} {tt : TT} {te : TE} (hc : X.calm = true) (hN : X.N.Nodup) (hi : PI X tg iter wi) (ok : BlkOk X.N X.env.scope scope own)
    (hg : ∀ (s : Shared) (H : Hp) (C : Addr) (cl : List (Str × Addr)) (fp : List Addr), PG (X.blk s H scope (compEnvC scope cl C X.env) fp) tg g) (ht : ∀ (s : Shared) (H : Hp) (C : Addr) (cl : List (Str × Addr)) (fp : List Addr), PTs (X.blk s H scope (compEnvC scope cl C X.env) fp) ifs tt)
    (he : ∀ (s : Shared) (H : Hp) (C : Addr) (cl : List (Str × Addr)) (fp : List Addr), PE (X.blk s H scope (compEnvC scope cl C X.env) fp) elt te) (hs : ∀ x, foldedSetIterable iter X.env x = pure x := by intro _; rfl) :
    PE X (.ListComp elt [⟨tg, iter, ifs, 0⟩] scope pos) (tLc wi g tt te (own.map (·.2))) := by
  intro pins s σ H Q I h
  rw [eval_ListComp]
  refine lc_core hc hN I hi ok hg ht he hs h fun D C s' m H' I' q hn f => ⟨m, hn, fun h'' sb => ?_⟩
  obtain ⟨f0, f1, f2, f3, f4, f5⟩ := f
  exact ⟨.ref D, H', I'.turned (t' := s'.toks) (fun b o hb e => (sb.2 b hb).trans e) f0 f1 f3 f4 f5, rfl, q⟩
theorem ps_setLc {i : Nat} {y : Str} {py : Pos} {elt tg iter : Expr} {ifs : List Expr} {scope : Scope} {own : List (Str × Nat)} {pos spos : Pos} {wi : TI} {g : TG} {tt : TT} {te : TE} (hc : X.calm = true) (hN : X.N.Nodup) (hy : X.N[i]? = some y) (hyl : X.env.scope.names.lookup y = some .local)
    (hsw : swapsWith (.ListComp elt [⟨tg, iter, ifs, 0⟩] scope pos) (some (.Name y py)) spos.line X.env = pure true) (hi : PI X tg iter wi) (ok : BlkOk X.N X.env.scope scope own)
    (hg : ∀ (s : Shared) (H : Hp) (C : Addr) (cl : List (Str × Addr)) (fp : List Addr), PG (X.blk s H scope (compEnvC scope cl C X.env) fp) tg g) (ht : ∀ (s : Shared) (H : Hp) (C : Addr) (cl : List (Str × Addr)) (fp : List Addr), PTs (X.blk s H scope (compEnvC scope cl C X.env) fp) ifs tt)
    (he : ∀ (s : Shared) (H : Hp) (C : Addr) (cl : List (Str × Addr)) (fp : List Addr), PE (X.blk s H scope (compEnvC scope cl C X.env) fp) elt te) (hs : ∀ x, foldedSetIterable iter X.env x = pure x := by intro _; rfl) :
    PS X (.Assign [.Name y py] (.ListComp elt [⟨tg, iter, ifs, 0⟩] scope pos) spos) (tAsg (tLc wi g tt te (own.map (·.2))) (gName i)) := by
  intro pins s σ H D I h
  rw [exec_Assign_Name_used _ _ _ _ hsw]
  refine wpAny_bind (wpAny_standAt (wpAny_bind ?_))
  show wpAny _ X.A (do let _ ← comprehension (.ListComp elt [⟨tg, iter, ifs, 0⟩] scope pos) scope X.env (firstIterPos [⟨tg, iter, ifs, 0⟩] pos) (newList []) false (eval iter X.env) (some (assign (.Name y py) X.env))) _ _ s
  have h : tLc wi g tt te (own.map (·.2)) σ H (fun x H1 => gName i x σ H1 D.nx) := h
  refine wpAny_bind (thn (lc_core (Qf := fun _ s' => SP X pins D .next s') hc hN I hi ok hg ht he hs h fun L C s' m H' I' q hn f => ?_) fun _ s' hq => wpAny_pure (wpAny_pure hq))
  show wpAny _ _ (assign (.Name y py) X.env (.ref L)) _ _ _
  refine wpAny_assign_Name (store_ok2 (v := V.ref L) I' hN hy (.inl hyl) rfl (fun s2 I2 ⟨a, sb, ha⟩ => ?_) (.inr hyl))
  obtain ⟨f0, f1, f2, f3, f4, f5⟩ := f
  have haC : C ≠ a := by
    rcases ha with z | z
    · rw [z]; exact f1
    · exact fun e => f4 y a z e.symm
  refine ⟨m, hn.sameBut sb haC, fun h3 sb3 => ?_⟩
  exact ⟨_, H', I2.turned (t' := s2.toks) (fun b o hb e => (sb3.2 b hb).trans e) f0 f1 f3 f4 f5, q⟩
theorem sw_true {elt : Expr} {gs : List Comprehension} {scope : Scope} {pos py : Pos} {y : Str} {l : Nat} {env : Env} (hk : env.scope.kind = .function) (hy : env.scope.names.lookup y = some .local) (hl : (py.line == pos.line) = true)
    (ha : (scope.names.any fun (n, k) => n == y && (k == .local || k == .cell)) = false) : swapsWith (.ListComp elt gs scope pos) (some (.Name y py)) l env = pure true := by
  have ky : env.kindOf y = some .local := hy
  have hb : env.blockKind = .function := by unfold Env.blockKind; rw [hk]; rfl
  unfold swapsWith
  simp only [hb, ky, ha, Expr.pos, hl]
  rfl
end
theorem lc_range {lo : Int} {n : Nat} {g : TG} {tt : TT} {te : TE} {vs : List Nat} {σ : St} {H1 : Hp} {D : Addr} {Qd : Hp → Prop} (Pv : Nat → Hp → Prop) (h0 : Pv 0 (upd H1 D (.lst [])))
    (hs : ∀ i H, i < n → Pv i H → g (.int (lo + i)) (wipe σ vs) H fun σ2 H2 => wipe σ2 vs = wipe σ vs ∧ tt σ2 H2 fun b H3 =>
      if b = true then te σ2 H3 fun y H4 => ∃ acc, H4 D = some (.lst acc) ∧ acc.length < sizeLine ∧ Pv (i + 1) (upd H4 D (.lst (acc ++ [y]))) else Pv (i + 1) H3) (hd : ∀ H, Pv n H → Qd H) :
    ∃ W : Nat → Nat → Hp → Prop, (∃ m, W 0 m (upd H1 D (.lst []))) ∧ ∀ i m H, W i m H →
      ((Itr lo n).stop i H ∧ Qd H) ∨ ((Itr lo n).go i H ∧ ∃ Nx : Hp → Prop, (∀ H', Nx H' → ∃ m', m' < m ∧ W (i + 1) m' H') ∧ ∀ x H', (Itr lo n).yld i H x H' → g x (wipe σ vs) H' fun σ2 H2 => wipe σ2 vs = wipe σ vs ∧ tt σ2 H2 fun b H3 =>
        if b = true then te σ2 H3 fun y H4 => ∃ acc, H4 D = some (.lst acc) ∧ acc.length < sizeLine ∧ Nx (upd H4 D (.lst (acc ++ [y]))) else Nx H3) := by
  refine ⟨fun i m H => m = n - i ∧ i ≤ n ∧ Pv i H, ⟨n, by simp, Nat.zero_le _, h0⟩, ?_⟩
  rintro i m H ⟨rfl, hi, p⟩
  by_cases hlt : i < n
  · refine .inr ⟨hlt, Pv (i + 1), fun H' p' => ⟨n - (i + 1), by omega, rfl, hlt, p'⟩, fun x H' y => ?_⟩
    obtain ⟨e, y⟩ := y
    subst e y
    exact hs i _ hlt p
  · have e : i = n := by omega
    subst e
    exact .inl ⟨Nat.le_refl _, hd H p⟩
def blkC (N : List Str) (sc scope : Scope) (own : List (Str × Nat)) : Bool :=
  (match scope.kind with | .function => true | _ => false) && (scope.names.all fun y => decide (scope.names.lookup y.1 = some y.2)) && (own.all fun p => decide (N[p.2]? = some p.1)) &&
    (scope.names.all fun y => match y.2 with
      | .free => (match sc.names.lookup y.1 with | some .cell => true | some .free => true | _ => false)
      | .local => decide (y.1 ∈ own.map (·.1)) || decide (y.1 ∉ N)
      | .cell => decide (y.1 ∈ own.map (·.1)) || decide (y.1 ∉ N)
      | _ => true)
theorem blkOk_by {N : List Str} {sc scope : Scope} {own : List (Str × Nat)} (h : blkC N sc scope own = true) : BlkOk N sc scope own := by
  unfold blkC at h
  simp only [Bool.and_eq_true, List.all_eq_true, decide_eq_true_eq] at h
  obtain ⟨⟨⟨h1, h2⟩, h3⟩, h4⟩ := h
  refine ⟨?_, h2, h3, fun y hy e => ?_, fun y hy e => ?_⟩
  · split at h1
    · assumption
    · cases h1
  · have q := h4 y hy
    simp only [e] at q
    split at q <;> first | exact .inl (by assumption) | exact .inr (by assumption) | cases q
  · have q := h4 y hy
    rcases e with e | e <;> (simp only [e, Bool.or_eq_true, decide_eq_true_eq] at q; exact q)
end L2
namespace L2
open PySem PySem.Spec PyProof.Rows
section
variable {κ : Type} [DecidableEq κ]
def valV (kvs : List (κ × V)) (k : κ) : Option V := (kvs.find? fun kv => decide (kv.1 = k)).map (·.2)
def putK (kvs : List (κ × V)) (k : κ) (v : V) : List (κ × V) :=
  if (kvs.any fun kv => decide (kv.1 = k)) = true then kvs.map (fun kv => if kv.1 = k then (kv.1, v) else kv) else kvs ++ [(k, v)]
def dropK (kvs : List (κ × V)) (k : κ) : List (κ × V) := kvs.filter fun kv => decide (kv.1 ≠ k)
theorem valV_pos {p : κ × V} {r : List (κ × V)} {k : κ} (e : p.1 = k) : valV (p :: r) k = some p.2 := by simp [valV, List.find?_cons, e]
theorem valV_neg {p : κ × V} {r : List (κ × V)} {k : κ} (e : ¬ p.1 = k) : valV (p :: r) k = valV r k := by simp [valV, List.find?_cons, e]
theorem valV_any (k : κ) : ∀ kvs : List (κ × V), (kvs.any fun kv => decide (kv.1 = k)) = (valV kvs k).isSome
  | [] => rfl
  | p :: r => by
    rw [List.any_cons]
    by_cases e : p.1 = k
    · simp only [valV_pos e, decide_eq_true e, Bool.true_or, Option.isSome_some]
    · rw [valV_neg e, decide_eq_false e, Bool.false_or]; exact valV_any k r
theorem length_putK (kvs : List (κ × V)) (k : κ) (v : V) : (putK kvs k v).length ≤ kvs.length + 1 := by
  unfold putK
  split
  · rw [List.length_map]; omega
  · rw [List.length_append, List.length_cons, List.length_nil]; omega
theorem putK_new {kvs : List (κ × V)} {k : κ} (v : V) (h : valV kvs k = none) : putK kvs k v = kvs ++ [(k, v)] := by
  unfold putK
  rw [valV_any, h]
  exact if_neg (by decide)
theorem RelO.isSome_eq {o : Option V} {u : Option Value} (r : RelO o u) : o.isSome = u.isSome := by
  cases o with
  | none => cases u with
    | none => rfl
    | some _ => exact (show False from r).elim
  | some _ => cases u with
    | none => exact (show False from r).elim
    | some _ => rfl
theorem RelO.getD {o : Option V} {u : Option Value} {d : V} {d' : Value} (r : RelO o u) (rd : RelV d d') : RelV (o.getD d) (u.getD d') := by
  cases o with
  | none => cases u with
    | none => exact rd
    | some _ => exact (show False from r).elim
  | some _ => cases u with
    | none => exact (show False from r).elim
    | some _ => exact r
theorem KV.val {kvs : List (κ × V)} {vs : List (κ × Value)} (r : KV kvs vs) (k : κ) : RelO (valV kvs k) (valueAt vs k) := by
  unfold KV at r
  induction r with
  | nil => exact True.intro
  | @cons p q ps qs h t ih =>
    obtain ⟨h1, h2⟩ := h
    by_cases e : p.1 = k
    · have e' : q.1 = k := h1.symm.trans e
      have b : valueAt (q :: qs) k = some q.2 := by simp [valueAt, List.find?_cons, e']
      rw [valV_pos e, b]; exact h2
    · have e' : ¬ q.1 = k := fun z => e (h1.trans z)
      have b : valueAt (q :: qs) k = valueAt qs k := by simp [valueAt, List.find?_cons, e']
      rw [valV_neg e, b]; exact ih
theorem KV.any {kvs : List (κ × V)} {vs : List (κ × Value)} (r : KV kvs vs) (k : κ) : (kvs.any fun kv => decide (kv.1 = k)) = vs.any fun kv => decide (kv.1 = k) := by
  unfold KV at r
  induction r with
  | nil => rfl
  | cons h t ih => rw [List.any_cons, List.any_cons, ih, h.1]
theorem KV.repl {kvs : List (κ × V)} {vs : List (κ × Value)} (r : KV kvs vs) (k : κ) {y : V} {u : Value} (ry : RelV y u) :
    KV (kvs.map fun kv => if kv.1 = k then (kv.1, y) else kv) (vs.map fun kv => if kv.1 = k then (kv.1, u) else kv) := by
  unfold KV at r ⊢
  induction r with
  | nil => exact .nil
  | @cons p q ps qs h t ih =>
    rw [List.map_cons, List.map_cons]
    refine .cons ?_ ih
    obtain ⟨h1, h2⟩ := h
    by_cases e : p.1 = k
    · rw [if_pos e, if_pos (h1.symm.trans e)]; exact ⟨h1, ry⟩
    · rw [if_neg e, if_neg (fun z => e (h1.trans z))]; exact ⟨h1, h2⟩
theorem KV.put {kvs : List (κ × V)} {vs : List (κ × Value)} (r : KV kvs vs) (k : κ) {y : V} {u : Value} (ry : RelV y u) : KV (putK kvs k y) (stored vs k u) := by
  unfold putK stored
  rw [r.any k]
  by_cases e : (vs.any fun kv => decide (kv.1 = k)) = true
  · rw [if_pos e, if_pos e]; exact r.repl k ry
  · rw [if_neg e, if_neg e]; exact Paired.snoc r ⟨rfl, ry⟩
theorem KV.drop {kvs : List (κ × V)} {vs : List (κ × Value)} (r : KV kvs vs) (k : κ) : KV (dropK kvs k) (without vs k) := by
  unfold KV at r ⊢
  unfold dropK without
  induction r with
  | nil => exact .nil
  | @cons p q ps qs h t ih =>
    obtain ⟨h1, h2⟩ := h
    rw [List.filter_cons, List.filter_cons]
    by_cases e : p.1 = k
    · have a : ¬ decide (p.1 ≠ k) = true := by simp [e]
      have b : ¬ decide (q.1 ≠ k) = true := by simp [h1.symm.trans e]
      rw [if_neg a, if_neg b]; exact ih
    · have e' : ¬ q.1 = k := fun z => e (h1.trans z)
      have a : decide (p.1 ≠ k) = true := by simp [e]
      have b : decide (q.1 ≠ k) = true := by simp [e']
      rw [if_pos a, if_pos b]; exact .cons ⟨h1, h2⟩ ih
theorem KV.length {kvs : List (κ × V)} {vs : List (κ × Value)} (r : KV kvs vs) : kvs.length = vs.length := Paired.length r
theorem dropK_le (kvs : List (κ × V)) (k : κ) : (dropK kvs k).length ≤ kvs.length := List.length_filter_le _ _
end
theorem kV_is {P : Program} {w : World} {k : Key} {u : Value} (r : RelV (kV k) u) : (mixKind P w).is k u = true := by
  cases k with
  | inl i => obtain ⟨t, e⟩ := (show ∃ t, u = Value.int i t from r); subst e; exact mixKind_int P w i t
  | inr x => obtain ⟨t, e⟩ := (show ∃ t, u = Value.str x t from r); subst e; exact mixKind_str P w x t
theorem items_are {P : Program} {w : World} : ∀ {ks : List Key} {us : List Value}, Vals (ks.map kV) us → ItemsAre (mixKind P w) ks us
  | [], _, r => by rw [List.map_nil] at r; cases r; exact .nil
  | k :: ks, _, r => by
    rw [List.map_cons] at r
    cases r with
    | cons h t => exact .cons (kV_is h) (items_are t)
abbrev KT (H : Hp) : List (List Key × V) → List (List Key × Addr × Value) → Prop := Paired fun p q => p.1 = q.1 ∧ H q.2.1 = some (.tup (p.1.map kV)) ∧ RelV p.2 q.2.2
theorem KT.val {H : Hp} {kvs : List (List Key × V)} {xs : List (List Key × Addr × Value)} (r : KT H kvs xs) (k : List Key) : RelO (valV kvs k) ((atKey xs k).map (·.2)) := by
  induction r with
  | nil => exact True.intro
  | @cons p q ps qs h t ih =>
    obtain ⟨h1, _, h2⟩ := h
    by_cases e : p.1 = k
    · have e' : q.1 = k := h1.symm.trans e
      have b : atKey (q :: qs) k = some q.2 := by simp [atKey, List.find?_cons, e']
      rw [valV_pos e, b]; exact h2
    · have e' : ¬ q.1 = k := fun z => e (h1.trans z)
      have b : atKey (q :: qs) k = atKey qs k := by simp [atKey, List.find?_cons, e']
      rw [valV_neg e, b]; exact ih
theorem KT.repl {H : Hp} {kvs : List (List Key × V)} {xs : List (List Key × Addr × Value)} (r : KT H kvs xs) (k : List Key) {y : V} {u : Value} (ry : RelV y u) :
    KT H (kvs.map fun kv => if kv.1 = k then (kv.1, y) else kv) (xs.map (putAt k u)) := by
  induction r with
  | nil => exact .nil
  | @cons p q ps qs h t ih =>
    rw [List.map_cons, List.map_cons]
    refine .cons ?_ ih
    obtain ⟨h1, h2, h3⟩ := h
    unfold putAt
    by_cases e : p.1 = k
    · rw [if_pos e, if_pos (h1.symm.trans e)]; exact ⟨h1, h2, ry⟩
    · rw [if_neg e, if_neg (fun z => e (h1.trans z))]; exact ⟨h1, h2, h3⟩
theorem KT.put {H : Hp} {kvs : List (List Key × V)} {xs : List (List Key × Addr × Value)} (r : KT H kvs xs) (k : List Key) {b : Addr} {y : V} {u : Value} (hb : H b = some (.tup (k.map kV))) (ry : RelV y u) :
    KT H (putK kvs k y) (storedH xs k b u) := by
  have e : (kvs.any fun kv => decide (kv.1 = k)) = (atKey xs k).isSome := by
    rw [valV_any, (r.val k).isSome_eq, Option.isSome_map]
  unfold putK storedH
  rw [e]
  by_cases q : (atKey xs k).isSome = true
  · rw [if_pos q, if_pos q]; exact r.repl k ry
  · rw [if_neg q, if_neg q]; exact Paired.snoc r ⟨rfl, hb, ry⟩
theorem KT.keeps {H H' : Hp} {kvs : List (List Key × V)} {xs : List (List Key × Addr × Value)} (r : KT H kvs xs) (ht : ∀ b ys, H b = some (.tup ys) → H' b = some (.tup ys)) : KT H' kvs xs :=
  Paired.mapP r fun _ _ z => ⟨z.1, ht _ _ z.2.1, z.2.2⟩
section
variable {P : Program} {w : World} {H : Hp} {h : Heap} {a : Addr}
theorem rd_of {u : HO} (ok : HOk P w H h) (e : Rd H a u) : ObjOk P w H h a u := e.ok ok
theorem dk_rd {kvs : List (Key × V)} (ok : HOk P w H h) (e : Rd H a (.dK kvs)) : kvs.length ≤ sizeLine ∧ (a == sysModules) = false ∧ ∃ vs, KV kvs vs ∧ h.DictOf (mixKind P w) a vs :=
  show ObjOk P w H h a (.dK kvs) from rd_of ok e
theorem dk_of {kvs : List (Key × V)} (ok : HOk P w H h) (e : H a = some (.dK kvs)) : kvs.length ≤ sizeLine ∧ (a == sysModules) = false ∧ ∃ vs, KV kvs vs ∧ h.DictOf (mixKind P w) a vs := dk_rd ok (.inl e)
theorem key_of {ks : List Key} (ok : HOk P w H h) (e : H a = some (.tup (ks.map kV))) : (tupleKind (mixKind P w)).is h ks a := by
  obtain ⟨_, its, r, o, h1, h2, n, h3⟩ := (show ObjOk P w H h a (.tup (ks.map kV)) from ok a _ e)
  exact ⟨o, its.toArray, n, h1, h2, h3, by simpa using items_are r⟩
theorem dt_rd {kvs : List (List Key × V)} (ok : HOk P w H h) (e : Rd H a (.dT kvs)) : kvs.length ≤ sizeLine ∧ (a == sysModules) = false ∧
    ∃ xs, KT H kvs xs ∧ h.DictOfH (tupleKind (mixKind P w)) a xs := by
  obtain ⟨z, y, xs, r, o, es, ep, h1, h2, h3, h4, h5⟩ := (show ObjOk P w H h a (.dT kvs) from rd_of ok e)
  refine ⟨z, y, xs, r, o, es, ep, h1, h2, h3, h4, fun x hx => ?_, h5⟩
  have all : ∀ {l : List (List Key × V)} {m : List (List Key × Addr × Value)}, KT H l m → ∀ x ∈ m, (tupleKind (mixKind P w)).is h x.1 x.2.1 := by
    intro l m q
    induction q with
    | nil => intro x hx; exact nomatch hx
    | @cons p q ps qs hq t ih =>
      intro x hx
      rcases List.mem_cons.mp hx with e | hx
      · subst e
        exact key_of ok (by rw [← hq.1]; exact hq.2.1)
      · exact ih x hx
  exact all r x hx
theorem dt_of {kvs : List (List Key × V)} (ok : HOk P w H h) (e : H a = some (.dT kvs)) : kvs.length ≤ sizeLine ∧ (a == sysModules) = false ∧
    ∃ xs, KT H kvs xs ∧ h.DictOfH (tupleKind (mixKind P w)) a xs := dt_rd ok (.inl e)
end
def DGet (H : Hp) (a : Addr) (y : V) (r : Option V) : Prop :=
  (∃ kvs k, Rd H a (.dK kvs) ∧ y = kV k ∧ r = valV kvs k) ∨ ∃ kvs k b, Rd H a (.dT kvs) ∧ y = .ref b ∧ H b = some (.tup (k.map kV)) ∧ r = valV kvs k
def DPut (H : Hp) (a : Addr) (y v : V) (H' : Hp) : Prop :=
  (∃ kvs k, H a = some (.dK kvs) ∧ y = kV k ∧ kvs.length < sizeLine ∧ H' = upd H a (.dK (putK kvs k v))) ∨
  ∃ kvs k b, H a = some (.dT kvs) ∧ y = .ref b ∧ H b = some (.tup (k.map kV)) ∧ kvs.length < sizeLine ∧ H' = upd H a (.dT (putK kvs k v))
theorem DGet.k {H : Hp} {a : Addr} {kvs : List (Key × V)} {k : Key} (e : H a = some (.dK kvs)) : DGet H a (kV k) (valV kvs k) := .inl ⟨kvs, k, .inl e, rfl, rfl⟩
theorem DPut.k {H : Hp} {a : Addr} {kvs : List (Key × V)} {k : Key} {v : V} (e : H a = some (.dK kvs)) (hl : kvs.length < sizeLine) : DPut H a (kV k) v (upd H a (.dK (putK kvs k v))) := .inl ⟨kvs, k, e, rfl, hl, rfl⟩
section
variable {X : Cx} {pins : List (Addr × Obj)} {σ : St} {H : Hp} {s : Shared} {a : Addr} {y v : V} {u r : Value} {o : Option V} {A : Around} {E : Value → Shared → Prop}
theorem Inv.big (I : Inv X pins σ H s) : sysModules < s.heap.objs.size := by
  have h : mainGlobals < s.heap.objs.size := (I.mod.glob.keeps I.bk).lt
  exact Nat.lt_trans (by decide) h
theorem d_getItem {Q : Value → Shared → Prop} (hu : A.units + 1 < cLine) (I : Inv X pins σ H s) (g : DGet H a y (some v)) (ry : RelV y u) (h : ∀ w' s', Inv X pins σ H s' → RelV v w' → Q w' s') :
    wpAny (model X.prog X.w) A (getItem (.ref a) u) Q E s := by
  rcases g with ⟨kvs, k, e, ey, l⟩ | ⟨kvs, k, b, e, ey, eb, l⟩
  · subst ey
    obtain ⟨z, hd, vs, rel, dd⟩ := dk_rd I.hok e
    obtain ⟨w', hw, rw'⟩ := RelO.some_of (v := v) (o := valueAt vs k) (by rw [l]; exact rel.val k)
    exact wpAny_getItem_of (kV_is ry) dd.mapOf hw (h w' _ (I.tok _) rw')
  · subst ey
    cases (show u = Value.ref b from ry)
    obtain ⟨z, hd, xs, rel, dd⟩ := dt_rd I.hok e
    obtain ⟨w', hw, rw'⟩ := RelO.some_of (v := v) (o := (atKey xs k).map (·.2)) (by rw [l]; exact rel.val k)
    obtain ⟨p, hp, hp2⟩ := Option.map_eq_some_iff.mp hw
    refine wpAny_getItem_heap (tupleKind_room_in1 hu) (key_of I.hok eb) dd hp ?_
    rw [hp2]
    exact h w' _ (I.tok _) rw'
theorem d_in {Q : Value → Shared → Prop} (hu : A.units + 1 < cLine) (I : Inv X pins σ H s) (g : DGet H a y o) (ry : RelV y u) (h : ∀ s', Inv X pins σ H s' → Q (.bool o.isSome) s') :
    wpAny (model X.prog X.w) A (compareOp .In u (.ref a)) Q E s := by
  rcases g with ⟨kvs, k, e, ey, l⟩ | ⟨kvs, k, b, e, ey, eb, l⟩
  · subst ey
    obtain ⟨z, hd, vs, rel, dd⟩ := dk_rd I.hok e
    refine wpAny_in_of (kV_is ry) hd dd.mapOf ?_
    rw [← (rel.val k).isSome_eq, ← l]
    exact h _ (I.tok _)
  · subst ey
    cases (show u = Value.ref b from ry)
    obtain ⟨z, hd, xs, rel, dd⟩ := dt_rd I.hok e
    refine wpAny_in_heap (tupleKind_room_in1 hu) (key_of I.hok eb) hd dd ?_
    have q := (rel.val k).isSome_eq
    rw [Option.isSome_map] at q
    rw [← q, ← l]
    exact h _ (I.tok _)
theorem d_write {h' : Heap} {t' : Nat} {ob : HO} (I : Inv X pins σ H s) (mu : Mut (H a)) (hs : Heap.SameBut a s.heap h') (he : ∃ q, h'.get? a = some q) (new : ObjOk X.prog X.w (upd H a ob) h' a ob) :
    Inv X pins σ (upd H a ob) { s with heap := h', toks := t' } :=
  I.write (x := a) (e := a) mu (.inl rfl) (fun b q hb z => (hs.2 b hb).trans z) he new
theorem dk_new {P : Program} {w : World} {H' : Hp} {h' : Heap} {kvs : List (Key × V)} {vs : List (Key × Value)} (z : kvs.length ≤ sizeLine) (hd : (a == sysModules) = false) (rel : KV kvs vs) (dd : h'.DictOf (mixKind P w) a vs) :
    ObjOk P w H' h' a (.dK kvs) := ⟨z, hd, vs, rel, dd⟩
theorem d_setItem {H' : Hp} {Q : Unit → Shared → Prop} (hu : A.units + 1 < cLine) (I : Inv X pins σ H s) (g : DPut H a y v H') (ry : RelV y u) (rv : RelV v r) (h : ∀ s', Inv X pins σ H' s' → Q () s') :
    wpAny (model X.prog X.w) A (setItem (.ref a) u r) Q E s := by
  rcases g with ⟨kvs, k, e, ey, l, eH⟩ | ⟨kvs, k, b, e, ey, eb, l, eH⟩
  · subst ey eH
    obtain ⟨z, hd, vs, rel, dd⟩ := dk_of I.hok e
    have hz : vs.length ≤ sizeLine := by rw [← rel.length]; exact z
    have hl : (putK kvs k v).length ≤ sizeLine := by have := length_putK kvs k v; omega
    refine wpAny_setItem_pairs (hsz := hz) (kV_is ry) dd fun h' dd' hs => h _ ?_
    have he : ∃ q, h'.get? a = some q := let ⟨q, _, _, hq, _⟩ := dd'; ⟨q, hq⟩
    exact d_write I (by rw [e]; exact True.intro) hs he (dk_new hl hd (rel.put k rv) dd')
  · subst ey eH
    cases (show u = Value.ref b from ry)
    obtain ⟨z, hd, xs, rel, dd⟩ := dt_of I.hok e
    have hz : xs.length ≤ sizeLine := by rw [← Paired.length rel]; exact z
    have hl : (putK kvs k v).length ≤ sizeLine := by have := length_putK kvs k v; omega
    refine wpAny_setItem_heap (hsz := hz) (tupleKind_room_in1 hu) (key_of I.hok eb) dd fun h' dd' hs => h _ ?_
    obtain ⟨q, es, ep, hq, h2, h3, h4, _, h5⟩ := dd'
    refine d_write I (by rw [e]; exact True.intro) hs ⟨q, hq⟩ ⟨hl, hd, _, (rel.put k eb rv).keeps fun c ys ec => ?_, q, es, ep, hq, h2, h3, h4, h5⟩
    rw [upd_ne (ne_of ec e (fun z => nomatch z))]
    exact ec
end
section
variable {X : Cx} {pins : List (Addr × Obj)} {σ : St} {H : Hp} {s : Shared} {a : Addr} {kvs : List (Key × V)} {k : Key} {u : Value} {A : Around} {E : Value → Shared → Prop}
theorem d_pop {v : V} {more : List Value} {Q : Value → Shared → Prop} (I : Inv X pins σ H s) (e : H a = some (.dK kvs)) (ry : RelV (kV k) u) (l : valV kvs k = some v) (hm : more = [] ∨ ∃ x, more = [x])
    (h : ∀ w' s', Inv X pins σ (upd H a (.dK (dropK kvs k))) s' → RelV v w' → Q w' s') : wpAny (model X.prog X.w) A (call (.builtin "dict.pop") (.ref a :: u :: more)) Q E s := by
  obtain ⟨z, hd, vs, rel, dd⟩ := dk_of I.hok e
  obtain ⟨w', hw, rw'⟩ := RelO.some_of (v := v) (o := valueAt vs k) (by rw [← l]; exact rel.val k)
  have hp : (keyPart u).isSome = true := by
    cases k with
    | inl i => obtain ⟨t, q⟩ := (show ∃ t, u = Value.int i t from ry); subst q; rfl
    | inr x => obtain ⟨t, q⟩ := (show ∃ t, u = Value.str x t from ry); subst q; rfl
  have ha : argsOk "dict.pop" ⟨.ref a :: u :: more, []⟩ := by
    rcases hm with q | ⟨x, q⟩
    · subst q; exact PySem.F.args_dict_pop_2 _ _
    · subst q; exact PySem.F.args_dict_pop_3 _ _ _
  refine call_meetsIn PySem.F.slot_dict_pop dd.typeIs PySem.F.entry_dict_pop ha (meets_dict_pop_there (mixKind X.prog X.w) a (kV_is ry) more hm hp)
    ⟨vs, w', dd, by rw [← rel.length]; exact z, hw, fun h' dd' hs => h w' _ ?_ rw'⟩
  have he : ∃ q, h'.get? a = some q := let ⟨q, _, _, hq, _⟩ := dd'; ⟨q, hq⟩
  exact d_write I (by rw [e]; exact True.intro) hs he (dk_new (Nat.le_trans (dropK_le kvs k) z) hd (rel.drop k) dd')
theorem d_len {Q : Value → Shared → Prop} (I : Inv X pins σ H s) (e : Rd H a (.dK kvs)) (h : ∀ t s', Inv X pins σ H s' → Q (.int kvs.length t) s') : wpAny (model X.prog X.w) A (call (.builtin "len") [.ref a]) Q E s := by
  obtain ⟨z, hd, vs, rel, dd⟩ := dk_rd I.hok e
  refine call_len_dict hd dd (by rw [← rel.length]; rw [sizeLine_eq] at z; omega) ?_
  rw [← rel.length]
  exact h _ _ (I.tok _)
end
def NoSl (i : Expr) : Prop := ∀ ov iv, subscripted i false ov iv = operate [ov, iv] (getItem ov iv)
theorem subD_of {prog : Program} {w : World} {A : Around} {E : Value → Shared → Prop} {s : Shared} {env : Env} {value slice : Expr} {pos : Pos} {T id : String} {Q : Value → Shared → Prop}
    (hl : typeLookup (.type T) "__getitem__" = pure (some (.builtin id))) (hs : NoSl slice)
    (h : wpAny (model prog w) A (eval value env) (fun o s₁ => wpAny (model prog w) A (eval slice env) (fun i s₂ => s₂.TypeIs o T ∧ wpAny (model prog w) A (getItem o i) Q E s₂) E s₁) E s) :
    wpAny (model prog w) A (eval (.Subscript value slice pos) env) Q E s := by
  refine Subscript_ (wpAny_mono h (fun o s₁ h₁ => wpAny_mono h₁ (fun i s₂ h₂ => ?_) fun _ _ x => x) fun _ _ x => x)
  obtain ⟨hT, h₂⟩ := h₂
  unfold subscriptTail
  refine wpAny_bind ?_
  rw [getitemInPython_of_ne hT.not_modules]
  refine wpAny_bind (wpAny_specialOf hT hl ?_)
  have fin : wpAny (model prog w) A (subscripted slice false o i) (fun r s₃ => wpAny (model prog w) A (letTemporaryGo value o r >>= fun _ => pure r) Q E s₃) E s₂ := by
    rw [hs o i]
    exact wpAny_operating (wpAny_mono h₂ (fun r s₃ h₃ => wpAny_bind (wpAny_letTemporaryGo (wpAny_pure h₃))) fun _ _ x => x)
  first
    | exact wpAny_pure (wpAny_bind fin)
    | exact wpAny_bind (wpAny_pure (wpAny_bind fin))
    | exact wpAny_bind fin
theorem dict_typeIs {X : Cx} {pins : List (Addr × Obj)} {σ : St} {H : Hp} {s : Shared} {a : Addr} {y : V} {o : Option V} (I : Inv X pins σ H s) (g : DGet H a y o) : s.TypeIs (.ref a) "dict" := by
  rcases g with ⟨kvs, k, e, _, _⟩ | ⟨kvs, k, b, e, _, _, _⟩
  · obtain ⟨_, _, vs, _, dd⟩ := dk_rd I.hok e
    exact dd.typeIs
  · obtain ⟨_, _, xs, _, dd⟩ := dt_rd I.hok e
    exact dd.typeIs
def tDGet (td ty : TE) : TE := fun σ H Q => td σ H fun x H1 => ty σ H1 fun y H2 => ∃ a v, x = .ref a ∧ DGet H2 a y (some v) ∧ Q v H2
def tDIn (ty td : TE) : TE := fun σ H Q => ty σ H fun y H1 => td σ H1 fun x H2 => ∃ a o, x = .ref a ∧ DGet H2 a y o ∧ Q (.bl o.isSome) H2
def sDPut (td ty tv : TE) : TS := fun D σ H => tv σ H fun v H1 => td σ H1 fun x H2 => ty σ H2 fun y H3 => ∃ a H4, x = .ref a ∧ DPut H3 a y v H4 ∧ D.nx σ H4
section
variable {X : Cx} {o i e value : Expr} {pos pos' tpos : Pos} {td ty tv : TE}
theorem pe_dget (hu : X.A.units + 1 < cLine) (ho : PE X o td) (hi : PE X i ty) (hs : NoSl i) : PE X (.Subscript o i pos) (tDGet td ty) := by
  intro pins s σ H Q I h
  refine subD_of PySem.F.slot_dict_getitem.lookup hs (thn (ho pins s σ H _ I h) fun u s1 ⟨x, H1, I1, rx, q1⟩ => thn (hi pins s1 σ H1 _ I1 q1) fun iv s2 ⟨y, H2, I2, ry, a, v, ex, g, q2⟩ => ?_)
  subst ex
  obtain rfl : u = Value.ref a := rx
  exact ⟨dict_typeIs I2 g, d_getItem hu I2 g ry fun w' s3 I3 rw' => ⟨v, H2, I3, rw', q2⟩⟩
theorem pc_din (hu : X.A.units + 1 < cLine) (hi : PE X i ty) (ho : PE X o td) : PC X .In i o (tDIn ty td) := by
  intro pins s σ H Q I h
  refine thn (hi pins s σ H _ I h) fun iv s1 ⟨y, H1, I1, ry, q1⟩ => thn (ho pins s1 σ H1 _ I1 q1) fun u s2 ⟨x, H2, I2, rx, a, ov, ex, g, q2⟩ => ?_
  subst ex
  obtain rfl : u = Value.ref a := rx
  exact d_in hu I2 g ry fun s3 I3 => ⟨.bl ov.isSome, H2, I3, rfl, q2⟩
theorem ps_dput (hu : X.A.units + 1 < cLine) (ho : PE X o td) (hi : PE X i ty) (hv : PE X value tv) (hs : swapsWith value (some (.Subscript o i pos')) pos.line X.env = pure false) :
    PS X (.Assign [.Subscript o i pos'] value pos) (sDPut td ty tv) := by
  intro pins s σ H D I h
  refine wpAny_Assign_Subscript (thn (hv pins s σ H _ I h) fun r s1 ⟨v, H1, I1, rv, q1⟩ => thn (ho pins s1 σ H1 _ I1 q1) fun u s2 ⟨x, H2, I2, rx, q2⟩ => thn (hi pins s2 σ H2 _ I2 q2) fun iv s3 ⟨y, H3, I3, ry, a, H4, ex, g, q3⟩ => ?_) hs
  subst ex
  obtain rfl : u = Value.ref a := rx
  exact d_setItem hu I3 g ry rv fun s4 I4 => ⟨σ, H4, I4, q3⟩
end
theorem dk_empty {P : Program} {w : World} {H : Hp} (h : Heap) (hb : sysModules < h.objs.size) : ObjOk P w H (h.push { cls := .type "dict", data := .dict #[] }) h.objs.size (.dK []) :=
  ⟨Nat.zero_le _, beq_eq_false_iff_ne.mpr (Ne.symm (Nat.ne_of_lt hb)), [], .nil, Heap.DictOf.new h⟩
def tDNewK : TE := fun _ H Q => ∀ p, H p = none → Q (.ref p) (upd H p (.dK []))
section
variable {X : Cx} {pos : Pos}
theorem pe_dnewK : PE X (.Dict [] [] pos) tDNewK := fun pins s σ H Q I h =>
  wpAny_Dict_empty ⟨.ref s.heap.objs.size, _, I.laid (a := s.heap.objs.size) (o := .dK []) (t' := s.toks) (fun _ _ q => Heap.get?_push_of_some _ q) (Nat.le_refl _) (dk_empty s.heap I.big), rfl, h _ (I.hok.fresh (Nat.le_refl _))⟩
end
structure M1 (X : Cx) (o : Expr) (m : Str) (apos : Pos) (e : Expr) (cpos : Pos) : Prop where
  base : attributeBase o m X.env (eval o X.env) = eval o X.env
  few : ((backTo cpos (starEach [e] X.env)).all (fun x => !x.1) && (backToKw cpos (keywordEach [] X.env)).all (fun x => x.1.isSome)
    && decide (([e] : List Expr).length + ([] : List Keyword).length + (if ([] : List Keyword).isEmpty then 0 else 1) < 30)) = true
  line : (apos.endLine == cpos.line) = true
  trees : backTo cpos (starEach [e] X.env) = [(false, eval e X.env)]
def IsD (H : Hp) (a : Addr) : Prop := (∃ kvs, Rd H a (.dK kvs)) ∨ ∃ kvs, Rd H a (.dT kvs)
theorem isD_at {X : Cx} {pins : List (Addr × Obj)} {σ : St} {H : Hp} {s : Shared} {a : Addr} (I : Inv X pins σ H s) (d : IsD H a) :
    s.TypeIs (.ref a) "dict" ∧ (∀ b, Value.ref a = .ref b → ∃ ob, s.heap.get? b = some ob ∧ ob.dict = none) ∧ (a == sysModules) = false := by
  rcases d with ⟨kvs, e⟩ | ⟨kvs, e⟩
  · obtain ⟨_, hd, vs, _, dd⟩ := dk_rd I.hok e
    refine ⟨dd.typeIs, fun b q => ?_, hd⟩
    cases q
    obtain ⟨ob, _, _, h1, h2, _⟩ := dd
    exact ⟨ob, h1, h2.2.1⟩
  · obtain ⟨_, hd, xs, _, dd⟩ := dt_rd I.hok e
    refine ⟨dd.typeIs, fun b q => ?_, hd⟩
    cases q
    obtain ⟨ob, _, _, h1, h2, _⟩ := dd
    exact ⟨ob, h1, h2.2.1⟩
section
variable {X : Cx} {pins : List (Addr × Obj)} {σ : St} {H : Hp} {s : Shared} {a : Addr} {y d : V} {u r : Value} {o : Option V} {A : Around} {E : Value → Shared → Prop}
theorem d_get1 {Q : Value → Shared → Prop} (hu : A.units + 1 < cLine) (I : Inv X pins σ H s) (g : DGet H a y o) (ry : RelV y u) (h : ∀ w' s', Inv X pins σ H s' → RelV (o.getD .non) w' → Q w' s') :
    wpAny (model X.prog X.w) A (call (.builtin "dict.get") [.ref a, u]) Q E s := by
  rcases g with ⟨kvs, k, e, ey, l⟩ | ⟨kvs, k, b, e, ey, eb, l⟩
  · subst ey
    obtain ⟨z, hd, vs, rel, dd⟩ := dk_rd I.hok e
    refine call_meetsIn PySem.F.slot_dict_get dd.typeIs PySem.F.entry_dict_get (PySem.F.args_dict_get_2 _ _) (meets_dict_get (mixKind X.prog X.w) a (kV_is ry) hd) ⟨_, dd.mapOf, h _ _ (I.tok _) ?_⟩
    rw [l]
    exact (rel.val k).getD rfl
  · subst ey
    cases (show u = Value.ref b from ry)
    obtain ⟨z, hd, xs, rel, dd⟩ := dt_rd I.hok e
    refine call_meetsIn PySem.F.slot_dict_get dd.typeIs PySem.F.entry_dict_get (PySem.F.args_dict_get_2 _ _) (meetsH_dict_get (tupleKind (mixKind X.prog X.w)) a b hd) ⟨tupleKind_room_in1 hu, k, xs, key_of I.hok eb, dd, h _ _ (I.tok _) ?_⟩
    rw [l]
    exact (rel.val k).getD rfl
end
def tDGet1 (td ty : TE) : TE := fun σ H Q => td σ H fun x H1 => ∃ a, x = .ref a ∧ IsD H1 a ∧ ty σ H1 fun y H2 => ∃ o, DGet H2 a y o ∧ Q (o.getD .non) H2
def tDPop1 (td ty : TE) : TE := fun σ H Q => td σ H fun x H1 => ∃ a, x = .ref a ∧ IsD H1 a ∧ ty σ H1 fun y H2 => ∃ kvs k v, H2 a = some (.dK kvs) ∧ y = kV k ∧ valV kvs k = some v ∧ Q v (upd H2 a (.dK (dropK kvs k)))
section
variable {X : Cx} {o e f : Expr} {apos cpos : Pos} {td ty tx : TE}
theorem pe_dget1 (hu : X.A.units + 1 < cLine) (ho : PE X o td) (he : PE X e ty) (m : M1 X o "get" apos e cpos) : PE X (.Call (.Attribute o "get" apos) [e] [] cpos) (tDGet1 td ty) := by
  intro pins s σ H Q I h
  refine wpAny_Call_method m.base m.few m.line PySem.F.plainAttrs_dict PySem.F.slot_dict_get PySem.F.type_dict_get (thn (ho pins s σ H _ I h) fun u s1 ⟨x, H1, I1, rx, a, ex, d, q1⟩ => ?_)
  subst ex
  obtain rfl : u = Value.ref a := rx
  obtain ⟨t1, t2, _⟩ := isD_at I1 d
  refine ⟨t1, t2, ?_⟩
  rw [m.trees]
  refine Calls.callWith_builtin rfl (Calls.evalArgs_plain (Calls.spliced_cons (thn (he pins s1 σ H1 _ I1 q1) fun iv s2 ⟨y, H2, I2, ry, ov, g, q2⟩ => Calls.spliced_nil ?_)))
  exact d_get1 hu I2 g ry fun w' s3 I3 rw' => ⟨_, H2, I3, rw', q2⟩
theorem pe_dpop1 (ho : PE X o td) (he : PE X e ty) (m : M1 X o "pop" apos e cpos) : PE X (.Call (.Attribute o "pop" apos) [e] [] cpos) (tDPop1 td ty) := by
  intro pins s σ H Q I h
  refine wpAny_Call_method m.base m.few m.line PySem.F.plainAttrs_dict PySem.F.slot_dict_pop PySem.F.type_dict_pop (thn (ho pins s σ H _ I h) fun u s1 ⟨x, H1, I1, rx, a, ex, d, q1⟩ => ?_)
  subst ex
  obtain rfl : u = Value.ref a := rx
  obtain ⟨t1, t2, _⟩ := isD_at I1 d
  refine ⟨t1, t2, ?_⟩
  rw [m.trees]
  refine Calls.callWith_builtin rfl (Calls.evalArgs_plain (Calls.spliced_cons (thn (he pins s1 σ H1 _ I1 q1) fun iv s2 ⟨y, H2, I2, ry, kvs, k, v, ea, ey, l, q2⟩ => Calls.spliced_nil ?_)))
  subst ey
  exact d_pop I2 ea ry l (.inl rfl) fun w' s3 I3 rw' => ⟨v, _, I3, rw', q2⟩
end
end L2
namespace L2
open PySem PySem.Spec PyProof.Rows
section
variable {X : Cx} {pins : List (Addr × Obj)} {σ : St} {H : Hp} {s : Shared} {h' : Heap}
theorem Inv.lock {d : Addr} {u : HO} (I : Inv X pins σ H s) (h : H d = some u) (mu : Mut (some u)) : ∃ od, Inv X pins σ (upd H d (.frz od u)) s := by
  have x := I.hok d u h
  have ex : ∃ od, s.heap.get? d = some od := by
    cases u with
    | lst xs => obtain ⟨_, _, _, _, e⟩ := x; exact ⟨_, e⟩
    | dK kvs => obtain ⟨_, _, _, _, o, _, _, e, _⟩ := x; exact ⟨o, e⟩
    | dT kvs => obtain ⟨_, _, _, _, o, _, _, e, _⟩ := x; exact ⟨o, e⟩
    | set S n => obtain ⟨o, _, _, _, e, _⟩ := x; exact ⟨o, e⟩
    | ins C dx fs => obtain ⟨_, _, _, e, _⟩ := x; exact ⟨_, e⟩
    | ext φ => obtain ⟨_, ⟨_, e⟩, _⟩ := x; exact ⟨_, e⟩
    | _ => exact False.elim mu
  obtain ⟨od, e⟩ := ex
  have new : ObjOk X.prog X.w (upd H d (.frz od u)) s.heap d (.frz od u) := by
    refine ⟨e, x.stay (fun b v _ q => q) (fun b q => ?_) fun b xs q => ?_⟩
    · rw [upd_ne (fun z => by rw [z, h] at q; cases q; exact mu)]; exact q
    · rw [upd_ne (fun z => by rw [z, h] at q; cases q; exact mu)]; exact q
  exact ⟨od, I.write (x := d) (e := d) (t' := s.toks) (h' := s.heap) (by rw [h]; exact mu) (.inl rfl) (fun b v _ q => q) ⟨od, e⟩ new⟩
theorem Inv.nofrz {d : Addr} {u : HO} (I : Inv X pins σ H s) (h : H d = some u) (mu : Mut (some u)) : ∀ o' u', X.H_0 d ≠ some (.frz o' u') := fun o' u' e => by
  have q := I.base.frzs d o' u' e
  rw [h] at q
  cases q
  exact mu
theorem Inv.unlock {d : Addr} {od : Obj} {u : HO} (I : Inv X pins σ H s) (h : H d = some (.frz od u)) (hn : ∀ o' u', X.H_0 d ≠ some (.frz o' u')) : Inv X pins σ (upd H d u) s := by
  have neH : ∀ b o, H b = some o → (∀ o' u', o ≠ .frz o' u') → b ≠ d := fun b o e hne z => by
    rw [z, h] at e
    cases e
    exact hne _ _ rfl
  have neN : ∀ b, H b = none → b ≠ d := fun b e z => by rw [z, h] at e; cases e
  refine ⟨I.ok, I.os, I.bare, ⟨I.base.keep, I.base.slot, fun b o e n hx => ?_, I.base.there, fun b xs e => ?_, fun b o x e => ?_, fun b ps e => ?_⟩, I.loc, I.cell, ?_, fun x c e => ?_, fun p hp => ?_, fun b o e => ?_, I.len⟩
  · rw [upd_ne (neN b (I.base.free b o e n hx))]; exact I.base.free b o e n hx
  · have q := I.base.tups b xs e
    rw [upd_ne (neH b _ q (fun _ _ z => nomatch z))]; exact q
  · have q := I.base.frzs b o x e
    rw [upd_ne (fun z => by rw [z] at e; exact hn _ _ e)]; exact q
  · obtain ⟨m, q⟩ := I.base.tbls b ps e
    exact ⟨m, by rw [upd_ne (neH b _ q (fun _ _ z => nomatch z))]; exact q⟩
  · rw [upd_ne (neN _ I.free)]; exact I.free
  · rw [upd_ne (neN c (I.freeC x c e))]; exact I.freeC x c e
  · obtain ⟨e, n, r⟩ := I.pin p hp
    exact ⟨e, by rw [upd_ne (neN _ n)]; exact n, r⟩
  · by_cases hb : b = d
    · rw [hb, upd_same] at e
      cases e
      rw [hb]
      obtain ⟨_, x⟩ := I.hok d _ h
      exact x.stay (fun c v _ q => q) (fun c q => by rw [upd_ne (neH c _ q (fun _ _ z => nomatch z))]; exact q) fun c xs q => by rw [upd_ne (neH c _ q (fun _ _ z => nomatch z))]; exact q
    · rw [upd_ne hb] at e
      exact (I.hok b o e).stay (fun c v _ q => q) (fun c q => by rw [upd_ne (neH c _ q (fun _ _ z => nomatch z))]; exact q) fun c xs q => by rw [upd_ne (neH c _ q (fun _ _ z => nomatch z))]; exact q
end
def tLock (t : TS) : TS := fun D σ H => ∃ d u, H d = some u ∧ Mut (some u) ∧ ∀ od, t ⟨fun σ' H' => H' d = some (.frz od u) ∧ D.nx σ' (upd H' d u), fun v H' => H' d = some (.frz od u) ∧ D.rt v (upd H' d u), fun σ' H' => H' d = some (.frz od u) ∧ D.bk σ' (upd H' d u), fun σ' H' => H' d = some (.frz od u) ∧ D.ct σ' (upd H' d u)⟩ σ (upd H d (.frz od u))
section
variable {X : Cx}
theorem ps_lock {st : Stmt} {t : TS} (h : PS X st t) : PS X st (tLock t) := by
  intro pins s σ H D I hw
  obtain ⟨d, u, hd, mu, hw⟩ := hw
  obtain ⟨od, I1⟩ := I.lock hd mu
  refine thn (h pins s σ _ _ I1 (hw od)) fun f s1 q => ?_
  cases f with
  | next => obtain ⟨σ', H', I2, e, q⟩ := q; exact ⟨σ', _, I2.unlock e (I.nofrz hd mu), q⟩
  | brk => obtain ⟨σ', H', I2, e, q⟩ := q; exact ⟨σ', _, I2.unlock e (I.nofrz hd mu), q⟩
  | cont => obtain ⟨σ', H', I2, e, q⟩ := q; exact ⟨σ', _, I2.unlock e (I.nofrz hd mu), q⟩
  | ret v => obtain ⟨x, σ', H', I2, r, e, q⟩ := q; exact ⟨x, σ', _, I2.unlock e (I.nofrz hd mu), r, q⟩
theorem pi_one {tg : Expr} {pins : List (Addr × Obj)} {σ : St} {H : Hp} {s : Shared} {R : It → Hp → Prop} {J : It} {tn : Nat → Heap → Prop} {tk : Nat} (I : Inv X pins σ H s) (o : Obj)
    (T : Turn X.prog X.w X.K tg J [s.heap.objs.size] s.heap.objs.size tn) (st : tn 0 (s.heap.push o)) (q : R J H) : PIE X pins σ tg R (.ref s.heap.objs.size) { s with heap := s.heap.push o, toks := tk } := by
  refine ⟨s.heap.objs.size, [s.heap.objs.size], tn, J, H, rfl, I.kept fun b ob e => Heap.get?_push_of_some _ e, T, st, fun b hb => ?_, q⟩
  have e : b = s.heap.objs.size := by simpa using hb
  subst e
  exact I.fpOk (Nat.le_refl _) (I.hok.fresh (Nat.le_refl _))
end
theorem kv_get {κ : Type} {kvs : List (κ × V)} {vs : List (κ × Value)} (h : KV kvs vs) : ∀ {i : Nat} {k : κ} {v : V}, kvs[i]? = some (k, v) → ∃ u, vs[i]? = some (k, u) ∧ RelV v u := by
  unfold KV at h
  induction h with
  | nil => intro i k v e; simp at e
  | @cons a b l₁ l₂ r t ih =>
    intro i k v e
    cases i with
    | zero =>
      simp only [List.getElem?_cons_zero, Option.some.injEq] at e
      subst e
      refine ⟨b.2, ?_, r.2⟩
      simp only [List.getElem?_cons_zero]
      exact congrArg some (Prod.ext r.1.symm rfl)
    | succ j =>
      simp only [List.getElem?_cons_succ] at e ⊢
      exact ih e
theorem relV_key {k : Key} {u : Value} (h : keyIs k u = true) : RelV (kV k) u := by
  rcases keyIs_shape h with ⟨i, t, rfl, rfl⟩ | ⟨x, t, rfl, rfl⟩
  · exact ⟨t, rfl⟩
  · exact ⟨t, rfl⟩
section
variable {X : Cx} {pins : List (Addr × Obj)} {σ : St} {H : Hp} {s : Shared} {d : Addr} {o : Obj}
theorem Inv.frzK {kvs : List (Key × V)} (I : Inv X pins σ H s) (h : H d = some (.frz o (.dK kvs))) :
    (d == sysModules) = false ∧ s.heap.get? d = some o ∧ o.ExactDict ∧ ∃ (es : Array DictEntry) (ep : Nat) (vs : List (Key × Value)), o.data = .dict es ep ∧ es.size = kvs.length ∧ KV kvs vs ∧ s.heap.DictAt (mixKind X.prog X.w) d vs ep := by
  obtain ⟨hd, z, hs, vs, kv, o', es, ep, ho, hx, hdt, r⟩ := I.hok d _ h
  rw [hd] at ho
  cases ho
  refine ⟨hs, hd, hx, es, ep, vs, hdt, ?_, kv, o, es, hd, hx, hdt, r⟩
  have l1 := r.2.1.length
  have l2 : kvs.length = vs.length := Paired.length kv
  rw [Array.length_toList] at l1
  omega
end
def Itd (d : Addr) (o : Obj) (kvs : List (Key × V)) : It :=
  ⟨fun i H => H d = some (.frz o (.dK kvs)) ∧ i < kvs.length, fun i H x H' => H' = H ∧ ∃ k, kvs[i]? = some (k, x), fun i H => H d = some (.frz o (.dK kvs)) ∧ kvs.length ≤ i⟩
theorem dict_ep {o : Obj} {es es' : Array DictEntry} {ep ep' : Nat} (h : o.data = .dict es ep) (h' : o.data = .dict es' ep') : es' = es ∧ ep' = ep := by
  rw [h] at h'
  cases h'
  exact ⟨rfl, rfl⟩
section
variable {P : Program} {w : World} {K : PySem.W.Frag} {tg : Expr} {d : Addr} {o : Obj} {es : Array DictEntry} {ep : Nat}
theorem turn_vals {kvs : List (Key × V)} (it : Addr) (hod : o.data = .dict es ep) : Turn P w K tg (Itd d o kvs) [it] it (fun i h => h.IsValIter it d i kvs.length ep) where
  mem := by simp
  obj := fun i h st b hb => by
    have e : b = it := by simpa using hb
    subst e
    obtain ⟨oi, e, c, dd⟩ := st
    exact ⟨oi, e, fun v z => by rw [dd] at z; cases z⟩
  keep := fun i h h' st k => st.at fun oi e => k it (by simp) oi e
  item := by
    intro X hP hw hK hc i pins s σ H E I hf st hg
    subst hP hw hK
    obtain ⟨hd, hi⟩ := hg
    obtain ⟨f0, f1, f2, f3, f4, f5⟩ := hf it (by simp)
    obtain ⟨hs, hgd, hx, es', ep', vs, hdt, hsz, kv, hm⟩ := I.frzK hd
    obtain ⟨rfl, rfl⟩ := dict_ep hod hdt
    obtain ⟨⟨k, v⟩, hkv⟩ : ∃ p, kvs[i]? = some p := ⟨kvs[i], List.getElem?_eq_getElem hi⟩
    obtain ⟨u, hu, ru⟩ := kv_get kv hkv
    have hl : kvs.length = vs.length := Paired.length kv
    rw [hl] at st
    refine wpAny_pyNext_values_item st hm hu fun h' st' sb => ?_
    have I1 : Inv X pins σ H { s with heap := h' } := I.turned (t' := s.toks) (fun b ob hb e => (sb.2 b hb).trans e) f0 f1 f3 f4 f5
    obtain ⟨oi, e, c, dd⟩ := id st'
    refine ⟨u, rfl, go_of (s := { s with heap := h' }) e c dd (by decide) ⟨v, H, I1, ru, ⟨rfl, k, hkv⟩, ?_, fun b hb => (hf b hb).1⟩⟩
    show h'.IsValIter it d (i + 1) kvs.length _
    rw [hl]
    exact st'
  done := by
    intro X hP hw hK hc i pins s σ H E I hf st hg
    subst hP hw hK
    obtain ⟨hd, hi⟩ := hg
    obtain ⟨f0, f1, f2, f3, f4, f5⟩ := hf it (by simp)
    obtain ⟨hs, hgd, hx, es', ep', vs, hdt, hsz, kv, hm⟩ := I.frzK hd
    obtain ⟨rfl, rfl⟩ := dict_ep hod hdt
    have hl : kvs.length = vs.length := Paired.length kv
    rw [hl] at st
    exact wpAny_pyNext_values_end (I.ok.hd hc) st hm (List.getElem?_eq_none (by omega)) fun h' eb => ⟨rfl, I.turned (t' := s.toks) (fun b ob hb e => eb b ob hb e) f0 f1 f3 f4 f5⟩
  self := fun A i s Q E st h => wpAny_pyIter_valiter st h
end
def iVals (td : TE) : TI := fun σ H R => td σ H fun x H1 => ∃ d o kvs, x = .ref d ∧ H1 d = some (.frz o (.dK kvs)) ∧ R (Itd d o kvs) H1
section
variable {X : Cx} {tg e : Expr} {td : TE} {apos cpos : Pos}
theorem pi_values (he : PE X e td) (hbase : attributeBase e "values" X.env (eval e X.env) = eval e X.env := by rfl) (hline : (apos.endLine == cpos.line) = true := by rfl) : PI X tg (.Call (.Attribute e "values" apos) [] [] cpos) (iVals td) := by
  intro pins s σ H R I h
  refine wpAny_Call_method (T := "dict") (id := "dict.values") hbase rfl hline F.plainAttrs_dict F.slot_dict_values F.type_dict_values (thn (he pins s σ H _ I h) fun u s1 ⟨x, H1, I1, rx, d, o, kvs, ex, hd, q⟩ => ?_)
  subst ex
  obtain rfl : u = Value.ref d := rx
  obtain ⟨hs, hgd, hx, es, ep, vs, hdt, hsz, kv, hm⟩ := I1.frzK hd
  have hl : kvs.length = vs.length := Paired.length kv
  refine ⟨hm.dictOf.typeIs, hm.dictOf.mapOf.noDict, ?_⟩
  have I2 : Inv X pins σ H1 { s1 with heap := s1.heap.push { cls := .type "dict_values", data := .fields #[.ref d] } } := I1.kept (t' := s1.toks) fun b ob q => Heap.get?_push_of_some _ q
  have fin : wpAny (model X.prog X.w) X.A (pyIter (.ref s1.heap.objs.size)) (PIE X pins σ tg R) X.xe { s1 with heap := s1.heap.push { cls := .type "dict_values", data := .fields #[.ref d] } } := by
    refine wpAny_pyIter_values (d := d) (knd := mixKind X.prog X.w) ⟨_, Heap.get?_push_size _ rfl, rfl, rfl⟩ (hm.push _) (pi_one (tk := s1.toks) I2 _ (turn_vals _ hdt) ⟨_, Heap.get?_push_size _ rfl, rfl, ?_⟩ q)
    rw [hl] <;> rfl
  show wpAny _ _ (callWith cpos (.builtin "dict.values") [.ref d] [] []) _ X.xe s1
  exact method_meetsIn F.slot_dict_values F.entry_dict_values rfl (PySem.evalArgs_none ⟨rfl, hm.dictOf.typeIs, F.args_dict_values_1 _, _, meets_dict_values (mixKind X.prog X.w) d hs, ⟨vs, hm.dictOf⟩, fin⟩)
end
end L2
section 
end 
section 
end 
namespace L2
open PySem PySem.Spec PyProof.Rows
def inClass (s : Stmt) (j : Nat) : Stmt := match s with
  | .ClassDef _ _ _ body _ _ _ _ _ _ _ => body.getD j (.Pass ⟨0, 0, 0, 0⟩)
  | _ => .Pass ⟨0, 0, 0, 0⟩
def defArgs (s : Stmt) : Arguments := match s with
  | .FunctionDef _ a _ _ _ _ _ _ _ _ => a
  | _ => { posonlyargs := [], args := [], vararg := none, kwonlyargs := [], kw_defaults := [], kwarg := none, defaults := [] }
def defBody (s : Stmt) : List Stmt := match s with
  | .FunctionDef _ _ b _ _ _ _ _ _ _ => b
  | _ => []
def defScope (s : Stmt) : Scope := match s with
  | .FunctionDef _ _ _ _ _ _ sc _ _ _ => sc
  | _ => { kind := .function, names := [], isGenerator := false, isCoroutine := false }
abbrev CX0 : CXT := fun _ _ _ _ _ _ => False
abbrev E0 : XK := fun _ _ _ => False
theorem pass0 {X : Cx} : Passes CX0 X E0 := fun _ _ _ _ _ _ _ h => h.elim
structure Fun (K : PySem.W.Frag) (x qual : Str) (st : Stmt) (f : Addr) (fd : FuncData) : Prop where
  ex : ∃ (oc : Value) (od : Option Addr) (kV doc pm : Value) (an : Option Addr) (cdv ct : Value) (osl : Array (Option Value)),
    fd = PySem.W.fnOf x qual (defArgs st) (defBody st) (defScope st) .none kV doc pm an cdv ct ∧ K.lookup f = some ⟨oc, od, .func fd, osl⟩ ∧ PySem.W.codeIn K cdv qual = true
  kp : PySem.W.keepIn K (.ref f) = true
section
variable {P : Program} {w : World} {K : PySem.W.Frag} {mg : Str → Option Value} {base : Heap}
theorem Fun.ok {x qual : Str} {st : Stmt} {f : Addr} {fd : FuncData} {N ps : List Str} {k : Nat} {sp : Sp} (F : Fun K x qual st f fd) (S : FnScope N ps (defScope st)) (len : ∀ vs H Q E, sp vs H Q E → vs.length = ps.length)
    (hbody : ∀ (cdv : Value) (A : Around) (outer : List Env) (s : Shared) (H : Hp) (vs : List V) (Q : VK) (E : XK), Room k (A.deeper (envOfC qual (defScope st) s.heap.objs.size f cdv)) → sp vs H Q E →
      ∃ t, PSs (cxOf CX0 P w K mg base N qual (defScope st) f cdv A outer s H E).nox (defBody st) t ∧ t { nx := fun _ H' => Q .non H', rt := Q } (start N vs) H) : FnOk P w K mg base CX0 (k + 1) f fd ps sp := by
  obtain ⟨oc, od, kV, doc, pm, an, cdv, ct, osl, rfl, lk, hcd⟩ := F.ex
  refine fn_of lk hcd S len fun A outer s H vs Q E hr hsp => ?_
  obtain ⟨t, h, q⟩ := hbody cdv A outer s H vs Q E hr hsp
  exact ⟨t, h.nox, q⟩
theorem Fun.binds {x qual : Str} {st : Stmt} {f : Addr} {fd : FuncData} {ps : List Str} (F : Fun K x qual st f fd)
    (h : ∀ (kV doc pm : Value) (an : Option Addr) (cdv ct : Value) (us : List Value), us.length = ps.length → bindArgs (PySem.W.fnOf x qual (defArgs st) (defBody st) (defScope st) .none kV doc pm an cdv ct) ⟨us, []⟩ = pure (ps.zip us)) : Binds K fd ps [] := by
  obtain ⟨oc, od, kV, doc, pm, an, cdv, ct, osl, rfl, lk, hcd⟩ := F.ex
  exact .all (h kV doc pm an cdv ct)
theorem fun_mk {x qual : Str} {st : Stmt} {f : Addr} {oc : Value} {od an : Option Addr} {osl : Array (Option Value)} {kV doc pm cdv ct : Value} (l : K.lookup f = some ⟨oc, od, .func (PySem.W.fnOf x qual (defArgs st) (defBody st) (defScope st) .none kV doc pm an cdv ct), osl⟩)
    (c : PySem.W.codeIn K cdv qual = true) (k : PySem.W.keepIn K (.ref f) = true) : Fun K x qual st f (PySem.W.fnOf x qual (defArgs st) (defBody st) (defScope st) .none kV doc pm an cdv ct) := ⟨⟨oc, od, kV, doc, pm, an, cdv, ct, osl, rfl, l, c⟩, k⟩
end
theorem hu_of {A : Around} {k : Nat} (hr : Room k A) : A.units + 1 < cLine := Nat.lt_of_le_of_lt (Nat.add_le_add_left (by decide : 1 ≤ 64) _) hr.units
theorem small1000 {n : Nat} (h : n ≤ 1000) : n < sizeLine := Nat.lt_of_le_of_lt h (by decide)
section
variable {X : Cx}
theorem pv (i : Nat) {x : Str} {pos : Pos} (hN : X.N[i]? = some x := by rfl) (hv : Vis X.env.scope x := by first | exact Or.inl rfl | exact Or.inr (Or.inl rfl) | exact Or.inr (Or.inr rfl)) (hd : (x == ("__debug__" : Str)) = false := by decide)
    (hcd : (x == ("__classdict__" : Str)) = false := by decide) : PE X (.Name x pos) (tVar i) := pe_var hN hv hd hcd
theorem call_lenD : CallR X (.builtin "len") (fun xs H Q => ∃ a kvs, xs = [V.ref a] ∧ H a = some (.dK kvs) ∧ Q (.int kvs.length) H) := by
  intro pins s σ H xs us Q I r h
  obtain ⟨a, kvs, rfl, ha, q⟩ := h
  obtain ⟨u, rfl, ru⟩ := vals1 r
  cases ru
  exact d_len I (.inl ha) fun t s' I' => ⟨.int kvs.length, H, I', ⟨t, rfl⟩, q⟩
end
theorem iteF {A B : Prop} (h : B) : if false = true then A else B := by
  rw [if_neg Bool.false_ne_true]
  exact h
def Same (H H' : Hp) : Prop := ∀ b o, H b = some o → H' b = some o
theorem Same.refl (H : Hp) : Same H H := fun _ _ h => h
theorem Same.trans {H H1 H2 : Hp} (a : Same H H1) (b : Same H1 H2) : Same H H2 := fun c o h => b c o (a c o h)
theorem Same.free {H H' : Hp} (e : Same H H') {l : Addr} (h : H' l = Option.none) : H l = Option.none := by
  cases q : H l with
  | none => rfl
  | some o =>
    rw [e l o q] at h
    cases h
theorem Same.seq {K : PySem.W.Frag} {H H' : Hp} {a : Addr} {xs : List V} (e : Same H H') (h : SqL K H a xs) : SqL K H' a xs := by
  rcases h with (h | ⟨o, h⟩) | h
  · exact .inl (.inl (e _ _ h))
  · exact .inl (.inr ⟨o, e _ _ h⟩)
  · exact .inr h
section
variable {κ : Type} [DecidableEq κ]
theorem nd_snoc : ∀ {l : List κ} {k : κ}, l.Nodup → ¬ k ∈ l → (l ++ [k]).Nodup
  | [], k, _, _ => by simp
  | a :: r, k, h, hk => by
    obtain ⟨h1, h2⟩ := List.nodup_cons.mp h
    show (a :: (r ++ [k])).Nodup
    refine List.nodup_cons.mpr ⟨fun m => ?_, nd_snoc h2 fun m => hk (List.mem_cons.mpr (Or.inr m))⟩
    rcases List.mem_append.mp m with q | q
    · exact h1 q
    · exact hk (List.mem_cons.mpr (Or.inl (List.mem_singleton.mp q).symm))
theorem dropK_pos {p : κ × V} {r : List (κ × V)} {k : κ} (e : p.1 = k) : dropK (p :: r) k = dropK r k := by
  unfold dropK
  rw [List.filter_cons, if_neg (by simp [e])]
theorem dropK_neg {p : κ × V} {r : List (κ × V)} {k : κ} (e : ¬ p.1 = k) : dropK (p :: r) k = p :: dropK r k := by
  unfold dropK
  rw [List.filter_cons, if_pos (by simp [e])]
end
end L2
section
set_option Elab.async false
set_option linter.all false
set_option maxRecDepth 100000
set_option maxHeartbeats 2000000
namespace L2
open PySem PySem.Spec PyProof.Rows
open PySem.W (WData Codec OpenSpec Well WellAll ReadsW ReadsAllW)
mutual
inductive Dw (K : PySem.W.Frag) (H : Hp) : V → WData → Prop
  | non : Dw K H .non .none
  | bl (b : Bool) : Dw K H (.bl b) (.bool b)
  | int (i : Int) : Dw K H (.int i) (.int i)
  | str (x : Str) : Dw K H (.str x) (.str x)
  | byt (b : Array UInt8) : Dw K H (.byt b) (.bytes b.toList)
  | lst {a : Addr} {xs : List V} {ds : List WData} : SqL K H a xs → DwAll K H xs ds → Dw K H (.ref a) (.list ds)
  | tup {a : Addr} {xs : List V} {ds : List WData} : SqT K H a xs → DwAll K H xs ds → Dw K H (.ref a) (.tuple ds)
inductive DwAll (K : PySem.W.Frag) (H : Hp) : List V → List WData → Prop
  | nil : DwAll K H [] []
  | cons {v : V} {vs : List V} {d : WData} {ds : List WData} : Dw K H v d → DwAll K H vs ds → DwAll K H (v :: vs) (d :: ds)
end
theorem dw_ints {K : PySem.W.Frag} {H : Hp} : ∀ ns : List Int, DwAll K H (ns.map V.int) (ns.map WData.int)
  | [] => .nil
  | n :: r => .cons (.int n) (dw_ints r)
theorem ints_dw {K : PySem.W.Frag} {H : Hp} : ∀ (ns : List Int) (xs : List V), DwAll K H xs (ns.map WData.int) → xs = ns.map V.int
  | [], xs, h => by
    cases h
    rfl
  | n :: r, xs, h => by
    cases h with
    | cons h1 h2 =>
      cases h1
      rw [ints_dw r _ h2] <;> rfl
section
variable {P : Program} {w : World} {K : PySem.W.Frag} {H : Hp} {h : Heap} {R : PySem.W.WRecords} {cl : Str → Option Addr}
theorem sqL_at {a : Addr} {xs : List V} (hok : HOk P w H h) (KX : K.In h) (q : SqL K H a xs) : ∃ (its : List Value) (o : Obj) (n : Nat), Vals xs its ∧ h.get? a = some o ∧ o.cls = .type "list" ∧ o.data = .seq its.toArray n := by
  rcases q with q | ⟨o, its, n, e, hc, _, hd, _, hv⟩
  · obtain ⟨_, its, n, hv, e⟩ := (show ObjOk P w H h a (.lst xs) from q.ok hok)
    exact ⟨its, _, n, hv, e, rfl, rfl⟩
  · exact ⟨its.toList, o, n, hv, KX _ _ e, hc, by simp [hd]⟩
theorem sqT_at {a : Addr} {xs : List V} (hok : HOk P w H h) (KX : K.In h) (q : SqT K H a xs) : ∃ (its : List Value) (o : Obj) (n : Nat), Vals xs its ∧ h.get? a = some o ∧ o.cls = .type "tuple" ∧ o.data = .seq its.toArray n := by
  rcases q with q | ⟨o, its, n, e, hc, hd, _, hv⟩
  · obtain ⟨_, its, hv, o, e, hc, n, hd⟩ := (show ObjOk P w H h a (.tup xs) from q.ok hok)
    exact ⟨its, o, n, hv, e, hc, hd⟩
  · exact ⟨its.toList, o, n, hv, KX _ _ e, hc, by simp [hd]⟩
mutual
theorem Dw.reads (hok : HOk P w H h) (KX : K.In h) : ∀ (d : WData) (v : V) (u : Value), Dw K H v d → RelV v u → ∃ as, ReadsW R cl h u d as
  | .none, _, _, x, r => by
    cases x
    cases r
    exact ⟨_, ReadsW.none⟩
  | .bool b, _, _, x, r => by
    cases x
    cases r
    exact ⟨_, ReadsW.bool b⟩
  | .int i, _, _, x, r => by
    cases x
    obtain ⟨t, rfl⟩ := r
    exact ⟨_, ReadsW.int i t⟩
  | .str s, _, _, x, r => by
    cases x
    obtain ⟨t, rfl⟩ := r
    exact ⟨_, ReadsW.str s t⟩
  | .bytes b, _, _, x, r => by
    cases x
    obtain ⟨t, rfl⟩ := r
    exact ⟨_, ReadsW.bytes _ t⟩
  | .list ds, _, _, x, r => by
    cases x with
    | lst hs ha =>
      cases r
      obtain ⟨its, o, n, rv, ho, hc, hd⟩ := sqL_at hok KX hs
      obtain ⟨as, hr⟩ := Dw.readsAll hok KX ds _ its ha rv
      exact ⟨_, ReadsW.list ho hc hd hr⟩
  | .tuple ds, _, _, x, r => by
    cases x with
    | tup hs ha =>
      cases r
      obtain ⟨its, o, n, rv, ho, hc, hd⟩ := sqT_at hok KX hs
      obtain ⟨as, hr⟩ := Dw.readsAll hok KX ds _ its ha rv
      exact ⟨_, ReadsW.tuple ho hc hd hr⟩
  | .float _, _, _, x, _ => by cases x
  | .dict _, _, _, x, _ => by cases x
  | .bytearray _, _, _, x, _ => by cases x
  | .set _, _, _, x, _ => by cases x
  | .frozenset _, _, _, x, _ => by cases x
  | .obj _ _, _, _, x, _ => by cases x
theorem Dw.readsAll (hok : HOk P w H h) (KX : K.In h) : ∀ (ds : List WData) (vs : List V) (us : List Value), DwAll K H vs ds → Vals vs us → ∃ as, ReadsAllW R cl h us ds as
  | [], _, _, x, r => by
    cases x
    cases r
    exact ⟨_, ReadsAllW.nil⟩
  | d :: ds, _, _, x, r => by
    cases x with
    | cons h1 h2 =>
      cases r with
      | cons r1 r2 =>
        obtain ⟨as, q1⟩ := Dw.reads hok KX d _ _ h1 r1
        obtain ⟨bs, q2⟩ := Dw.readsAll hok KX ds _ _ h2 r2
        exact ⟨_, ReadsAllW.cons q1 q2⟩
end
end
mutual
def plW : WData → Bool
  | .none => true
  | .bool _ => true
  | .int _ => true
  | .str _ => true
  | .bytes _ => true
  | .list xs => plWs xs
  | .tuple xs => plWs xs
  | _ => false
def plWs : List WData → Bool
  | [] => true
  | x :: r => plW x && plWs r
end
theorem plWs_map {α : Type} {f : α → WData} (h : ∀ a, plW (f a) = true) : ∀ l : List α, plWs (l.map f) = true
  | [] => rfl
  | x :: r => by
    show (plW (f x) && plWs (r.map f)) = true
    rw [h x, plWs_map h r] <;> rfl
theorem pl_enc : ∀ (c : Codec) (a : c.denote), plW (c.enc a) = true
  | .unit, _ => rfl
  | .bool, _ => rfl
  | .int _ _, _ => rfl
  | .nat _ _, _ => rfl
  | .u8, _ => rfl
  | .bytes _ _, _ => rfl
  | .text _ _ _ _, _ => rfl
  | .list _ _ c, a => plWs_map (fun x => pl_enc c x) a
  | .pair c d, a => by
    show (plW (c.enc a.1) && (plW (d.enc a.2) && true)) = true
    rw [pl_enc c a.1, pl_enc d a.2] <;> rfl
  | .triple c d e, a => by
    show (plW (c.enc a.1) && (plW (d.enc a.2.1) && (plW (e.enc a.2.2) && true))) = true
    rw [pl_enc c a.1, pl_enc d a.2.1, pl_enc e a.2.2] <;> rfl
  | .option c, none => rfl
  | .option c, some x => pl_enc c x
theorem pl_encAll : ∀ (cs : List Codec) (a : Codec.denoteAll cs), plWs (Codec.encAll cs a) = true
  | [], _ => rfl
  | c :: cs, a => by
    show (plW (c.enc a.1) && plWs (Codec.encAll cs a.2)) = true
    rw [pl_enc c a.1, pl_encAll cs a.2] <;> rfl
theorem weight_mem : ∀ {xs : List WData} {d : WData}, d ∈ xs → d.weight ≤ WData.weightAll xs
  | [], d, h => absurd h (by simp)
  | x :: r, d, h => by
    show d.weight ≤ x.weight + 1 + WData.weightAll r
    rcases List.mem_cons.mp h with e | m
    · rw [e]
      omega
    · have z := weight_mem m
      omega
def toV : Value → V
  | .none => .non
  | .bool b => .bl b
  | .int i _ => .int i
  | .str x _ => .str x
  | .bytes b _ => .byt b
  | .ref a => .ref a
  | _ => .non
def OkU (A : List Addr) : Value → Prop
  | .none => True
  | .bool _ => True
  | .int _ _ => True
  | .str _ _ => True
  | .bytes _ _ => True
  | .ref a => a ∈ A
  | _ => False
theorem OkU.mono {A B : List Addr} (h : ∀ a ∈ A, a ∈ B) : ∀ {u : Value}, OkU A u → OkU B u := fun {u} x => by
  cases u with
  | ref a => exact h a x
  | none => trivial
  | bool b => trivial
  | int i t => trivial
  | str s t => trivial
  | bytes b t => trivial
  | _ => exact False.elim x
theorem relV_toV {A : List Addr} {u : Value} (x : OkU A u) : RelV (toV u) u := by
  cases u with
  | ref a => rfl
  | none => rfl
  | bool b => rfl
  | int i t => exact ⟨t, rfl⟩
  | str s t => exact ⟨t, rfl⟩
  | bytes b t => exact ⟨t, rfl⟩
  | _ => exact False.elim x
theorem vals_toV {A : List Addr} : ∀ {vs : List Value}, (∀ u ∈ vs, OkU A u) → Vals (vs.map toV) vs
  | [], _ => .nil
  | u :: r, h => .cons (relV_toV (h u (List.mem_cons_self ..))) (vals_toV fun x hx => h x (List.mem_cons_of_mem _ hx))
def ArgOb (h : Heap) (A : List Addr) (a : Addr) : Prop := ∃ vs : List Value, vs.length ≤ sizeLine ∧ (∀ u ∈ vs, OkU A u) ∧
  (h.get? a = some { cls := .type "list", data := .seq vs.toArray } ∨ h.get? a = some { cls := .type "tuple", data := .seq vs.toArray })
theorem ArgOb.mono {h : Heap} {A B : List Addr} {a : Addr} (k : ∀ a ∈ A, a ∈ B) (x : ArgOb h A a) : ArgOb h B a := by
  obtain ⟨vs, h1, h2, h3⟩ := x
  exact ⟨vs, h1, fun u hu => (h2 u hu).mono k, h3⟩
theorem wellAll_len {P : Params} {h : Heap} : ∀ {vs : List Value} {ds : List WData}, WellAll P h vs ds → vs.length = ds.length
  | _, _, .nil => rfl
  | _, _, .cons _ b => by
    show _ + 1 = _ + 1
    rw [wellAll_len b]
theorem well_list {P : Params} {h : Heap} {v : Value} {ds : List WData} (x : Well P h v (.list ds)) : ∃ (a : Addr) (vs : List Value), v = .ref a ∧ h.get? a = some { cls := .type "list", data := .seq vs.toArray } ∧ WellAll P h vs ds := by
  cases x with
  | list ho hall => exact ⟨_, _, rfl, ho, hall⟩
theorem well_tuple {P : Params} {h : Heap} {v : Value} {ds : List WData} (x : Well P h v (.tuple ds)) : ∃ (a : Addr) (vs : List Value), v = .ref a ∧ h.get? a = some { cls := .type "tuple", data := .seq vs.toArray } ∧ WellAll P h vs ds := by
  cases x with
  | tuple ho hall => exact ⟨_, _, rfl, ho, hall⟩
theorem well_cons {P : Params} {h : Heap} {us : List Value} {d : WData} {ds : List WData} (x : WellAll P h us (d :: ds)) : ∃ (v : Value) (vs : List Value), us = v :: vs ∧ Well P h v d ∧ WellAll P h vs ds := by
  cases x with
  | cons a b => exact ⟨_, _, rfl, a, b⟩
theorem line_of {n : Nat} (h : n ≤ 1048576) : n ≤ sizeLine := Nat.le_trans h (by decide)
section
variable {P : Params} {h : Heap}
mutual
theorem area_one : ∀ (d : WData) (v : Value), Well P h v d → plW d = true → d.weight ≤ 1048576 → ∃ A : List Addr, OkU A v ∧ ∀ a ∈ A, ArgOb h A a
  | .none, _, x, _, _ => by
    cases x
    exact ⟨[], trivial, fun a m => absurd m (by simp)⟩
  | .bool b, _, x, _, _ => by
    cases x
    exact ⟨[], trivial, fun a m => absurd m (by simp)⟩
  | .int i, _, x, _, _ => by
    cases x
    exact ⟨[], trivial, fun a m => absurd m (by simp)⟩
  | .str s, _, x, _, _ => by
    cases x
    exact ⟨[], trivial, fun a m => absurd m (by simp)⟩
  | .bytes b, _, x, _, _ => by
    cases x
    exact ⟨[], trivial, fun a m => absurd m (by simp)⟩
  | .list ds, _, x, p, z => by
    obtain ⟨a, vs, rfl, ho, hall⟩ := well_list x
    have z2 : WData.weightAll ds ≤ 1048576 := z
    obtain ⟨A, h1, h2⟩ := area_all ds _ hall p fun d hd => Nat.le_trans (weight_mem hd) z2
    have k : ∀ b ∈ A, b ∈ a :: A := fun b hb => List.mem_cons_of_mem _ hb
    refine ⟨a :: A, List.mem_cons_self .., fun b hb => ?_⟩
    rcases List.mem_cons.mp hb with e | m
    · rw [e]
      exact ⟨vs, line_of (by rw [wellAll_len hall]; exact Nat.le_trans (PySem.W.length_le_weightAllW ds) z2), fun u hu => (h1 u hu).mono k, .inl ho⟩
    · exact (h2 b m).mono k
  | .tuple ds, _, x, p, z => by
    obtain ⟨a, vs, rfl, ho, hall⟩ := well_tuple x
    have z2 : WData.weightAll ds ≤ 1048576 := z
    obtain ⟨A, h1, h2⟩ := area_all ds _ hall p fun d hd => Nat.le_trans (weight_mem hd) z2
    have k : ∀ b ∈ A, b ∈ a :: A := fun b hb => List.mem_cons_of_mem _ hb
    refine ⟨a :: A, List.mem_cons_self .., fun b hb => ?_⟩
    rcases List.mem_cons.mp hb with e | m
    · rw [e]
      exact ⟨vs, line_of (by rw [wellAll_len hall]; exact Nat.le_trans (PySem.W.length_le_weightAllW ds) z2), fun u hu => (h1 u hu).mono k, .inr ho⟩
    · exact (h2 b m).mono k
  | .float _, _, _, p, _ => Bool.noConfusion (show false = true from p)
  | .dict _, _, _, p, _ => Bool.noConfusion (show false = true from p)
  | .bytearray _, _, _, p, _ => Bool.noConfusion (show false = true from p)
  | .set _, _, _, p, _ => Bool.noConfusion (show false = true from p)
  | .frozenset _, _, _, p, _ => Bool.noConfusion (show false = true from p)
  | .obj _ _, _, _, p, _ => Bool.noConfusion (show false = true from p)
theorem area_all : ∀ (ds : List WData) (vs : List Value), WellAll P h vs ds → plWs ds = true → (∀ d ∈ ds, d.weight ≤ 1048576) → ∃ A : List Addr, (∀ u ∈ vs, OkU A u) ∧ ∀ a ∈ A, ArgOb h A a
  | [], _, x, _, _ => by
    cases x
    exact ⟨[], fun u m => absurd m (by simp), fun a m => absurd m (by simp)⟩
  | d :: ds, _, x, p, z => by
    obtain ⟨v, vs, rfl, x1, x2⟩ := well_cons x
    have q : plW d = true ∧ plWs ds = true := Bool.and_eq_true_iff.mp p
    obtain ⟨A, a1, a2⟩ := area_one d v x1 q.1 (z d (List.mem_cons_self ..))
    obtain ⟨B, b1, b2⟩ := area_all ds vs x2 q.2 fun e he => z e (List.mem_cons_of_mem _ he)
    have kA : ∀ b ∈ A, b ∈ A ++ B := fun b hb => List.mem_append.mpr (.inl hb)
    have kB : ∀ b ∈ B, b ∈ A ++ B := fun b hb => List.mem_append.mpr (.inr hb)
    refine ⟨A ++ B, fun u hu => ?_, fun b hb => ?_⟩
    · rcases List.mem_cons.mp hu with e | m
      · rw [e]
        exact a1.mono kA
      · exact (b1 u m).mono kB
    · rcases List.mem_append.mp hb with m | m
      · exact (a2 b m).mono kA
      · exact (b2 b m).mono kB
end
end
def hoOf (o : Obj) : Option HO := match o.data with
  | .seq vs _ => if (o.cls == Value.type "list") = true then some (.frz o (.lst (vs.toList.map toV))) else some (.frz o (.tup (vs.toList.map toV)))
  | _ => none
def argH (K : PySem.W.Frag) (h : Heap) (A : List Addr) : Hp := fun b => if b ∈ A then (if (K.lookup b).isNone = true then (h.get? b).bind hoOf else none) else none
def OnlyF (H : Hp) : Prop := ∀ b, H b = none ∨ ∃ o u, H b = some (.frz o u)
theorem hoOf_lst (vs : List Value) : hoOf { cls := .type "list", data := .seq vs.toArray } = some (.frz { cls := .type "list", data := .seq vs.toArray } (.lst (vs.map toV))) := by
  show (if (Value.type "list" == Value.type "list") = true then some (HO.frz { cls := .type "list", data := .seq vs.toArray } (.lst (vs.toArray.toList.map toV))) else some (HO.frz { cls := .type "list", data := .seq vs.toArray } (.tup (vs.toArray.toList.map toV)))) = _
  rw [if_pos (beq_self_eq_true _)]
theorem hoOf_tup (vs : List Value) : hoOf { cls := .type "tuple", data := .seq vs.toArray } = some (.frz { cls := .type "tuple", data := .seq vs.toArray } (.tup (vs.map toV))) := by
  show (if (Value.type "tuple" == Value.type "list") = true then some (HO.frz { cls := .type "tuple", data := .seq vs.toArray } (.lst (vs.toArray.toList.map toV))) else some (HO.frz { cls := .type "tuple", data := .seq vs.toArray } (.tup (vs.toArray.toList.map toV)))) = _
  rw [if_neg (by decide)]
section
variable {P : Program} {w : World} {K : PySem.W.Frag} {h : Heap} {A : List Addr}
theorem argH_at {b : Addr} {o : Obj} (hb : b ∈ A) (hk : K.lookup b = none) (e : h.get? b = some o) : argH K h A b = hoOf o := by
  unfold argH
  rw [if_pos hb, hk, if_pos (show (none : Option Obj).isNone = true from rfl), e] <;> rfl
theorem of_argH {b : Addr} {u : HO} (q : argH K h A b = some u) : b ∈ A ∧ K.lookup b = none := by
  unfold argH at q
  by_cases hb : b ∈ A
  · rw [if_pos hb] at q
    cases hk : K.lookup b with
    | none => exact ⟨hb, rfl⟩
    | some o =>
      rw [hk, if_neg (by simp)] at q
      cases q
  · rw [if_neg hb] at q
    cases q
theorem argH_is (ar : ∀ a ∈ A, ArgOb h A a) {b : Addr} {u : HO} (q : argH K h A b = some u) : K.lookup b = none ∧ ∃ vs : List Value, vs.length ≤ sizeLine ∧ (∀ u ∈ vs, OkU A u) ∧
    ((h.get? b = some { cls := .type "list", data := .seq vs.toArray } ∧ u = .frz { cls := .type "list", data := .seq vs.toArray } (.lst (vs.map toV))) ∨
     (h.get? b = some { cls := .type "tuple", data := .seq vs.toArray } ∧ u = .frz { cls := .type "tuple", data := .seq vs.toArray } (.tup (vs.map toV)))) := by
  obtain ⟨hb, hk⟩ := of_argH q
  obtain ⟨vs, h1, h2, h3⟩ := ar b hb
  refine ⟨hk, vs, h1, h2, ?_⟩
  rcases h3 with e | e
  · rw [argH_at hb hk e, hoOf_lst] at q
    exact .inl ⟨e, (Option.some.inj q).symm⟩
  · rw [argH_at hb hk e, hoOf_tup] at q
    exact .inr ⟨e, (Option.some.inj q).symm⟩
theorem argH_only (ar : ∀ a ∈ A, ArgOb h A a) : OnlyF (argH K h A) := fun b => by
  cases q : argH K h A b with
  | none => exact .inl rfl
  | some u =>
    obtain ⟨_, vs, _, _, ⟨_, e⟩ | ⟨_, e⟩⟩ := argH_is ar q
    · exact .inr ⟨_, _, by rw [e]⟩
    · exact .inr ⟨_, _, by rw [e]⟩
theorem argH_ok (ar : ∀ a ∈ A, ArgOb h A a) : HOk P w (argH K h A) h := fun b u q => by
  obtain ⟨_, vs, h1, h2, ⟨e, rfl⟩ | ⟨e, rfl⟩⟩ := argH_is ar q
  · exact ⟨e, by rw [List.length_map]; exact h1, vs, _, vals_toV h2, e⟩
  · exact ⟨e, by rw [List.length_map]; exact h1, vs, vals_toV h2, _, e, rfl, _, rfl⟩
theorem seq_inj {c c' : Value} {vs us : List Value} (e : (some { cls := c, data := .seq vs.toArray } : Option Obj) = some { cls := c', data := .seq us.toArray }) : c = c' ∧ vs = us := by
  have e1 := Option.some.inj e
  have e2 : c = c' := congrArg Obj.cls e1
  have e3 : Data.seq vs.toArray = Data.seq us.toArray := congrArg Obj.data e1
  injection e3 with e4
  refine ⟨e2, ?_⟩
  have e5 := congrArg Array.toList e4
  simpa using e5
theorem argL (KX : K.In h) (ar : ∀ a ∈ A, ArgOb h A a) {a : Addr} {vs : List Value} (ha : a ∈ A) (e : h.get? a = some { cls := .type "list", data := .seq vs.toArray }) : (∀ u ∈ vs, OkU A u) ∧ SqL K (argH K h A) a (vs.map toV) := by
  obtain ⟨us, h1, h2, h3⟩ := ar a ha
  have hu : us = vs := by
    rcases h3 with q | q
    · rw [e] at q
      exact (seq_inj q).2.symm
    · rw [e] at q
      exact absurd (Value.type.inj (seq_inj q).1) (by decide)
  subst hu
  refine ⟨h2, ?_⟩
  cases hk : K.lookup a with
  | none => exact .inl (.inr ⟨_, by rw [argH_at ha hk e, hoOf_lst]⟩)
  | some o =>
    have e2 := KX a o hk
    rw [e] at e2
    obtain rfl := Option.some.inj e2
    exact .inr ⟨_, us.toArray, _, hk, rfl, rfl, rfl, by rw [List.size_toArray]; exact h1, by simpa using vals_toV h2⟩
theorem argT (KX : K.In h) (ar : ∀ a ∈ A, ArgOb h A a) {a : Addr} {vs : List Value} (ha : a ∈ A) (e : h.get? a = some { cls := .type "tuple", data := .seq vs.toArray }) : (∀ u ∈ vs, OkU A u) ∧ SqT K (argH K h A) a (vs.map toV) := by
  obtain ⟨us, h1, h2, h3⟩ := ar a ha
  have hu : us = vs := by
    rcases h3 with q | q
    · rw [e] at q
      exact absurd (Value.type.inj (seq_inj q).1) (by decide)
    · rw [e] at q
      exact (seq_inj q).2.symm
  subst hu
  refine ⟨h2, ?_⟩
  cases hk : K.lookup a with
  | none => exact .inl (.inr ⟨_, by rw [argH_at ha hk e, hoOf_tup]⟩)
  | some o =>
    have e2 := KX a o hk
    rw [e] at e2
    obtain rfl := Option.some.inj e2
    exact .inr ⟨_, us.toArray, _, hk, rfl, rfl, by rw [List.size_toArray]; exact h1, by simpa using vals_toV h2⟩
mutual
theorem dw_one {Pm : Params} (KX : K.In h) (ar : ∀ a ∈ A, ArgOb h A a) : ∀ (d : WData) (v : Value), Well Pm h v d → plW d = true → OkU A v → Dw K (argH K h A) (toV v) d
  | .none, _, x, _, _ => by
    cases x
    exact .non
  | .bool b, _, x, _, _ => by
    cases x
    exact .bl b
  | .int i, _, x, _, _ => by
    cases x
    exact .int i
  | .str s, _, x, _, _ => by
    cases x
    exact .str s
  | .bytes b, _, x, _, _ => by
    cases x
    have z := Dw.byt (K := K) (H := argH K h A) b.toArray
    exact z
  | .list ds, _, x, p, hu => by
    obtain ⟨a, vs, rfl, ho, hall⟩ := well_list x
    obtain ⟨h2, hs⟩ := argL KX ar hu ho
    exact .lst hs (dw_all KX ar ds _ hall p h2)
  | .tuple ds, _, x, p, hu => by
    obtain ⟨a, vs, rfl, ho, hall⟩ := well_tuple x
    obtain ⟨h2, hs⟩ := argT KX ar hu ho
    exact .tup hs (dw_all KX ar ds _ hall p h2)
  | .float _, _, _, p, _ => Bool.noConfusion (show false = true from p)
  | .dict _, _, _, p, _ => Bool.noConfusion (show false = true from p)
  | .bytearray _, _, _, p, _ => Bool.noConfusion (show false = true from p)
  | .set _, _, _, p, _ => Bool.noConfusion (show false = true from p)
  | .frozenset _, _, _, p, _ => Bool.noConfusion (show false = true from p)
  | .obj _ _, _, _, p, _ => Bool.noConfusion (show false = true from p)
theorem dw_all {Pm : Params} (KX : K.In h) (ar : ∀ a ∈ A, ArgOb h A a) : ∀ (ds : List WData) (vs : List Value), WellAll Pm h vs ds → plWs ds = true → (∀ u ∈ vs, OkU A u) → DwAll K (argH K h A) (vs.map toV) ds
  | [], _, x, _, _ => by
    cases x
    exact .nil
  | d :: ds, _, x, p, hu => by
    obtain ⟨v, vs, rfl, x1, x2⟩ := well_cons x
    have q : plW d = true ∧ plWs ds = true := Bool.and_eq_true_iff.mp p
    exact .cons (dw_one KX ar d v x1 q.1 (hu _ (List.mem_cons_self ..))) (dw_all KX ar ds vs x2 q.2 fun u m => hu u (List.mem_cons_of_mem _ m))
end
end
theorem spec_call {P : Program} {w : World} {K : PySem.W.Frag} {mg mb : Str → Option Value} {CX : CXT} {k : Nat} {fa : Addr} {fd : FuncData} {ps : List Str} {sp : Sp} {s₁ : Shared} {vals : List Value} {ds : List WData} {R : PySem.W.WRecords} {cl : Str → Option Addr} {d0 : WData}
    (KX : K.In s₁.heap) (hns : s₁.heap.Ns mainGlobals mg) (hb : s₁.heap.Ns builtinsNs mb) (hbb : ∀ x : Str, x ≠ "__name__" → mb x = bootBuiltins x) (hlim : s₁.heap.NoLimit) (hg : s₁.gens = #[])
    (hwl : WellAll w.params s₁.heap vals ds) (hpl : plWs ds = true) (hwt : ∀ d ∈ ds, d.weight ≤ 1048576) (hr : Room k callerA)
    (F : ∀ base : Heap, K.In base → base.Ns mainGlobals mg → FnOk P w K mg base CX k fa fd ps sp) (hbind : ∀ (s : Shared) (us : List Value), us.length = ps.length → BindsTo s fd ⟨us, []⟩ (ps.zip us)) (hlen : ds.length = ps.length)
    (hsp : ∀ (H : Hp) (xs : List V), OnlyF H → DwAll K H xs ds → sp xs H (fun v H' => Dw K H' v d0) fun _ _ _ => False)
    (hCX : ∀ H e s', CX [] H s₁ (fun _ _ _ => False) e s' → False) :
    codeAny (model P w) callerA (.call (.ref fa) ⟨vals, []⟩) (fun r s' => ∃ u as, r = .ok (.ret u) ∧ ReadsW R cl s'.heap u d0 as ∧ OldK s₁.heap s'.heap ∧ s'.os = s₁.os ∧ AllBare s'.gens) s₁ := by
  obtain ⟨A, ho, ar⟩ := area_all ds vals hwl hpl hwt
  have hO : OnlyF (argH K s₁.heap A) := argH_only ar
  have hok : HOk P w (argH K s₁.heap A) s₁.heap := argH_ok ar
  have hS := dw_all KX ar ds vals hwl hpl ho
  have hV := vals_toV ho
  have hK : ∀ b u, argH K s₁.heap A b = some u → K.lookup b = none := fun b u q => (argH_is ar q).1
  have noA : ∀ {b : Addr} {o : Obj} {es : Array DictEntry} {ep : Nat}, s₁.heap.get? b = some o → o.data = .dict es ep → argH K s₁.heap A b = none := fun {b o es ep} e d => by
    cases q : argH K s₁.heap A b with
    | none => rfl
    | some u =>
      obtain ⟨_, vs, _, _, ⟨e2, _⟩ | ⟨e2, _⟩⟩ := argH_is ar q
      · rw [e2] at e
        cases e
        have d' : Data.seq vs.toArray _ = Data.dict es ep := d
        cases d'
      · rw [e2] at e
        cases e
        have d' : Data.seq vs.toArray _ = Data.dict es ep := d
        cases d'
  generalize argH K s₁.heap A = H at hO hok hS hK noA
  have base_of : ∀ {b : Addr} {o : Obj}, s₁.heap.get? b = some o → H b = none → (hidT s₁.heap H).get? b = some o := fun e n => hidT_get e n
  have nsK : ∀ {b : Addr} {m : Str → Option Value}, s₁.heap.Ns b m → (hidT s₁.heap H).Ns b m := fun {b m} ⟨o, es, ep, e, d, r⟩ => ⟨o, es, ep, base_of e (noA e d), d, r⟩
  have nK : ∀ b o, K.lookup b = some o → H b = none := fun b o e => by
    cases q : H b with
    | none => rfl
    | some u =>
      rw [hK b u q] at e
      cases e
  have hKb : K.In (hidT s₁.heap H) := fun b o e => base_of (KX b o e) (nK b o e)
  have hM : Mod K mg (hidT s₁.heap H) := ⟨hKb, nsK hns, ⟨mb, nsK hb, hbb⟩, let ⟨mc, h1, h2⟩ := hlim; ⟨mc, nsK h1, h2⟩⟩
  have e0 : Env0 P w K mg (hidT s₁.heap H) callerA [] s₁ H := ⟨rfl, hM, fun b o e => of_hidT e, Nat.le_of_eq (hidT_size _ _), trivial, fun b hb => absurd (show b ∈ ([] : List Addr) from hb) (by simp), hok, .of_eq hg⟩
  have hl : vals.length = ps.length := by rw [wellAll_len hwl]; exact hlen
  refine codeAny_mono ((F _ hKb (nsK hns)).run callerA [] s₁ H ⟨vals, []⟩ vals (vals.map toV) _ _ hr e0 (hbind s₁ vals hl) hV (hsp H _ hO hS)) fun r s' x => ?_
  cases r with
  | error e => exact (hCX H e s' x).elim
  | ok fl =>
    cases fl with
    | next => exact False.elim x
    | brk => exact False.elim x
    | cont => exact False.elim x
    | ret u =>
      obtain ⟨v, H', os, bare, un, hok', r', q⟩ := x
      have kept : ∀ b o, s₁.heap.get? b = some o → s'.heap.get? b = some o := fun b o e => by
        cases q2 : H b with
        | none => exact un.keep b o e q2 (by intro z; exact absurd (show b ∈ ([] : List Addr) from z) (by simp)) (by simp)
        | some u2 =>
          rcases hO b with z | ⟨ob, u3, z⟩
          · rw [q2] at z
            cases z
          · have z2 := un.frzs b ob _ z
            obtain ⟨e1, _⟩ := hok b _ z
            obtain ⟨e2, _⟩ := hok' b _ z2
            rw [e] at e1
            cases e1
            exact e2
      have KX' : K.In s'.heap := fun b o e => kept b o (KX b o e)
      obtain ⟨as, hrd⟩ := Dw.reads (R := R) (cl := cl) hok' KX' d0 v u q r'
      exact ⟨u, as, rfl, hrd, OldK.of_keep kept, os, bare⟩
theorem layable_weight {ds : List WData} (h : WData.layableAll ds = true) : ∀ d ∈ ds, d.weight ≤ 1048576 := fun d hd =>
  (PySem.W.layableW_iff.mp (List.all_eq_true.mp h d hd)).2.2
theorem encAll_len : ∀ (cs : List Codec) (a : Codec.denoteAll cs), (Codec.encAll cs a).length = cs.length
  | [], _ => rfl
  | c :: cs, a => by
    show (Codec.encAll cs a.2).length + 1 = cs.length + 1
    rw [encAll_len cs a.2]
theorem walk_spec {r : OpenSpec} {k : Nat} {q : Program} {loose : List Str} {XP : (Str → Option Value) → Heap → Prop} {YP : World → Heap → Prop} {d : DefRec} {K : Params → PySem.W.Frag} {CX : World → CXT} {ps : List Str} {sp : World → Sp}
    (hwell : r.wellSaid = true) (hdf : d.params.defaults = []) (hlen : r.args.length = ps.length) (hr : Room k callerA)
    (hY : ∀ (w : World) (h : Heap), YP w h → (K w.params).In h)
    (F : ∀ (w : World) (mg : Str → Option Value) (fa : Addr) (h : Heap), YP w h → (K w.params).In h → h.Ns mainGlobals mg → mg d.name = some (.ref fa) →
      ∃ fd : FuncData, (∀ (s : Shared) (us : List Value), us.length = ps.length → BindsTo s fd ⟨us, []⟩ (ps.zip us)) ∧
        ∀ base : Heap, (K w.params).In base → base.Ns mainGlobals mg → FnOk r.prog w (K w.params) mg base (CX w) k fa fd ps (sp w))
    (hsp : ∀ (w : World) (H : Hp) (xs : List V) (a : Codec.denoteAll r.args), OnlyF H → Codec.withinAll r.args a = true → Codec.app r.args r.asked a = true → DwAll (K w.params) H xs (Codec.encAll r.args a) →
      sp w xs H (fun v H' => Dw (K w.params) H' v (r.ret.enc (Codec.app r.args r.f a))) fun _ _ _ => False)
    (hCX : ∀ (w : World) (H : Hp) (s : Shared) (e : Value) (s' : Shared), CX w [] H s (fun _ _ _ => False) e s' → False) :
    PySem.W.WalkOS q loose XP YP r d [] (fun f vs => PySem.call f vs) := by
  intro w s_0 s₁ mg mb G Y fa o pm cd doc dV kV ho hd hcd hD hmg hg args vals as hpre hlay hrd hwl hlo
  obtain ⟨a, e1, e2⟩ := PySem.W.os_pre_some hpre
  obtain ⟨e3, hwi⟩ := Codec.encAll_of_decAll r.args args a e1
  subst e3
  have KX := hY w _ Y
  obtain ⟨fd, hb, hF⟩ := F w mg fa _ Y KX G.T.g hmg
  refine PySem.W.enter_call (codeAny_mono (spec_call (R := []) (cl := classAt s_0.heap) (d0 := r.ret.enc (Codec.app r.args r.f a)) KX G.T.g G.T.b G.T.builtins G.T.nolimit hg hwl (pl_encAll _ _) (layable_weight hlay) hr hF hb (by rw [encAll_len]; exact hlen)
    (fun H xs hO hS => hsp w H xs a hO hwi e2 hS) fun H e s' => hCX w H s₁ e s') fun r' s' hq => ?_)
  obtain ⟨u, as', rfl, h1, h2, h3, h4⟩ := hq
  exact ⟨.inl ⟨u, _, as', rfl, fun _ => rfl, h1, (OpenSpec.post_iff hwell hwi _ _).mpr rfl, fun z => Bool.noConfusion (show false = true from z)⟩, h2, h3, h4⟩
theorem walk_specK {r : OpenSpec} {k : Nat} {q : Program} {loose : List Str} {XP : (Str → Option Value) → Heap → Prop} {YP : World → Heap → Prop} {d : DefRec} {K : Params → PySem.W.Frag} {CX : CXT} {ps : List Str} {sp : PySem.W.Frag → Sp}
    (hwell : r.wellSaid = true) (hdf : d.params.defaults = []) (hlen : r.args.length = ps.length) (hr : Room k callerA)
    (hY : ∀ (w : World) (h : Heap), YP w h → (K w.params).In h)
    (F : ∀ (w : World) (mg : Str → Option Value) (fa : Addr) (h : Heap), YP w h → (K w.params).In h → h.Ns mainGlobals mg → mg d.name = some (.ref fa) →
      ∃ fd : FuncData, (∀ (s : Shared) (us : List Value), us.length = ps.length → BindsTo s fd ⟨us, []⟩ (ps.zip us)) ∧
        ∀ base : Heap, (K w.params).In base → base.Ns mainGlobals mg → FnOk r.prog w (K w.params) mg base CX k fa fd ps (sp (K w.params)))
    (hsp : ∀ (K : PySem.W.Frag) (H : Hp) (xs : List V) (a : Codec.denoteAll r.args), OnlyF H → Codec.withinAll r.args a = true → Codec.app r.args r.asked a = true → DwAll K H xs (Codec.encAll r.args a) →
      sp K xs H (fun v H' => Dw K H' v (r.ret.enc (Codec.app r.args r.f a))) fun _ _ _ => False)
    (hCX : ∀ (H : Hp) (s : Shared) (e : Value) (s' : Shared), CX [] H s (fun _ _ _ => False) e s' → False) :
    PySem.W.WalkOS q loose XP YP r d [] (fun f vs => PySem.call f vs) :=
  walk_spec (K := K) (CX := fun _ => CX) (sp := fun w => sp (K w.params)) hwell hdf hlen hr hY F (fun w H xs a h1 h2 h3 h4 => hsp (K w.params) H xs a h1 h2 h3 h4) fun _ H s e s' => hCX H s e s'
end L2
end
set_option Elab.async false
set_option linter.all false
set_option maxRecDepth 100000
set_option maxHeartbeats 4000000
namespace L2
open PySem PySem.Spec PyProof.Rows
def lexLe (a b : Int × Int) : Prop := a.1 < b.1 ∨ (a.1 = b.1 ∧ a.2 ≤ b.2)
def shI : Nat → Bool := fun _ => false
abbrev kItems (k : Int × Int) : List (Int ⊕ List Nat) := [Sum.inl k.1, Sum.inl k.2]
def pairOf : Option (List (Int ⊕ List Nat)) → Int × Int
  | some [Sum.inl a, Sum.inl b] => (a, b)
  | _ => (0, 0)
theorem kle_lex {a b : Int × Int} (h : (listOrd itemOrd).kle (kItems a) (kItems b)) : lexLe a b := by
  have h1 : lexLt itemOrd (kItems b) (kItems a) = false := h
  obtain ⟨p, q⟩ := lex_false.mp h1
  have p1 : ¬ b.1 < a.1 := of_decide_eq_false (show decide (b.1 < a.1) = false from p)
  rcases q with q | q
  · have q1 : a.1 < b.1 := of_decide_eq_true (show decide (a.1 < b.1) = true from q)
    exact .inl q1
  · obtain ⟨p2, q2⟩ := lex_false.mp q
    have p3 : ¬ b.2 < a.2 := of_decide_eq_false (show decide (b.2 < a.2) = false from p2)
    by_cases e : a.1 < b.1
    · exact .inl e
    · exact .inr ⟨by omega, by omega⟩
theorem tup_key {P : Program} {w : World} {H : Hp} {h : Heap} {t : Addr} {k : Int × Int} (hok : HOk P w H h) (e : H t = some (.tup [.int k.1, .int k.2])) :
    PyProof.Rows.G.tupKeyC h shI (.ref t) = some (kItems k) ∧ ∃ f, TupOf h shI (.ref t) f := by
  obtain ⟨_, its, r, o, ho, hc, n, hd⟩ := hok t _ e
  cases r with
  | cons r1 r =>
    cases r with
    | cons r2 r =>
      cases r
      obtain ⟨t1, rfl⟩ := r1
      obtain ⟨t2, rfl⟩ := r2
      exact ⟨PyProof.Rows.G.tupKeyC_of ho hc hd rfl, _, t, o, _, n, rfl, ho, hc, hd, rfl, fun _ => ⟨_, _, rfl⟩, fun z => Bool.noConfusion z⟩
section
variable {h : Heap} {vs : List Value} {xs : List V} {ts : List Addr} {ks : List (Int × Int)}
def rdK (h : Heap) (p : Keyed) : (Int × Int) × V := (pairOf (PyProof.Rows.G.tupKeyC h shI p.1), (absV p.2).getD .non)
theorem zip_read (hk : ∀ (j : Nat) (t : Addr) (k : Int × Int), ts[j]? = some t → ks[j]? = some k → PyProof.Rows.G.tupKeyC h shI (.ref t) = some (kItems k)) (r : Vals xs vs) (h1 : ts.length = vs.length) (h2 : ks.length = vs.length) :
    ((ts.map Value.ref).zip vs).map (rdK h) = ks.zip xs := by
  induction r generalizing ts ks with
  | nil =>
    obtain rfl : ts = [] := List.length_eq_zero_iff.mp h1
    obtain rfl : ks = [] := List.length_eq_zero_iff.mp h2
    rfl
  | cons rx r ih =>
    match ts, ks, h1, h2 with
    | t :: ts, k :: ks, h1, h2 =>
      have e := hk 0 t k rfl rfl
      have z := ih (fun j t k a b => hk (j + 1) t k a b) (by simpa using h1) (by simpa using h2)
      show rdK h (Value.ref t, _) :: ((ts.map Value.ref).zip _).map (rdK h) = (k, _) :: ks.zip _
      rw [z]
      unfold rdK
      rw [e, rx.abs]
      rfl
theorem zip_mem (hk : ∀ (j : Nat) (t : Addr) (k : Int × Int), ts[j]? = some t → ks[j]? = some k → PyProof.Rows.G.tupKeyC h shI (.ref t) = some (kItems k)) (h1 : ts.length = vs.length) (h2 : ks.length = vs.length) {p : Keyed} (hp : p ∈ (ts.map Value.ref).zip vs) :
    (∃ k, PyProof.Rows.G.tupKeyC h shI p.1 = some (kItems k)) ∧ p.2 ∈ vs := by
  obtain ⟨p1, p2⟩ := p
  refine ⟨?_, (List.of_mem_zip hp).2⟩
  obtain ⟨t, ht, rfl⟩ := List.mem_map.mp (List.of_mem_zip hp).1
  obtain ⟨j, hj, e⟩ := List.mem_iff_getElem.mp ht
  have e1 : ts[j]? = some t := by rw [List.getElem?_eq_getElem hj, e]
  exact ⟨ks[j]'(by omega), hk j t _ e1 (List.getElem?_eq_getElem (by omega))⟩
theorem vals_mem : ∀ {xs : List V} {vs : List Value}, Vals xs vs → ∀ v ∈ vs, ∃ x, RelV x v
  | _, _, .nil, v, hv => absurd hv (by simp)
  | _, _, .cons r t, v, hv => by
    rcases List.mem_cons.mp hv with rfl | hv
    · exact ⟨_, r⟩
    · exact vals_mem t v hv
theorem vals_rd {l : List Keyed} (hl : ∀ p ∈ l, ∃ x, RelV x p.2) : Vals ((l.map (rdK h)).map (·.2)) (l.map (·.2)) := by
  induction l with
  | nil => exact .nil
  | cons p l ih =>
    obtain ⟨x, rx⟩ := hl p (List.mem_cons_self ..)
    refine .cons ?_ (ih fun q hq => hl q (List.mem_cons_of_mem _ hq))
    show RelV ((absV p.2).getD .non) p.2
    rw [rx.abs]
    exact rx
theorem sorted_rd {a : Array Keyed} (hk : ∀ p ∈ a.toList, ∃ k, PyProof.Rows.G.tupKeyC h shI p.1 = some (kItems k)) (hs : SortedToK (PyProof.Rows.G.tupKindC h shI) a a.size) :
    (a.toList.map (rdK h)).Pairwise fun x y => lexLe x.1 y.1 := by
  rw [List.pairwise_map]
  refine List.pairwise_iff_getElem.mpr fun i j hi hj hij => ?_
  have hj' : j < a.size := by simpa using hj
  have hi' : i < a.size := by simpa using hi
  have q := hs i j (Nat.le_of_lt hij) hj'
  obtain ⟨k1, e1⟩ := hk a.toList[i] (List.getElem_mem hi)
  obtain ⟨k2, e2⟩ := hk a.toList[j] (List.getElem_mem hj)
  have g : ∀ (m : Nat) (hm : m < a.toList.length) (k : Int × Int), PyProof.Rows.G.tupKeyC h shI (a.toList[m]).1 = some (kItems k) → KK (PyProof.Rows.G.tupKindC h shI) a m = kItems k := fun m hm k e => by
    unfold KK
    have e3 : a[m]? = some a.toList[m] := by
      rw [← Array.getElem?_toList]
      exact List.getElem?_eq_getElem hm
    rw [e3]
    show (PyProof.Rows.G.tupKeyC h shI (a.toList[m]).1).getD [] = _
    rw [e]
    rfl
  rw [g i hi k1 e1, g j hj k2 e2] at q
  show lexLe (pairOf (PyProof.Rows.G.tupKeyC h shI (a.toList[i]).1)) (pairOf (PyProof.Rows.G.tupKeyC h shI (a.toList[j]).1))
  rw [e1, e2]
  exact kle_lex q
end
end L2
set_option Elab.async false
set_option linter.all false
set_option maxRecDepth 100000
set_option maxHeartbeats 4000000
namespace L2
open PySem PySem.Spec PyProof.Rows
section
variable {X : Cx} {pins : List (Addr × Obj)} {σ : St} {H : Hp} {s : Shared}
theorem run_in {A : Around} {k : Nat} {f : Addr} {fd : FuncData} {ps : List Str} {sp : Sp} {Q : VK} {us : List Value} {vs : List V} {E : Value → Shared → Prop} (F : FnOk X.prog X.w X.K X.mg X.base CX0 k f fd ps sp) (hr : Room k A) (hf : A.frames = some X.stack)
    (hb : Binds X.K fd ps []) (I : Inv X pins σ H s) (r : Vals vs us) (h : sp vs H Q E0) : wpAny (model X.prog X.w) A (call (.ref f) us) (EP X pins σ Q) E s := by
  have hl : us.length = ps.length := by rw [← r.length]; exact F.len _ _ _ _ h
  have e0 : Env0 X.prog X.w X.K X.mg X.base A X.stack s H := ⟨hf, I.env0.mod, I.env0.bs, I.env0.bsz, I.env0.funs, I.env0.frf, I.env0.hok, I.env0.bare⟩
  have b := hb s us I.kIn (by rw [List.append_nil]; exact hl)
  rw [List.append_nil] at b
  refine wpAny_call (codeAny_mono (F.run A X.stack s H ⟨us, []⟩ us vs Q E0 hr e0 b r h) fun r s' hq => ?_)
  cases r with
  | error e => exact False.elim hq
  | ok fl =>
    cases fl with
    | ret u => exact I.after hq
    | next => exact False.elim hq
    | brk => exact False.elim hq
    | cont => exact False.elim hq
theorem vals_refs : ∀ {ts : List Addr} {us : List Value}, Vals (ts.map V.ref) us → us = ts.map Value.ref
  | [], _, .nil => rfl
  | t :: ts, _, .cons r q => by
    obtain rfl := r
    rw [vals_refs q]
    rfl
theorem Same.upd_free {H H' : Hp} (e : Same H H') {a : Addr} {o : HO} (h : H a = none) : Same H (upd H' a o) := fun b u q => by
  rw [upd_ne (ne_of_none q h)]
  exact e b u q
theorem sort_tail {A : Around} {E : Value → Shared → Prop} {H0 : Hp} {a kS : Addr} {st : SortSt} {e1 : Nat} {ys : List V} {ws : List V} {P : PySem.Fin → Shared → Prop} (I : Inv X pins σ H s) (hS : Same H0 H) (ha0 : H0 a = none) (hk0 : H0 kS = none) (hka : kS ≠ a)
    (hf : H a = some (.frz (seqObj "list" #[] e1) (.lst []))) (hn : ∀ o' u', X.H_0 a ≠ some (.frz o' u')) (hk : H kS = some (.lst ws)) (hv : Vals ys ((arrOf st).toList.map (·.2))) (hz : ys.length ≤ sizeLine) (hfl : failedOf st = none)
    (h : ∀ H' s', Inv X pins σ H' s' → Same H0 H' → H' a = some (.lst ys) → P (.done (.ret .none)) s') : wpAny (model X.prog X.w) A (ksk_tail a false e1 (.ref kS) st) P E s := by
  obtain ⟨zk, its, nk, rk, lk, ek⟩ := I.lstM hk
  have I1 := I.lset (its := its) (its' := []) (ys := []) (n := nk) (f := fun _ => #[]) (t' := s.toks) hk ek rfl .nil (Nat.zero_le _)
  have hf1 : upd H kS (.lst []) a = some (.frz (seqObj "list" #[] e1) (.lst [])) := by rw [upd_ne hka.symm]; exact hf
  have ea : (s.heap.update kS (Obj.mapSeq fun _ => (#[] : Array Value))).get? a = some (seqObj "list" #[] e1) := (I1.hok a _ hf1).1
  have I2 := I1.unlock hf1 hn
  have hu2 : upd (upd H kS (.lst [])) a (.lst []) a = some (.lst []) := upd_same
  have I3 := I2.lset (its := []) (its' := (arrOf st).toList.map (·.2)) (ys := ys) (n := e1) (f := fun _ => (arrOf st).map (·.2)) (t' := s.toks) hu2 ea (by show (arrOf st).map (fun p => p.2) = _; rw [← Array.toList_map, Array.toArray_toList]) hv hz
  have lz : ((arrOf st).map (·.2)).size ≤ sizeLine := by
    have := hv.length
    simp only [List.length_map, Array.length_toList] at this
    rw [Array.size_map]; omega
  unfold ksk_tail
  try dsimp only
  refine wpAny_bind (listUpdate_at ek rfl ?_ (by rw [List.size_toArray]; omega) (Nat.zero_le _))
  refine wpAny_bind (wpAny_letGo ?_)
  refine wpAny_bind (seqEpoch_at ea rfl ?_)
  refine wpAny_bind (listUpdate_at ea rfl ?_ (Nat.zero_le _) (Nat.le_succ_of_le lz))
  rw [hfl]
  simp only [bne_self_eq_false, Bool.false_eq_true, if_false]
  refine wpAny_pure (h _ _ I3 ?_ upd_same)
  exact ((hS.upd_free hk0).upd_free ha0).upd_free ha0
theorem sort_end {A : Around} {E : Value → Shared → Prop} {H0 : Hp} {a kS : Addr} {e1 : Nat} {xs : List V} {vs : List Value} {ts : List Addr} {ks : List (Int × Int)} {P : PySem.Fin → Shared → Prop} (I : Inv X pins σ H s) (hS : Same H0 H) (ha0 : H0 a = none) (hk0 : H0 kS = none) (hka : kS ≠ a)
    (hf : H a = some (.frz (seqObj "list" #[] e1) (.lst []))) (hn : ∀ o' u', X.H_0 a ≠ some (.frz o' u')) (hk : H kS = some (.lst (ts.map V.ref))) (r : Vals xs vs) (h1 : ts.length = vs.length) (h2 : ks.length = vs.length) (hZ : vs.length ≤ sizeLine)
    (hT : ∀ (j : Nat) (t : Addr) (k : Int × Int), ts[j]? = some t → ks[j]? = some k → H t = some (.tup [.int k.1, .int k.2]))
    (h : ∀ (H' : Hp) (s' : Shared) (ps : List ((Int × Int) × V)), Inv X pins σ H' s' → Same H0 H' → ps.Perm (ks.zip xs) → ps.Pairwise (fun x y => lexLe x.1 y.1) → H' a = some (.lst (ps.map (·.2))) → P (.done (.ret .none)) s') :
    wpAny (model X.prog X.w) A (ksk_end a false vs.toArray e1 (.ref kS) (ts.map Value.ref).toArray) P E s := by
  have hK : ∀ (j : Nat) (t : Addr) (k : Int × Int), ts[j]? = some t → ks[j]? = some k → PyProof.Rows.G.tupKeyC s.heap shI (.ref t) = some (kItems k) := fun j t k a b => (tup_key I.hok (hT j t k a b)).1
  have ez : ((ts.map Value.ref).toArray.zip vs.toArray).toList = (ts.map Value.ref).zip vs := by
    rw [ksk_zip]
  have hzs : ((ts.map Value.ref).toArray.zip vs.toArray).size = vs.length := by
    rw [Array.size_zip, List.size_toArray, List.length_map, List.size_toArray, h1, Nat.min_self]
  have fin : ∀ st : SortSt, (arrOf st).Perm ((ts.map Value.ref).toArray.zip vs.toArray) → failedOf st = none → SortedToK (PyProof.Rows.G.tupKindC s.heap shI) (arrOf st) (arrOf st).size → wpAny (model X.prog X.w) A (ksk_tail a false e1 (.ref kS) st) P E s := by
    intro st hp hfl hso
    have hpl : (arrOf st).toList.Perm ((ts.map Value.ref).zip vs) := by
      have e := Array.perm_iff_toList_perm.mp hp
      rw [ez] at e
      exact e
    have hm : ∀ p ∈ (arrOf st).toList, (∃ k, PyProof.Rows.G.tupKeyC s.heap shI p.1 = some (kItems k)) ∧ p.2 ∈ vs := fun p hp' => zip_mem hK h1 h2 (hpl.mem_iff.mp hp')
    have hv : Vals (((arrOf st).toList.map (rdK s.heap)).map (·.2)) ((arrOf st).toList.map (·.2)) := vals_rd fun p hp' => vals_mem r p.2 (hm p hp').2
    have hlen : (((arrOf st).toList.map (rdK s.heap)).map (·.2)).length ≤ sizeLine := by
      rw [List.length_map, List.length_map, hpl.length_eq, List.length_zip, List.length_map, h1, Nat.min_self]
      exact hZ
    refine sort_tail I hS ha0 hk0 hka hf hn hk hv hlen hfl fun H' s' I' S' e' => h H' s' _ I' S' ?_ (sorted_rd (fun p hp' => (hm p hp').1) hso) e'
    rw [← zip_read hK r h1 h2]
    exact hpl.map _
  unfold ksk_end
  try dsimp only
  rw [if_neg (by decide)]
  by_cases hlt : vs.toArray.size < 2
  · rw [if_pos hlt, if_pos hlt]
    refine wpAny_bind (wpAny_pure ?_)
    rw [StateT.run_pure]
    refine wpAny_bind (wpAny_pure ?_)
    try dsimp only
    refine fin (SortSt.mk' general' ((ts.map Value.ref).toArray.zip vs.toArray) #[] 7 none) (Array.Perm.refl _) rfl ?_
    intro i j hij hj
    have hj2 : j < ((ts.map Value.ref).toArray.zip vs.toArray).size := hj
    rw [hzs] at hj2
    rw [List.size_toArray] at hlt
    have : i = j := by omega
    subst this
    exact KeyOrd.kle_refl _
  · rw [if_neg hlt, if_neg hlt]
    rw [List.size_toArray] at hlt
    have tk : ∀ (us : List Addr), (∀ t ∈ us, ∃ f, TupOf s.heap shI (.ref t) f) → ∃ fs, TupsOf s.heap shI (us.map Value.ref) fs := by
      intro us
      induction us with
      | nil => exact fun _ => ⟨[], .nil⟩
      | cons u us ih =>
        intro hu
        obtain ⟨f, hf'⟩ := hu u (List.mem_cons_self ..)
        obtain ⟨fs, hfs⟩ := ih fun t ht => hu t (List.mem_cons_of_mem _ ht)
        exact ⟨f :: fs, .cons hf' hfs⟩
    obtain ⟨fs, hfs⟩ := tk ts fun t ht => by
      obtain ⟨j, hj, e⟩ := List.mem_iff_getElem.mp ht
      have e1 : ts[j]? = some t := by rw [List.getElem?_eq_getElem hj, e]
      exact (tup_key I.hok (hT j t _ e1 (List.getElem?_eq_getElem (show j < ks.length by omega)))).2
    have hfl : fs.length = ts.length := by rw [PyProof.Rows.G.TupsOf.length hfs, List.length_map]
    refine wpAny_bind (tup_kind (by omega) hfs ?_)
    have hKO : KeysOf (PyProof.Rows.G.tupKindC s.heap shI) ((ts.map Value.ref).toArray.zip vs.toArray) := fun p hp => by
      rw [ez] at hp
      obtain ⟨⟨k, e⟩, _⟩ := zip_mem hK h1 h2 hp
      exact ⟨_, e⟩
    refine wpAny_bind (wpAny_mono (PyProof.Rows.G.wpS_sortRunsSt (κ := PyProof.Rows.G.tupKindC s.heap shI) (kd := tuples' true) (a₀ := (ts.map Value.ref).toArray.zip vs.toArray) (st := SortSt.mk' (tuples' true) ((ts.map Value.ref).toArray.zip vs.toArray) #[] 7 none)
      (Q := fun _ st' => (arrOf st').Perm ((ts.map Value.ref).toArray.zip vs.toArray) ∧ failedOf st' = none ∧ SortedToK (PyProof.Rows.G.tupKindC s.heap shI) (arrOf st') ((ts.map Value.ref).toArray.zip vs.toArray).size)
      (PyProof.Rows.G.tupC_ltAt true (PyProof.Rows.G.KeepsTups.refl _)) hKO ⟨Array.Perm.refl _, rfl, rfl⟩ rfl (Stable.refl _) (by rw [hzs]; omega) fun st' a1 a2 a3 _ => ⟨a1, a2, a3⟩) ?_ fun _ _ e => e)
    rintro ⟨⟨⟩, st'⟩ s' ⟨rfl, hp, hfl', hs⟩
    try dsimp only
    exact fin st' hp hfl' (by rw [hp.size_eq]; exact hs)
theorem sort_rest {A : Around} {E : Value → Shared → Prop} {k : Nat} {f : Addr} {fd : FuncData} {ps : List Str} {sp : Sp} {H0 : Hp} {a kS : Addr} {e1 : Nat} {xs : List V} {vs : List Value} {ks : List (Int × Int)} {P : PySem.Fin → Shared → Prop}
    (F : FnOk X.prog X.w X.K X.mg X.base CX0 k f fd ps sp) (hr : Room k A) (hfr : A.frames = some X.stack) (hb : Binds X.K fd ps [])
    (I : Inv X pins σ H s) (hS : Same H0 H) (ha0 : H0 a = none) (hk0 : H0 kS = none) (hka : kS ≠ a)
    (hf : H a = some (.frz (seqObj "list" #[] e1) (.lst []))) (hn : ∀ o' u', X.H_0 a ≠ some (.frz o' u')) (hk : H kS = some (.lst [])) (r : Vals xs vs) (hlen : ks.length = xs.length) (hZ : vs.length ≤ sizeLine)
    (turn : ∀ (i : Nat) (x : V) (kk : Int × Int) (H1 : Hp), Same H0 H1 → xs[i]? = some x → ks[i]? = some kk → sp [x] H1 (fun v H2 => Same H1 H2 ∧ ∃ t, v = .ref t ∧ H2 t = some (.tup [.int kk.1, .int kk.2])) E0)
    (h : ∀ (H' : Hp) (s' : Shared) (ps : List ((Int × Int) × V)), Inv X pins σ H' s' → Same H0 H' → ps.Perm (ks.zip xs) → ps.Pairwise (fun x y => lexLe x.1 y.1) → H' a = some (.lst (ps.map (·.2))) → P (.done (.ret .none)) s') :
    wpAny (model X.prog X.w) A (ksk_rest a (.ref f) false vs.toArray e1 (.ref kS)) P E s := by
  have hlv : xs.length = vs.length := r.length
  unfold ksk_rest
  refine wpAny_bind (wpAny_rule ?_)
  first
    | rw [List.forIn_toArray]
    | (rw [← Array.forIn_toList]; simp only [List.toList_toArray])
    | rw [← Array.forIn_toList]
  refine wpAny_bind (ksk_fold (fun i s' => ∃ (H' : Hp) (ts : List Addr), Inv X pins σ H' s' ∧ Same H0 H' ∧ H' a = some (.frz (seqObj "list" #[] e1) (.lst [])) ∧ H' kS = some (.lst (ts.map V.ref)) ∧ ts.length = i ∧
      ∀ (j : Nat) (t : Addr) (kk : Int × Int), ts[j]? = some t → ks[j]? = some kk → H' t = some (.tup [.int kk.1, .int kk.2])) vs 0 s ⟨H, [], I, hS, hf, hk, rfl, fun j t kk e => by simp at e⟩ ?step ?done)
  case step =>
    rintro j u s' hu ⟨H1, ts, I1, S1, f1, k1, hts, hT⟩
    simp only [Nat.zero_add] at hts ⊢
    have hj : j < vs.length := (List.getElem?_eq_some_iff.mp hu).1
    obtain ⟨kk, hkk⟩ : ∃ kk, ks[j]? = some kk := ⟨_, List.getElem?_eq_getElem (by omega)⟩
    obtain ⟨x, hx⟩ : ∃ x, xs[j]? = some x := ⟨_, List.getElem?_eq_getElem (by omega)⟩
    obtain ⟨u', hu', rx⟩ := r.get hx
    obtain rfl : u' = u := Option.some.inj (hu'.symm.trans hu)
    refine wpAny_bind (wpAny_attempt (wpAny_mono (run_in (E := fun _ _ => False) (us := [u']) (vs := [x]) F hr hfr hb I1 (.cons rx .nil) (turn j x kk H1 S1 hx hkk)) (fun v s2 he => ?_) fun _ _ hF => False.elim hF))
    obtain ⟨v0, H2, I2, rv, S2, t, rfl, ht⟩ := he
    obtain rfl : v = Value.ref t := rv
    have k2 := S2 _ _ k1
    obtain ⟨zk, its, nk, rk, lk, ek⟩ := I2.lstM k2
    have hl' : its.length = j := by rw [← lk, List.length_map, hts]
    have I3 := I2.lset (its := its) (its' := its ++ [Value.ref t]) (ys := (ts ++ [t]).map V.ref) (n := nk) (f := (·.push (Value.ref t))) (t' := s2.toks) k2 ek (by simp) (by
      rw [List.map_append]
      exact rk.append (.cons rfl .nil)) (by rw [List.length_map, List.length_append, List.length_singleton, hts]; omega)
    try dsimp only
    refine wpAny_bind (listUpdate_at ek rfl ?_ (by rw [List.size_toArray]; omega) (Nat.le_trans (Nat.le_of_eq (Array.size_push ..)) (by rw [List.size_toArray]; omega)))
    have tk : t ≠ kS := ne_of ht k2 (by intro z; cases z)
    refine wpAny_pure ⟨rfl, _, ts ++ [t], I3, (S1.trans S2).upd_free hk0, by rw [upd_ne hka.symm]; exact S2 _ _ f1, upd_same, by rw [List.length_append, List.length_singleton, hts], fun j' t' kk' e1' e2' => ?_⟩
    by_cases hjj : j' < ts.length
    · rw [List.getElem?_append_left hjj] at e1'
      have q := S2 _ _ (hT j' t' kk' e1' e2')
      rw [upd_ne (ne_of q k2 (by intro z; cases z))]
      exact q
    · rw [List.getElem?_append_right (by omega)] at e1'
      have e0 : j' - ts.length = 0 := by
        have := (List.getElem?_eq_some_iff.mp e1').1
        simp at this
        omega
      rw [e0] at e1'
      have et : t = t' := Option.some.inj e1'
      have ej : j' = j := by omega
      subst ej
      rw [hkk] at e2'
      have ek' := Option.some.inj e2'
      subst ek' et
      rw [upd_ne tk]
      exact ht
  case done =>
    rintro s' ⟨H1, ts, I1, S1, f1, k1, hts, hT⟩
    simp only [Nat.zero_add] at hts
    obtain ⟨zk, its, nk, rk, lk, ek⟩ := I1.lstM k1
    have ei : its = ts.map Value.ref := vals_refs rk
    try dsimp only
    refine wpAny_bind (listItems_at ek rfl ?_)
    rw [ei]
    exact sort_end I1 S1 ha0 hk0 hka f1 hn k1 r hts (by omega) hZ hT h
theorem sorted_key {k : Nat} {f l : Addr} {fd : FuncData} {ps : List Str} {sp : Sp} {xs : List V} {ks : List (Int × Int)} {Q : VK} (F : FnOk X.prog X.w X.K X.mg X.base CX0 k f fd ps sp) (hr : Room (k + 2) X.A) (hb : Binds X.K fd ps [])
    (I : Inv X pins σ H s) (hl : SqL X.K H l xs) (hlen : ks.length = xs.length)
    (turn : ∀ (i : Nat) (x : V) (kk : Int × Int) (H1 : Hp), Same H H1 → xs[i]? = some x → ks[i]? = some kk → sp [x] H1 (fun v H2 => Same H1 H2 ∧ ∃ t, v = .ref t ∧ H2 t = some (.tup [.int kk.1, .int kk.2])) E0)
    (h : ∀ (H' : Hp) (p : Addr) (qs : List ((Int × Int) × V)), Same H H' → H p = none → qs.Perm (ks.zip xs) → qs.Pairwise (fun x y => lexLe x.1 y.1) → H' p = some (.lst (qs.map (·.2))) → Q (.ref p) H') :
    wpAny (model X.prog X.w) X.A (call (.builtin "sorted") [.ref l] [(Str.ofString "key", .ref f)]) (EP X pins σ Q) X.xe s := by
  obtain ⟨vs, r, pl, hZ⟩ := I.list hl
  have hlv : xs.length = vs.length := r.length
  have hZv : vs.length ≤ sizeLine := by omega
  refine call_function_entry_kw kind_sorted plain_sorted entry_sorted (ksk_s1 _ _) ?_
  unfold Builtin.«sorted»
  refine wpAny_bind (m := checkCount "sorted" 1 1 _) (wpAny_pure ?_)
  refine wpAny_bind (collect_list pl.isList ?_ hZv)
  refine wpAny_bind (wpAny_newList ?_ hZv)
  have hsz : ((s.heap.push (seqObj "list" #[] 0)).update s.heap.objs.size (Obj.mapSeq (· ++ vs.toArray))).objs.size = s.heap.objs.size + 1 := by
    rw [Heap.size_update, size_push']
  have hoL : (((s.heap.push (seqObj "list" #[] 0)).update s.heap.objs.size (Obj.mapSeq (· ++ vs.toArray))).push (seqObj "list" vs.toArray 0)).get? (s.heap.objs.size + 1) = some (seqObj "list" vs.toArray 0) := by
    rw [← hsz]; exact Heap.get?_push_size _ rfl
  have keep : ∀ b o, s.heap.get? b = some o → (((s.heap.push (seqObj "list" #[] 0)).update s.heap.objs.size (Obj.mapSeq (· ++ vs.toArray))).push (seqObj "list" vs.toArray 0)).get? b = some o := fun b o q => by
    have hlt : b < s.heap.objs.size := Heap.lt_size q
    rw [Heap.get?_push_ne _ _ _ (by rw [hsz]; exact Nat.ne_of_lt (Nat.lt_succ_of_lt hlt)), Heap.get?_update_ne _ _ _ _ (Nat.ne_of_lt hlt), Heap.get?_push_ne _ _ _ (Nat.ne_of_lt hlt)]
    exact q
  show wpAny _ _ _ _ _ { s with heap := ((s.heap.push (seqObj "list" #[] 0)).update s.heap.objs.size (Obj.mapSeq (· ++ vs.toArray))).push (seqObj "list" vs.toArray 0) }
  rw [hsz]
  have ha0 : H (s.heap.objs.size + 1) = none := I.hok.fresh (Nat.le_succ _)
  have I1 := I.laid (a := s.heap.objs.size + 1) (o := .lst xs) (t' := s.toks) keep (Nat.le_succ _) ⟨hZ, vs, 0, r, hoL⟩
  have S1 : Same H (upd H (s.heap.objs.size + 1) (.lst xs)) := (Same.refl H).upd_free ha0
  generalize hh1 : (((s.heap.push (seqObj "list" #[] 0)).update s.heap.objs.size (Obj.mapSeq (· ++ vs.toArray))).push (seqObj "list" vs.toArray 0)) = h1 at *
  generalize s.heap.objs.size + 1 = a at *
  refine wpAny_bind (wpAny_holding (wpAny_call_entry_kw slot_list_sort ⟨_, hoL, rfl⟩ entry_list_sort ?body (ksk_l1 _ _)))
  show wpAny (model X.prog X.w) X.A.in1.in1 (Builtin.«list.sort» ⟨[.ref a], [(Str.ofString "key", .ref f)]⟩) _ _ _
  rw [ksk_t1]
  unfold ksk_tree
  refine wpAny_bind (listItems_at hoL rfl ?_)
  refine wpAny_bind (listUpdate_at hoL rfl ?_ (by rw [List.size_toArray]; exact hZv) (Nat.zero_le _))
  have I2 := I1.lset (its := vs) (its' := []) (ys := []) (n := 0) (f := fun _ => #[]) (t' := s.toks) upd_same hoL rfl .nil (Nat.zero_le _)
  rw [upd_upd] at I2
  obtain ⟨e1, ho1⟩ : ∃ e1, (h1.update a (Obj.mapSeq fun _ => (#[] : Array Value))).get? a = some (seqObj "list" #[] e1) := ⟨_, get?_update_seq hoL fun _ => #[]⟩
  refine wpAny_bind (seqEpoch_at ho1 rfl ?_)
  refine wpAny_bind (wpAny_newTuple ?_ (by show vs.length ≤ _; exact hZv))
  have I3 := I2.kept (t' := s.toks) (h' := (h1.update a (Obj.mapSeq fun _ => (#[] : Array Value))).push (seqObj "tuple" vs.toArray 0)) fun b u e => Heap.get?_push_of_some _ e
  refine wpAny_bind (wpAny_newList ?_ (Nat.zero_le _))
  have I4 := I3.lnew (its := []) (ys := []) (t' := s.toks) .nil (Nat.zero_le _)
  have hk0' := I3.fresh
  refine wpAny_holding ?_
  have ho1' : ((h1.update a (Obj.mapSeq fun _ => (#[] : Array Value))).push (seqObj "tuple" vs.toArray 0)).get? a = some (seqObj "list" #[] e1) := Heap.get?_push_of_some _ ho1
  have hka : ((h1.update a (Obj.mapSeq fun _ => (#[] : Array Value))).push (seqObj "tuple" vs.toArray 0)).objs.size ≠ a := (ne_of_none (upd_same (H := H) (a := a) (o := HO.lst [])) hk0').symm
  have hk0 : H ((h1.update a (Obj.mapSeq fun _ => (#[] : Array Value))).push (seqObj "tuple" vs.toArray 0)).objs.size = none := (upd_ne hka).symm.trans hk0'
  have haL := (upd_ne (H := upd H a (HO.lst [])) (o := HO.lst []) hka.symm).trans upd_same
  obtain ⟨od, I5⟩ := I4.lock haL trivial
  have hn := I4.nofrz haL trivial
  obtain rfl : od = seqObj "list" #[] e1 := by
    have q := (I5.hok a _ upd_same).1
    have q2 := Heap.get?_push_of_some (seqObj "list" #[] 0) ho1'
    exact Option.some.inj (q.symm.trans q2)
  refine sort_rest (H0 := H) F hr.in1.in1 I.ok.frames hb I5 ((((Same.refl H).upd_free ha0).upd_free hk0).upd_free ha0) ha0 hk0 hka upd_same hn ((upd_ne hka).trans upd_same) r hlen hZv turn fun H' s' qs I' S' p1 p2 e' => ⟨_, rfl, ?_⟩
  exact wpAny_pure ⟨_, rfl, ⟨.ref a, H', I', rfl, h H' a qs S' ha0 p1 p2 e'⟩⟩
end
end L2
set_option Elab.async false
set_option linter.all false
set_option maxRecDepth 100000
set_option maxHeartbeats 4000000
namespace L2
open PySem PySem.Spec PyProof.Rows
instance lexLe.dec (a b : Int × Int) : Decidable (lexLe a b) := inferInstanceAs (Decidable (_ ∨ _))
theorem lexLe.refl (a : Int × Int) : lexLe a a := .inr ⟨rfl, Int.le_refl _⟩
theorem lexLe.trans {a b c : Int × Int} (h : lexLe a b) (h' : lexLe b c) : lexLe a c := by
  unfold lexLe at *
  omega
theorem lexLt_pair (a b : Int × Int) : HT.lexLt [a.1, a.2] [b.1, b.2] = decide (¬ lexLe b a) := by
  show (if a.1 = b.1 then (if a.2 = b.2 then HT.lexLt [] [] else decide (a.2 < b.2)) else decide (a.1 < b.1)) = _
  unfold lexLe
  by_cases h : a.1 = b.1
  · rw [if_pos h]
    by_cases h2 : a.2 = b.2
    · rw [if_pos h2, HT.lexLt_nil_nil]
      exact (decide_eq_false (by omega)).symm
    · rw [if_neg h2]
      by_cases h3 : a.2 < b.2
      · rw [decide_eq_true h3]
        exact (decide_eq_true (by omega)).symm
      · rw [decide_eq_false h3]
        exact (decide_eq_false (by omega)).symm
  · rw [if_neg h]
    by_cases h3 : a.1 < b.1
    · rw [decide_eq_true h3]
      exact (decide_eq_true (by omega)).symm
    · rw [decide_eq_false h3]
      exact (decide_eq_false (by omega)).symm
section
variable {X : Cx} {pins : List (Addr × Obj)} {σ : St} {H : Hp} {s : Shared}
theorem next_item {A : Around} {E : Value → Shared → Prop} {it l : Addr} {xs : List V} {i : Nat} {x : V} {Q : Option Value → Shared → Prop} (hh : A.handled = none) (I : Inv X pins σ H s) (hl : SqL X.K H l xs) (hit : s.heap.IsListIter it l i) (hf : FpOk X pins H it) (hne : l ≠ it) (hx : xs[i]? = some x)
    (h : ∀ v s', Inv X pins σ H s' → s'.heap.IsListIter it l (i + 1) → RelV x v → Q (some v) s') : wpAny (model X.prog X.w) A (pyNext (.ref it)) Q E s := by
  obtain ⟨vs, r, pl, hZ⟩ := I.list hl
  have W := Walks.list (prog := X.prog) (w := X.w) (A := A) hh it l hne vs.toArray
  have hi : i < xs.length := (List.getElem?_eq_some_iff.mp hx).1
  obtain ⟨f0, f1, f2, f3, f4, f5⟩ := hf
  refine W.item i s _ _ (by rw [List.size_toArray, ← r.length]; exact hi) ⟨hit, pl.isList⟩ fun v h' tk hP hst' hk' => ?_
  obtain ⟨u, hu, rx⟩ := r.get hx
  have hv : vs[i]? = some v := by simpa using hP
  obtain rfl : u = v := Option.some.inj (hu.symm.trans hv)
  exact h u _ (I.turned (t' := tk) (fun b o hb e => hk' b o (by simpa using hb) e) f0 f1 f3 f4 f5) hst'.1 rx
theorem next_done {A : Around} {E : Value → Shared → Prop} {it l : Addr} {xs : List V} {Q : Option Value → Shared → Prop} (hh : A.handled = none) (I : Inv X pins σ H s) (hl : SqL X.K H l xs) (hit : s.heap.IsListIter it l xs.length) (hf : FpOk X pins H it) (hne : l ≠ it)
    (h : ∀ s', Inv X pins σ H s' → Q none s') : wpAny (model X.prog X.w) A (pyNext (.ref it)) Q E s := by
  obtain ⟨vs, r, pl, hZ⟩ := I.list hl
  have W := Walks.list (prog := X.prog) (w := X.w) (A := A) hh it l hne vs.toArray
  obtain ⟨f0, f1, f2, f3, f4, f5⟩ := hf
  refine W.done s _ _ ⟨by rw [List.size_toArray, ← r.length]; exact hit, pl.isList⟩ fun h' tk hk' => ?_
  exact h _ (I.turned (t' := tk) (fun b o hb e => hk' b o (by simpa using hb) e) f0 f1 f3 f4 f5)
theorem FpOk.of {b : Addr} {H' : Hp} (f : FpOk X pins H b) (h : H' b = none) : FpOk X pins H' b := ⟨h, f.2⟩
theorem iter_pin {it l : Addr} {i : Nat} (I : Inv X pins σ H s) (hit : s.heap.IsListIter it l i) (hf : FpOk X pins H it) : ∃ o, Inv X (pins ++ [(it, o)]) σ H s ∧ s.heap.get? it = some o ∧ ∀ s' : Shared, s'.heap.get? it = some o → s'.heap.IsListIter it l i := by
  obtain ⟨o, ho, hc, hd⟩ := id hit
  refine ⟨o, I.pins_of fun p hp => ?_, ho, fun s' e => ⟨o, e, hc, hd⟩⟩
  rcases List.mem_append.mp hp with z | z
  · exact I.pin p (List.mem_append_right _ z)
  · rw [List.mem_singleton.mp z]
    refine ⟨ho, hf.1, hf.2.1, hf.2.2.1, fun v e => ?_⟩
    have e2 : Data.fields _ = Data.cell v := hd.symm.trans e
    cases e2
structure MinAt (X : Cx) (pins : List (Addr × Obj)) (σ : St) (H0 : Hp) (it l S : Addr) (xs : List V) (ks : List (Int × Int)) (i : Nat) (s : Shared) : Prop where
  ex : ∃ (H : Hp) (b : Nat) (x : V) (k : Int × Int) (t : Addr), Inv X pins σ H s ∧ Same H0 H ∧ s.heap.IsListIter it l i ∧ FpOk X pins H it ∧ H S = some (.lst [x, .ref t]) ∧ xs[b]? = some x ∧ ks[b]? = some k ∧ H t = some (.tup [.int k.1, .int k.2]) ∧
    ∀ (j : Nat) (k' : Int × Int), j < i → ks[j]? = some k' → lexLe k k'
theorem min_key {A : Around} {E : Value → Shared → Prop} {k : Nat} {f it l : Addr} {fd : FuncData} {ps : List Str} {sp : Sp} {i : Nat} {u : Value} {x : V} {kk : Int × Int} {Q : Value → Shared → Prop} (F : FnOk X.prog X.w X.K X.mg X.base CX0 k f fd ps sp) (hr : Room k A) (hfr : A.frames = some X.stack) (hb : Binds X.K fd ps [])
    (I : Inv X pins σ H s) (hit : s.heap.IsListIter it l i) (hf : FpOk X pins H it) (rx : RelV x u) (turn : sp [x] H (fun v H2 => Same H H2 ∧ ∃ t, v = .ref t ∧ H2 t = some (.tup [.int kk.1, .int kk.2])) E0)
    (h : ∀ (t : Addr) (H2 : Hp) (s2 : Shared), Inv X pins σ H2 s2 → Same H H2 → s2.heap.IsListIter it l i → FpOk X pins H2 it → H2 t = some (.tup [.int kk.1, .int kk.2]) → Q (.ref t) s2) :
    wpAny (model X.prog X.w) A (call (.ref f) [u]) Q E s := by
  obtain ⟨o, Ip, ho, hback⟩ := iter_pin I hit hf
  refine wpAny_mono (run_in (E := fun _ _ => False) (us := [u]) (vs := [x]) F hr hfr hb Ip (.cons rx .nil) turn) (fun v s2 he => ?_) fun _ _ z => False.elim z
  obtain ⟨v0, H2, I2, rv, S2, t, rfl, ht⟩ := he
  obtain rfl : v = Value.ref t := rv
  have p := I2.pin (it, o) (List.mem_append_right _ (List.mem_append_right _ (List.mem_singleton.mpr rfl)))
  exact h t H2 s2 I2.unpinned S2 (hback s2 p.1) (hf.of p.2.1) ht
theorem tup_at {t : Addr} {k : Int × Int} (I : Inv X pins σ H s) (e : H t = some (.tup [.int k.1, .int k.2])) : ∃ items, IsTup s.heap t items ∧ IntsAre items.toList [k.1, k.2] := by
  obtain ⟨_, its, r, p⟩ := I.hok t _ e
  exact ⟨_, p, by simpa using intsAre_of (ns := [k.1, k.2]) r⟩
theorem min_loop {k : Nat} {f it l S : Addr} {fd : FuncData} {ps : List Str} {sp : Sp} {xs : List V} {ks : List (Int × Int)} {H0 : Hp} {R : Result → Shared → Prop} (F : FnOk X.prog X.w X.K X.mg X.base CX0 k f fd ps sp) (hr : Room (k + 1) X.A) (hb : Binds X.K fd ps [])
    (hl : SqL X.K H0 l xs) (hlen : ks.length = xs.length) (hS0 : H0 S = none) (hSI : S ≠ it) (hne : l ≠ it)
    (turn : ∀ (i : Nat) (x : V) (kk : Int × Int) (H1 : Hp), Same H0 H1 → xs[i]? = some x → ks[i]? = some kk → sp [x] H1 (fun v H2 => Same H1 H2 ∧ ∃ t, v = .ref t ∧ H2 t = some (.tup [.int kk.1, .int kk.2])) E0)
    (h : ∀ (H' : Hp) (s' : Shared) (b : Nat) (x : V) (kb : Int × Int) (u : Value), Inv X pins σ H' s' → Same H0 H' → RelV x u → xs[b]? = some x → ks[b]? = some kb → (∀ (j : Nat) (k' : Int × Int), ks[j]? = some k' → lexLe kb k') → R (.ok (.ret u)) s') :
    ∀ (r i : Nat) (s : Shared), xs.length - i = r → i ≤ xs.length → MinAt X pins σ H0 it l S xs ks i s → codeAny (model X.prog X.w) X.A (.builtin "min.loop" ⟨[.ref it, .ref f, .ref S], []⟩) R s := by
  have hname : (toString "min" ++ toString ".loop" : String) = "min.loop" := by decide
  have hh : X.A.in1.handled = none := hr.hd
  have hr1 : Room k X.A.in1 := hr.in1
  intro r
  induction r with
  | zero =>
    rintro i s hri hi ⟨H1, b, x, kb, t, I, S1, hit, hf, hS, hxb, hkb, ht, best⟩
    obtain rfl : i = xs.length := by omega
    obtain ⟨z, its, n, rs, ln, eS⟩ := I.lstM hS
    obtain ⟨u, w, rfl, ru, rw'⟩ := rs.two
    obtain rfl : w = Value.ref t := rw'
    refine codeAny_builtin PySem.F.entry_min_loop ?_
    rw [Around.under_plainId PySem.F.plain_min_loop _]
    show wpAny _ X.A.in1 (seqItems? (.ref S) >>= _) _ _ _
    refine wpAny_bind (wpAny_seqItems eS rfl ?_)
    show wpAny _ X.A.in1 (tryCatch (pyNext (.ref it)) _ >>= _) _ _ _
    refine wpAny_bind (wpAny_tryCatch (next_done hh I (S1.seq hl) hit hf hne fun s' I' => ?_))
    obtain ⟨z', its', n', rs', ln', eS'⟩ := I'.lstM hS
    have I2 := I'.lset (its := its') (its' := []) (ys := []) (n := n') (f := fun _ => #[]) (t' := s'.toks) hS eS' rfl .nil (Nat.zero_le _)
    show wpAny _ X.A.in1 (updateSeq S (fun _ => #[]) >>= _) _ _ _
    refine wpAny_bind ?_
    refine wpAny_updateSeq eS' rfl (wpAny_bind (wpAny_letGo (wpAny_pure ?_)))
    exact h _ _ b x kb u I2 (S1.upd_free hS0) ru hxb hkb fun j k' e => best j k' (by have := (List.getElem?_eq_some_iff.mp e).1; omega) e
  | succ r ih =>
    rintro i s hri hi ⟨H1, b, x, kb, t, I, S1, hit, hf, hS, hxb, hkb, ht, best⟩
    have hlt : i < xs.length := by omega
    obtain ⟨y, hy⟩ : ∃ y, xs[i]? = some y := ⟨_, List.getElem?_eq_getElem hlt⟩
    obtain ⟨ky, hky⟩ : ∃ ky, ks[i]? = some ky := ⟨_, List.getElem?_eq_getElem (by omega)⟩
    obtain ⟨z, its, n, rs, ln, eS⟩ := I.lstM hS
    obtain ⟨u, w, rfl, ru, rw'⟩ := rs.two
    obtain rfl : w = Value.ref t := rw'
    refine codeAny_builtin PySem.F.entry_min_loop ?_
    rw [Around.under_plainId PySem.F.plain_min_loop _]
    show wpAny _ X.A.in1 (seqItems? (.ref S) >>= _) _ _ _
    refine wpAny_bind (wpAny_seqItems eS rfl ?_)
    show wpAny _ X.A.in1 (tryCatch (pyNext (.ref it)) _ >>= _) _ _ _
    refine wpAny_bind (wpAny_tryCatch (next_item hh I (S1.seq hl) hit hf hne hy fun v s1 I1 hit1 ry => ?_))
    show wpAny _ X.A.in1 (tryCatch (holding [v] (call (.ref f) [v])) _ >>= _) _ _ _
    refine wpAny_bind (wpAny_tryCatch (wpAny_holding (min_key F hr1 I.ok.frames hb I1 hit1 hf ry (turn i y ky H1 S1 hy hky) fun t2 H2 s2 I2 S2 hit2 hf2 ht2 => ?_)))
    have hS2 := S2 _ _ hS
    have htb := S2 _ _ ht
    obtain ⟨ia, ta, ja⟩ := tup_at I2 ht2
    obtain ⟨ib, tb, jb⟩ := tup_at I2 htb
    show wpAny _ X.A.in1 (tryCatch (holding [v, .ref t2] (richCompare .Lt (.ref t2) (.ref t) >>= _)) _ >>= _) _ _ _
    refine wpAny_bind (wpAny_tryCatch (wpAny_holding (wpAny_bind ?_)))
    show wpAny (model X.prog X.w) X.A.in1 (compareOp .Lt (.ref t2) (.ref t)) _ _ _
    refine HT.lt_tupInts ta tb ja jb hr1.units0 ?_
    refine wpAny_bind (wpAny_holding (wpAny_truthy_bool ?_))
    refine wpAny_bind (wpAny_letGo (wpAny_pure ?_))
    rw [lexLt_pair]
    obtain ⟨z2, its2, n2, rs2, ln2, eS2⟩ := I2.lstM hS2
    have S02 := S1.trans S2
    by_cases hbt : ¬ lexLe kb ky
    · rw [decide_eq_true hbt]
      simp only [if_true]
      have I3 := I2.lset (its := its2) (its' := [v, Value.ref t2]) (ys := [y, .ref t2]) (n := n2) (f := fun _ => #[v, Value.ref t2]) (t' := s2.toks) hS2 eS2 rfl (.cons ry (.cons rfl .nil)) (by show 2 ≤ sizeLine; rw [sizeLine_eq]; omega)
      refine wpAny_bind ?_
      refine wpAny_updateSeq eS2 rfl (wpAny_bind (wpAny_letGo ?_))
      rw [hname]
      refine wpAny_pure ⟨plainId_quiet PySem.F.plain_min_loop _, ih (i + 1) _ (by omega) hlt ⟨⟨_, i, y, ky, t2, I3, S02.upd_free hS0, ?_, hf2.of (by rw [upd_ne hSI.symm]; exact hf2.1), upd_same, hy, hky, ?_, fun j k' hj e => ?_⟩⟩⟩
      · obtain ⟨o, ho, hc, hd⟩ := hit2
        exact ⟨o, (Heap.get?_update_ne _ _ _ _ hSI.symm).trans ho, hc, hd⟩
      · rw [upd_ne (ne_of ht2 hS2 (by intro q; cases q))]
        exact ht2
      · have tot : lexLe ky kb := by
          unfold lexLe at hbt ⊢
          omega
        by_cases hji : j = i
        · subst hji
          rw [hky] at e
          rw [← Option.some.inj e]
          exact lexLe.refl _
        · exact tot.trans (best j k' (by omega) e)
    · rw [decide_eq_false hbt]
      simp only [Bool.false_eq_true, if_false]
      refine wpAny_bind (wpAny_letGo ?_)
      rw [hname]
      refine wpAny_pure ⟨plainId_quiet PySem.F.plain_min_loop _, ih (i + 1) _ (by omega) hlt ⟨⟨_, b, x, kb, t, I2, S02, hit2, hf2, hS2, hxb, hkb, htb, fun j k' hj e => ?_⟩⟩⟩
      by_cases hji : j = i
      · subst hji
        rw [hky] at e
        rw [← Option.some.inj e]
        exact Decidable.not_not.mp hbt
      · exact best j k' (by omega) e
theorem min_keyed {k : Nat} {f l : Addr} {fd : FuncData} {ps : List Str} {sp : Sp} {xs : List V} {ks : List (Int × Int)} {Q : VK} (F : FnOk X.prog X.w X.K X.mg X.base CX0 k f fd ps sp) (hr : Room (k + 1) X.A) (hb : Binds X.K fd ps [])
    (I : Inv X pins σ H s) (hl : SqL X.K H l xs) (hlen : ks.length = xs.length) (hpos : 0 < xs.length)
    (turn : ∀ (i : Nat) (x : V) (kk : Int × Int) (H1 : Hp), Same H H1 → xs[i]? = some x → ks[i]? = some kk → sp [x] H1 (fun v H2 => Same H1 H2 ∧ ∃ t, v = .ref t ∧ H2 t = some (.tup [.int kk.1, .int kk.2])) E0)
    (h : ∀ (H' : Hp) (b : Nat) (x : V) (kb : Int × Int), Same H H' → xs[b]? = some x → ks[b]? = some kb → (∀ (j : Nat) (k' : Int × Int), ks[j]? = some k' → lexLe kb k') → Q x H') :
    wpAny (model X.prog X.w) X.A (call (.builtin "min") [.ref l] [(Str.ofString "key", .ref f)]) (EP X pins σ Q) X.xe s := by
  have hname : (toString "min" ++ toString ".loop" : String) = "min.loop" := by decide
  have hh : X.A.in1.handled = none := hr.hd
  have hr1 : Room k X.A.in1 := hr.in1
  obtain ⟨vs, r, pl, hZ⟩ := I.list hl
  have hll : l < s.heap.objs.size := by
    obtain ⟨o, n, e, _⟩ := pl
    exact Heap.lt_size e
  refine kmk_tree PySem.F.kind_min PySem.F.plain_min PySem.F.entry_min (kmk_min_key _ _) ?_
  show wpAny _ X.A.in1 (Builtin.Builtins.bindParams "min" ["key", "default"] 0 ⟨[], [(Str.ofString "key", .ref f)]⟩ >>= _) _ _ s
  refine wpAny_bind (wpAny_of_eq (show Builtin.Builtins.bindParams "min" ["key", "default"] 0 ⟨[], [(Str.ofString "key", .ref f)]⟩ = pure [some (.ref f), none] from rfl) ?_)
  refine wpAny_bind (wpAny_pure ?_)
  refine wpAny_bind (wpAny_pyIter_list pl.isList ?_)
  have I1 := I.kept (t' := s.toks) (h' := s.heap.push { cls := .type "list_iterator", data := .fields #[.ref l, .int 0 0] }) fun b u e => Heap.get?_push_of_some _ e
  have f0 : FpOk X pins H s.heap.objs.size := I.fpOk (Nat.le_refl _) I.fresh
  have hit0 : (s.heap.push { cls := .type "list_iterator", data := .fields #[.ref l, .int 0 0] }).IsListIter s.heap.objs.size l 0 := ⟨_, Heap.get?_push_size _ rfl, rfl, rfl⟩
  refine wpAny_bind (wpAny_newList ?_ (Nat.zero_le _))
  have I2 := I1.lnew (its := []) (ys := []) (t' := s.toks) .nil (Nat.zero_le _)
  have hS0 : H (s.heap.push { cls := .type "list_iterator", data := .fields #[.ref l, .int 0 0] }).objs.size = none := I1.fresh
  have hSs : (s.heap.push { cls := .type "list_iterator", data := .fields #[.ref l, .int 0 0] }).objs.size = s.heap.objs.size + 1 := size_push' ..
  have hSI : (s.heap.push { cls := .type "list_iterator", data := .fields #[.ref l, .int 0 0] }).objs.size ≠ s.heap.objs.size := by rw [hSs]; exact Nat.ne_of_gt (Nat.lt_succ_self _)
  have hne : l ≠ s.heap.objs.size := Nat.ne_of_lt hll
  have hit2 : ((s.heap.push { cls := .type "list_iterator", data := .fields #[.ref l, .int 0 0] }).push (seqObj "list" #[] 0)).IsListIter s.heap.objs.size l 0 := by
    obtain ⟨o, ho, hc, hd⟩ := hit0
    exact ⟨o, Heap.get?_push_of_some _ ho, hc, hd⟩
  have hf2 : FpOk X pins (upd H (s.heap.push { cls := .type "list_iterator", data := .fields #[.ref l, .int 0 0] }).objs.size (.lst [])) s.heap.objs.size := f0.of (by rw [upd_ne hSI.symm]; exact f0.1)
  rw [hname]
  refine wpAny_pure ⟨plainId_quiet PySem.F.plain_min_loop _, ?_⟩
  have S0 : Same H (upd H (s.heap.push { cls := .type "list_iterator", data := .fields #[.ref l, .int 0 0] }).objs.size (.lst [])) := (Same.refl H).upd_free hS0
  obtain ⟨y, hy⟩ : ∃ y, xs[0]? = some y := ⟨_, List.getElem?_eq_getElem hpos⟩
  obtain ⟨ky, hky⟩ : ∃ ky, ks[0]? = some ky := ⟨_, List.getElem?_eq_getElem (by omega)⟩
  refine codeAny_builtin PySem.F.entry_min_loop ?_
  rw [Around.under_plainId PySem.F.plain_min_loop _]
  show wpAny _ X.A.in1 (seqItems? (.ref _) >>= _) _ _ _
  have eS : ((s.heap.push { cls := .type "list_iterator", data := .fields #[.ref l, .int 0 0] }).push (seqObj "list" #[] 0)).get? (s.heap.push { cls := .type "list_iterator", data := .fields #[.ref l, .int 0 0] }).objs.size = some (seqObj "list" #[] 0) := Heap.get?_push_size _ rfl
  refine wpAny_bind (wpAny_seqItems eS rfl ?_)
  show wpAny _ X.A.in1 (tryCatch (pyNext (.ref s.heap.objs.size)) _ >>= _) _ _ _
  refine wpAny_bind (wpAny_tryCatch (next_item hh I2 (S0.seq hl) hit2 hf2 hne hy fun v s1 I1' hit1 ry => ?_))
  show wpAny _ X.A.in1 (tryCatch (holding [v] (call (.ref f) [v])) _ >>= _) _ _ _
  refine wpAny_bind (wpAny_tryCatch (wpAny_holding (min_key F hr1 I.ok.frames hb I1' hit1 hf2 ry (turn 0 y ky _ S0 hy hky) fun t2 H2 s2 I2' S2 hit2' hf2' ht2 => ?_)))
  have hS2 := S2 _ _ upd_same
  obtain ⟨z2, its2, n2, rs2, ln2, eS2⟩ := I2'.lstM hS2
  have I3 := I2'.lset (its := its2) (its' := [v, Value.ref t2]) (ys := [y, .ref t2]) (n := n2) (f := fun _ => #[v, Value.ref t2]) (t' := s2.toks) hS2 eS2 rfl (.cons ry (.cons rfl .nil)) (by show 2 ≤ sizeLine; rw [sizeLine_eq]; omega)
  refine wpAny_bind ?_
  refine wpAny_updateSeq eS2 rfl ?_
  rw [hname]
  refine wpAny_pure ⟨plainId_quiet PySem.F.plain_min_loop _, min_loop F hr hb hl hlen hS0 hSI hne turn (fun H' s' b x kb u I' S' ru hx hk best => ⟨x, H', I', ru, h H' b x kb S' hx hk best⟩) (xs.length - 1) 1 _ rfl hpos ⟨⟨_, 0, y, ky, t2, I3, (S0.trans S2).upd_free hS0, ?_, hf2'.of (by rw [upd_ne hSI.symm]; exact hf2'.1), upd_same, hy, hky, ?_, fun j k' hj e => ?_⟩⟩⟩
  · obtain ⟨o, ho, hc, hd⟩ := hit2'
    exact ⟨o, (Heap.get?_update_ne _ _ _ _ hSI.symm).trans ho, hc, hd⟩
  · rw [upd_ne (ne_of ht2 hS2 (by intro q; cases q))]
    exact ht2
  · obtain rfl : j = 0 := by omega
    rw [hky] at e
    rw [← Option.some.inj e]
    exact lexLe.refl _
end
end L2
set_option Elab.async false
set_option linter.all false
set_option maxRecDepth 100000
set_option maxHeartbeats 4000000
namespace L2
open PySem PySem.Spec PyProof.Rows
def KeyTurn (sp : Sp) (H : Hp) (xs : List V) (ks : List (Int × Int)) : Prop :=
  ∀ (i : Nat) (x : V) (kk : Int × Int) (H1 : Hp), Same H H1 → xs[i]? = some x → ks[i]? = some kk → sp [x] H1 (fun v H2 => Same H1 H2 ∧ ∃ t, v = .ref t ∧ H2 t = some (.tup [.int kk.1, .int kk.2])) E0
def tSortK (K : PySem.W.Frag) (sp : Sp) (te : TE) : TE := fun σ H Q => te σ H fun x H1 => ∃ (l : Addr) (xs : List V) (ks : List (Int × Int)), x = .ref l ∧ SqL K H1 l xs ∧ ks.length = xs.length ∧ KeyTurn sp H1 xs ks ∧
  ∀ (H' : Hp) (p : Addr) (qs : List ((Int × Int) × V)), Same H1 H' → H1 p = none → qs.Perm (ks.zip xs) → qs.Pairwise (fun x y => lexLe x.1 y.1) → H' p = some (.lst (qs.map (·.2))) → Q (.ref p) H'
def tMinK (K : PySem.W.Frag) (sp : Sp) (te : TE) : TE := fun σ H Q => te σ H fun x H1 => ∃ (l : Addr) (xs : List V) (ks : List (Int × Int)), x = .ref l ∧ SqL K H1 l xs ∧ ks.length = xs.length ∧ 0 < xs.length ∧ KeyTurn sp H1 xs ks ∧
  ∀ (H' : Hp) (b : Nat) (x : V) (kb : Int × Int), Same H1 H' → xs[b]? = some x → ks[b]? = some kb → (∀ (j : Nat) (k' : Int × Int), ks[j]? = some k' → lexLe kb k') → Q x H'
section
variable {X : Cx} {k : Nat} {f : Addr} {fd : FuncData} {ps : List Str} {sp : Sp} {fname : Str} {p p2 kp pos : Pos} {e : Expr} {te : TE}
theorem key_arg {pins : List (Addr × Obj)} {σ : St} {H : Hp} {s : Shared} {Q : List Value → Shared → Prop} (I : Inv X pins σ H s) (hgf : Gl X fname) (hmf : X.mg fname = some (.ref f)) (hdb : (fname == ("__debug__" : Str)) = false) (h : ∀ s', Inv X pins σ H s' → Q [.ref f] s') :
    wpAny (model X.prog X.w) X.A (evalAll ((backToKw pos (keywordEach [⟨some "key", .Name fname p2, kp⟩] X.env)).map (·.2))) Q X.xe s := by
  refine kws_cons ?_
  refine thn (pe_glob (v := V.ref f) hgf hmf rfl hdb pins s σ H (fun v H' => v = .ref f ∧ H' = H) I ⟨rfl, rfl⟩) fun u s1 ⟨v, H1, I1, r1, e1, e2⟩ => ?_
  subst e1 e2
  obtain rfl : u = Value.ref f := r1
  exact kws_nil (h s1 I1)
theorem pe_sortK (F : FnOk X.prog X.w X.K X.mg X.base CX0 k f fd ps sp) (hr : Room (k + 2) X.A) (hb : Binds X.K fd ps []) (hg : Gl X "sorted") (hm : X.mg "sorted" = none) (hv : bootBuiltins "sorted" = some (.builtin "sorted")) (hgf : Gl X fname) (hmf : X.mg fname = some (.ref f)) (he : PE X e te)
    (hdb : (fname == ("__debug__" : Str)) = false := by decide) (hst : starEach [e] X.env = [(false, eval e X.env)] := by rfl) :
    PE X (.Call (.Name "sorted" p) [e] [⟨some "key", .Name fname p2, kp⟩] pos) (tSortK X.K sp te) := by
  intro pins s σ H Q I h
  refine wpAny_Call_Name_kw (ld_blt I hg hm hv ?_ (by decide) (by decide))
  refine callWith_kw ?_ (by rw [hst]; rfl) (by rw [hst]; rfl)
  rw [hst]
  show wpAny _ _ (spliced ((false, eval e X.env) :: [])) _ _ s
  refine Calls.spliced_cons (thn (he pins s σ H _ I h) fun u s1 ⟨x, H1, I1, r1, l, xs, ks, ex, hl, hlen, turn, fin⟩ => Calls.spliced_nil ?_)
  subst ex
  obtain rfl : u = Value.ref l := r1
  refine key_arg I1 hgf hmf hdb fun s2 I2 => ?_
  exact sorted_key F hr hb I2 hl hlen turn fin
theorem pe_minK (F : FnOk X.prog X.w X.K X.mg X.base CX0 k f fd ps sp) (hr : Room (k + 1) X.A) (hb : Binds X.K fd ps []) (hg : Gl X "min") (hm : X.mg "min" = none) (hv : bootBuiltins "min" = some (.builtin "min")) (hgf : Gl X fname) (hmf : X.mg fname = some (.ref f)) (he : PE X e te)
    (hdb : (fname == ("__debug__" : Str)) = false := by decide) (hst : starEach [e] X.env = [(false, eval e X.env)] := by rfl) :
    PE X (.Call (.Name "min" p) [e] [⟨some "key", .Name fname p2, kp⟩] pos) (tMinK X.K sp te) := by
  intro pins s σ H Q I h
  refine wpAny_Call_Name_kw (ld_blt I hg hm hv ?_ (by decide) (by decide))
  refine callWith_kw ?_ (by rw [hst]; rfl) (by rw [hst]; rfl)
  rw [hst]
  show wpAny _ _ (spliced ((false, eval e X.env) :: [])) _ _ s
  refine Calls.spliced_cons (thn (he pins s σ H _ I h) fun u s1 ⟨x, H1, I1, r1, l, xs, ks, ex, hl, hlen, hpos, turn, fin⟩ => Calls.spliced_nil ?_)
  subst ex
  obtain rfl : u = Value.ref l := r1
  refine key_arg I1 hgf hmf hdb fun s2 I2 => ?_
  exact min_keyed F hr hb I2 hl hlen hpos turn fin
end
end L2
set_option Elab.async false
set_option linter.all false
set_option maxRecDepth 100000
set_option maxHeartbeats 4000000
namespace L2
open PySem PySem.Spec PyProof.Rows
theorem vals_keys : ∀ {kvs : List (Key × V)} {vs : List (Key × Value)}, KV kvs vs → ∀ us : List Value, us.length = vs.length → (∀ (j : Nat) (v : Value), us[j]? = some v → ∃ k x, vs[j]? = some (k, x) ∧ keyIs k v = true) → Vals (kvs.map fun p => kV p.1) us
  | _, _, .nil, [], _, _ => .nil
  | _, _, .nil, _ :: _, h, _ => absurd h (by simp)
  | _, _, .cons _ _, [], h, _ => absurd h (by simp)
  | _, _, .cons r t, u :: us, hl, hv => by
    obtain ⟨k, x, e, hk⟩ := hv 0 u rfl
    rw [List.getElem?_cons_zero] at e
    have e1 := Option.some.inj e
    have e2 := r.1
    rw [e1] at e2
    refine .cons ?_ (vals_keys t us (by simpa using hl) fun j v hj => by simpa using hv (j + 1) v (by simpa using hj))
    exact relV_key (show keyIs _ u = true from e2 ▸ hk)
section
variable {X : Cx}
theorem call_listK (hc : X.calm = true) : CallR X (.type "list") (fun xs H Q => ∃ a kvs, xs = [V.ref a] ∧ H a = some (.dK kvs) ∧ ∀ l, H l = none → Q (.ref l) (upd H l (.lst (kvs.map fun p => kV p.1)))) := by
  intro pins s σ H xs us Q I r h
  obtain ⟨a, kvs, rfl, ha, q⟩ := h
  obtain ⟨u, rfl, ru⟩ := vals1 r
  cases ru
  obtain ⟨z, hd, vs, rel, dd⟩ := dk_rd I.hok (.inl ha)
  obtain ⟨ep, hat⟩ := dd.dictAt
  have hl : kvs.length = vs.length := Paired.length rel
  refine PySem.W.kdl_call (PySem.W.kdl_dict (knd := mixKind X.prog X.w) (kvs := vs) (ep := ep) hd) (I.ok.hd hc) hat (by omega) fun h' tk acc c kp e it => ?_
  have new : ObjOk X.prog X.w (upd H s.heap.objs.size (.lst (kvs.map fun p => kV p.1))) h' s.heap.objs.size (.lst (kvs.map fun p => kV p.1)) := by
    refine ⟨by rw [List.length_map]; exact z, acc.toList, c, vals_keys rel acc.toList (by rw [Array.length_toList]; exact it.1) (fun j v hj => ?_), by rw [Array.toArray_toList]; exact e⟩
    rw [Array.getElem?_toList] at hj
    exact it.2 j v hj
  exact ⟨.ref s.heap.objs.size, _, I.laid (t' := tk) kp (Nat.le_refl _) new, rfl, q _ (I.hok.fresh (Nat.le_refl _))⟩
end
end L2
set_option Elab.async false
set_option linter.all false
set_option maxRecDepth 100000
set_option maxHeartbeats 4000000
namespace L2
open PySem PySem.Spec PyProof.Rows
structure Ok (P : Program) (w : World) (K : PySem.W.Frag) (mg : Str → Option Value) (base : Heap) (k : Nat) (x : Str) (ps : List Str) (sp : Sp) : Prop where
  ex : ∃ f fd, mg x = some (.ref f) ∧ PySem.W.keepIn K (.ref f) = true ∧ Binds K fd ps [] ∧ FnOk P w K mg base CX0 k f fd ps sp
structure OkM (P : Program) (w : World) (K : PySem.W.Frag) (mg : Str → Option Value) (base : Heap) (k : Nat) (C : Addr) (m : Str) (ps : List Str) (sp : Sp) : Prop where
  ex : ∃ f fd, Meth K C m f ∧ Binds K fd ps [] ∧ FnOk P w K mg base CX0 k f fd ps sp
structure OkI (P : Program) (w : World) (K : PySem.W.Frag) (mg : Str → Option Value) (base : Heap) (k : Nat) (x : Str) (C : Addr) (ps : List Str) (sp : Sp) : Prop where
  ex : ∃ f fd, mg x = some (.ref C) ∧ Mk K C f ∧ Binds K fd ps [] ∧ FnOk P w K mg base CX0 k f fd ps sp
section
variable {X : Cx} {k : Nat} {x m : Str} {C : Addr} {ps : List Str} {sp : Sp} {p pos apos : Pos} {e o : Expr} {es : List Expr} {t : TA} {ta : TE}
theorem pe_callO (O : Ok X.prog X.w X.K X.mg X.base k x ps sp) (hr : Room k X.A) (hg : Gl X x) (ha : PA X (e :: es) t) (hdb : (x == ("__debug__" : Str)) = false := by decide) (he : starEach (e :: es) X.env = (false, eval e X.env) :: starEach es X.env := by rfl) (hpl : (backTo pos (starEach es X.env)).any (·.1) = false := by rfl) :
    PE X (.Call (.Name x p) (e :: es) [] pos) (tCall sp [] E0 t) := by
  obtain ⟨f, fd, a, b, c, d⟩ := O.ex
  exact pe_call d hr hg a b c .nil pass0 ha hdb he hpl
theorem pe_methO {pl : Sem Bool} (O : OkM X.prog X.w X.K X.mg X.base k C m ps sp) (c : Cls X.K C) (hr : Room k X.A) (he : PE X o ta) (ha : PA X (e :: es) t)
    (hst : starEach (e :: es) X.env = (false, eval e X.env) :: starEach es X.env := by rfl) (hpl : (backTo pos (starEach es X.env)).any (·.1) = false := by rfl)
    (ht : eval (.Call (.Attribute o m apos) (e :: es) [] pos) X.env = (do
      let ov ← eval o X.env
      standAt apos.atName
      let (f, first) ← holding [ov] (getMethod ov m pl)
      callWith pos f first (backTo pos (starEach (e :: es) X.env)) (backToKw pos (keywordEach [] X.env))) := by rfl) :
    PE X (.Call (.Attribute o m apos) (e :: es) [] pos) (tMeth C m sp [] E0 ta t) := by
  obtain ⟨f, fd, a, b, d⟩ := O.ex
  exact pe_meth he c a d hr b .nil pass0 ha hst hpl ht
theorem pe_methO0 {pl : Sem Bool} (O : OkM X.prog X.w X.K X.mg X.base k C m ps sp) (c : Cls X.K C) (hr : Room k X.A) (he : PE X o ta)
    (ht : eval (.Call (.Attribute o m apos) [] [] pos) X.env = (do
      let ov ← eval o X.env
      standAt apos.atName
      let (f, first) ← holding [ov] (getMethod ov m pl)
      callWith pos f first (backTo pos (starEach [] X.env)) (backToKw pos (keywordEach [] X.env))) := by rfl) :
    PE X (.Call (.Attribute o m apos) [] [] pos) (tMeth C m sp [] E0 ta tNil) := by
  obtain ⟨f, fd, a, b, d⟩ := O.ex
  exact pe_meth0 he c a d hr b .nil pass0 ht
theorem pe_makeO (O : OkI X.prog X.w X.K X.mg X.base k x C ps sp) (hr : Room (k + 1) X.A) (hg : Gl X x) (ha : PA X (e :: es) t) (hdb : (x == ("__debug__" : Str)) = false := by decide) (he : starEach (e :: es) X.env = (false, eval e X.env) :: starEach es X.env := by rfl) (hpl : (backTo pos (starEach es X.env)).any (·.1) = false := by rfl) :
    PE X (.Call (.Name x p) (e :: es) [] pos) (tMake C sp [] E0 t) := by
  obtain ⟨f, fd, a, b, c, d⟩ := O.ex
  exact pe_make b d hr hg a c .nil pass0 ha hdb he hpl
theorem pe_makeO0 (O : OkI X.prog X.w X.K X.mg X.base k x C ps sp) (hr : Room (k + 1) X.A) (hg : Gl X x) (hdb : (x == ("__debug__" : Str)) = false := by decide) :
    PE X (.Call (.Name x p) [] [] pos) (tMake C sp [] E0 tNil) := by
  obtain ⟨f, fd, a, b, c, d⟩ := O.ex
  exact pe_make0 b d hr hg a c .nil pass0 hdb
theorem pe_sortO {fname : Str} {p2 kp : Pos} {te : TE} (O : Ok X.prog X.w X.K X.mg X.base k fname ps sp) (hr : Room (k + 2) X.A) (hg : Gl X "sorted") (hm : X.mg "sorted" = none) (hgf : Gl X fname) (he : PE X e te) (hdb : (fname == ("__debug__" : Str)) = false := by decide) (hst : starEach [e] X.env = [(false, eval e X.env)] := by rfl) :
    PE X (.Call (.Name "sorted" p) [e] [⟨some "key", .Name fname p2, kp⟩] pos) (tSortK X.K sp te) := by
  obtain ⟨f, fd, a, b, c, d⟩ := O.ex
  exact pe_sortK d hr c hg hm (by decide +kernel) hgf a he hdb hst
theorem pe_minO {fname : Str} {p2 kp : Pos} {te : TE} (O : Ok X.prog X.w X.K X.mg X.base k fname ps sp) (hr : Room (k + 1) X.A) (hg : Gl X "min") (hm : X.mg "min" = none) (hgf : Gl X fname) (he : PE X e te) (hdb : (fname == ("__debug__" : Str)) = false := by decide) (hst : starEach [e] X.env = [(false, eval e X.env)] := by rfl) :
    PE X (.Call (.Name "min" p) [e] [⟨some "key", .Name fname p2, kp⟩] pos) (tMinK X.K sp te) := by
  obtain ⟨f, fd, a, b, c, d⟩ := O.ex
  exact pe_minK d hr c hg hm (by decide +kernel) hgf a he hdb hst
theorem pe_cst {z : Int} {tk : Tok} (hg : Gl X x) (hm : X.mg x = some (.int z tk)) (hd : (x == ("__debug__" : Str)) = false := by decide) : PE X (.Name x p) (tC (.int z)) := pe_glob hg hm ⟨tk, rfl⟩ hd
end
def Num (mg : Str → Option Value) (x : Str) (z : Int) : Prop := ∃ tk, mg x = some (.int z tk)
theorem pe_num {X : Cx} {x : Str} {p : Pos} {z : Int} (hg : Gl X x) (hm : Num X.mg x z) (hd : (x == ("__debug__" : Str)) = false := by decide) : PE X (.Name x p) (tC (.int z)) := by
  obtain ⟨tk, e⟩ := hm
  exact pe_cst hg e hd
end L2
namespace Nb
open PySem PySem.Spec PyProof.Rows L2
def top (i : Nat) : Stmt := PySem.Challenge.pw_linkneighbours_s01_answers.main.body.getD i (.Pass ⟨0, 0, 0, 0⟩)
end Nb
set_option Elab.async false
set_option linter.all false
set_option maxRecDepth 100000
set_option maxHeartbeats 4000000
namespace Nb
open PySem PySem.Spec PyProof.Rows L2
abbrev sMsgInit : Stmt := inClass (top 8) 0
abbrev sMayLink : Stmt := top 9
abbrev sMayAddr : Stmt := top 10
abbrev sSplit : Stmt := top 11
abbrev sJoin : Stmt := top 12
abbrev sWrite : Stmt := top 13
abbrev sRead : Stmt := top 14
def mf (w l a b : Int) : List (Str × V) := [("what", .int w), ("link_address", .int l), ("address", .int a), ("about", .int b)]
structure TW (K : PySem.W.Frag) (mg : Str → Option Value) (CM : Addr) : Prop where
  cl : Cls K CM
  nW : NoAttr K CM "what"
  nL : NoAttr K CM "link_address"
  nA : NoAttr K CM "address"
  nB : NoAttr K CM "about"
  everybody : Num mg "EVERYBODY" 4294967295
  everyLink : Num mg "EVERYBODY_ON_LINK" 281474976710655
  lastPacket : Num mg "LAST_PACKET" 4294967295
  bit40 : Num mg "BIT_40" 1099511627776
  asked : Num mg "ASKED" 1
  answered : Num mg "ANSWERED" 2
  size : Num mg "MESSAGE_SIZE" 20
  len : mg "len" = none
  range : mg "range" = none
def mayLink (n : Int) : Bool := (!decide (n = 0)) && (decide (n ≤ 281474976710655) && decide (Builtin.bitAnd n 1099511627776 = 0))
def mayAddr (n : Int) : Bool := (!decide (n = 0)) && decide (n < 4294967295)
def splitI (x : Int) (n : Nat) : List Int := (List.range n).map fun (i : Nat) => Builtin.bitAnd (x / 2 ^ (8 * ((n : Int) - 1 - (i : Int))).toNat) 255
def joinI (l : List Int) : Int := l.foldl (fun n b => n * 256 + b) 0
def writeI (w l a b : Int) : List Int := splitI w 2 ++ splitI l 6 ++ splitI a 4 ++ splitI b 4 ++ splitI 0 4
def spMayLink : Sp := fun vs H Q _ => ∃ n : Int, vs = [.int n] ∧ Q (.bl (mayLink n)) H
def spMayAddr : Sp := fun vs H Q _ => ∃ n : Int, vs = [.int n] ∧ Q (.bl (mayAddr n)) H
def spMsgInit (CM : Addr) : Sp := fun vs H Q _ => ∃ (p dx : Addr) (w l a b : Int), vs = [.ref p, .int w, .int l, .int a, .int b] ∧ H p = some (.ins CM dx []) ∧ Q .non (upd H p (.ins CM dx (mf w l a b)))
def spSplit : Sp := fun vs H Q _ => ∃ (x : Int) (n : Nat), vs = [.int x, .int n] ∧ n ≤ 1000 ∧ ∀ p, H p = none → Q (.ref p) (upd H p (.lst ((splitI x n).map V.int)))
def spJoin (K : PySem.W.Frag) : Sp := fun vs H Q _ => ∃ (a : Addr) (ns : List Int), vs = [.ref a] ∧ SqL K H a (ns.map V.int) ∧ Q (.int (joinI ns)) H
theorem yes_if {σ : L2.St} {H : Hp} {A B : Hp → Prop} (h : A H) : tYes σ H (fun b H3 => if b = true then A H3 else B H3) := by
  show (if true = true then A H else B H)
  rw [if_pos rfl]
  exact h
theorem dnot_int (i j : Int) : (!decide (V.int i = V.int j)) = !decide (i = j) := by
  by_cases h : i = j
  · subst h; simp
  · have : ¬ V.int i = V.int j := fun e => h (by cases e; rfl)
    simp [h, this]
theorem deq_int (i j : Int) : decide (V.int i = V.int j) = decide (i = j) := by
  by_cases h : i = j
  · subst h; simp
  · have : ¬ V.int i = V.int j := fun e => h (by cases e; rfl)
    simp [h, this]
section
variable {P : Program} {w : World} {K : PySem.W.Frag} {mg : Str → Option Value} {base : Heap} {CM : Addr}
theorem scMayLink : FnScope ["number"] ["number"] (defScope sMayLink) := ⟨rfl, rfl, rfl, by decide +kernel, rfl, by decide +kernel, by decide +kernel⟩
theorem ok_mayLink {f : Addr} {fd : FuncData} (F : Fun K "may_have_link_address" "may_have_link_address" sMayLink f fd) (T : TW K mg CM) : FnOk P w K mg base CX0 1 f fd ["number"] spMayLink := by
  refine F.ok scMayLink (fun vs H Q E h => ?_) (fun cdv A outer s H vs Q E hr h => ?_)
  · obtain ⟨n, rfl, _⟩ := h
    rfl
  · obtain ⟨n, rfl, k⟩ := h
    refine ⟨_, pss_one (ps_ret (pe_and (pe_cmpR op_ne (pv 0) pe_int (nomark _)) (pe_and (pe_cmpR op_le (pv 0) (pe_num rfl T.everyLink) (nomark _)) (pe_one (pe_cmpR op_eq (pe_op op_and (pv 0) (pe_num rfl T.bit40)) pe_int (nomark _)))))), ?_⟩
    refine ⟨_, rfl, rfl, _, rfl, ?_⟩
    rw [dnot_int]
    by_cases h0 : n = 0
    · subst h0
      exact k
    · rw [decide_eq_false h0, Bool.not_false, if_pos rfl]
      refine ⟨_, rfl, _, _, rfl, rfl, _, rfl, ?_⟩
      by_cases h1 : n ≤ 281474976710655
      · rw [decide_eq_true h1, if_pos rfl]
        refine ⟨_, rfl, _, _, rfl, rfl, rfl, ?_⟩
        rw [deq_int]
        have e : mayLink n = decide (Builtin.bitAnd n 1099511627776 = 0) := by
          unfold mayLink
          rw [decide_eq_false h0, decide_eq_true h1]
          rfl
        rw [← e]
        exact k
      · rw [decide_eq_false h1]
        refine iteF ?_
        have e : mayLink n = false := by
          unfold mayLink
          rw [decide_eq_false h0, decide_eq_false h1]
          rfl
        rw [← e]
        exact k
theorem scMayAddr : FnScope ["number"] ["number"] (defScope sMayAddr) := ⟨rfl, rfl, rfl, by decide +kernel, rfl, by decide +kernel, by decide +kernel⟩
theorem ok_mayAddr {f : Addr} {fd : FuncData} (F : Fun K "may_have_address" "may_have_address" sMayAddr f fd) (T : TW K mg CM) : FnOk P w K mg base CX0 1 f fd ["number"] spMayAddr := by
  refine F.ok scMayAddr (fun vs H Q E h => ?_) (fun cdv A outer s H vs Q E hr h => ?_)
  · obtain ⟨n, rfl, _⟩ := h
    rfl
  · obtain ⟨n, rfl, k⟩ := h
    refine ⟨_, pss_one (ps_ret (pe_and (pe_cmpR op_ne (pv 0) pe_int (nomark _)) (pe_one (pe_cmpR op_lt (pv 0) (pe_num rfl T.everybody) (nomark _))))), ?_⟩
    refine ⟨_, rfl, rfl, _, rfl, ?_⟩
    rw [dnot_int]
    by_cases h0 : n = 0
    · subst h0
      exact k
    · rw [decide_eq_false h0, Bool.not_false, if_pos rfl]
      refine ⟨_, rfl, _, _, rfl, rfl, ?_⟩
      have e : mayAddr n = decide (n < 4294967295) := by
        unfold mayAddr
        rw [decide_eq_false h0]
        rfl
      show Q (.bl (decide (n < 4294967295))) H
      rw [← e]
      exact k
theorem scMsgInit : FnScope ["self", "what", "link_address", "address", "about"] ["self", "what", "link_address", "address", "about"] (defScope sMsgInit) := ⟨rfl, rfl, rfl, by decide +kernel, rfl, by decide +kernel, by decide +kernel⟩
theorem ok_msgInit {f : Addr} {fd : FuncData} (F : Fun K "__init__" "Message.__init__" sMsgInit f fd) (T : TW K mg CM) : FnOk P w K mg base CX0 1 f fd ["self", "what", "link_address", "address", "about"] (spMsgInit CM) := by
  refine F.ok scMsgInit (fun vs H Q E h => ?_) (fun cdv A outer s H vs Q E hr h => ?_)
  · obtain ⟨p, dx, w, l, a, b, rfl, _⟩ := h
    rfl
  · obtain ⟨p, dx, w, l, a, b, rfl, hp, k⟩ := h
    refine ⟨_, pss_cons (ps_fld (pv 0) (pv 1) rfl) (pss_cons (ps_fld (pv 0) (pv 2) rfl) (pss_cons (ps_fld (pv 0) (pv 3) rfl) (pss_one (ps_fld (pv 0) (pv 4) rfl)))), ?_⟩
    refine ⟨_, rfl, _, rfl, p, CM, dx, [], rfl, hp, T.cl, T.nW, (by show 0 < 1000; decide), ?_⟩
    refine ⟨_, rfl, _, rfl, p, CM, dx, _, rfl, upd_same, T.cl, T.nL, (by show 1 < 1000; decide), ?_⟩
    refine ⟨_, rfl, _, rfl, p, CM, dx, _, rfl, upd_same, T.cl, T.nA, (by show 2 < 1000; decide), ?_⟩
    refine ⟨_, rfl, _, rfl, p, CM, dx, _, rfl, upd_same, T.cl, T.nB, (by show 3 < 1000; decide), ?_⟩
    rw [upd_upd, upd_upd, upd_upd]
    exact k
theorem scSplit : FnScope ["number", "size", "place"] ["number", "size"] (defScope sSplit) := ⟨rfl, rfl, rfl, by decide +kernel, rfl, by decide +kernel, by decide +kernel⟩
theorem ok_split {f : Addr} {fd : FuncData} (F : Fun K "split_number" "split_number" sSplit f fd) (T : TW K mg CM) : FnOk P w K mg base CX0 1 f fd ["number", "size"] spSplit := by
  refine F.ok scSplit (fun vs H Q E h => ?_) (fun cdv A outer s H vs Q E hr h => ?_)
  · obtain ⟨x, n, rfl, _⟩ := h
    rfl
  · obtain ⟨x, n, rfl, hn, k⟩ := h
    refine ⟨_, pss_one (ps_ret (pe_lc (own := [("place", 2)]) rfl scSplit.nd (pi_range1 rfl T.range (pa_cons (pv 1) pa_nil)) (blkOk_by rfl) (fun _ _ _ _ _ => pg_name (i := 2) scSplit.nd rfl (Or.inl rfl)) (fun _ _ _ _ _ => pts_nil)
      (fun _ _ _ _ _ => pe_op op_and (pe_op op_shr (pv 0) (pe_op op_mul pe_int (pe_op op_sub (pe_op op_sub (pv 1) pe_int) (pv 2)))) pe_int))), ?_⟩
    refine ⟨_, rfl, (n : Int), rfl, by omega, by omega, fun D hD => ?_⟩
    refine lc_range (fun i H' => H' = upd H D (.lst (((splitI x n).take i).map V.int))) rfl (fun i H' hi e => ?_) (fun H' e => ?_)
    · subst e
      have hi' : i < n := by simpa using hi
      refine ⟨rfl, yes_if ?_⟩
      refine ⟨_, rfl, _, rfl, _, _, rfl, rfl, _, rfl, _, _, rfl, rfl, _, _, rfl, rfl, .inl ⟨by decide, by decide⟩, _, _, rfl, rfl, (by omega), _, _, rfl, rfl, _, upd_same, ?_, ?_⟩
      · rw [List.length_map, List.length_take]
        exact small1000 (by omega)
      · rw [upd_upd, List.take_add_one]
        have e1 : (splitI x n)[i]? = some (Builtin.bitAnd (x / 2 ^ (8 * ((n : Int) - 1 - (i : Int))).toNat) 255) := by
          unfold splitI
          rw [List.getElem?_map, List.getElem?_range hi']
          rfl
        rw [e1]
        simp
    · subst e
      have e2 : (splitI x n).take ((n : Int).toNat) = splitI x n := List.take_of_length_le (by unfold splitI; simp)
      rw [e2]
      exact k D hD
end
end Nb
set_option Elab.async false
set_option linter.all false
set_option maxRecDepth 100000
set_option maxHeartbeats 4000000
namespace Nb
open PySem PySem.Spec PyProof.Rows L2
def pieceI (ns : List Int) (i j : Nat) : List Int := (ns.drop i).take (j - i)
def readI (ns : List Int) : Option (Int × Int × Int × Int) :=
  if ns.length = 20 ∧ joinI (pieceI ns 16 20) = 0 ∧ (joinI (pieceI ns 0 2) = 1 ∨ joinI (pieceI ns 0 2) = 2) then some (joinI (pieceI ns 0 2), joinI (pieceI ns 2 8), joinI (pieceI ns 8 12), joinI (pieceI ns 12 16)) else none
def spWrite (CM : Addr) : Sp := fun vs H Q _ => ∃ (m dx : Addr) (w l a b : Int), vs = [.ref m] ∧ H m = some (.ins CM dx (mf w l a b)) ∧ ∀ (H' : Hp) (p : Addr), Same H H' → H p = none → H' p = some (.lst ((writeI w l a b).map V.int)) → Q (.ref p) H'
def spRead (K : PySem.W.Frag) (CM : Addr) : Sp := fun vs H Q _ => ∃ (a : Addr) (ns : List Int), vs = [.ref a] ∧ SqL K H a (ns.map V.int) ∧
  (readI ns = none → ∀ H' : Hp, Same H H' → Q .non H') ∧
  ∀ w l ad b, readI ns = some (w, l, ad, b) → ∀ (H' : Hp) (p dx : Addr), Same H H' → H p = none → H' p = some (.ins CM dx (mf w l ad b)) → Q (.ref p) H'
theorem cut_ints (ns : List Int) (i j : Nat) (h : ns.length = 20) (hi : i ≤ j) (hj : j ≤ 20) : cutV (ns.map V.int) (some (i : Int)) (some (j : Int)) = (pieceI ns i j).map V.int := by
  unfold cutV pieceI
  rw [HT.sIx_nat, HT.sIx_nat, List.length_map, h, Nat.min_eq_left (show i ≤ 20 by omega), Nat.min_eq_left hj, List.map_take, List.map_drop]
theorem joinI_snoc (l : List Int) (b : Int) : joinI (l ++ [b]) = joinI l * 256 + b := by
  unfold joinI
  rw [List.foldl_append]
  rfl
section
variable {P : Program} {w : World} {K : PySem.W.Frag} {mg : Str → Option Value} {base : Heap} {CM : Addr}
theorem scJoin : FnScope ["row", "number", "byte"] ["row"] (defScope sJoin) := ⟨rfl, rfl, rfl, by decide +kernel, rfl, by decide +kernel, by decide +kernel⟩
theorem ok_join {f : Addr} {fd : FuncData} (F : Fun K "join_number" "join_number" sJoin f fd) : FnOk P w K mg base CX0 1 f fd ["row"] (spJoin K) := by
  refine F.ok scJoin (fun vs H Q E h => ?_) (fun cdv A outer s H vs Q E hr h => ?_)
  · obtain ⟨a, ns, rfl, _⟩ := h
    rfl
  · obtain ⟨a, ns, rfl, hS, k⟩ := h
    refine ⟨_, pss_cons (ps_set (i := 1) scJoin.nd rfl (Or.inl rfl) pe_int) (pss_cons (ps_for PassesOwn.never rfl (pi_list (pv 0)) (pg_name (i := 2) scJoin.nd rfl (Or.inl rfl))
      (pss_one (ps_set (i := 1) scJoin.nd rfl (Or.inl rfl) (pe_op op_add (pe_op op_mul (pv 1) pe_int) (pv 2))))) (pss_one (ps_ret (pv 1)))), ?_⟩
    refine ⟨_, rfl, a, rfl, ⟨_, hS⟩, for_list (K := K) (a := a) (xs := ns.map V.int) (fun i σ H' => ∃ v : Option V, σ = [some (.ref a), some (.int (joinI (ns.take i))), v] ∧ H' = H) ⟨none, rfl, rfl⟩ (fun i σ H' _ ⟨_, _, e⟩ => by rw [e]; exact hS) ?_ ?_⟩
    · rintro i y σ H' hi ⟨v, rfl, rfl⟩
      rw [List.getElem?_map] at hi
      cases e : ns[i]? with
      | none =>
        rw [e] at hi
        cases hi
      | some z =>
        rw [e] at hi
        obtain rfl : V.int z = y := Option.some.inj hi
        refine ⟨_, rfl, _, _, rfl, rfl, .inr ⟨by decide, by decide⟩, _, rfl, _, _, rfl, rfl, ?_⟩
        refine ⟨some (.int z), ?_, rfl⟩
        have e2 : ns.take (i + 1) = ns.take i ++ [z] := by rw [List.take_add_one, e]; rfl
        rw [e2, joinI_snoc]
        rfl
    · rintro σ H' ⟨v, rfl, rfl⟩
      rw [List.length_map, List.take_length]
      exact ⟨_, rfl, k⟩
theorem scWrite : FnScope ["message", "row"] ["message"] (defScope sWrite) := ⟨rfl, rfl, rfl, by decide +kernel, rfl, by decide +kernel, by decide +kernel⟩
theorem splitI_len (x : Int) (n : Nat) : (splitI x n).length = n := by
  unfold splitI
  simp
theorem ext_step {H H1 : Hp} {p q : Addr} {xs ys : List Int} (S : Same H H1) (h1 : H1 p = some (.lst (xs.map V.int))) (hq : H1 q = none) (hp : H p = none) :
    Same H (upd (upd H1 q (.lst (ys.map V.int))) p (.lst (xs.map V.int ++ ys.map V.int))) ∧ upd (upd H1 q (.lst (ys.map V.int))) p (.lst (xs.map V.int ++ ys.map V.int)) p = some (.lst ((xs ++ ys).map V.int)) :=
  ⟨fun b o e => by
    have e1 := S b o e
    rw [upd_ne (ne_of_none e hp), upd_ne (ne_of_none e1 hq)]
    exact e1, by rw [upd_same, List.map_append]⟩
theorem ok_write {f : Addr} {fd : FuncData} (F : Fun K "write_message" "write_message" sWrite f fd) (T : TW K mg CM) (oS : Ok P w K mg base 1 "split_number" ["number", "size"] spSplit) : FnOk P w K mg base CX0 2 f fd ["message"] (spWrite CM) := by
  refine F.ok scWrite (fun vs H Q E h => ?_) (fun cdv A outer s H vs Q E hr h => ?_)
  · obtain ⟨m, dx, w, l, a, b, rfl, _⟩ := h
    rfl
  · obtain ⟨m, dx, w, l, a, b, rfl, hm, k⟩ := h
    refine ⟨_, pss_cons (ps_set (i := 1) scWrite.nd rfl (Or.inl rfl) (pe_callO oS hr rfl (pa_cons (pe_fld (pv 0) rfl) (pa_cons pe_int pa_nil))))
      (pss_cons (ps_expr (pe_bm PySem.F.plainAttrs_list PySem.F.slot_list_extend PySem.F.type_list_extend mt_extend (pv 1) (pa_cons (pe_callO oS hr rfl (pa_cons (pe_fld (pv 0) rfl) (pa_cons pe_int pa_nil))) pa_nil)))
      (pss_cons (ps_expr (pe_bm PySem.F.plainAttrs_list PySem.F.slot_list_extend PySem.F.type_list_extend mt_extend (pv 1) (pa_cons (pe_callO oS hr rfl (pa_cons (pe_fld (pv 0) rfl) (pa_cons pe_int pa_nil))) pa_nil)))
      (pss_cons (ps_expr (pe_bm PySem.F.plainAttrs_list PySem.F.slot_list_extend PySem.F.type_list_extend mt_extend (pv 1) (pa_cons (pe_callO oS hr rfl (pa_cons (pe_fld (pv 0) rfl) (pa_cons pe_int pa_nil))) pa_nil)))
      (pss_cons (ps_expr (pe_bm PySem.F.plainAttrs_list PySem.F.slot_list_extend PySem.F.type_list_extend mt_extend (pv 1) (pa_cons (pe_callO oS hr rfl (pa_cons pe_int (pa_cons pe_int pa_nil))) pa_nil)))
      (pss_one (ps_ret (pv 1))))))), ?_⟩
    refine ⟨_, rfl, m, CM, dx, _, _, rfl, hm, T.cl, T.nW, rfl, w, 2, rfl, by omega, fun p hp => ?_⟩
    have S1 : Same H (upd H p (.lst ((splitI w 2).map V.int))) := (Same.refl H).upd_free hp
    have h1 : upd H p (.lst ((splitI w 2).map V.int)) p = some (.lst ((splitI w 2).map V.int)) := upd_same
    generalize upd H p (.lst ((splitI w 2).map V.int)) = H1 at S1 h1 ⊢
    refine ⟨_, rfl, .inl ⟨rfl, _, SqL.of h1⟩, _, rfl, m, CM, dx, _, _, rfl, S1 _ _ hm, T.cl, T.nL, rfl, l, 6, rfl, by omega, fun q hq => ?_⟩
    refine ⟨p, q, _, _, rfl, rfl, (upd_ne (ne_of_none h1 hq)).trans h1, upd_same, (by rw [List.length_map, List.length_map, splitI_len, splitI_len]; decide), ?_⟩
    obtain ⟨S2, h2⟩ := ext_step (ys := splitI l 6) S1 h1 hq hp
    generalize upd (upd H1 q (.lst ((splitI l 6).map V.int))) p _ = H2 at S2 h2 ⊢
    refine ⟨_, rfl, .inl ⟨rfl, _, SqL.of h2⟩, _, rfl, m, CM, dx, _, _, rfl, S2 _ _ hm, T.cl, T.nA, rfl, a, 4, rfl, by omega, fun q2 hq2 => ?_⟩
    refine ⟨p, q2, _, _, rfl, rfl, (upd_ne (ne_of_none h2 hq2)).trans h2, upd_same, (by simp only [List.length_map, List.length_append, splitI_len]; decide), ?_⟩
    obtain ⟨S3, h3⟩ := ext_step (ys := splitI a 4) S2 h2 hq2 hp
    generalize upd (upd H2 q2 (.lst ((splitI a 4).map V.int))) p _ = H3 at S3 h3 ⊢
    refine ⟨_, rfl, .inl ⟨rfl, _, SqL.of h3⟩, _, rfl, m, CM, dx, _, _, rfl, S3 _ _ hm, T.cl, T.nB, rfl, b, 4, rfl, by omega, fun q3 hq3 => ?_⟩
    refine ⟨p, q3, _, _, rfl, rfl, (upd_ne (ne_of_none h3 hq3)).trans h3, upd_same, (by simp only [List.length_map, List.length_append, splitI_len]; decide), ?_⟩
    obtain ⟨S4, h4⟩ := ext_step (ys := splitI b 4) S3 h3 hq3 hp
    generalize upd (upd H3 q3 (.lst ((splitI b 4).map V.int))) p _ = H4 at S4 h4 ⊢
    refine ⟨_, rfl, .inl ⟨rfl, _, SqL.of h4⟩, 0, 4, rfl, by omega, fun q4 hq4 => ?_⟩
    refine ⟨p, q4, _, _, rfl, rfl, (upd_ne (ne_of_none h4 hq4)).trans h4, upd_same, (by simp only [List.length_map, List.length_append, splitI_len]; decide), ?_⟩
    obtain ⟨S5, h5⟩ := ext_step (ys := splitI 0 4) S4 h4 hq4 hp
    generalize upd (upd H4 q4 (.lst ((splitI 0 4).map V.int))) p _ = H5 at S5 h5 ⊢
    exact ⟨_, rfl, k H5 p S5 hp h5⟩
theorem scRead : FnScope ["row", "what"] ["row"] (defScope sRead) := ⟨rfl, rfl, rfl, by decide +kernel, rfl, by decide +kernel, by decide +kernel⟩
theorem ok_read {f : Addr} {fd : FuncData} (F : Fun K "read_message" "read_message" sRead f fd) (T : TW K mg CM) (oJ : Ok P w K mg base 1 "join_number" ["row"] (spJoin K)) (oM : OkI P w K mg base 1 "Message" CM ["self", "what", "link_address", "address", "about"] (spMsgInit CM)) : FnOk P w K mg base CX0 3 f fd ["row"] (spRead K CM) := by
  refine F.ok scRead (fun vs H Q E h => ?_) (fun cdv A outer s H vs Q E hr h => ?_)
  · obtain ⟨a, ns, rfl, _⟩ := h
    rfl
  · obtain ⟨a, ns, rfl, hS, kn, ks⟩ := h
    have hr1 : Room 1 _ := hr.mono (by decide)
    refine ⟨_, pss_cons (ps_if (PW.pt (pw_or (pt_cmpR op_ne (pe_callB call_len_seq (by rfl) T.len PySem.boot_len (pa_cons (pv 0) pa_nil)) (pe_num rfl T.size) (nomark _)) (pw_or1 (pt_cmpR op_ne (pe_callO oJ hr1 rfl (pa_cons (pe_slice sl_list (pv 0) (po_some pe_int) (po_some pe_int)) pa_nil)) pe_int (nomark _))))) (pss_one (ps_ret pe_non)) pss_nil)
      (pss_cons (ps_set (i := 1) scRead.nd rfl (Or.inl rfl) (pe_callO oJ hr1 rfl (pa_cons (pe_slice sl_list (pv 0) (po_some pe_int) (po_some pe_int)) pa_nil)))
      (pss_cons (ps_if (PW.pt (pw_and (pt_cmpR op_ne (pv 1) (pe_num rfl T.asked) (nomark _)) (pw_and1 (pt_cmpR op_ne (pv 1) (pe_num rfl T.answered) (nomark _))))) (pss_one (ps_ret pe_non)) pss_nil)
      (pss_one (ps_ret (pe_makeO oM hr rfl (pa_cons (pv 1) (pa_cons (pe_callO oJ hr1 rfl (pa_cons (pe_slice sl_list (pv 0) (po_some pe_int) (po_some pe_int)) pa_nil)) (pa_cons (pe_callO oJ hr1 rfl (pa_cons (pe_slice sl_list (pv 0) (po_some pe_int) (po_some pe_int)) pa_nil)) (pa_cons (pe_callO oJ hr1 rfl (pa_cons (pe_slice sl_list (pv 0) (po_some pe_int) (po_some pe_int)) pa_nil)) pa_nil))))))))), ?_⟩
    refine ⟨_, rfl, a, _, rfl, .inl hS, rfl, _, rfl, ?_⟩
    rw [dnot_int, List.length_map]
    by_cases hl : ((ns.length : Nat) : Int) = 20
    · have hl' : ns.length = 20 := by omega
      rw [decide_eq_true hl, Bool.not_true]
      show (if false = true then _ else _)
      rw [if_neg (by decide)]
      refine ⟨_, rfl, _, rfl, _, rfl, a, _, rfl, hS, fun p hp => ?_⟩
      have c1 : cutV (ns.map V.int) (some 16) (some 20) = (pieceI ns 16 20).map V.int := cut_ints ns 16 20 hl' (by omega) (by omega)
      have c2 : cutV (ns.map V.int) (some 0) (some 2) = (pieceI ns 0 2).map V.int := cut_ints ns 0 2 hl' (by omega) (by omega)
      have c3 : cutV (ns.map V.int) (some 2) (some 8) = (pieceI ns 2 8).map V.int := cut_ints ns 2 8 hl' (by omega) (by omega)
      have c4 : cutV (ns.map V.int) (some 8) (some 12) = (pieceI ns 8 12).map V.int := cut_ints ns 8 12 hl' (by omega) (by omega)
      have c5 : cutV (ns.map V.int) (some 12) (some 16) = (pieceI ns 12 16).map V.int := cut_ints ns 12 16 hl' (by omega) (by omega)
      refine ⟨p, pieceI ns 16 20, rfl, SqL.of (upd_same.trans (congrArg (fun q => some (HO.lst q)) c1)), rfl, _, rfl, ?_⟩
      rw [dnot_int]
      have S1 : Same H (upd H p (.lst (cutV (ns.map V.int) (some 16) (some 20)))) := (Same.refl H).upd_free hp
      generalize upd H p (.lst (cutV (ns.map V.int) (some 16) (some 20))) = H1 at S1 ⊢
      by_cases hz : joinI (pieceI ns 16 20) = 0
      · rw [decide_eq_true hz, Bool.not_true]
        show (if false = true then _ else _)
        rw [if_neg (by decide)]
        refine ⟨_, rfl, _, rfl, _, rfl, a, _, rfl, S1.seq hS, fun p2 hp2 => ?_⟩
        refine ⟨p2, pieceI ns 0 2, rfl, SqL.of (upd_same.trans (congrArg (fun q => some (HO.lst q)) c2)), ?_⟩
        have S2 : Same H (upd H1 p2 (.lst (cutV (ns.map V.int) (some 0) (some 2)))) := S1.trans ((Same.refl H1).upd_free hp2)
        generalize upd H1 p2 (.lst (cutV (ns.map V.int) (some 0) (some 2))) = H2 at S2 ⊢
        have rest : joinI (pieceI ns 0 2) = 1 ∨ joinI (pieceI ns 0 2) = 2 → tMake CM (spMsgInit CM) [] E0 (tCons (tVar 1) (tCons (tCall (spJoin K) [] E0 (tCons (tSl (rSlL K) (tVar 0) (tPart (tC (V.int 2))) (tPart (tC (V.int 8)))) tNil)) (tCons (tCall (spJoin K) [] E0 (tCons (tSl (rSlL K) (tVar 0) (tPart (tC (V.int 8))) (tPart (tC (V.int 12)))) tNil)) (tCons (tCall (spJoin K) [] E0 (tCons (tSl (rSlL K) (tVar 0) (tPart (tC (V.int 12))) (tPart (tC (V.int 16)))) tNil)) tNil)))) [some (.ref a), some (.int (joinI (pieceI ns 0 2)))] H2 Q := by
          intro hw
          refine ⟨_, rfl, _, rfl, _, rfl, _, rfl, a, _, rfl, S2.seq hS, fun p3 hp3 => ?_⟩
          refine ⟨p3, pieceI ns 2 8, rfl, SqL.of (upd_same.trans (congrArg (fun q => some (HO.lst q)) c3)), ?_⟩
          have S3 : Same H (upd H2 p3 (.lst (cutV (ns.map V.int) (some 2) (some 8)))) := S2.trans ((Same.refl H2).upd_free hp3)
          generalize upd H2 p3 (.lst (cutV (ns.map V.int) (some 2) (some 8))) = H3 at S3 ⊢
          refine ⟨_, rfl, _, rfl, _, rfl, a, _, rfl, S3.seq hS, fun p4 hp4 => ?_⟩
          refine ⟨p4, pieceI ns 8 12, rfl, SqL.of (upd_same.trans (congrArg (fun q => some (HO.lst q)) c4)), ?_⟩
          have S4 : Same H (upd H3 p4 (.lst (cutV (ns.map V.int) (some 8) (some 12)))) := S3.trans ((Same.refl H3).upd_free hp4)
          generalize upd H3 p4 (.lst (cutV (ns.map V.int) (some 8) (some 12))) = H4 at S4 ⊢
          refine ⟨_, rfl, _, rfl, _, rfl, a, _, rfl, S4.seq hS, fun p5 hp5 => ?_⟩
          refine ⟨p5, pieceI ns 12 16, rfl, SqL.of (upd_same.trans (congrArg (fun q => some (HO.lst q)) c5)), ?_⟩
          have S5 : Same H (upd H4 p5 (.lst (cutV (ns.map V.int) (some 12) (some 16)))) := S4.trans ((Same.refl H4).upd_free hp5)
          generalize upd H4 p5 (.lst (cutV (ns.map V.int) (some 12) (some 16))) = H5 at S5 ⊢
          intro x dx nx ndx ne
          refine ⟨x, dx, _, _, _, _, rfl, upd_same, rfl, ?_⟩
          have S6 : Same H5 (upd (upd (upd H5 dx (.own x)) x (.ins CM dx [])) x (.ins CM dx (mf (joinI (pieceI ns 0 2)) (joinI (pieceI ns 2 8)) (joinI (pieceI ns 8 12)) (joinI (pieceI ns 12 16))))) := (((Same.refl H5).upd_free ndx).upd_free nx).upd_free nx
          exact ks _ _ _ _ (by unfold readI; rw [if_pos ⟨hl', hz, hw⟩]) _ x dx (S5.trans S6) (S5.free nx) upd_same
        refine ⟨_, rfl, rfl, _, rfl, ?_⟩
        rw [dnot_int]
        by_cases w1 : joinI (pieceI ns 0 2) = 1
        · rw [decide_eq_true w1, Bool.not_true]
          show (if false = true then _ else _)
          rw [if_neg (by decide)]
          exact rest (.inl w1)
        · rw [decide_eq_false w1, Bool.not_false]
          show (if true = true then _ else _)
          rw [if_pos rfl]
          refine ⟨_, rfl, rfl, _, rfl, ?_⟩
          rw [dnot_int]
          by_cases w2 : joinI (pieceI ns 0 2) = 2
          · rw [decide_eq_true w2, Bool.not_true]
            show (if false = true then _ else _)
            rw [if_neg (by decide)]
            exact rest (.inr w2)
          · rw [decide_eq_false w2, Bool.not_false]
            show (if true = true then _ else _)
            rw [if_pos rfl]
            exact kn (by unfold readI; rw [if_neg (fun z => z.2.2.elim w1 w2)]) _ S2
      · rw [decide_eq_false hz, Bool.not_false]
        show (if true = true then _ else _)
        rw [if_pos rfl]
        exact kn (by unfold readI; rw [if_neg (fun z => hz z.2.1)]) _ S1
    · rw [decide_eq_false hl, Bool.not_false]
      show (if true = true then _ else _)
      rw [if_pos rfl]
      exact kn (by unfold readI; rw [if_neg (fun z => hl (by omega))]) H (Same.refl H)
end
end Nb
set_option Elab.async false
set_option linter.all false
set_option maxRecDepth 100000
set_option maxHeartbeats 4000000
namespace Nb
open PySem PySem.Spec PyProof.Rows L2
abbrev sNInit : Stmt := inClass (top 22) 0
abbrev sHasDue : Stmt := inClass (top 22) 1
abbrev sIsDue : Stmt := inClass (top 22) 2
abbrev sAwaited : Stmt := inClass (top 22) 3
abbrev sNoteAsked : Stmt := inClass (top 22) 4
abbrev sBecKnown : Stmt := inClass (top 22) 5
abbrev sBecOld : Stmt := inClass (top 22) 6
abbrev sBecAgain : Stmt := inClass (top 22) 7
abbrev sTakeWait : Stmt := inClass (top 22) 9
structure Nbr where
  addr : Int
  used : Int
  st : Int
  la : Int
  asked : Int
  due : Int
  wait : List Int
def nf (n : Nbr) (w : Addr) : List (Str × V) := [("address", .int n.addr), ("used", .int n.used), ("standing", .int n.st), ("link_address", .int n.la), ("asked", .int n.asked), ("waiting", .ref w), ("due", .int n.due)]
structure TN (K : PySem.W.Frag) (mg : Str → Option Value) (CN : Addr) : Prop where
  cl : Cls K CN
  nA : NoAttr K CN "address"
  nU : NoAttr K CN "used"
  nS : NoAttr K CN "standing"
  nL : NoAttr K CN "link_address"
  nK : NoAttr K CN "asked"
  nW : NoAttr K CN "waiting"
  nD : NoAttr K CN "due"
  everyLink : Num mg "EVERYBODY_ON_LINK" 281474976710655
  askedFor : Num mg "ASKED_FOR" 1
  known : Num mg "KNOWN" 2
  old : Num mg "OLD" 3
  again : Num mg "ASKED_AGAIN" 4
  knownTime : Num mg "KNOWN_TIME" 30000
  askedTime : Num mg "ASKED_TIME" 1000
def newN (a now : Int) : Nbr := ⟨a, now, 1, 281474976710655, 0, now, []⟩
def spNInit (CN : Addr) : Sp := fun vs H Q _ => ∃ (p dx : Addr) (a now : Int), vs = [.ref p, .int a, .int now] ∧ H p = some (.ins CN dx []) ∧ ∀ (H' : Hp) (w : Addr), H w = none → H' w = some (.lst []) → H' p = some (.ins CN dx (nf (newN a now) w)) → (∀ b, b ≠ p → b ≠ w → H' b = H b) → Q .non H'
def hasDue (n : Nbr) : Bool := !decide (n.st = 3)
def isDue (n : Nbr) (now : Int) : Bool := hasDue n && decide (n.due ≤ now)
def isAwaited (n : Nbr) : Bool := decide (n.st = 1) || decide (n.st = 4)
def spHasDue (CN : Addr) : Sp := fun vs H Q _ => ∃ (a dx w : Addr) (n : Nbr), vs = [.ref a] ∧ H a = some (.ins CN dx (nf n w)) ∧ Q (.bl (hasDue n)) H
def spIsDue (CN : Addr) : Sp := fun vs H Q _ => ∃ (a dx w : Addr) (n : Nbr) (now : Int), vs = [.ref a, .int now] ∧ H a = some (.ins CN dx (nf n w)) ∧ Q (.bl (isDue n now)) H
def spAwaited (CN : Addr) : Sp := fun vs H Q _ => ∃ (a dx w : Addr) (n : Nbr), vs = [.ref a] ∧ H a = some (.ins CN dx (nf n w)) ∧ Q (.bl (isAwaited n)) H
def spNoteAsked (CN : Addr) : Sp := fun vs H Q _ => ∃ (a dx w : Addr) (n : Nbr) (now : Int), vs = [.ref a, .int now] ∧ H a = some (.ins CN dx (nf n w)) ∧ Q .non (upd H a (.ins CN dx (nf { n with asked := n.asked + 1, due := now + 1000 } w)))
def spBecKnown (CN : Addr) : Sp := fun vs H Q _ => ∃ (a dx w : Addr) (n : Nbr) (la now : Int), vs = [.ref a, .int la, .int now] ∧ H a = some (.ins CN dx (nf n w)) ∧ Q .non (upd H a (.ins CN dx (nf { n with st := 2, la := la, due := now + 30000 } w)))
def spBecOld (CN : Addr) : Sp := fun vs H Q _ => ∃ (a dx w : Addr) (n : Nbr), vs = [.ref a] ∧ H a = some (.ins CN dx (nf n w)) ∧ Q .non (upd H a (.ins CN dx (nf { n with st := 3 } w)))
def spBecAgain (CN : Addr) : Sp := fun vs H Q _ => ∃ (a dx w : Addr) (n : Nbr), vs = [.ref a] ∧ H a = some (.ins CN dx (nf n w)) ∧ Q .non (upd H a (.ins CN dx (nf { n with st := 4, asked := 0 } w)))
def spTakeWait (CN : Addr) : Sp := fun vs H Q _ => ∃ (a dx w : Addr) (n : Nbr), vs = [.ref a] ∧ H a = some (.ins CN dx (nf n w)) ∧ ∀ w', H w' = none → Q (.ref w) (upd (upd H w' (.lst [])) a (.ins CN dx (nf n w')))
section
variable {P : Program} {w : World} {K : PySem.W.Frag} {mg : Str → Option Value} {base : Heap} {CN : Addr}
theorem scNInit : FnScope ["self", "address", "now"] ["self", "address", "now"] (defScope sNInit) := ⟨rfl, rfl, rfl, by decide +kernel, rfl, by decide +kernel, by decide +kernel⟩
theorem ok_nInit {f : Addr} {fd : FuncData} (F : Fun K "__init__" "Neighbour.__init__" sNInit f fd) (T : TN K mg CN) : FnOk P w K mg base CX0 1 f fd ["self", "address", "now"] (spNInit CN) := by
  refine F.ok scNInit (fun vs H Q E h => ?_) (fun cdv A outer s H vs Q E hr h => ?_)
  · obtain ⟨p, dx, a, now, rfl, _⟩ := h
    rfl
  · obtain ⟨p, dx, a, now, rfl, hp, k⟩ := h
    refine ⟨_, pss_cons (ps_fld (pv 0) (pv 1) rfl) (pss_cons (ps_fld (pv 0) (pv 2) rfl) (pss_cons (ps_fld (pv 0) (pe_num rfl T.askedFor) rfl) (pss_cons (ps_fld (pv 0) (pe_num rfl T.everyLink) rfl) (pss_cons (ps_fld (pv 0) pe_int rfl) (pss_cons (ps_fld (pv 0) (pe_lst pa_nil) rfl) (pss_one (ps_fld (pv 0) (pv 2) rfl))))))), ?_⟩
    refine ⟨_, rfl, _, rfl, p, CN, dx, [], rfl, hp, T.cl, T.nA, (by show 0 < 1000; decide), ?_⟩
    refine ⟨_, rfl, _, rfl, p, CN, dx, _, rfl, upd_same, T.cl, T.nU, (by show 1 < 1000; decide), ?_⟩
    refine ⟨_, rfl, p, CN, dx, _, rfl, upd_same, T.cl, T.nS, (by show 2 < 1000; decide), ?_⟩
    refine ⟨_, rfl, p, CN, dx, _, rfl, upd_same, T.cl, T.nL, (by show 3 < 1000; decide), ?_⟩
    refine ⟨_, rfl, p, CN, dx, _, rfl, upd_same, T.cl, T.nK, (by show 4 < 1000; decide), ?_⟩
    rw [upd_upd, upd_upd, upd_upd, upd_upd]
    refine ⟨Nat.zero_le _, fun w' hw => ?_⟩
    have nwp : p ≠ w' := ne_of_none upd_same hw
    refine ⟨_, rfl, p, CN, dx, _, rfl, (upd_ne nwp).trans upd_same, T.cl, T.nW, (by show 5 < 1000; decide), ?_⟩
    refine ⟨_, rfl, _, rfl, p, CN, dx, _, rfl, upd_same, T.cl, T.nD, (by show 6 < 1000; decide), ?_⟩
    refine k _ w' ((upd_ne nwp.symm).symm.trans hw) ?_ upd_same fun b h1 h2 => ?_
    · rw [upd_ne nwp.symm, upd_ne nwp.symm, upd_same]
    · rw [upd_ne h1, upd_ne h1, upd_ne h2, upd_ne h1]
theorem scHasDue : FnScope ["self"] ["self"] (defScope sHasDue) := ⟨rfl, rfl, rfl, by decide +kernel, rfl, by decide +kernel, by decide +kernel⟩
theorem ok_hasDue {f : Addr} {fd : FuncData} (F : Fun K "has_due" "Neighbour.has_due" sHasDue f fd) (T : TN K mg CN) : FnOk P w K mg base CX0 1 f fd ["self"] (spHasDue CN) := by
  refine F.ok scHasDue (fun vs H Q E h => ?_) (fun cdv A outer s H vs Q E hr h => ?_)
  · obtain ⟨a, dx, w, n, rfl, _⟩ := h
    rfl
  · obtain ⟨a, dx, w, n, rfl, ha, k⟩ := h
    refine ⟨_, pss_one (ps_ret (pe_cmpR op_ne (pe_fld (pv 0) rfl) (pe_num rfl T.old) (nomark _))), ?_⟩
    refine ⟨_, rfl, a, CN, dx, _, _, rfl, ha, T.cl, T.nS, rfl, rfl, ?_⟩
    show Q (.bl (!decide (V.int n.st = V.int 3))) H
    rw [dnot_int]
    exact k
theorem scIsDue : FnScope ["self", "now"] ["self", "now"] (defScope sIsDue) := ⟨rfl, rfl, rfl, by decide +kernel, rfl, by decide +kernel, by decide +kernel⟩
theorem ok_isDue {f : Addr} {fd : FuncData} (F : Fun K "is_due" "Neighbour.is_due" sIsDue f fd) (T : TN K mg CN) (oH : OkM P w K mg base 1 CN "has_due" ["self"] (spHasDue CN)) : FnOk P w K mg base CX0 2 f fd ["self", "now"] (spIsDue CN) := by
  refine F.ok scIsDue (fun vs H Q E h => ?_) (fun cdv A outer s H vs Q E hr h => ?_)
  · obtain ⟨a, dx, w, n, now, rfl, _⟩ := h
    rfl
  · obtain ⟨a, dx, w, n, now, rfl, ha, k⟩ := h
    refine ⟨_, pss_one (ps_ret (pe_and (pe_methO0 oH T.cl hr (pv 0)) (pe_one (pe_cmpR op_le (pe_fld (pv 0) rfl) (pv 1) (nomark _))))), ?_⟩
    refine ⟨_, rfl, a, dx, _, rfl, ha, rfl, a, dx, w, n, rfl, ha, _, rfl, ?_⟩
    unfold isDue at k
    cases hd : hasDue n with
    | true =>
      rw [hd, Bool.true_and] at k
      rw [if_pos rfl]
      exact ⟨_, rfl, a, CN, dx, _, _, rfl, ha, T.cl, T.nD, rfl, _, rfl, _, _, rfl, rfl, k⟩
    | false =>
      rw [hd, Bool.false_and] at k
      exact iteF k
theorem scAwaited : FnScope ["self"] ["self"] (defScope sAwaited) := ⟨rfl, rfl, rfl, by decide +kernel, rfl, by decide +kernel, by decide +kernel⟩
theorem ok_awaited {f : Addr} {fd : FuncData} (F : Fun K "is_awaited" "Neighbour.is_awaited" sAwaited f fd) (T : TN K mg CN) : FnOk P w K mg base CX0 1 f fd ["self"] (spAwaited CN) := by
  refine F.ok scAwaited (fun vs H Q E h => ?_) (fun cdv A outer s H vs Q E hr h => ?_)
  · obtain ⟨a, dx, w, n, rfl, _⟩ := h
    rfl
  · obtain ⟨a, dx, w, n, rfl, ha, k⟩ := h
    refine ⟨_, pss_one (ps_ret (pe_or (pe_cmpR op_eq (pe_fld (pv 0) rfl) (pe_num rfl T.askedFor) (nomark _)) (pe_one (pe_cmpR op_eq (pe_fld (pv 0) rfl) (pe_num rfl T.again) (nomark _))))), ?_⟩
    refine ⟨_, rfl, a, CN, dx, _, _, rfl, ha, T.cl, T.nS, rfl, rfl, _, rfl, ?_⟩
    rw [deq_int]
    unfold isAwaited at k
    by_cases h1 : n.st = 1
    · rw [decide_eq_true h1, Bool.true_or] at k
      rw [decide_eq_true h1, if_pos rfl]
      exact k
    · rw [decide_eq_false h1, Bool.false_or] at k
      rw [decide_eq_false h1]
      refine iteF ⟨_, rfl, a, CN, dx, _, _, rfl, ha, T.cl, T.nS, rfl, rfl, ?_⟩
      show Q (.bl (decide (V.int n.st = V.int 4))) H
      rw [deq_int]
      exact k
theorem scNoteAsked : FnScope ["self", "now"] ["self", "now"] (defScope sNoteAsked) := ⟨rfl, rfl, rfl, by decide +kernel, rfl, by decide +kernel, by decide +kernel⟩
theorem ok_noteAsked {f : Addr} {fd : FuncData} (F : Fun K "note_asked" "Neighbour.note_asked" sNoteAsked f fd) (T : TN K mg CN) : FnOk P w K mg base CX0 1 f fd ["self", "now"] (spNoteAsked CN) := by
  refine F.ok scNoteAsked (fun vs H Q E h => ?_) (fun cdv A outer s H vs Q E hr h => ?_)
  · obtain ⟨a, dx, w, n, now, rfl, _⟩ := h
    rfl
  · obtain ⟨a, dx, w, n, now, rfl, ha, k⟩ := h
    refine ⟨_, pss_cons (ps_fldaug (pv 0) pe_int in_add) (pss_one (ps_fld (pv 0) (pe_op op_add (pv 1) (pe_num rfl T.askedTime)) rfl)), ?_⟩
    refine ⟨_, rfl, a, CN, dx, _, _, rfl, ha, T.cl, T.nK, rfl, _, _, rfl, rfl, dx, _, ha, (by show 7 < 1000; decide), ?_⟩
    refine ⟨_, rfl, _, _, rfl, rfl, _, rfl, a, CN, dx, _, rfl, upd_same, T.cl, T.nD, (by show 7 < 1000; decide), ?_⟩
    rw [upd_upd]
    exact k
theorem scBecKnown : FnScope ["self", "link_address", "now"] ["self", "link_address", "now"] (defScope sBecKnown) := ⟨rfl, rfl, rfl, by decide +kernel, rfl, by decide +kernel, by decide +kernel⟩
theorem ok_becKnown {f : Addr} {fd : FuncData} (F : Fun K "become_known" "Neighbour.become_known" sBecKnown f fd) (T : TN K mg CN) : FnOk P w K mg base CX0 1 f fd ["self", "link_address", "now"] (spBecKnown CN) := by
  refine F.ok scBecKnown (fun vs H Q E h => ?_) (fun cdv A outer s H vs Q E hr h => ?_)
  · obtain ⟨a, dx, w, n, la, now, rfl, _⟩ := h
    rfl
  · obtain ⟨a, dx, w, n, la, now, rfl, ha, k⟩ := h
    refine ⟨_, pss_cons (ps_fld (pv 0) (pe_num rfl T.known) rfl) (pss_cons (ps_fld (pv 0) (pv 1) rfl) (pss_one (ps_fld (pv 0) (pe_op op_add (pv 2) (pe_num rfl T.knownTime)) rfl))), ?_⟩
    refine ⟨_, rfl, a, CN, dx, _, rfl, ha, T.cl, T.nS, (by show 7 < 1000; decide), ?_⟩
    refine ⟨_, rfl, _, rfl, a, CN, dx, _, rfl, upd_same, T.cl, T.nL, (by show 7 < 1000; decide), ?_⟩
    refine ⟨_, rfl, _, _, rfl, rfl, _, rfl, a, CN, dx, _, rfl, upd_same, T.cl, T.nD, (by show 7 < 1000; decide), ?_⟩
    rw [upd_upd, upd_upd]
    exact k
theorem scBecOld : FnScope ["self"] ["self"] (defScope sBecOld) := ⟨rfl, rfl, rfl, by decide +kernel, rfl, by decide +kernel, by decide +kernel⟩
theorem ok_becOld {f : Addr} {fd : FuncData} (F : Fun K "become_old" "Neighbour.become_old" sBecOld f fd) (T : TN K mg CN) : FnOk P w K mg base CX0 1 f fd ["self"] (spBecOld CN) := by
  refine F.ok scBecOld (fun vs H Q E h => ?_) (fun cdv A outer s H vs Q E hr h => ?_)
  · obtain ⟨a, dx, w, n, rfl, _⟩ := h
    rfl
  · obtain ⟨a, dx, w, n, rfl, ha, k⟩ := h
    refine ⟨_, pss_one (ps_fld (pv 0) (pe_num rfl T.old) rfl), ?_⟩
    exact ⟨_, rfl, a, CN, dx, _, rfl, ha, T.cl, T.nS, (by show 7 < 1000; decide), k⟩
theorem scBecAgain : FnScope ["self"] ["self"] (defScope sBecAgain) := ⟨rfl, rfl, rfl, by decide +kernel, rfl, by decide +kernel, by decide +kernel⟩
theorem ok_becAgain {f : Addr} {fd : FuncData} (F : Fun K "become_asked_again" "Neighbour.become_asked_again" sBecAgain f fd) (T : TN K mg CN) : FnOk P w K mg base CX0 1 f fd ["self"] (spBecAgain CN) := by
  refine F.ok scBecAgain (fun vs H Q E h => ?_) (fun cdv A outer s H vs Q E hr h => ?_)
  · obtain ⟨a, dx, w, n, rfl, _⟩ := h
    rfl
  · obtain ⟨a, dx, w, n, rfl, ha, k⟩ := h
    refine ⟨_, pss_cons (ps_fld (pv 0) (pe_num rfl T.again) rfl) (pss_one (ps_fld (pv 0) pe_int rfl)), ?_⟩
    refine ⟨_, rfl, a, CN, dx, _, rfl, ha, T.cl, T.nS, (by show 7 < 1000; decide), ?_⟩
    refine ⟨_, rfl, a, CN, dx, _, rfl, upd_same, T.cl, T.nK, (by show 7 < 1000; decide), ?_⟩
    rw [upd_upd]
    exact k
theorem scTakeWait : FnScope ["self", "packets"] ["self"] (defScope sTakeWait) := ⟨rfl, rfl, rfl, by decide +kernel, rfl, by decide +kernel, by decide +kernel⟩
theorem ok_takeWait {f : Addr} {fd : FuncData} (F : Fun K "take_waiting" "Neighbour.take_waiting" sTakeWait f fd) (T : TN K mg CN) : FnOk P w K mg base CX0 1 f fd ["self"] (spTakeWait CN) := by
  refine F.ok scTakeWait (fun vs H Q E h => ?_) (fun cdv A outer s H vs Q E hr h => ?_)
  · obtain ⟨a, dx, w, n, rfl, _⟩ := h
    rfl
  · obtain ⟨a, dx, w, n, rfl, ha, k⟩ := h
    refine ⟨_, pss_cons (ps_set (i := 1) scTakeWait.nd rfl (Or.inl rfl) (pe_fld (pv 0) rfl)) (pss_cons (ps_fld (pv 0) (pe_lst pa_nil) rfl) (pss_one (ps_ret (pv 1)))), ?_⟩
    refine ⟨_, rfl, a, CN, dx, _, _, rfl, ha, T.cl, T.nW, rfl, ?_⟩
    refine ⟨Nat.zero_le _, fun w' hw => ?_⟩
    refine ⟨_, rfl, a, CN, dx, _, rfl, (upd_ne (ne_of_none ha hw)).trans ha, T.cl, T.nW, (by show 7 < 1000; decide), ?_⟩
    exact ⟨_, rfl, k w' hw⟩
end
end Nb
set_option Elab.async false
set_option linter.all false
set_option maxRecDepth 100000
set_option maxHeartbeats 4000000
namespace Nb
open PySem PySem.Spec PyProof.Rows L2
abbrev sWInit : Stmt := inClass (top 34) 0
abbrev sPass : Stmt := inClass (top 34) 1
abbrev sSendMsg : Stmt := inClass (top 34) 2
abbrev sDropP : Stmt := inClass (top 34) 3
abbrev sTellKnown : Stmt := inClass (top 34) 4
abbrev sTellLost : Stmt := inClass (top 34) 5
abbrev sTellOurs : Stmt := inClass (top 34) 6
abbrev sTold : Stmt := inClass (top 34) 7
structure TWd (K : PySem.W.Frag) (mg : Str → Option Value) (CW : Addr) : Prop where
  cl : Cls K CW
  nT : NoAttr K CW "things"
  passed : Num mg "PASSED" 1
  sent : Num mg "SENT" 2
  dropped : Num mg "DROPPED" 3
  knownNow : Num mg "KNOWN_NOW" 4
  lost : Num mg "LOST" 5
  ours : Num mg "OURS_TAKEN" 6
  len : mg "len" = none
structure WAt (CW : Addr) (H : Hp) (wa tl : Addr) (ts : List Addr) (things : List (List Int)) : Prop where
  obj : ∃ dx, H wa = some (.ins CW dx [("things", .ref tl)])
  lst : H tl = some (.lst (ts.map V.ref))
  len : ts.length = things.length
  ne : ∀ t ∈ ts, t ≠ tl
  at_ : ∀ (j : Nat) (t : Addr) (th : List Int), ts[j]? = some t → things[j]? = some th → H t = some (.lst (th.map V.int))
def KeepB (x : Addr) (H H' : Hp) : Prop := ∀ b o, H b = some o → b ≠ x → H' b = some o
def Tells (CW : Addr) (H : Hp) (wa tl : Addr) (ts : List Addr) (things : List (List Int)) (th : List Int) (Q : VK) : Prop :=
  ∀ (H' : Hp) (t : Addr), H t = none → WAt CW H' wa tl (ts ++ [t]) (things ++ [th]) → KeepB tl H H' → Q .non H'
def spWInit (CW : Addr) : Sp := fun vs H Q _ => ∃ (p dx : Addr), vs = [.ref p] ∧ H p = some (.ins CW dx []) ∧ ∀ (H' : Hp) (tl : Addr), H tl = none → WAt CW H' p tl [] [] → KeepB p H H' → Q .non H'
def spPass (CW : Addr) : Sp := fun vs H Q _ => ∃ (wa tl : Addr) (ts : List Addr) (things : List (List Int)) (x y : Int), vs = [.ref wa, .int x, .int y] ∧ WAt CW H wa tl ts things ∧ things.length ≤ 100000 ∧ Tells CW H wa tl ts things [1, x, y] Q
def spDropP (CW : Addr) : Sp := fun vs H Q _ => ∃ (wa tl : Addr) (ts : List Addr) (things : List (List Int)) (x y : Int), vs = [.ref wa, .int x, .int y] ∧ WAt CW H wa tl ts things ∧ things.length ≤ 100000 ∧ Tells CW H wa tl ts things [3, x, y] Q
def spTellKnown (CW : Addr) : Sp := fun vs H Q _ => ∃ (wa tl : Addr) (ts : List Addr) (things : List (List Int)) (x y : Int), vs = [.ref wa, .int x, .int y] ∧ WAt CW H wa tl ts things ∧ things.length ≤ 100000 ∧ Tells CW H wa tl ts things [4, x, y] Q
def spTellLost (CW : Addr) : Sp := fun vs H Q _ => ∃ (wa tl : Addr) (ts : List Addr) (things : List (List Int)) (x : Int), vs = [.ref wa, .int x] ∧ WAt CW H wa tl ts things ∧ things.length ≤ 100000 ∧ Tells CW H wa tl ts things [5, x] Q
def spTellOurs (CW : Addr) : Sp := fun vs H Q _ => ∃ (wa tl : Addr) (ts : List Addr) (things : List (List Int)) (x : Int), vs = [.ref wa, .int x] ∧ WAt CW H wa tl ts things ∧ things.length ≤ 100000 ∧ Tells CW H wa tl ts things [6, x] Q
def spSendMsg (CW CM : Addr) : Sp := fun vs H Q _ => ∃ (wa tl : Addr) (ts : List Addr) (things : List (List Int)) (x : Int) (m dm : Addr) (w l a b : Int), vs = [.ref wa, .int x, .ref m] ∧ WAt CW H wa tl ts things ∧ things.length ≤ 100000 ∧ H m = some (.ins CM dm (mf w l a b)) ∧ Tells CW H wa tl ts things (2 :: x :: writeI w l a b) Q
def toldI (things : List (List Int)) : List Int := (things.length : Int) :: things.flatten
def spTold (CW : Addr) : Sp := fun vs H Q _ => ∃ (wa tl : Addr) (ts : List Addr) (things : List (List Int)), vs = [.ref wa] ∧ WAt CW H wa tl ts things ∧ things.flatten.length ≤ 10000000 ∧
  ∀ (H' : Hp) (p : Addr), Same H H' → H p = none → H' p = some (.lst ((toldI things).map V.int)) → Q (.ref p) H'
theorem WAt.more {CW : Addr} {H H' : Hp} {wa tl t : Addr} {ts : List Addr} {things : List (List Int)} {th : List Int} (W : WAt CW H wa tl ts things) (ht : H t = none) (hl : H' tl = some (.lst (ts.map V.ref ++ [.ref t]))) (hth : H' t = some (.lst (th.map V.int))) (k : KeepB tl H H') :
    WAt CW H' wa tl (ts ++ [t]) (things ++ [th]) := by
  obtain ⟨dx, ho⟩ := W.obj
  refine ⟨⟨dx, k _ _ ho (ne_of ho W.lst (by intro z; cases z))⟩, by rw [hl, List.map_append]; rfl, by rw [List.length_append, List.length_append, W.len]; rfl, fun x hx => ?_, fun j x y hx hy => ?_⟩
  · rcases List.mem_append.mp hx with hx | hx
    · exact W.ne x hx
    · rw [List.mem_singleton.mp hx]
      exact (ne_of_none W.lst ht).symm
  · by_cases hj : j < ts.length
    · rw [List.getElem?_append_left hj] at hx
      rw [List.getElem?_append_left (by rw [← W.len]; exact hj)] at hy
      exact k _ _ (W.at_ j x y hx hy) (W.ne x (List.mem_of_getElem? hx))
    · rw [List.getElem?_append_right (by omega)] at hx
      rw [List.getElem?_append_right (by rw [← W.len]; omega)] at hy
      have e0 : j - ts.length = 0 := by
        have := (List.getElem?_eq_some_iff.mp hx).1
        simp at this
        omega
      rw [e0] at hx
      rw [← W.len, e0] at hy
      obtain rfl : t = x := Option.some.inj hx
      obtain rfl : th = y := Option.some.inj hy
      exact hth
section
variable {P : Program} {w : World} {K : PySem.W.Frag} {mg : Str → Option Value} {base : Heap} {CW CM : Addr}
theorem scWInit : FnScope ["self"] ["self"] (defScope sWInit) := ⟨rfl, rfl, rfl, by decide +kernel, rfl, by decide +kernel, by decide +kernel⟩
theorem ok_wInit {f : Addr} {fd : FuncData} (F : Fun K "__init__" "Wanted.__init__" sWInit f fd) (T : TWd K mg CW) : FnOk P w K mg base CX0 1 f fd ["self"] (spWInit CW) := by
  refine F.ok scWInit (fun vs H Q E h => ?_) (fun cdv A outer s H vs Q E hr h => ?_)
  · obtain ⟨p, dx, rfl, _⟩ := h
    rfl
  · obtain ⟨p, dx, rfl, hp, k⟩ := h
    refine ⟨_, pss_one (ps_fld (pv 0) (pe_lst pa_nil) rfl), ?_⟩
    refine ⟨Nat.zero_le _, fun tl htl => ?_⟩
    have npt : p ≠ tl := ne_of_none hp htl
    refine ⟨_, rfl, p, CW, dx, _, rfl, (upd_ne npt).trans hp, T.cl, T.nT, (by show 0 < 1000; decide), ?_⟩
    refine k _ tl htl ⟨⟨dx, upd_same⟩, (upd_ne npt.symm).trans upd_same, rfl, fun t ht => by simp at ht, fun j t th e => by simp at e⟩ fun b o e hb => ?_
    rw [upd_ne hb, upd_ne (ne_of_none e htl)]
    exact e
theorem app_thing {H : Hp} {wa tl : Addr} {ts : List Addr} {things : List (List Int)} {th : List Int} {Q : VK} (W : WAt CW H wa tl ts things) (h : Tells CW H wa tl ts things th Q) (t : Addr) (ht : H t = none) :
    Q .non (upd (upd H t (.lst (th.map V.int))) tl (.lst (ts.map V.ref ++ [.ref t]))) := by
  have ntl : tl ≠ t := ne_of_none W.lst ht
  have kb : KeepB tl H (upd (upd H t (.lst (th.map V.int))) tl (.lst (ts.map V.ref ++ [.ref t]))) := fun b o e hb => by
    rw [upd_ne hb, upd_ne (ne_of_none e ht)]
    exact e
  exact h _ t ht (W.more ht upd_same ((upd_ne ntl.symm).trans upd_same) kb) kb
theorem scPass : FnScope ["self", "packet", "link_address"] ["self", "packet", "link_address"] (defScope sPass) := ⟨rfl, rfl, rfl, by decide +kernel, rfl, by decide +kernel, by decide +kernel⟩
theorem small5 {n : Nat} (h : n ≤ 100000) : n < sizeLine := by rw [sizeLine_eq]; omega
theorem ok_pass {f : Addr} {fd : FuncData} (F : Fun K "pass_packet" "Wanted.pass_packet" sPass f fd) (T : TWd K mg CW) : FnOk P w K mg base CX0 1 f fd ["self", "packet", "link_address"] (spPass CW) := by
  refine F.ok scPass (fun vs H Q E h => ?_) (fun cdv A outer s H vs Q E hr h => ?_)
  · obtain ⟨wa, tl, ts, things, x, y, rfl, _⟩ := h
    rfl
  · obtain ⟨wa, tl, ts, things, x, y, rfl, W, hlen, k⟩ := h
    obtain ⟨dx, ho⟩ := W.obj
    refine ⟨_, pss_one (ps_expr (pe_bm PySem.F.plainAttrs_list PySem.F.slot_list_append PySem.F.type_list_append mt_append (pe_fld (pv 0) rfl) (pa_cons (pe_lst (pa_cons (pe_num rfl T.passed) (pa_cons (pv 1) (pa_cons (pv 2) pa_nil)))) pa_nil))), ?_⟩
    refine ⟨_, rfl, wa, CW, dx, _, _, rfl, ho, T.cl, T.nT, rfl, .inl ⟨rfl, _, SqL.of W.lst⟩, _, rfl, _, rfl, (by show 3 ≤ sizeLine; decide), fun t ht => ?_⟩
    refine ⟨tl, _, _, rfl, rfl, (upd_ne (ne_of_none W.lst ht)).trans W.lst, (by rw [List.length_map, W.len]; exact small5 hlen), ?_⟩
    exact app_thing W k t ht
theorem scDropP : FnScope ["self", "packet", "why"] ["self", "packet", "why"] (defScope sDropP) := ⟨rfl, rfl, rfl, by decide +kernel, rfl, by decide +kernel, by decide +kernel⟩
theorem ok_drop {f : Addr} {fd : FuncData} (F : Fun K "drop_packet" "Wanted.drop_packet" sDropP f fd) (T : TWd K mg CW) : FnOk P w K mg base CX0 1 f fd ["self", "packet", "why"] (spDropP CW) := by
  refine F.ok scDropP (fun vs H Q E h => ?_) (fun cdv A outer s H vs Q E hr h => ?_)
  · obtain ⟨wa, tl, ts, things, x, y, rfl, _⟩ := h
    rfl
  · obtain ⟨wa, tl, ts, things, x, y, rfl, W, hlen, k⟩ := h
    obtain ⟨dx, ho⟩ := W.obj
    refine ⟨_, pss_one (ps_expr (pe_bm PySem.F.plainAttrs_list PySem.F.slot_list_append PySem.F.type_list_append mt_append (pe_fld (pv 0) rfl) (pa_cons (pe_lst (pa_cons (pe_num rfl T.dropped) (pa_cons (pv 1) (pa_cons (pv 2) pa_nil)))) pa_nil))), ?_⟩
    refine ⟨_, rfl, wa, CW, dx, _, _, rfl, ho, T.cl, T.nT, rfl, .inl ⟨rfl, _, SqL.of W.lst⟩, _, rfl, _, rfl, (by show 3 ≤ sizeLine; decide), fun t ht => ?_⟩
    refine ⟨tl, _, _, rfl, rfl, (upd_ne (ne_of_none W.lst ht)).trans W.lst, (by rw [List.length_map, W.len]; exact small5 hlen), ?_⟩
    exact app_thing W k t ht
theorem scTellKnown : FnScope ["self", "address", "link_address"] ["self", "address", "link_address"] (defScope sTellKnown) := ⟨rfl, rfl, rfl, by decide +kernel, rfl, by decide +kernel, by decide +kernel⟩
theorem ok_tellKnown {f : Addr} {fd : FuncData} (F : Fun K "tell_known" "Wanted.tell_known" sTellKnown f fd) (T : TWd K mg CW) : FnOk P w K mg base CX0 1 f fd ["self", "address", "link_address"] (spTellKnown CW) := by
  refine F.ok scTellKnown (fun vs H Q E h => ?_) (fun cdv A outer s H vs Q E hr h => ?_)
  · obtain ⟨wa, tl, ts, things, x, y, rfl, _⟩ := h
    rfl
  · obtain ⟨wa, tl, ts, things, x, y, rfl, W, hlen, k⟩ := h
    obtain ⟨dx, ho⟩ := W.obj
    refine ⟨_, pss_one (ps_expr (pe_bm PySem.F.plainAttrs_list PySem.F.slot_list_append PySem.F.type_list_append mt_append (pe_fld (pv 0) rfl) (pa_cons (pe_lst (pa_cons (pe_num rfl T.knownNow) (pa_cons (pv 1) (pa_cons (pv 2) pa_nil)))) pa_nil))), ?_⟩
    refine ⟨_, rfl, wa, CW, dx, _, _, rfl, ho, T.cl, T.nT, rfl, .inl ⟨rfl, _, SqL.of W.lst⟩, _, rfl, _, rfl, (by show 3 ≤ sizeLine; decide), fun t ht => ?_⟩
    refine ⟨tl, _, _, rfl, rfl, (upd_ne (ne_of_none W.lst ht)).trans W.lst, (by rw [List.length_map, W.len]; exact small5 hlen), ?_⟩
    exact app_thing W k t ht
theorem scTellLost : FnScope ["self", "address"] ["self", "address"] (defScope sTellLost) := ⟨rfl, rfl, rfl, by decide +kernel, rfl, by decide +kernel, by decide +kernel⟩
theorem ok_tellLost {f : Addr} {fd : FuncData} (F : Fun K "tell_lost" "Wanted.tell_lost" sTellLost f fd) (T : TWd K mg CW) : FnOk P w K mg base CX0 1 f fd ["self", "address"] (spTellLost CW) := by
  refine F.ok scTellLost (fun vs H Q E h => ?_) (fun cdv A outer s H vs Q E hr h => ?_)
  · obtain ⟨wa, tl, ts, things, x, rfl, _⟩ := h
    rfl
  · obtain ⟨wa, tl, ts, things, x, rfl, W, hlen, k⟩ := h
    obtain ⟨dx, ho⟩ := W.obj
    refine ⟨_, pss_one (ps_expr (pe_bm PySem.F.plainAttrs_list PySem.F.slot_list_append PySem.F.type_list_append mt_append (pe_fld (pv 0) rfl) (pa_cons (pe_lst (pa_cons (pe_num rfl T.lost) (pa_cons (pv 1) pa_nil))) pa_nil))), ?_⟩
    refine ⟨_, rfl, wa, CW, dx, _, _, rfl, ho, T.cl, T.nT, rfl, .inl ⟨rfl, _, SqL.of W.lst⟩, _, rfl, (by show 2 ≤ sizeLine; decide), fun t ht => ?_⟩
    refine ⟨tl, _, _, rfl, rfl, (upd_ne (ne_of_none W.lst ht)).trans W.lst, (by rw [List.length_map, W.len]; exact small5 hlen), ?_⟩
    exact app_thing W k t ht
theorem scTellOurs : FnScope ["self", "link_address"] ["self", "link_address"] (defScope sTellOurs) := ⟨rfl, rfl, rfl, by decide +kernel, rfl, by decide +kernel, by decide +kernel⟩
theorem ok_tellOurs {f : Addr} {fd : FuncData} (F : Fun K "tell_ours_taken" "Wanted.tell_ours_taken" sTellOurs f fd) (T : TWd K mg CW) : FnOk P w K mg base CX0 1 f fd ["self", "link_address"] (spTellOurs CW) := by
  refine F.ok scTellOurs (fun vs H Q E h => ?_) (fun cdv A outer s H vs Q E hr h => ?_)
  · obtain ⟨wa, tl, ts, things, x, rfl, _⟩ := h
    rfl
  · obtain ⟨wa, tl, ts, things, x, rfl, W, hlen, k⟩ := h
    obtain ⟨dx, ho⟩ := W.obj
    refine ⟨_, pss_one (ps_expr (pe_bm PySem.F.plainAttrs_list PySem.F.slot_list_append PySem.F.type_list_append mt_append (pe_fld (pv 0) rfl) (pa_cons (pe_lst (pa_cons (pe_num rfl T.ours) (pa_cons (pv 1) pa_nil))) pa_nil))), ?_⟩
    refine ⟨_, rfl, wa, CW, dx, _, _, rfl, ho, T.cl, T.nT, rfl, .inl ⟨rfl, _, SqL.of W.lst⟩, _, rfl, (by show 2 ≤ sizeLine; decide), fun t ht => ?_⟩
    refine ⟨tl, _, _, rfl, rfl, (upd_ne (ne_of_none W.lst ht)).trans W.lst, (by rw [List.length_map, W.len]; exact small5 hlen), ?_⟩
    exact app_thing W k t ht
theorem writeI_len (w l a b : Int) : (writeI w l a b).length = 20 := by
  unfold writeI
  simp only [List.length_append, splitI_len]
theorem scSendMsg : FnScope ["self", "link_address", "message", "thing"] ["self", "link_address", "message"] (defScope sSendMsg) := ⟨rfl, rfl, rfl, by decide +kernel, rfl, by decide +kernel, by decide +kernel⟩
theorem ok_sendMsg {f : Addr} {fd : FuncData} (F : Fun K "send_message" "Wanted.send_message" sSendMsg f fd) (T : TWd K mg CW) (oW : Ok P w K mg base 2 "write_message" ["message"] (spWrite CM)) : FnOk P w K mg base CX0 3 f fd ["self", "link_address", "message"] (spSendMsg CW CM) := by
  refine F.ok scSendMsg (fun vs H Q E h => ?_) (fun cdv A outer s H vs Q E hr h => ?_)
  · obtain ⟨wa, tl, ts, things, x, m, dm, w, l, a, b, rfl, _⟩ := h
    rfl
  · obtain ⟨wa, tl, ts, things, x, m, dm, w, l, a, b, rfl, W, hlen, hm, k⟩ := h
    obtain ⟨dx, ho⟩ := W.obj
    refine ⟨_, pss_cons (ps_set (i := 3) scSendMsg.nd rfl (Or.inl rfl) (pe_lst (pa_cons (pe_num rfl T.sent) (pa_cons (pv 1) pa_nil))))
      (pss_cons (ps_expr (pe_bm PySem.F.plainAttrs_list PySem.F.slot_list_extend PySem.F.type_list_extend mt_extend (pv 3) (pa_cons (pe_callO oW hr rfl (pa_cons (pv 2) pa_nil)) pa_nil)))
      (pss_one (ps_expr (pe_bm PySem.F.plainAttrs_list PySem.F.slot_list_append PySem.F.type_list_append mt_append (pe_fld (pv 0) rfl) (pa_cons (pv 3) pa_nil))))), ?_⟩
    refine ⟨_, rfl, (by show 2 ≤ sizeLine; decide), fun t ht => ?_⟩
    have S1 : Same H (upd H t (.lst [.int 2, .int x])) := (Same.refl H).upd_free ht
    have h1 : upd H t (.lst [.int 2, .int x]) t = some (.lst [.int 2, .int x]) := upd_same
    generalize upd H t (.lst [.int 2, .int x]) = H1 at S1 h1 ⊢
    refine ⟨_, rfl, .inl ⟨rfl, _, SqL.of h1⟩, _, rfl, m, dm, w, l, a, b, rfl, S1 _ _ hm, fun H2 p S2 np hp2 => ?_⟩
    have h2 := S2 _ _ h1
    refine ⟨t, p, _, _, rfl, rfl, h2, hp2, (by rw [List.length_map, writeI_len]; show 2 + 20 ≤ sizeLine; decide), ?_⟩
    have S3 : Same H (upd H2 t (.lst ([.int 2, .int x] ++ (writeI w l a b).map V.int))) := (S1.trans S2).upd_free ht
    have h3 : upd H2 t (.lst ([.int 2, .int x] ++ (writeI w l a b).map V.int)) t = some (.lst ((2 :: x :: writeI w l a b).map V.int)) := upd_same
    generalize upd H2 t (.lst ([.int 2, .int x] ++ (writeI w l a b).map V.int)) = H3 at S3 h3 ⊢
    refine ⟨_, rfl, wa, CW, dx, _, _, rfl, S3 _ _ ho, T.cl, T.nT, rfl, .inl ⟨rfl, _, SqL.of (S3 _ _ W.lst)⟩, _, rfl, tl, _, _, rfl, rfl, S3 _ _ W.lst, (by rw [List.length_map, W.len]; exact small5 hlen), ?_⟩
    have kb : KeepB tl H (upd H3 tl (.lst (ts.map V.ref ++ [.ref t]))) := fun b o e hb => by
      rw [upd_ne hb]
      exact S3 _ _ e
    exact k _ t ht (W.more ht upd_same ((upd_ne (ne_of_none W.lst ht).symm).trans h3) kb) kb
theorem scTold : FnScope ["self", "numbers", "thing"] ["self"] (defScope sTold) := ⟨rfl, rfl, rfl, by decide +kernel, rfl, by decide +kernel, by decide +kernel⟩
theorem flat_take {l : List (List Int)} {i : Nat} {x : List Int} (h : l[i]? = some x) : (l.take (i + 1)).flatten = (l.take i).flatten ++ x := by
  rw [List.take_add_one, h]
  simp
theorem flat_le : ∀ (l : List (List Int)) (i : Nat), (l.take i).flatten.length ≤ l.flatten.length
  | [], i => by simp
  | x :: l, 0 => by simp
  | x :: l, i + 1 => by
    have := flat_le l i
    simp only [List.take_succ_cons, List.flatten_cons, List.length_append]
    omega
theorem ok_told {f : Addr} {fd : FuncData} (F : Fun K "told" "Wanted.told" sTold f fd) (T : TWd K mg CW) : FnOk P w K mg base CX0 1 f fd ["self"] (spTold CW) := by
  refine F.ok scTold (fun vs H Q E h => ?_) (fun cdv A outer s H vs Q E hr h => ?_)
  · obtain ⟨wa, tl, ts, things, rfl, _⟩ := h
    rfl
  · obtain ⟨wa, tl, ts, things, rfl, W, hlen, k⟩ := h
    obtain ⟨dx, ho⟩ := W.obj
    refine ⟨_, pss_cons (ps_set (i := 1) scTold.nd rfl (Or.inl rfl) (pe_lst (pa_cons (pe_callB call_len_seq (by rfl) T.len PySem.boot_len (pa_cons (pe_fld (pv 0) rfl) pa_nil)) pa_nil)))
      (pss_cons (ps_for PassesOwn.never rfl (pi_list (pe_fld (pv 0) rfl)) (pg_name (i := 2) scTold.nd rfl (Or.inl rfl)) (pss_one (ps_expr (pe_bm PySem.F.plainAttrs_list PySem.F.slot_list_extend PySem.F.type_list_extend mt_extend (pv 1) (pa_cons (pv 2) pa_nil)))))
      (pss_one (ps_ret (pv 1)))), ?_⟩
    refine ⟨_, rfl, wa, CW, dx, _, _, rfl, ho, T.cl, T.nT, rfl, tl, _, rfl, .inl (SqL.of W.lst), (by show 1 ≤ sizeLine; decide), fun p hp => ?_⟩
    rw [List.length_map, W.len]
    have S1 : Same H (upd H p (.lst [.int ((things.length : Nat) : Int)])) := (Same.refl H).upd_free hp
    have h1 : upd H p (.lst [.int ((things.length : Nat) : Int)]) p = some (.lst [.int ((things.length : Nat) : Int)]) := upd_same
    generalize upd H p (.lst [.int ((things.length : Nat) : Int)]) = H1 at S1 h1 ⊢
    refine ⟨_, rfl, wa, CW, dx, _, _, rfl, S1 _ _ ho, T.cl, T.nT, rfl, tl, rfl, ⟨_, SqL.of (S1 _ _ W.lst)⟩, for_list (K := K) (a := tl) (xs := ts.map V.ref) (fun i σ H' => ∃ v : Option V, σ = [some (.ref wa), some (.ref p), v] ∧ Same H H' ∧ H' p = some (.lst ((((things.length : Nat) : Int) :: (things.take i).flatten).map V.int)))
      ⟨none, rfl, S1, h1⟩ (fun i σ H' _ ⟨_, _, S2, _⟩ => SqL.of (S2 _ _ W.lst)) ?_ ?_⟩
    · rintro i y σ H' hi ⟨v, rfl, S2, h2⟩
      rw [List.getElem?_map] at hi
      cases e : ts[i]? with
      | none =>
        rw [e] at hi
        cases hi
      | some t =>
        rw [e] at hi
        obtain rfl : V.ref t = y := Option.some.inj hi
        have hil : i < things.length := by
          rw [← W.len]
          exact (List.getElem?_eq_some_iff.mp e).1
        obtain ⟨th, hth⟩ : ∃ th, things[i]? = some th := ⟨_, List.getElem?_eq_getElem hil⟩
        have ht := S2 _ _ (W.at_ i t th e hth)
        have l1 := flat_le things (i + 1)
        rw [flat_take hth, List.length_append] at l1
        refine ⟨_, rfl, .inl ⟨rfl, _, SqL.of h2⟩, _, rfl, p, t, _, _, rfl, rfl, h2, ht, (by simp only [List.length_map, List.length_cons]; rw [sizeLine_eq]; omega), ?_⟩
        refine ⟨some (.ref t), rfl, S2.upd_free hp, ?_⟩
        rw [upd_same, flat_take hth, ← List.map_append]
        rfl
    · rintro σ H' ⟨v, rfl, S2, h2⟩
      rw [List.length_map, W.len, List.take_length] at h2
      exact ⟨_, rfl, k H' p S2 hp h2⟩
end
end Nb
set_option Elab.async false
set_option linter.all false
set_option maxRecDepth 100000
set_option maxHeartbeats 4000000
namespace Nb
open PySem PySem.Spec PyProof.Rows L2
def lf (mac addr now : Int) (d : Addr) : List (Str × V) := [("link_address", .int mac), ("address", .int addr), ("now", .int now), ("neighbours", .ref d)]
structure Cell where
  a : Addr
  dx : Addr
  w : Addr
  n : Nbr
def setC (cs : List Cell) (c : Cell) : List Cell := cs.map fun x => if x.n.addr = c.n.addr then c else x
def dropC (cs : List Cell) (ad : Int) : List Cell := cs.filter fun x => decide (x.n.addr ≠ ad)
abbrev kvs (cs : List Cell) : List (Key × V) := cs.map fun c => (Sum.inl c.n.addr, V.ref c.a)
structure LAt (CL CN : Addr) (H : Hp) (L dL d : Addr) (mac addr now : Int) (cs : List Cell) : Prop where
  obj : H L = some (.ins CL dL (lf mac addr now d))
  dct : H d = some (.dK (kvs cs))
  nd : (cs.map (·.n.addr)).Nodup
  nda : (cs.map (·.a)).Nodup
  ndw : (cs.map (·.w)).Nodup
  at_ : ∀ c ∈ cs, H c.a = some (.ins CN c.dx (nf c.n c.w)) ∧ H c.w = some (.lst (c.n.wait.map V.int))
  len : cs.length ≤ 256
  wl : ∀ c ∈ cs, c.n.wait.length ≤ 4
def lfp (L d : Addr) (cs : List Cell) : List Addr := L :: d :: cs.flatMap fun c => [c.a, c.w]
theorem mem_lfp {L d b : Addr} {cs : List Cell} : b ∈ lfp L d cs ↔ b = L ∨ b = d ∨ ∃ c ∈ cs, b = c.a ∨ b = c.w := by
  unfold lfp
  simp only [List.mem_cons, List.mem_flatMap, List.not_mem_nil, or_false]
def KeepL (xs : List Addr) (H H' : Hp) : Prop := ∀ b o, H b = some o → b ∉ xs → H' b = some o
structure Kp (fp fp' : List Addr) (H H' : Hp) : Prop where
  keep : KeepL fp H H'
  fresh : ∀ b ∈ fp', b ∈ fp ∨ H b = none
theorem Kp.out {fp fp' : List Addr} {H H' : Hp} (k : Kp fp fp' H H') {b : Addr} {o : HO} (e : H b = some o) (hb : b ∉ fp) : H' b = some o ∧ b ∉ fp' :=
  ⟨k.keep b o e hb, fun z => by
    rcases k.fresh b z with z | z
    · exact hb z
    · rw [e] at z
      cases z⟩
theorem Kp.trans {fp fp1 fp2 : List Addr} {H H1 H2 : Hp} (k : Kp fp fp1 H H1) (k' : Kp fp1 fp2 H1 H2) : Kp fp fp2 H H2 := by
  refine ⟨fun b o e hb => ?_, fun b hb => ?_⟩
  · obtain ⟨e1, n1⟩ := k.out e hb
    exact k'.keep b o e1 n1
  · rcases k'.fresh b hb with z | z
    · exact k.fresh b z
    · by_cases hf : b ∈ fp
      · exact .inl hf
      · refine .inr ?_
        cases q : H b with
        | none => rfl
        | some o =>
          rw [(k.out q hf).1] at z
          cases z
theorem Kp.same {fp : List Addr} {H H' : Hp} (S : Same H H') : Kp fp fp H H' := ⟨fun b o e _ => S b o e, fun b hb => .inl hb⟩
theorem Kp.refl {fp : List Addr} {H : Hp} : Kp fp fp H H := Kp.same (Same.refl H)
section
variable {CL CN : Addr} {H H' : Hp} {L dL d : Addr} {mac addr now : Int} {cs : List Cell}
theorem LAt.stay (A : LAt CL CN H L dL d mac addr now cs) (k : ∀ b o, b ∈ lfp L d cs → H b = some o → H' b = some o) : LAt CL CN H' L dL d mac addr now cs :=
  ⟨k _ _ (mem_lfp.mpr (.inl rfl)) A.obj, k _ _ (mem_lfp.mpr (.inr (.inl rfl))) A.dct, A.nd, A.nda, A.ndw,
    fun c hc => ⟨k _ _ (mem_lfp.mpr (.inr (.inr ⟨c, hc, .inl rfl⟩))) (A.at_ c hc).1, k _ _ (mem_lfp.mpr (.inr (.inr ⟨c, hc, .inr rfl⟩))) (A.at_ c hc).2⟩, A.len, A.wl⟩
theorem LAt.same (A : LAt CL CN H L dL d mac addr now cs) (S : Same H H') : LAt CL CN H' L dL d mac addr now cs := A.stay fun b o _ e => S b o e
theorem LAt.there (A : LAt CL CN H L dL d mac addr now cs) {b : Addr} (h : b ∈ lfp L d cs) : ∃ o, H b = some o := by
  rcases mem_lfp.mp h with rfl | rfl | ⟨c, hc, rfl | rfl⟩
  · exact ⟨_, A.obj⟩
  · exact ⟨_, A.dct⟩
  · exact ⟨_, (A.at_ c hc).1⟩
  · exact ⟨_, (A.at_ c hc).2⟩
theorem LAt.Ld (A : LAt CL CN H L dL d mac addr now cs) : L ≠ d := ne_of A.obj A.dct (by intro z; cases z)
theorem ins_ne {C dx C' dx' : Addr} {n : Nbr} {w : Addr} {f : List (Str × V)} (h : f.length ≠ 7) : HO.ins C dx f ≠ HO.ins C' dx' (nf n w) := fun z => by
  injection z with _ _ z
  exact h (by rw [z]; rfl)
theorem LAt.La (A : LAt CL CN H L dL d mac addr now cs) {c : Cell} (hc : c ∈ cs) : L ≠ c.a := ne_of A.obj (A.at_ c hc).1 (ins_ne (by show 4 ≠ 7; decide))
theorem LAt.Lw (A : LAt CL CN H L dL d mac addr now cs) {c : Cell} (hc : c ∈ cs) : L ≠ c.w := ne_of A.obj (A.at_ c hc).2 (by intro z; cases z)
theorem LAt.da (A : LAt CL CN H L dL d mac addr now cs) {c : Cell} (hc : c ∈ cs) : d ≠ c.a := ne_of A.dct (A.at_ c hc).1 (by intro z; cases z)
theorem LAt.dw (A : LAt CL CN H L dL d mac addr now cs) {c : Cell} (hc : c ∈ cs) : d ≠ c.w := ne_of A.dct (A.at_ c hc).2 (by intro z; cases z)
theorem LAt.aw (A : LAt CL CN H L dL d mac addr now cs) {c c' : Cell} (hc : c ∈ cs) (hc' : c' ∈ cs) : c.a ≠ c'.w := ne_of (A.at_ c hc).1 (A.at_ c' hc').2 (by intro z; cases z)
theorem nd_inj {α β : Type} {f : α → β} : ∀ {l : List α}, (l.map f).Nodup → ∀ {x y : α}, x ∈ l → y ∈ l → f x = f y → x = y
  | [], _, _, _, h, _, _ => absurd h (by simp)
  | a :: l, hn, x, y, hx, hy, e => by
    rw [List.map_cons, List.nodup_cons] at hn
    rcases List.mem_cons.mp hx with hx1 | hx1
    · rcases List.mem_cons.mp hy with hy1 | hy1
      · rw [hx1, hy1]
      · exact absurd (by rw [← hx1, e]; exact List.mem_map_of_mem hy1) hn.1
    · rcases List.mem_cons.mp hy with hy1 | hy1
      · exact absurd (by rw [← hy1, ← e]; exact List.mem_map_of_mem hx1) hn.1
      · exact nd_inj hn.2 hx1 hy1 e
theorem LAt.eqAddr (A : LAt CL CN H L dL d mac addr now cs) {c c' : Cell} (hc : c ∈ cs) (hc' : c' ∈ cs) (e : c.n.addr = c'.n.addr) : c = c' := nd_inj (f := fun x : Cell => x.n.addr) A.nd hc hc' e
theorem LAt.eqA (A : LAt CL CN H L dL d mac addr now cs) {c c' : Cell} (hc : c ∈ cs) (hc' : c' ∈ cs) (e : c.a = c'.a) : c = c' := nd_inj (f := fun x : Cell => x.a) A.nda hc hc' e
theorem LAt.eqW (A : LAt CL CN H L dL d mac addr now cs) {c c' : Cell} (hc : c ∈ cs) (hc' : c' ∈ cs) (e : c.w = c'.w) : c = c' := nd_inj (f := fun x : Cell => x.w) A.ndw hc hc' e
theorem setC_map {β : Type} {f : Cell → β} {c c' : Cell} (h : ∀ x ∈ cs, x.n.addr = c'.n.addr → f x = f c') : (setC cs c').map f = cs.map f := by
  unfold setC
  rw [List.map_map]
  refine List.map_congr_left fun x hx => ?_
  show f (if x.n.addr = c'.n.addr then c' else x) = f x
  by_cases e : x.n.addr = c'.n.addr
  · rw [if_pos e]
    exact (h x hx e).symm
  · rw [if_neg e]
theorem mem_setC {c' x : Cell} (h : x ∈ setC cs c') : x = c' ∨ (x ∈ cs ∧ x.n.addr ≠ c'.n.addr) := by
  obtain ⟨y, hy, e⟩ := List.mem_map.mp h
  by_cases q : y.n.addr = c'.n.addr
  · rw [if_pos q] at e
    exact .inl e.symm
  · rw [if_neg q] at e
    subst e
    exact .inr ⟨hy, q⟩
theorem setC_mem {c c' : Cell} (hc : c ∈ cs) (e : c.n.addr = c'.n.addr) : c' ∈ setC cs c' := List.mem_map.mpr ⟨c, hc, if_pos e⟩
theorem nodup_swap : ∀ {l : List Cell} {c c' : Cell} {f : Cell → Addr}, (l.map (·.n.addr)).Nodup → (l.map f).Nodup → c ∈ l → c'.n.addr = c.n.addr → (f c' = f c ∨ ∀ x ∈ l, f x ≠ f c') → ((setC l c').map f).Nodup := by
  intro l c c' f hn hf hc ha hw
  rcases hw with hw | hw
  · rw [setC_map (c := c) fun x hx e => by rw [nd_inj (f := fun x : Cell => x.n.addr) hn hx hc (e.trans ha), hw]]
    exact hf
  · induction l with
    | nil => exact absurd hc (by simp)
    | cons y l ih =>
      rw [List.map_cons, List.nodup_cons] at hn hf
      show ((if y.n.addr = c'.n.addr then c' else y) :: setC l c' |>.map f).Nodup
      by_cases e : y.n.addr = c'.n.addr
      · rw [if_pos e]
        have hno : ∀ x ∈ l, x.n.addr ≠ c'.n.addr := fun x hx z => hn.1 (List.mem_map.mpr ⟨x, hx, z.trans e.symm⟩)
        have e2 : setC l c' = l := by
          unfold setC
          conv => rhs; rw [← List.map_id l]
          exact List.map_congr_left fun x hx => if_neg (hno x hx)
        rw [e2, List.map_cons, List.nodup_cons]
        refine ⟨fun z => ?_, hf.2⟩
        obtain ⟨x, hx, q⟩ := List.mem_map.mp z
        exact hw x (List.mem_cons_of_mem _ hx) q
      · rw [if_neg e]
        have hc' : c ∈ l := by
          rcases List.mem_cons.mp hc with z | z
          · rw [← z] at e
            exact absurd ha.symm e
          · exact z
        rw [List.map_cons, List.nodup_cons]
        refine ⟨fun z => ?_, ih hn.2 hf.2 hc' fun x hx => hw x (List.mem_cons_of_mem _ hx)⟩
        obtain ⟨x, hx, q⟩ := List.mem_map.mp z
        rcases mem_setC hx with rfl | ⟨hx, _⟩
        · exact hw y (List.mem_cons_self ..) q.symm
        · exact hf.1 (List.mem_map.mpr ⟨x, hx, q⟩)
theorem LAt.setN (A : LAt CL CN H L dL d mac addr now cs) {c c' : Cell} (hc : c ∈ cs) (ha : c'.a = c.a) (hd : c'.n.addr = c.n.addr) (hw : c'.w = c.w ∨ H c'.w = none) (h1 : H' c.a = some (.ins CN c'.dx (nf c'.n c'.w))) (h2 : H' c'.w = some (.lst (c'.n.wait.map V.int))) (hl : c'.n.wait.length ≤ 4)
    (k : KeepL [c.a, c.w] H H') : LAt CL CN H' L dL d mac addr now (setC cs c') ∧ Kp (lfp L d cs) (lfp L d (setC cs c')) H H' := by
  have hk : kvs (setC cs c') = kvs cs := setC_map (c := c) fun x hx e => by
    have := A.eqAddr hx hc (e.trans hd)
    subst this
    rw [hd, ha]
  refine ⟨⟨?_, ?_, ?_, ?_, ?_, fun x hx => ?_, by unfold setC; rw [List.length_map]; exact A.len, fun x hx => ?_⟩, ⟨fun b o e hb => ?_, fun b hb => ?_⟩⟩
  · exact k _ _ A.obj (by simp [A.La hc, A.Lw hc])
  · rw [hk]
    exact k _ _ A.dct (by simp [A.da hc, A.dw hc])
  · rw [setC_map (f := fun x => x.n.addr) (c := c) fun x hx e => e]
    exact A.nd
  · exact nodup_swap A.nd A.nda hc hd (.inl ha)
  · refine nodup_swap A.nd A.ndw hc hd (hw.imp id fun z x hx q => ?_)
    have := (A.at_ x hx).2
    rw [q, z] at this
    cases this
  · rcases mem_setC hx with rfl | ⟨hx, ne⟩
    · rw [ha]
      exact ⟨h1, h2⟩
    · have nxc : x ≠ c := fun z => ne (by rw [z, hd])
      have n1 : x.a ≠ c.a := fun z => nxc (A.eqA hx hc z)
      have n2 : x.w ≠ c.w := fun z => nxc (A.eqW hx hc z)
      exact ⟨k _ _ (A.at_ x hx).1 (by simp [n1, A.aw hx hc]), k _ _ (A.at_ x hx).2 (by simp [n2, (A.aw hc hx).symm])⟩
  · rcases mem_setC hx with rfl | ⟨hx, _⟩
    · exact hl
    · exact A.wl x hx
  · refine k b o e fun z => hb (mem_lfp.mpr (.inr (.inr ⟨c, hc, ?_⟩)))
    simpa using z
  · rcases mem_lfp.mp hb with rfl | rfl | ⟨x, hx, z⟩
    · exact .inl (mem_lfp.mpr (.inl rfl))
    · exact .inl (mem_lfp.mpr (.inr (.inl rfl)))
    · rcases mem_setC hx with rfl | ⟨hx, _⟩
      · rcases z with rfl | rfl
        · rw [ha]
          exact .inl (mem_lfp.mpr (.inr (.inr ⟨c, hc, .inl rfl⟩)))
        · rcases hw with q | q
          · rw [q]
            exact .inl (mem_lfp.mpr (.inr (.inr ⟨c, hc, .inr rfl⟩)))
          · exact .inr q
      · exact .inl (mem_lfp.mpr (.inr (.inr ⟨x, hx, z⟩)))
end
end Nb
set_option Elab.async false
set_option linter.all false
set_option maxRecDepth 100000
set_option maxHeartbeats 4000000
namespace Nb
open PySem PySem.Spec PyProof.Rows L2
section
variable {CL CN CW : Addr} {H H' : Hp} {L dL d : Addr} {mac addr now : Int} {cs : List Cell}
theorem dropK_kvs (ad : Int) : ∀ cs : List Cell, dropK (kvs cs) (Sum.inl ad) = kvs (dropC cs ad)
  | [] => rfl
  | c :: cs => by
    have ih := dropK_kvs ad cs
    show dropK ((Sum.inl c.n.addr, V.ref c.a) :: kvs cs) (Sum.inl ad) = kvs (dropC (c :: cs) ad)
    unfold dropC
    by_cases e : c.n.addr = ad
    · rw [dropK_pos (by show (Sum.inl c.n.addr : Key) = Sum.inl ad; rw [e]), ih, List.filter_cons, if_neg (by simp [e])]
      rfl
    · rw [dropK_neg (fun z => e (Sum.inl.inj z)), ih, List.filter_cons, if_pos (by simp [e])]
      rfl
theorem mem_dropC {ad : Int} {x : Cell} : x ∈ dropC cs ad ↔ x ∈ cs ∧ x.n.addr ≠ ad := by
  unfold dropC
  rw [List.mem_filter, decide_eq_true_eq]
theorem dropC_sub (ad : Int) : (dropC cs ad).Sublist cs := List.filter_sublist
theorem nd_sub {α β : Type} {f : α → β} {l m : List α} (s : l.Sublist m) (h : (m.map f).Nodup) : (l.map f).Nodup := List.Nodup.sublist (s.map f) h
theorem LAt.dropN (A : LAt CL CN H L dL d mac addr now cs) {ad : Int} (h : H' d = some (.dK (dropK (kvs cs) (Sum.inl ad)))) (k : KeepL [d] H H') : LAt CL CN H' L dL d mac addr now (dropC cs ad) ∧ Kp (lfp L d cs) (lfp L d (dropC cs ad)) H H' := by
  have hs := dropC_sub (cs := cs) ad
  refine ⟨⟨k _ _ A.obj (by simp [A.Ld]), by rw [h, dropK_kvs], nd_sub hs A.nd, nd_sub hs A.nda, nd_sub hs A.ndw, fun c hc => ?_, Nat.le_trans hs.length_le A.len, fun c hc => A.wl c (mem_dropC.mp hc).1⟩, ⟨fun b o e hb => k b o e fun z => hb (mem_lfp.mpr (.inr (.inl (by simpa using z)))), fun b hb => .inl ?_⟩⟩
  · have hc' := (mem_dropC.mp hc).1
    exact ⟨k _ _ (A.at_ c hc').1 (by simp [(A.da hc').symm]), k _ _ (A.at_ c hc').2 (by simp [(A.dw hc').symm])⟩
  · rcases mem_lfp.mp hb with z | z | ⟨c, hc, z⟩
    · exact mem_lfp.mpr (.inl z)
    · exact mem_lfp.mpr (.inr (.inl z))
    · exact mem_lfp.mpr (.inr (.inr ⟨c, (mem_dropC.mp hc).1, z⟩))
theorem valV_kvs_none {ad : Int} : ∀ {cs : List Cell}, (∀ c ∈ cs, c.n.addr ≠ ad) → valV (kvs cs) (Sum.inl ad) = none
  | [], _ => rfl
  | c :: cs, h => by
    show valV ((Sum.inl c.n.addr, V.ref c.a) :: kvs cs) (Sum.inl ad) = none
    rw [valV_neg (fun z => h c (List.mem_cons_self ..) (Sum.inl.inj z))]
    exact valV_kvs_none fun x hx => h x (List.mem_cons_of_mem _ hx)
theorem valV_kvs_some : ∀ {cs : List Cell}, (cs.map (·.n.addr)).Nodup → ∀ {c : Cell}, c ∈ cs → valV (kvs cs) (Sum.inl c.n.addr) = some (.ref c.a)
  | [], _, _, h => absurd h (by simp)
  | x :: cs, hn, c, h => by
    rw [List.map_cons, List.nodup_cons] at hn
    show valV ((Sum.inl x.n.addr, V.ref x.a) :: kvs cs) (Sum.inl c.n.addr) = _
    rcases List.mem_cons.mp h with h1 | h1
    · subst h1
      rw [valV_pos rfl]
    · rw [valV_neg (fun z => hn.1 (List.mem_map.mpr ⟨c, h1, (Sum.inl.inj z).symm⟩))]
      exact valV_kvs_some hn.2 h1
theorem LAt.addN (A : LAt CL CN H L dL d mac addr now cs) {c : Cell} (hno : ∀ x ∈ cs, x.n.addr ≠ c.n.addr) (ha : H c.a = none) (hw : H c.w = none) (hl : cs.length < 256) (hwl : c.n.wait.length ≤ 4) (h : H' d = some (.dK (putK (kvs cs) (Sum.inl c.n.addr) (.ref c.a))))
    (h1 : H' c.a = some (.ins CN c.dx (nf c.n c.w))) (h2 : H' c.w = some (.lst (c.n.wait.map V.int))) (k : KeepL [d] H H') : LAt CL CN H' L dL d mac addr now (cs ++ [c]) ∧ Kp (lfp L d cs) (lfp L d (cs ++ [c])) H H' := by
  refine ⟨⟨k _ _ A.obj (by simp [A.Ld]), ?_, ?_, ?_, ?_, fun x hx => ?_, by rw [List.length_append, List.length_singleton]; omega, fun x hx => ?_⟩, ⟨fun b o e hb => k b o e fun z => hb (mem_lfp.mpr (.inr (.inl (by simpa using z)))), fun b hb => ?_⟩⟩
  · rw [h, putK_new _ (valV_kvs_none hno)]
    show _ = some (HO.dK ((cs ++ [c]).map _))
    rw [List.map_append]
    rfl
  · rw [List.map_append]
    exact nd_snoc A.nd fun z => by
      obtain ⟨x, hx, e⟩ := List.mem_map.mp z
      exact hno x hx e
  · rw [List.map_append]
    exact nd_snoc A.nda fun z => by
      obtain ⟨x, hx, e⟩ := List.mem_map.mp z
      have q := (A.at_ x hx).1
      have e' : x.a = c.a := e
      rw [e', ha] at q
      cases q
  · rw [List.map_append]
    exact nd_snoc A.ndw fun z => by
      obtain ⟨x, hx, e⟩ := List.mem_map.mp z
      have q := (A.at_ x hx).2
      have e' : x.w = c.w := e
      rw [e', hw] at q
      cases q
  · rcases List.mem_append.mp hx with hx | hx
    · exact ⟨k _ _ (A.at_ x hx).1 (by simp [(A.da hx).symm]), k _ _ (A.at_ x hx).2 (by simp [(A.dw hx).symm])⟩
    · rw [List.mem_singleton.mp hx]
      exact ⟨h1, h2⟩
  · rcases List.mem_append.mp hx with hx | hx
    · exact A.wl x hx
    · rw [List.mem_singleton.mp hx]
      exact hwl
  · rcases mem_lfp.mp hb with z | z | ⟨x, hx, z⟩
    · exact .inl (mem_lfp.mpr (.inl z))
    · exact .inl (mem_lfp.mpr (.inr (.inl z)))
    · rcases List.mem_append.mp hx with hx | hx
      · exact .inl (mem_lfp.mpr (.inr (.inr ⟨x, hx, z⟩)))
      · rw [List.mem_singleton.mp hx] at z
        rcases z with rfl | rfl
        · exact .inr ha
        · exact .inr hw
theorem LAt.setL (A : LAt CL CN H L dL d mac addr now cs) {now' : Int} (h : H' L = some (.ins CL dL (lf mac addr now' d))) (k : KeepL [L] H H') : LAt CL CN H' L dL d mac addr now' cs ∧ Kp (lfp L d cs) (lfp L d cs) H H' :=
  ⟨⟨h, k _ _ A.dct (by simp [A.Ld.symm]), A.nd, A.nda, A.ndw, fun c hc => ⟨k _ _ (A.at_ c hc).1 (by simp [(A.La hc).symm]), k _ _ (A.at_ c hc).2 (by simp [(A.Lw hc).symm])⟩, A.len, A.wl⟩,
    ⟨fun b o e hb => k b o e fun z => hb (mem_lfp.mpr (.inl (by simpa using z))), fun b hb => .inl hb⟩⟩
end
def wfp (wa tl : Addr) (ts : List Addr) : List Addr := wa :: tl :: ts
structure Both (CL CN CW : Addr) (H : Hp) (L dL d : Addr) (mac addr now : Int) (cs : List Cell) (wa tl : Addr) (ts : List Addr) (things : List (List Int)) : Prop where
  l : LAt CL CN H L dL d mac addr now cs
  w : WAt CW H wa tl ts things
  dj : ∀ b ∈ wfp wa tl ts, b ∉ lfp L d cs
section
variable {CL CN CW : Addr} {H H' : Hp} {L dL d : Addr} {mac addr now : Int} {cs : List Cell} {wa tl : Addr} {ts : List Addr} {things : List (List Int)}
theorem WAt.stay (A : WAt CW H wa tl ts things) (k : ∀ b o, b ∈ wfp wa tl ts → H b = some o → H' b = some o) : WAt CW H' wa tl ts things := by
  obtain ⟨dx, ho⟩ := A.obj
  refine ⟨⟨dx, k _ _ (by simp [wfp]) ho⟩, k _ _ (by simp [wfp]) A.lst, A.len, A.ne, fun j t th h1 h2 => k _ _ ?_ (A.at_ j t th h1 h2)⟩
  have := List.mem_of_getElem? h1
  simp [wfp, this]
theorem WAt.there (A : WAt CW H wa tl ts things) {b : Addr} (h : b ∈ wfp wa tl ts) : ∃ o, H b = some o := by
  obtain ⟨dx, ho⟩ := A.obj
  rcases List.mem_cons.mp h with rfl | h
  · exact ⟨_, ho⟩
  · rcases List.mem_cons.mp h with rfl | h
    · exact ⟨_, A.lst⟩
    · obtain ⟨j, hj, e⟩ := List.mem_iff_getElem.mp h
      have e1 : ts[j]? = some b := by rw [List.getElem?_eq_getElem hj, e]
      exact ⟨_, A.at_ j b _ e1 (List.getElem?_eq_getElem (show j < things.length by rw [← A.len]; exact hj))⟩
abbrev fpB (L d : Addr) (cs : List Cell) (wa tl : Addr) (ts : List Addr) : List Addr := lfp L d cs ++ wfp wa tl ts
theorem Both.link (B : Both CL CN CW H L dL d mac addr now cs wa tl ts things) {dL' d' : Addr} {mac' addr' now' : Int} {cs' : List Cell} (A : LAt CL CN H' L dL' d' mac' addr' now' cs') (k : Kp (lfp L d cs) (lfp L d' cs') H H') :
    Both CL CN CW H' L dL' d' mac' addr' now' cs' wa tl ts things ∧ Kp (fpB L d cs wa tl ts) (fpB L d' cs' wa tl ts) H H' := by
  refine ⟨⟨A, B.w.stay fun b o hb e => k.keep b o e (B.dj b hb), fun b hb => ?_⟩, ⟨fun b o e hb => k.keep b o e fun z => hb (List.mem_append_left _ z), fun b hb => ?_⟩⟩
  · obtain ⟨o, e⟩ := B.w.there hb
    exact (k.out e (B.dj b hb)).2
  · rcases List.mem_append.mp hb with hb | hb
    · exact (k.fresh b hb).imp (fun z => List.mem_append_left _ z) id
    · exact .inl (List.mem_append_right _ hb)
theorem Both.tell (B : Both CL CN CW H L dL d mac addr now cs wa tl ts things) {t : Addr} {th : List Int} (ht : H t = none) (W : WAt CW H' wa tl (ts ++ [t]) (things ++ [th])) (k : KeepB tl H H') :
    Both CL CN CW H' L dL d mac addr now cs wa tl (ts ++ [t]) (things ++ [th]) ∧ Kp (fpB L d cs wa tl ts) (fpB L d cs wa tl (ts ++ [t])) H H' := by
  have htl : tl ∉ lfp L d cs := B.dj tl (by simp [wfp])
  refine ⟨⟨B.l.stay fun b o hb e => k b o e fun z => htl (z ▸ hb), W, fun b hb => ?_⟩, ⟨fun b o e hb => k b o e fun z => hb (List.mem_append_right _ (by simp [wfp, z])), fun b hb => ?_⟩⟩
  · have : b ∈ wfp wa tl ts ∨ b = t := by
      simp only [wfp, List.mem_cons, List.mem_append, List.not_mem_nil, or_false] at hb ⊢
      rcases hb with h | h | h | h
      · exact .inl (.inl h)
      · exact .inl (.inr (.inl h))
      · exact .inl (.inr (.inr h))
      · exact .inr h
    rcases this with h | rfl
    · exact B.dj b h
    · intro z
      obtain ⟨o, e⟩ := B.l.there z
      rw [ht] at e
      cases e
  · rcases List.mem_append.mp hb with hb | hb
    · exact .inl (List.mem_append_left _ hb)
    · simp only [wfp, List.mem_cons, List.mem_append, List.not_mem_nil, or_false] at hb
      rcases hb with h | h | h | h
      · exact .inl (List.mem_append_right _ (by simp [wfp, h]))
      · exact .inl (List.mem_append_right _ (by simp [wfp, h]))
      · exact .inl (List.mem_append_right _ (by simp [wfp, h]))
      · exact .inr (h ▸ ht)
theorem Both.same (B : Both CL CN CW H L dL d mac addr now cs wa tl ts things) (S : Same H H') : Both CL CN CW H' L dL d mac addr now cs wa tl ts things :=
  ⟨B.l.same S, B.w.stay fun b o _ e => S b o e, B.dj⟩
end
end Nb
set_option Elab.async false
set_option linter.all false
set_option maxRecDepth 100000
set_option maxHeartbeats 4000000
namespace Nb
open PySem PySem.Spec PyProof.Rows L2
abbrev sDueOrder : Stmt := top 47
abbrev sUseOrder : Stmt := top 48
abbrev inL (j : Nat) : Stmt := inClass (top 49) j
structure TL (K : PySem.W.Frag) (mg : Str → Option Value) (CL : Addr) : Prop where
  cl : Cls K CL
  nM : NoAttr K CL "link_address"
  nA : NoAttr K CL "address"
  nN : NoAttr K CL "now"
  nD : NoAttr K CL "neighbours"
  firstLink : Num mg "FIRST_LINK_ADDRESS" 2199023255552
  firstAddr : Num mg "FIRST_ADDRESS" 1
  lastNow : Num mg "LAST_NOW" 9223372036854745807
  most : Num mg "MOST_NEIGHBOURS" 256
  mostW : Num mg "MOST_WAITING" 4
  mostA : Num mg "MOST_ASKED" 3
  fine : Num mg "FINE" 0
  wrong : Num mg "WRONG" (-1)
  nothing : Num mg "NOTHING" (-2)
  noMessage : Num mg "NO_MESSAGE" (-3)
  earlier : Num mg "EARLIER" (-4)
  nobody : Num mg "NOBODY_ANSWERS" 1
  tooMany : Num mg "TOO_MANY_WAIT" 2
  noRoom : Num mg "NO_ROOM" 3
  len : mg "len" = none
  min : mg "min" = none
  sorted : mg "sorted" = none
def spDueOrder (CN : Addr) : Sp := fun vs H Q _ => ∃ (a dx w : Addr) (n : Nbr), vs = [.ref a] ∧ H a = some (.ins CN dx (nf n w)) ∧ ∀ t, H t = none → Q (.ref t) (upd H t (.tup [.int n.due, .int n.addr]))
def spUseOrder (CN : Addr) : Sp := fun vs H Q _ => ∃ (a dx w : Addr) (n : Nbr), vs = [.ref a] ∧ H a = some (.ins CN dx (nf n w)) ∧ ∀ t, H t = none → Q (.ref t) (upd H t (.tup [.int n.used, .int n.addr]))
def spLInit (CL CN : Addr) : Sp := fun vs H Q _ => ∃ (p dx : Addr), vs = [.ref p] ∧ H p = some (.ins CL dx []) ∧ ∀ (H' : Hp) (d : Addr), H d = none → LAt CL CN H' p dx d 2199023255552 1 0 [] → KeepL [p] H H' → Q .non H'
def refuseI (cur now : Int) : Int := if 9223372036854745807 < now then -1 else if now < cur then -4 else 0
def spRefuse (CL : Addr) : Sp := fun vs H Q _ => ∃ (L dL d : Addr) (mac addr cur now : Int), vs = [.ref L, .int now] ∧ H L = some (.ins CL dL (lf mac addr cur d)) ∧ Q (.int (refuseI cur now)) H
def maySend (addr to : Int) : Bool := decide (to = 4294967295) || (mayAddr to && !decide (to = addr))
def spMaySend (CL : Addr) : Sp := fun vs H Q _ => ∃ (L dL d : Addr) (mac addr cur to : Int), vs = [.ref L, .int to] ∧ H L = some (.ins CL dL (lf mac addr cur d)) ∧ Q (.bl (maySend addr to)) H
def askN (n : Nbr) (now : Int) : Nbr := { n with asked := n.asked + 1, due := now + 1000 }
def askT (mac addr : Int) (n : Nbr) : List Int := 2 :: n.la :: writeI 1 mac addr n.addr
def loseT (n : Nbr) (why : Int) : List (List Int) := [5, n.addr] :: n.wait.map fun p => [3, p, why]
def knowN (n : Nbr) (la now : Int) : Nbr := { n with st := 2, la := la, due := now + 30000, wait := [] }
def knowT (n : Nbr) (la : Int) : List (List Int) := [4, n.addr, la] :: n.wait.map fun p => [1, p, la]
def doDueC (now : Int) (cs : List Cell) (c : Cell) : List Cell := if c.n.st = 2 then setC cs { c with n := { c.n with st := 3 } } else if c.n.asked < 3 then setC cs { c with n := askN c.n now } else dropC cs c.n.addr
def doDueT (mac addr : Int) (n : Nbr) : List (List Int) := if n.st = 2 then [] else if n.asked < 3 then [askT mac addr n] else loseT n 1
def Fin2 (CL CN CW : Addr) (H : Hp) (L dL d : Addr) (mac addr now : Int) (cs : List Cell) (wa tl : Addr) (ts : List Addr) (things : List (List Int)) (cs' : List Cell) (new : List (List Int)) (v : V) (Q : VK) : Prop :=
  ∀ (H' : Hp) (ts' : List Addr), Both CL CN CW H' L dL d mac addr now cs' wa tl ts' (things ++ new) → Kp (fpB L d cs wa tl ts) (fpB L d cs' wa tl ts') H H' → Q v H'
def spAsk (CL CN CW : Addr) : Sp := fun vs H Q _ => ∃ (L dL d : Addr) (mac addr now : Int) (cs : List Cell) (wa tl : Addr) (ts : List Addr) (things : List (List Int)) (c : Cell), vs = [.ref L, .ref c.a, .ref wa] ∧ Both CL CN CW H L dL d mac addr now cs wa tl ts things ∧ c ∈ cs ∧ things.length ≤ 100000 ∧
  Fin2 CL CN CW H L dL d mac addr now cs wa tl ts things (setC cs { c with n := askN c.n now }) [askT mac addr c.n] .non Q
def spLose (CL CN CW : Addr) : Sp := fun vs H Q _ => ∃ (L dL d : Addr) (mac addr now : Int) (cs : List Cell) (wa tl : Addr) (ts : List Addr) (things : List (List Int)) (c : Cell) (why : Int), vs = [.ref L, .ref c.a, .int why, .ref wa] ∧ Both CL CN CW H L dL d mac addr now cs wa tl ts things ∧ c ∈ cs ∧ things.length ≤ 90000 ∧
  Fin2 CL CN CW H L dL d mac addr now cs wa tl ts things (dropC cs c.n.addr) (loseT c.n why) .non Q
def spKnow (CL CN CW : Addr) : Sp := fun vs H Q _ => ∃ (L dL d : Addr) (mac addr now : Int) (cs : List Cell) (wa tl : Addr) (ts : List Addr) (things : List (List Int)) (c : Cell) (la : Int), vs = [.ref L, .ref c.a, .int la, .ref wa] ∧ Both CL CN CW H L dL d mac addr now cs wa tl ts things ∧ c ∈ cs ∧ things.length ≤ 90000 ∧
  ∀ w', Fin2 CL CN CW H L dL d mac addr now cs wa tl ts things (setC cs { c with n := knowN c.n la now, w := w' }) (knowT c.n la) .non Q
def spDoDue (CL CN CW : Addr) : Sp := fun vs H Q _ => ∃ (L dL d : Addr) (mac addr now : Int) (cs : List Cell) (wa tl : Addr) (ts : List Addr) (things : List (List Int)) (c : Cell), vs = [.ref L, .ref c.a, .ref wa] ∧ Both CL CN CW H L dL d mac addr now cs wa tl ts things ∧ c ∈ cs ∧ things.length ≤ 90000 ∧
  Fin2 CL CN CW H L dL d mac addr now cs wa tl ts things (doDueC now cs c) (doDueT mac addr c.n) .non Q
section
variable {P : Program} {w : World} {K : PySem.W.Frag} {mg : Str → Option Value} {base : Heap} {CL CN CW CM : Addr}
theorem scDueOrder : FnScope ["neighbour"] ["neighbour"] (defScope sDueOrder) := ⟨rfl, rfl, rfl, by decide +kernel, rfl, by decide +kernel, by decide +kernel⟩
theorem ok_dueOrder {f : Addr} {fd : FuncData} (F : Fun K "due_order" "due_order" sDueOrder f fd) (T : TN K mg CN) : FnOk P w K mg base CX0 1 f fd ["neighbour"] (spDueOrder CN) := by
  refine F.ok scDueOrder (fun vs H Q E h => ?_) (fun cdv A outer s H vs Q E hr h => ?_)
  · obtain ⟨a, dx, w, n, rfl, _⟩ := h
    rfl
  · obtain ⟨a, dx, w, n, rfl, ha, k⟩ := h
    refine ⟨_, pss_one (ps_ret (pe_tup (pa_cons (pe_fld (pv 0) rfl) (pa_cons (pe_fld (pv 0) rfl) pa_nil)))), ?_⟩
    exact ⟨_, rfl, a, CN, dx, _, _, rfl, ha, T.cl, T.nD, rfl, _, rfl, a, CN, dx, _, _, rfl, ha, T.cl, T.nA, rfl, (by show 2 ≤ sizeLine; decide), k⟩
theorem scUseOrder : FnScope ["neighbour"] ["neighbour"] (defScope sUseOrder) := ⟨rfl, rfl, rfl, by decide +kernel, rfl, by decide +kernel, by decide +kernel⟩
theorem ok_useOrder {f : Addr} {fd : FuncData} (F : Fun K "use_order" "use_order" sUseOrder f fd) (T : TN K mg CN) : FnOk P w K mg base CX0 1 f fd ["neighbour"] (spUseOrder CN) := by
  refine F.ok scUseOrder (fun vs H Q E h => ?_) (fun cdv A outer s H vs Q E hr h => ?_)
  · obtain ⟨a, dx, w, n, rfl, _⟩ := h
    rfl
  · obtain ⟨a, dx, w, n, rfl, ha, k⟩ := h
    refine ⟨_, pss_one (ps_ret (pe_tup (pa_cons (pe_fld (pv 0) rfl) (pa_cons (pe_fld (pv 0) rfl) pa_nil)))), ?_⟩
    exact ⟨_, rfl, a, CN, dx, _, _, rfl, ha, T.cl, T.nU, rfl, _, rfl, a, CN, dx, _, _, rfl, ha, T.cl, T.nA, rfl, (by show 2 ≤ sizeLine; decide), k⟩
theorem scLInit : FnScope ["self"] ["self"] (defScope (inL 0)) := ⟨rfl, rfl, rfl, by decide +kernel, rfl, by decide +kernel, by decide +kernel⟩
theorem ok_lInit {f : Addr} {fd : FuncData} (F : Fun K "__init__" "Link.__init__" (inL 0) f fd) (T : TL K mg CL) : FnOk P w K mg base CX0 1 f fd ["self"] (spLInit CL CN) := by
  refine F.ok scLInit (fun vs H Q E h => ?_) (fun cdv A outer s H vs Q E hr h => ?_)
  · obtain ⟨p, dx, rfl, _⟩ := h
    rfl
  · obtain ⟨p, dx, rfl, hp, k⟩ := h
    refine ⟨_, pss_cons (ps_fld (pv 0) (pe_num rfl T.firstLink) rfl) (pss_cons (ps_fld (pv 0) (pe_num rfl T.firstAddr) rfl) (pss_cons (ps_fld (pv 0) pe_int rfl) (pss_one (ps_fld (pv 0) pe_dnewK rfl)))), ?_⟩
    refine ⟨_, rfl, p, CL, dx, [], rfl, hp, T.cl, T.nM, (by show 0 < 1000; decide), ?_⟩
    refine ⟨_, rfl, p, CL, dx, _, rfl, upd_same, T.cl, T.nA, (by show 1 < 1000; decide), ?_⟩
    refine ⟨_, rfl, p, CL, dx, _, rfl, upd_same, T.cl, T.nN, (by show 2 < 1000; decide), ?_⟩
    rw [upd_upd, upd_upd]
    intro d hd
    have npd : p ≠ d := ne_of_none upd_same hd
    refine ⟨_, rfl, p, CL, dx, _, rfl, (upd_ne npd).trans upd_same, T.cl, T.nD, (by show 3 < 1000; decide), ?_⟩
    refine k _ d ((upd_ne npd.symm).symm.trans hd) ⟨upd_same, (upd_ne npd.symm).trans upd_same, List.nodup_nil, List.nodup_nil, List.nodup_nil, fun c hc => absurd hc (by simp), by simp, fun c hc => absurd hc (by simp)⟩ fun b o e hb => ?_
    have hb' : b ≠ p := by simpa using hb
    have hd0 : H d = none := (upd_ne npd.symm).symm.trans hd
    rw [upd_ne hb', upd_ne (ne_of_none e hd0), upd_ne hb']
    exact e
theorem scRefuse : FnScope ["self", "now"] ["self", "now"] (defScope (inL 10)) := ⟨rfl, rfl, rfl, by decide +kernel, rfl, by decide +kernel, by decide +kernel⟩
theorem ok_refuse {f : Addr} {fd : FuncData} (F : Fun K "refuse_now" "Link.refuse_now" (inL 10) f fd) (T : TL K mg CL) : FnOk P w K mg base CX0 1 f fd ["self", "now"] (spRefuse CL) := by
  refine F.ok scRefuse (fun vs H Q E h => ?_) (fun cdv A outer s H vs Q E hr h => ?_)
  · obtain ⟨L, dL, d, mac, addr, cur, now, rfl, _⟩ := h
    rfl
  · obtain ⟨L, dL, d, mac, addr, cur, now, rfl, hL, k⟩ := h
    refine ⟨_, pss_cons (ps_if (pt_cmpR op_gt (pv 1) (pe_num rfl T.lastNow) (nomark _)) (pss_one (ps_ret (pe_num rfl T.wrong))) pss_nil) (pss_cons (ps_if (pt_cmpR op_lt (pv 1) (pe_fld (pv 0) rfl) (nomark _)) (pss_one (ps_ret (pe_num rfl T.earlier))) pss_nil) (pss_one (ps_ret (pe_num rfl T.fine)))), ?_⟩
    refine ⟨_, rfl, _, _, rfl, rfl, _, rfl, ?_⟩
    unfold refuseI at k
    by_cases h1 : (9223372036854745807 : Int) < now
    · rw [if_pos h1] at k
      rw [decide_eq_true h1, if_pos rfl]
      exact k
    · rw [if_neg h1] at k
      rw [decide_eq_false h1]
      refine iteF ?_
      refine ⟨_, rfl, _, rfl, L, CL, dL, _, _, rfl, hL, T.cl, T.nN, rfl, _, _, rfl, rfl, _, rfl, ?_⟩
      by_cases h2 : now < cur
      · rw [if_pos h2] at k
        rw [decide_eq_true h2, if_pos rfl]
        exact k
      · rw [if_neg h2] at k
        rw [decide_eq_false h2]
        exact iteF k
theorem scMaySend : FnScope ["self", "to"] ["self", "to"] (defScope (inL 18)) := ⟨rfl, rfl, rfl, by decide +kernel, rfl, by decide +kernel, by decide +kernel⟩
theorem ok_maySend {f : Addr} {fd : FuncData} (F : Fun K "may_send" "Link.may_send" (inL 18) f fd) (T : TL K mg CL) (TW' : TW K mg CM) (oA : Ok P w K mg base 1 "may_have_address" ["number"] spMayAddr) : FnOk P w K mg base CX0 2 f fd ["self", "to"] (spMaySend CL) := by
  refine F.ok scMaySend (fun vs H Q E h => ?_) (fun cdv A outer s H vs Q E hr h => ?_)
  · obtain ⟨L, dL, d, mac, addr, cur, to, rfl, _⟩ := h
    rfl
  · obtain ⟨L, dL, d, mac, addr, cur, to, rfl, hL, k⟩ := h
    refine ⟨_, pss_one (ps_ret (pe_or (pe_cmpR op_eq (pv 1) (pe_num rfl TW'.everybody) (nomark _)) (pe_one (pe_and (pe_callO oA hr rfl (pa_cons (pv 1) pa_nil)) (pe_one (pe_cmpR op_ne (pv 1) (pe_fld (pv 0) rfl) (nomark _))))))), ?_⟩
    refine ⟨_, rfl, rfl, _, rfl, ?_⟩
    rw [deq_int]
    unfold maySend at k
    by_cases h1 : to = 4294967295
    · rw [decide_eq_true h1, Bool.true_or] at k
      rw [decide_eq_true h1, if_pos rfl]
      exact k
    · rw [decide_eq_false h1, Bool.false_or] at k
      rw [decide_eq_false h1]
      refine iteF ⟨_, rfl, to, rfl, _, rfl, ?_⟩
      cases hm : mayAddr to with
      | true =>
        rw [hm, Bool.true_and] at k
        rw [if_pos rfl]
        refine ⟨_, rfl, _, rfl, L, CL, dL, _, _, rfl, hL, T.cl, T.nA, rfl, rfl, ?_⟩
        show Q (.bl (!decide (V.int to = V.int addr))) H
        rw [dnot_int]
        exact k
      | false =>
        rw [hm, Bool.false_and] at k
        exact iteF k
theorem scAsk : FnScope ["self", "neighbour", "wanted", "message"] ["self", "neighbour", "wanted"] (defScope (inL 13)) := ⟨rfl, rfl, rfl, by decide +kernel, rfl, by decide +kernel, by decide +kernel⟩
theorem ok_ask {f : Addr} {fd : FuncData} (F : Fun K "ask" "Link.ask" (inL 13) f fd) (T : TL K mg CL) (N : TN K mg CN) (W : TWd K mg CW) (M : TW K mg CM) (oN : OkM P w K mg base 1 CN "note_asked" ["self", "now"] (spNoteAsked CN))
    (oM : OkI P w K mg base 1 "Message" CM ["self", "what", "link_address", "address", "about"] (spMsgInit CM)) (oS : OkM P w K mg base 3 CW "send_message" ["self", "link_address", "message"] (spSendMsg CW CM)) : FnOk P w K mg base CX0 4 f fd ["self", "neighbour", "wanted"] (spAsk CL CN CW) := by
  refine F.ok scAsk (fun vs H Q E h => ?_) (fun cdv A outer s H vs Q E hr h => ?_)
  · obtain ⟨L, dL, d, mac, addr, now, cs, wa, tl, ts, things, c, rfl, _⟩ := h
    rfl
  · obtain ⟨L, dL, d, mac, addr, now, cs, wa, tl, ts, things, c, rfl, B, hc, hlen, k⟩ := h
    refine ⟨_, pss_cons (ps_expr (pe_methO oN N.cl (hr.mono (by decide)) (pv 1) (pa_cons (pe_fld (pv 0) rfl) pa_nil)))
      (pss_cons (ps_set (i := 3) scAsk.nd rfl (Or.inl rfl) (pe_makeO oM (hr.mono (by decide)) rfl (pa_cons (pe_num rfl M.asked) (pa_cons (pe_fld (pv 0) rfl) (pa_cons (pe_fld (pv 0) rfl) (pa_cons (pe_fld (pv 1) rfl) pa_nil))))))
      (pss_one (ps_expr (pe_methO oS W.cl hr (pv 2) (pa_cons (pe_fld (pv 1) rfl) (pa_cons (pv 3) pa_nil)))))), ?_⟩
    have hca := (B.l.at_ c hc).1
    refine ⟨_, rfl, c.a, c.dx, _, rfl, hca, rfl, _, rfl, L, CL, dL, _, _, rfl, B.l.obj, T.cl, T.nN, rfl, c.a, c.dx, c.w, c.n, now, rfl, hca, ?_⟩
    have S1 := B.l.setN (c := c) (c' := { c with n := askN c.n now }) (H' := upd H c.a (.ins CN c.dx (nf (askN c.n now) c.w))) hc rfl rfl (.inl rfl) upd_same ((upd_ne (B.l.aw hc hc).symm).trans (B.l.at_ c hc).2) (B.l.wl c hc) (fun b o e hb => by
      rw [upd_ne (fun z => hb (by simp [z]))]
      exact e)
    obtain ⟨B1, k1⟩ := B.link S1.1 S1.2
    have hc1 : upd H c.a (.ins CN c.dx (nf (askN c.n now) c.w)) c.a = some (.ins CN c.dx (nf (askN c.n now) c.w)) := upd_same
    show tSeq _ _ _ _ (upd H c.a (.ins CN c.dx (nf (askN c.n now) c.w)))
    generalize upd H c.a (.ins CN c.dx (nf (askN c.n now) c.w)) = H1 at B1 k1 hc1 ⊢
    refine ⟨_, rfl, L, CL, dL, _, _, rfl, B1.l.obj, T.cl, T.nM, rfl, _, rfl, L, CL, dL, _, _, rfl, B1.l.obj, T.cl, T.nA, rfl, _, rfl, c.a, CN, c.dx, _, _, rfl, hc1, N.cl, N.nA, rfl, fun x dx nx ndx ne => ?_⟩
    refine ⟨x, dx, _, _, _, _, rfl, upd_same, rfl, ?_⟩
    have S2 : Same H1 (upd (upd (upd H1 dx (.own x)) x (.ins CM dx [])) x (.ins CM dx (mf 1 mac addr (askN c.n now).addr))) := (((Same.refl H1).upd_free ndx).upd_free nx).upd_free nx
    have hx : upd (upd (upd H1 dx (.own x)) x (.ins CM dx [])) x (.ins CM dx (mf 1 mac addr (askN c.n now).addr)) x = some (.ins CM dx (mf 1 mac addr (askN c.n now).addr)) := upd_same
    generalize upd (upd (upd H1 dx (.own x)) x (.ins CM dx [])) x (.ins CM dx (mf 1 mac addr (askN c.n now).addr)) = H2 at S2 hx ⊢
    have B2 := B1.same S2
    obtain ⟨dW, hW⟩ := B2.w.obj
    refine ⟨_, rfl, wa, dW, _, rfl, hW, rfl, _, rfl, c.a, CN, c.dx, _, _, rfl, S2 _ _ hc1, N.cl, N.nL, rfl, _, rfl, wa, tl, ts, things, c.n.la, x, dx, 1, mac, addr, c.n.addr, rfl, B2.w, hlen, hx, fun H3 t ht W3 k3 => ?_⟩
    obtain ⟨B3, k3'⟩ := B2.tell ht W3 k3
    exact k H3 _ B3 ((k1.trans (Kp.same S2)).trans k3')
end
end Nb
set_option Elab.async false
set_option linter.all false
set_option maxRecDepth 100000
set_option maxHeartbeats 4000000
namespace Nb
open PySem PySem.Spec PyProof.Rows L2
theorem Kp.touch {fp fp1 xs : List Addr} {H H1 H2 : Hp} (k : Kp fp fp1 H H1) (k' : KeepL xs H1 H2) (hx : ∀ x ∈ xs, x ∈ fp) : Kp fp fp1 H H2 :=
  ⟨fun b o e hb => k' b o (k.keep b o e hb) fun z => hb (hx b z), k.fresh⟩
section
variable {CL CN CW : Addr} {H H' : Hp} {L dL d : Addr} {mac addr now : Int} {cs : List Cell} {wa tl : Addr} {ts : List Addr} {things : List (List Int)}
theorem Both.touch {xs : List Addr} (B : Both CL CN CW H L dL d mac addr now cs wa tl ts things) (k : KeepL xs H H') (hx : ∀ x ∈ xs, x ∉ fpB L d cs wa tl ts) : Both CL CN CW H' L dL d mac addr now cs wa tl ts things :=
  ⟨B.l.stay fun b o hb e => k b o e fun z => hx b z (List.mem_append_left _ hb), B.w.stay fun b o hb e => k b o e fun z => hx b z (List.mem_append_right _ hb), B.dj⟩
theorem Both.atl (B : Both CL CN CW H L dL d mac addr now cs wa tl ts things) {c : Cell} (hc : c ∈ cs) : c.a ≠ tl ∧ c.w ≠ tl := by
  have h := B.dj tl (by simp [wfp])
  exact ⟨fun z => h (mem_lfp.mpr (.inr (.inr ⟨c, hc, .inl z.symm⟩))), fun z => h (mem_lfp.mpr (.inr (.inr ⟨c, hc, .inr z.symm⟩)))⟩
theorem Both.inA (c : Cell) (hc : c ∈ cs) : c.a ∈ fpB L d cs wa tl ts := List.mem_append_left _ (mem_lfp.mpr (.inr (.inr ⟨c, hc, .inl rfl⟩)))
theorem setC_setC {c1 c2 : Cell} (h : c1.n.addr = c2.n.addr) : setC (setC cs c1) c2 = setC cs c2 := by
  unfold setC
  rw [List.map_map]
  refine List.map_congr_left fun x _ => ?_
  show (if (if x.n.addr = c1.n.addr then c1 else x).n.addr = c2.n.addr then c2 else (if x.n.addr = c1.n.addr then c1 else x)) = _
  by_cases e : x.n.addr = c1.n.addr
  · rw [if_pos e, if_pos h, if_pos (e.trans h)]
  · rw [if_neg e]
end
section
variable {P : Program} {w : World} {K : PySem.W.Frag} {mg : Str → Option Value} {base : Heap} {CL CN CW CM : Addr}
theorem scLose : FnScope ["self", "neighbour", "why", "wanted", "packet"] ["self", "neighbour", "why", "wanted"] (defScope (inL 14)) := ⟨rfl, rfl, rfl, by decide +kernel, rfl, by decide +kernel, by decide +kernel⟩
theorem ok_lose {f : Addr} {fd : FuncData} (F : Fun K "lose" "Link.lose" (inL 14) f fd) (T : TL K mg CL) (N : TN K mg CN) (W : TWd K mg CW) (oL : OkM P w K mg base 1 CW "tell_lost" ["self", "address"] (spTellLost CW))
    (oT : OkM P w K mg base 1 CN "take_waiting" ["self"] (spTakeWait CN)) (oD : OkM P w K mg base 1 CW "drop_packet" ["self", "packet", "why"] (spDropP CW)) : FnOk P w K mg base CX0 2 f fd ["self", "neighbour", "why", "wanted"] (spLose CL CN CW) := by
  refine F.ok scLose (fun vs H Q E h => ?_) (fun cdv A outer s H vs Q E hr h => ?_)
  · obtain ⟨L, dL, d, mac, addr, now, cs, wa, tl, ts, things, c, why, rfl, _⟩ := h
    rfl
  · obtain ⟨L, dL, d, mac, addr, now, cs, wa, tl, ts, things, c, why, rfl, B, hc, hlen, k⟩ := h
    refine ⟨_, pss_cons (ps_expr (pe_dpop1 (pe_fld (pv 0) rfl) (pe_fld (pv 1) rfl) ⟨rfl, rfl, rfl, rfl⟩))
      (pss_cons (ps_expr (pe_methO oL W.cl hr (pv 3) (pa_cons (pe_fld (pv 1) rfl) pa_nil)))
      (pss_one (ps_for PassesOwn.never rfl (pi_list (pe_methO0 oT N.cl hr (pv 1))) (pg_name (i := 4) scLose.nd rfl (Or.inl rfl)) (pss_one (ps_expr (pe_methO oD W.cl hr (pv 3) (pa_cons (pv 4) (pa_cons (pv 2) pa_nil)))))))), ?_⟩
    obtain ⟨hca, hcw⟩ := B.l.at_ c hc
    obtain ⟨natl, nwtl⟩ := B.atl hc
    have nad := (B.l.da hc).symm
    have nwd := (B.l.dw hc).symm
    refine ⟨_, rfl, L, CL, dL, _, _, rfl, B.l.obj, T.cl, T.nD, rfl, d, rfl, .inl ⟨_, .inl B.l.dct⟩, _, rfl, c.a, CN, c.dx, _, _, rfl, hca, N.cl, N.nA, rfl, _, Sum.inl c.n.addr, _, B.l.dct, rfl, valV_kvs_some B.l.nd hc, ?_⟩
    have S1 := B.l.dropN (ad := c.n.addr) (H' := upd H d (.dK (dropK (kvs cs) (Sum.inl c.n.addr)))) upd_same (fun b o e hb => by
      rw [upd_ne (by simpa using hb)]
      exact e)
    obtain ⟨B1, k1⟩ := B.link S1.1 S1.2
    have hca1 := (upd_ne (H := H) (o := HO.dK (dropK (kvs cs) (Sum.inl c.n.addr))) nad).trans hca
    have hcw1 := (upd_ne (H := H) (o := HO.dK (dropK (kvs cs) (Sum.inl c.n.addr))) nwd).trans hcw
    generalize upd H d (.dK (dropK (kvs cs) (Sum.inl c.n.addr))) = H1 at B1 k1 hca1 hcw1 ⊢
    obtain ⟨dW, hW⟩ := B1.w.obj
    refine ⟨_, rfl, wa, dW, _, rfl, hW, rfl, _, rfl, c.a, CN, c.dx, _, _, rfl, hca1, N.cl, N.nA, rfl, wa, tl, ts, things, c.n.addr, rfl, B1.w, (by omega), fun H2 t ht W2 kb2 => ?_⟩
    obtain ⟨B2, k2⟩ := B1.tell ht W2 kb2
    have hca2 := kb2 _ _ hca1 natl
    have hcw2 := kb2 _ _ hcw1 nwtl
    have kk2 := k1.trans k2
    refine ⟨_, rfl, c.a, c.dx, _, rfl, hca2, rfl, c.a, c.dx, c.w, c.n, rfl, hca2, fun w' hw' => ?_⟩
    have naw : c.a ≠ w' := ne_of_none hca2 hw'
    have kt : KeepL [c.a] H2 (upd (upd H2 w' (.lst [])) c.a (.ins CN c.dx (nf c.n w'))) := fun b o e hb => by
      rw [upd_ne (by simpa using hb), upd_ne (ne_of_none e hw')]
      exact e
    have out : c.a ∉ fpB L d (dropC cs c.n.addr) wa tl (ts ++ [t]) := fun z => by
      rcases List.mem_append.mp z with z | z
      · rcases mem_lfp.mp z with z | z | ⟨x, hx, z | z⟩
        · exact B.l.La hc z.symm
        · exact B.l.da hc z.symm
        · obtain ⟨hx1, hx2⟩ := mem_dropC.mp hx
          exact hx2 (by rw [B.l.eqA hc hx1 z])
        · exact B.l.aw hc (mem_dropC.mp hx).1 z
      · simp only [wfp, List.mem_cons, List.mem_append, List.not_mem_nil, or_false] at z
        have q : c.a ∈ lfp L d cs := mem_lfp.mpr (.inr (.inr ⟨c, hc, .inl rfl⟩))
        rcases z with z | z | z | z
        · exact B.dj _ (by simp [wfp, z]) q
        · exact B.dj _ (by simp [wfp, z]) q
        · exact B.dj _ (by simp [wfp, z]) q
        · rw [← z, hca1] at ht
          cases ht
    have B3 := B2.touch kt (fun x hx => by rw [List.mem_singleton.mp hx]; exact out)
    have k3 := kk2.touch kt (fun x hx => by rw [List.mem_singleton.mp hx]; exact Both.inA c hc)
    have hcw3 : upd (upd H2 w' (.lst [])) c.a (.ins CN c.dx (nf c.n w')) c.w = some (.lst (c.n.wait.map V.int)) := kt _ _ hcw2 (by simp [(B.l.aw hc hc).symm])
    generalize upd (upd H2 w' (.lst [])) c.a (.ins CN c.dx (nf c.n w')) = H3 at B3 k3 hcw3 ⊢
    have wl := B.l.wl c hc
    refine ⟨c.w, rfl, ⟨_, SqL.of hcw3⟩, for_list (K := K) (a := c.w) (xs := c.n.wait.map V.int) (fun i σ H' => ∃ (v : Option V) (ts' : List Addr), σ = [some (.ref L), some (.ref c.a), some (.int why), some (.ref wa), v] ∧ H' c.w = some (.lst (c.n.wait.map V.int)) ∧
        Both CL CN CW H' L dL d mac addr now (dropC cs c.n.addr) wa tl ts' (things ++ ([5, c.n.addr] :: (c.n.wait.take i).map fun p => [3, p, why])) ∧ Kp (fpB L d cs wa tl ts) (fpB L d (dropC cs c.n.addr) wa tl ts') H H')
      ⟨none, _, rfl, hcw3, B3, k3⟩ (fun i σ H' _ ⟨_, _, _, hw3, _⟩ => SqL.of hw3) ?_ ?_⟩
    · rintro i y σ H' hi ⟨v, ts', rfl, hw4, B4, k4⟩
      rw [List.getElem?_map] at hi
      cases e : c.n.wait[i]? with
      | none =>
        rw [e] at hi
        cases hi
      | some p =>
        rw [e] at hi
        obtain rfl : V.int p = y := Option.some.inj hi
        obtain ⟨dW, hW⟩ := B4.w.obj
        refine ⟨_, rfl, wa, dW, _, rfl, hW, rfl, _, rfl, _, rfl, wa, tl, ts', _, p, why, rfl, B4.w, (by simp only [List.length_append, List.length_cons, List.length_map, List.length_take]; omega), fun H5 t5 ht5 W5 kb5 => ?_⟩
        obtain ⟨B5, k5⟩ := B4.tell ht5 W5 kb5
        have e1 : things ++ ([5, c.n.addr] :: (c.n.wait.take (i + 1)).map fun p => [3, p, why]) = things ++ ([5, c.n.addr] :: (c.n.wait.take i).map fun p => [3, p, why]) ++ [[3, p, why]] := by
          rw [List.take_add_one, e]
          simp
        refine ⟨some (.int p), _, rfl, kb5 _ _ hw4 nwtl, ?_, k4.trans k5⟩
        rw [e1]
        exact B5
    · rintro σ H' ⟨v, ts', rfl, _, B4, k4⟩
      rw [List.length_map, List.take_length] at B4
      exact k H' ts' B4 k4
theorem scKnow : FnScope ["self", "neighbour", "link_address", "wanted", "packet"] ["self", "neighbour", "link_address", "wanted"] (defScope (inL 15)) := ⟨rfl, rfl, rfl, by decide +kernel, rfl, by decide +kernel, by decide +kernel⟩
theorem ok_know {f : Addr} {fd : FuncData} (F : Fun K "know" "Link.know" (inL 15) f fd) (T : TL K mg CL) (N : TN K mg CN) (W : TWd K mg CW) (oB : OkM P w K mg base 1 CN "become_known" ["self", "link_address", "now"] (spBecKnown CN)) (oL : OkM P w K mg base 1 CW "tell_known" ["self", "address", "link_address"] (spTellKnown CW))
    (oT : OkM P w K mg base 1 CN "take_waiting" ["self"] (spTakeWait CN)) (oD : OkM P w K mg base 1 CW "pass_packet" ["self", "packet", "link_address"] (spPass CW)) : FnOk P w K mg base CX0 2 f fd ["self", "neighbour", "link_address", "wanted"] (spKnow CL CN CW) := by
  refine F.ok scKnow (fun vs H Q E h => ?_) (fun cdv A outer s H vs Q E hr h => ?_)
  · obtain ⟨L, dL, d, mac, addr, now, cs, wa, tl, ts, things, c, la, rfl, _⟩ := h
    rfl
  · obtain ⟨L, dL, d, mac, addr, now, cs, wa, tl, ts, things, c, la, rfl, B, hc, hlen, k⟩ := h
    refine ⟨_, pss_cons (ps_expr (pe_methO oB N.cl hr (pv 1) (pa_cons (pv 2) (pa_cons (pe_fld (pv 0) rfl) pa_nil))))
      (pss_cons (ps_expr (pe_methO oL W.cl hr (pv 3) (pa_cons (pe_fld (pv 1) rfl) (pa_cons (pv 2) pa_nil))))
      (pss_one (ps_for PassesOwn.never rfl (pi_list (pe_methO0 oT N.cl hr (pv 1))) (pg_name (i := 4) scKnow.nd rfl (Or.inl rfl)) (pss_one (ps_expr (pe_methO oD W.cl hr (pv 3) (pa_cons (pv 4) (pa_cons (pv 2) pa_nil)))))))), ?_⟩
    obtain ⟨hca, hcw⟩ := B.l.at_ c hc
    obtain ⟨natl, nwtl⟩ := B.atl hc
    refine ⟨_, rfl, c.a, c.dx, _, rfl, hca, rfl, _, rfl, _, rfl, L, CL, dL, _, _, rfl, B.l.obj, T.cl, T.nN, rfl, c.a, c.dx, c.w, c.n, la, now, rfl, hca, ?_⟩
    have S1 := B.l.setN (c := c) (c' := { c with n := { c.n with st := 2, la := la, due := now + 30000 } }) (H' := upd H c.a (.ins CN c.dx (nf { c.n with st := 2, la := la, due := now + 30000 } c.w))) hc rfl rfl (.inl rfl) upd_same ((upd_ne (B.l.aw hc hc).symm).trans hcw) (B.l.wl c hc) (fun b o e hb => by
      rw [upd_ne (fun z => hb (by simp [z]))]
      exact e)
    obtain ⟨B1, k1⟩ := B.link S1.1 S1.2
    have hca1 : upd H c.a (.ins CN c.dx (nf { c.n with st := 2, la := la, due := now + 30000 } c.w)) c.a = some (.ins CN c.dx (nf { c.n with st := 2, la := la, due := now + 30000 } c.w)) := upd_same
    have hcw1 : upd H c.a (.ins CN c.dx (nf { c.n with st := 2, la := la, due := now + 30000 } c.w)) c.w = some (.lst (c.n.wait.map V.int)) := (upd_ne (B.l.aw hc hc).symm).trans hcw
    generalize upd H c.a (.ins CN c.dx (nf { c.n with st := 2, la := la, due := now + 30000 } c.w)) = H1 at B1 k1 hca1 hcw1 ⊢
    obtain ⟨dW, hW⟩ := B1.w.obj
    refine ⟨_, rfl, wa, dW, _, rfl, hW, rfl, _, rfl, c.a, CN, c.dx, _, _, rfl, hca1, N.cl, N.nA, rfl, _, rfl, wa, tl, ts, things, c.n.addr, la, rfl, B1.w, (by omega), fun H2 t ht W2 kb2 => ?_⟩
    obtain ⟨B2, k2⟩ := B1.tell ht W2 kb2
    have hca2 := kb2 _ _ hca1 natl
    have hcw2 := kb2 _ _ hcw1 nwtl
    have kk2 := k1.trans k2
    refine ⟨_, rfl, c.a, c.dx, _, rfl, hca2, rfl, c.a, c.dx, c.w, _, rfl, hca2, fun w' hw' => ?_⟩
    have naw : c.a ≠ w' := ne_of_none hca2 hw'
    have hc1 : ({ c with n := { c.n with st := 2, la := la, due := now + 30000 } } : Cell) ∈ setC cs { c with n := { c.n with st := 2, la := la, due := now + 30000 } } := setC_mem hc rfl
    have S3 := B2.l.setN (c := { c with n := { c.n with st := 2, la := la, due := now + 30000 } }) (c' := { c with n := knowN c.n la now, w := w' }) (H' := upd (upd H2 w' (.lst [])) c.a (.ins CN c.dx (nf { c.n with st := 2, la := la, due := now + 30000 } w'))) hc1 rfl rfl (.inr hw') upd_same ((upd_ne naw.symm).trans upd_same) (Nat.zero_le _) (fun b o e hb => by
      rw [upd_ne (fun z => hb (by simp [z])), upd_ne (ne_of_none e hw')]
      exact e)
    obtain ⟨B3, k3⟩ := B2.link S3.1 S3.2
    rw [setC_setC (by rfl)] at B3 k3
    have hcw3 : upd (upd H2 w' (.lst [])) c.a (.ins CN c.dx (nf { c.n with st := 2, la := la, due := now + 30000 } w')) c.w = some (.lst (c.n.wait.map V.int)) := by
      rw [upd_ne (B.l.aw hc hc).symm, upd_ne (ne_of_none hcw2 hw')]
      exact hcw2
    have kk3 := kk2.trans k3
    generalize upd (upd H2 w' (.lst [])) c.a (.ins CN c.dx (nf { c.n with st := 2, la := la, due := now + 30000 } w')) = H3 at B3 kk3 hcw3 ⊢
    have wl := B.l.wl c hc
    refine ⟨c.w, rfl, ⟨_, SqL.of hcw3⟩, for_list (K := K) (a := c.w) (xs := c.n.wait.map V.int) (fun i σ H' => ∃ (v : Option V) (ts' : List Addr), σ = [some (.ref L), some (.ref c.a), some (.int la), some (.ref wa), v] ∧ H' c.w = some (.lst (c.n.wait.map V.int)) ∧
        Both CL CN CW H' L dL d mac addr now (setC cs { c with n := knowN c.n la now, w := w' }) wa tl ts' (things ++ ([4, c.n.addr, la] :: (c.n.wait.take i).map fun p => [1, p, la])) ∧ Kp (fpB L d cs wa tl ts) (fpB L d (setC cs { c with n := knowN c.n la now, w := w' }) wa tl ts') H H')
      ⟨none, _, rfl, hcw3, B3, kk3⟩ (fun i σ H' _ ⟨_, _, _, hw3, _⟩ => SqL.of hw3) ?_ ?_⟩
    · rintro i y σ H' hi ⟨v, ts', rfl, hw4, B4, k4⟩
      rw [List.getElem?_map] at hi
      cases e : c.n.wait[i]? with
      | none =>
        rw [e] at hi
        cases hi
      | some p =>
        rw [e] at hi
        obtain rfl : V.int p = y := Option.some.inj hi
        obtain ⟨dW, hW⟩ := B4.w.obj
        refine ⟨_, rfl, wa, dW, _, rfl, hW, rfl, _, rfl, _, rfl, wa, tl, ts', _, p, la, rfl, B4.w, (by simp only [List.length_append, List.length_cons, List.length_map, List.length_take]; omega), fun H5 t5 ht5 W5 kb5 => ?_⟩
        obtain ⟨B5, k5⟩ := B4.tell ht5 W5 kb5
        have e1 : things ++ ([4, c.n.addr, la] :: (c.n.wait.take (i + 1)).map fun p => [1, p, la]) = things ++ ([4, c.n.addr, la] :: (c.n.wait.take i).map fun p => [1, p, la]) ++ [[1, p, la]] := by
          rw [List.take_add_one, e]
          simp
        refine ⟨some (.int p), _, rfl, kb5 _ _ hw4 nwtl, ?_, k4.trans k5⟩
        rw [e1]
        exact B5
    · rintro σ H' ⟨v, ts', rfl, _, B4, k4⟩
      rw [List.length_map, List.take_length] at B4
      exact k w' H' ts' B4 k4
theorem scDoDue : FnScope ["self", "neighbour", "wanted"] ["self", "neighbour", "wanted"] (defScope (inL 12)) := ⟨rfl, rfl, rfl, by decide +kernel, rfl, by decide +kernel, by decide +kernel⟩
theorem ok_doDue {f : Addr} {fd : FuncData} (F : Fun K "do_due" "Link.do_due" (inL 12) f fd) (T : TL K mg CL) (N : TN K mg CN) (oO : OkM P w K mg base 1 CN "become_old" ["self"] (spBecOld CN)) (oA : OkM P w K mg base 4 CL "ask" ["self", "neighbour", "wanted"] (spAsk CL CN CW))
    (oL : OkM P w K mg base 2 CL "lose" ["self", "neighbour", "why", "wanted"] (spLose CL CN CW)) : FnOk P w K mg base CX0 5 f fd ["self", "neighbour", "wanted"] (spDoDue CL CN CW) := by
  refine F.ok scDoDue (fun vs H Q E h => ?_) (fun cdv A outer s H vs Q E hr h => ?_)
  · obtain ⟨L, dL, d, mac, addr, now, cs, wa, tl, ts, things, c, rfl, _⟩ := h
    rfl
  · obtain ⟨L, dL, d, mac, addr, now, cs, wa, tl, ts, things, c, rfl, B, hc, hlen, k⟩ := h
    refine ⟨_, pss_one (ps_if (pt_cmpR op_eq (pe_fld (pv 1) rfl) (pe_num rfl N.known) (nomark _)) (pss_one (ps_expr (pe_methO0 oO N.cl (hr.mono (by decide)) (pv 1))))
      (pss_one (ps_if (pt_cmpR op_lt (pe_fld (pv 1) rfl) (pe_num rfl T.mostA) (nomark _)) (pss_one (ps_expr (pe_methO oA T.cl hr (pv 0) (pa_cons (pv 1) (pa_cons (pv 2) pa_nil)))))
        (pss_one (ps_expr (pe_methO oL T.cl (hr.mono (by decide)) (pv 0) (pa_cons (pv 1) (pa_cons (pe_num rfl T.nobody) (pa_cons (pv 2) pa_nil))))))))), ?_⟩
    obtain ⟨hca, hcw⟩ := B.l.at_ c hc
    refine ⟨_, rfl, c.a, CN, c.dx, _, _, rfl, hca, N.cl, N.nS, rfl, rfl, _, rfl, ?_⟩
    rw [deq_int]
    unfold doDueC doDueT at k
    by_cases h1 : c.n.st = 2
    · rw [if_pos h1, if_pos h1] at k
      rw [decide_eq_true h1, if_pos rfl]
      refine ⟨_, rfl, c.a, c.dx, _, rfl, hca, rfl, c.a, c.dx, c.w, c.n, rfl, hca, ?_⟩
      have S1 := B.l.setN (c := c) (c' := { c with n := { c.n with st := 3 } }) (H' := upd H c.a (.ins CN c.dx (nf { c.n with st := 3 } c.w))) hc rfl rfl (.inl rfl) upd_same ((upd_ne (B.l.aw hc hc).symm).trans hcw) (B.l.wl c hc) (fun b o e hb => by
        rw [upd_ne (fun z => hb (by simp [z]))]
        exact e)
      obtain ⟨B1, k1⟩ := B.link S1.1 S1.2
      exact k _ ts (by rw [List.append_nil]; exact B1) k1
    · rw [if_neg h1, if_neg h1] at k
      rw [decide_eq_false h1]
      refine iteF ⟨_, rfl, c.a, CN, c.dx, _, _, rfl, hca, N.cl, N.nK, rfl, _, _, rfl, rfl, _, rfl, ?_⟩
      by_cases h2 : c.n.asked < 3
      · rw [if_pos h2, if_pos h2] at k
        rw [decide_eq_true h2, if_pos rfl]
        exact ⟨_, rfl, L, dL, _, rfl, B.l.obj, rfl, _, rfl, _, rfl, L, dL, d, mac, addr, now, cs, wa, tl, ts, things, c, rfl, B, hc, (by omega), k⟩
      · rw [if_neg h2, if_neg h2] at k
        rw [decide_eq_false h2]
        exact iteF ⟨_, rfl, L, dL, _, rfl, B.l.obj, rfl, _, rfl, _, rfl, L, dL, d, mac, addr, now, cs, wa, tl, ts, things, c, 1, rfl, B, hc, hlen, k⟩
end
end Nb
set_option Elab.async false
set_option linter.all false
set_option maxRecDepth 100000
set_option maxHeartbeats 4000000
namespace L2
open PySem PySem.Spec PyProof.Rows
theorem lc_vals {d : Addr} {o : Obj} {kvs : List (Key × V)} {g : TG} {tt : TT} {te : TE} {vs : List Nat} {σ : L2.St} {H1 : Hp} {D : Addr} {Qd : Hp → Prop} (Pv : Nat → Hp → Prop) (h0 : Pv 0 (upd H1 D (.lst []))) (hl : ∀ i H, i ≤ kvs.length → Pv i H → H d = some (.frz o (.dK kvs)))
    (hs : ∀ i k x H, kvs[i]? = some (k, x) → Pv i H → g x (wipe σ vs) H fun σ2 H2 => wipe σ2 vs = wipe σ vs ∧ tt σ2 H2 fun b H3 =>
      if b = true then te σ2 H3 fun y H4 => ∃ acc, H4 D = some (.lst acc) ∧ acc.length < sizeLine ∧ Pv (i + 1) (upd H4 D (.lst (acc ++ [y]))) else Pv (i + 1) H3) (hd : ∀ H, Pv kvs.length H → Qd H) :
    ∃ W : Nat → Nat → Hp → Prop, (∃ m, W 0 m (upd H1 D (.lst []))) ∧ ∀ i m H, W i m H →
      ((Itd d o kvs).stop i H ∧ Qd H) ∨ ((Itd d o kvs).go i H ∧ ∃ Nx : Hp → Prop, (∀ H', Nx H' → ∃ m', m' < m ∧ W (i + 1) m' H') ∧ ∀ x H', (Itd d o kvs).yld i H x H' → g x (wipe σ vs) H' fun σ2 H2 => wipe σ2 vs = wipe σ vs ∧ tt σ2 H2 fun b H3 =>
        if b = true then te σ2 H3 fun y H4 => ∃ acc, H4 D = some (.lst acc) ∧ acc.length < sizeLine ∧ Nx (upd H4 D (.lst (acc ++ [y]))) else Nx H3) := by
  refine ⟨fun i m H => m = kvs.length - i ∧ i ≤ kvs.length ∧ Pv i H, ⟨kvs.length, by simp, Nat.zero_le _, h0⟩, ?_⟩
  rintro i m H ⟨rfl, hi, p⟩
  have q := hl i H hi p
  by_cases hlt : i < kvs.length
  · refine .inr ⟨⟨q, hlt⟩, Pv (i + 1), fun H' p' => ⟨kvs.length - (i + 1), by omega, rfl, hlt, p'⟩, fun x H' y => ?_⟩
    obtain ⟨e, k, y⟩ := y
    subst e
    exact hs i k x _ y p
  · have e : i = kvs.length := by omega
    subst e
    exact .inl ⟨⟨q, Nat.le_refl _⟩, hd H p⟩
theorem perm_map_inv {α β : Type} {f : α → β} {l k : List β} (h : l.Perm k) : ∀ {m : List α}, k = m.map f → ∃ m' : List α, m'.Perm m ∧ l = m'.map f := by
  induction h with
  | nil =>
    intro m e
    obtain rfl : m = [] := List.map_eq_nil_iff.mp e.symm
    exact ⟨[], .nil, rfl⟩
  | cons x h ih =>
    intro m e
    match m, e with
    | y :: m, e =>
      rw [List.map_cons] at e
      injection e with e1 e2
      obtain ⟨m', p, q⟩ := ih e2
      exact ⟨y :: m', .cons _ p, by rw [List.map_cons, q, e1]⟩
  | swap x y l =>
    intro m e
    match m, e with
    | [], e => exact nomatch e
    | [_], e => exact nomatch e
    | a :: b :: m, e =>
      rw [List.map_cons, List.map_cons] at e
      injection e with e1 e2
      injection e2 with e2 e3
      exact ⟨b :: a :: m, .swap _ _ _, by rw [List.map_cons, List.map_cons, e1, e2, e3]⟩
  | trans h1 h2 ih1 ih2 =>
    intro m e
    obtain ⟨m2, p2, q2⟩ := ih2 e
    obtain ⟨m1, p1, q1⟩ := ih1 q2
    exact ⟨m1, p1.trans p2, q1⟩
end L2
namespace Nb
open PySem PySem.Spec PyProof.Rows L2
section
variable {CL CN CW : Addr} {H H' : Hp} {L dL d : Addr} {mac addr now : Int} {cs : List Cell} {wa tl : Addr} {ts : List Addr} {things : List (List Int)}
theorem LAt.new (A : LAt CL CN H L dL d mac addr now cs) (S : Same H H') (W : WAt CW H' wa tl [] []) (h1 : H wa = none) (h2 : H tl = none) : Both CL CN CW H' L dL d mac addr now cs wa tl [] [] ∧ Kp (lfp L d cs) (fpB L d cs wa tl []) H H' := by
  refine ⟨⟨A.same S, W, fun b hb z => ?_⟩, ⟨fun b o e _ => S b o e, fun b hb => ?_⟩⟩
  · obtain ⟨o, e⟩ := A.there z
    simp only [wfp, List.mem_cons, List.not_mem_nil, or_false] at hb
    rcases hb with rfl | rfl
    · rw [h1] at e; cases e
    · rw [h2] at e; cases e
  · rcases List.mem_append.mp hb with hb | hb
    · exact .inl hb
    · simp only [wfp, List.mem_cons, List.not_mem_nil, or_false] at hb
      rcases hb with rfl | rfl
      · exact .inr h1
      · exact .inr h2
theorem doDueC_mem {c x : Cell} (hx : x ∈ cs) (hne : x.n.addr ≠ c.n.addr) : x ∈ doDueC now cs c := by
  unfold doDueC
  split
  · exact List.mem_map.mpr ⟨x, hx, if_neg hne⟩
  · split
    · exact List.mem_map.mpr ⟨x, hx, if_neg hne⟩
    · exact mem_dropC.mpr ⟨hx, hne⟩
theorem doDueT_len (n : Nbr) (h : n.wait.length ≤ 4) : (doDueT mac addr n).length ≤ 5 := by
  unfold doDueT loseT
  split
  · simp
  · split
    · simp
    · simp
      omega
end
theorem flat5 {mac addr : Int} : ∀ l : List Cell, (∀ c ∈ l, c.n.wait.length ≤ 4) → (l.flatMap fun c => doDueT mac addr c.n).length ≤ 5 * l.length
  | [], _ => by simp
  | c :: l, h => by
    have h1 := doDueT_len (mac := mac) (addr := addr) c.n (h c (List.mem_cons_self ..))
    have h2 := flat5 (mac := mac) (addr := addr) l fun x hx => h x (List.mem_cons_of_mem _ hx)
    rw [List.flatMap_cons, List.length_append, List.length_cons]
    omega
theorem unlock_same {H : Hp} {d D : Addr} {od : Obj} {u l : HO} (hd : H d = some u) (hD : upd H d (.frz od u) D = none) : Same H (upd (upd (upd H d (.frz od u)) D l) d u) ∧ upd (upd (upd H d (.frz od u)) D l) d u D = some l ∧ H D = none := by
  have ne : d ≠ D := ne_of_none upd_same hD
  have h0 : H D = none := (upd_ne ne.symm).symm.trans hD
  refine ⟨fun b o e => ?_, by rw [upd_ne ne.symm, upd_same], h0⟩
  by_cases hb : b = d
  · subst hb
    rw [upd_same, ← hd]
    exact e
  · rw [upd_ne hb, upd_ne (ne_of_none e h0), upd_ne hb]
    exact e
def spGo (CL CN CW : Addr) : Sp := fun vs H Q _ => ∃ (L dL d : Addr) (mac addr cur now : Int) (cs : List Cell), vs = [.ref L, .int now] ∧ LAt CL CN H L dL d mac addr cur cs ∧
  ∀ (H' : Hp) (qs : List Cell) (wa tl : Addr) (ts : List Addr), qs.Perm (cs.filter fun c => isDue c.n now) → qs.Pairwise (fun x y => lexLe (x.n.due, x.n.addr) (y.n.due, y.n.addr)) →
    Both CL CN CW H' L dL d mac addr now (qs.foldl (doDueC now) cs) wa tl ts (qs.flatMap fun c => doDueT mac addr c.n) → Kp (lfp L d cs) (fpB L d (qs.foldl (doDueC now) cs) wa tl ts) H H' → Q (.ref wa) H'
section
variable {P : Program} {w : World} {K : PySem.W.Frag} {mg : Str → Option Value} {base : Heap} {CL CN CW CM : Addr}
theorem scGo : FnScope ["self", "now", "wanted", "due", "neighbour"] ["self", "now"] (defScope (inL 11)) := ⟨rfl, rfl, rfl, by decide +kernel, rfl, by decide +kernel, by decide +kernel⟩
theorem ok_go {f : Addr} {fd : FuncData} (F : Fun K "go_on_to" "Link.go_on_to" (inL 11) f fd) (T : TL K mg CL) (N : TN K mg CN) (W : TWd K mg CW) (oW : OkI P w K mg base 1 "Wanted" CW ["self"] (spWInit CW)) (oI : OkM P w K mg base 2 CN "is_due" ["self", "now"] (spIsDue CN))
    (oK : Ok P w K mg base 1 "due_order" ["neighbour"] (spDueOrder CN)) (oD : OkM P w K mg base 5 CL "do_due" ["self", "neighbour", "wanted"] (spDoDue CL CN CW)) : FnOk P w K mg base CX0 6 f fd ["self", "now"] (spGo CL CN CW) := by
  refine F.ok scGo (fun vs H Q E h => ?_) (fun cdv A outer s H vs Q E hr h => ?_)
  · obtain ⟨L, dL, d, mac, addr, cur, now, cs, rfl, _⟩ := h
    rfl
  · obtain ⟨L, dL, d, mac, addr, cur, now, cs, rfl, A0, k⟩ := h
    have hr2 : Room 2 _ := hr.mono (by decide)
    refine ⟨_, pss_cons (ps_fld (pv 0) (pv 1) rfl) (pss_cons (ps_set (i := 2) scGo.nd rfl (Or.inl rfl) (pe_makeO0 oW hr2 rfl))
      (pss_cons (ps_lock (ps_setLc (i := 3) (own := [("neighbour", 4)]) rfl scGo.nd rfl rfl (sw_true rfl rfl rfl rfl) (pi_values (pe_fld (pv 0) rfl)) (blkOk_by rfl) (fun _ _ _ _ _ => pg_name (i := 4) scGo.nd rfl (Or.inl rfl))
        (fun _ _ _ _ _ => pts_one (pt_val (pe_methO oI N.cl hr2 (pv 4) (pa_cons (pv 1) pa_nil)))) (fun _ _ _ _ _ => pv 4)))
      (pss_cons (ps_for PassesOwn.never rfl (pi_list (pe_sortO oK (hr.mono (by decide)) rfl T.sorted rfl (pv 3))) (pg_name (i := 4) scGo.nd rfl (Or.inl rfl)) (pss_one (ps_expr (pe_methO oD T.cl hr (pv 0) (pa_cons (pv 4) (pa_cons (pv 2) pa_nil))))))
      (pss_one (ps_ret (pv 2)))))), ?_⟩
    refine ⟨_, rfl, _, rfl, L, CL, dL, _, rfl, A0.obj, T.cl, T.nN, (by show 4 < 1000; decide), ?_⟩
    have S1 := A0.setL (now' := now) (H' := upd H L (.ins CL dL (lf mac addr now d))) upd_same (fun b o e hb => by
      rw [upd_ne (by simpa using hb)]
      exact e)
    obtain ⟨A1, k1⟩ := S1
    show tSeq _ _ _ _ (upd H L (.ins CL dL (lf mac addr now d)))
    generalize upd H L (.ins CL dL (lf mac addr now d)) = H1 at A1 k1 ⊢
    intro x dx nx ndx ne
    refine ⟨x, dx, rfl, upd_same, fun H2 tl htl W2 kb2 => ⟨rfl, ?_⟩⟩
    have nxt : x ≠ tl := ne_of_none upd_same htl
    have ndt : dx ≠ tl := ne_of_none ((upd_ne ne).trans upd_same) htl
    have htl1 : H1 tl = none := by
      rw [upd_ne nxt.symm, upd_ne ndt.symm] at htl
      exact htl
    have S2 : Same H1 H2 := fun b o e => kb2 b o (by rw [upd_ne (ne_of_none e nx), upd_ne (ne_of_none e ndx)]; exact e) (ne_of_none e nx)
    obtain ⟨B2, k2⟩ := A1.new S2 W2 nx htl1
    have kk2 := k1.trans k2
    refine ⟨d, .dK (kvs cs), B2.l.dct, trivial, fun od => ?_⟩
    refine ⟨_, rfl, L, CL, dL, _, _, rfl, (upd_ne B2.l.Ld).trans B2.l.obj, T.cl, T.nD, rfl, d, od, _, rfl, upd_same, fun D hD => ?_⟩
    have ndD : d ≠ D := ne_of_none upd_same hD
    have hD0 : H2 D = none := (upd_ne ndD.symm).symm.trans hD
    refine lc_vals (fun i H' => H' = upd (upd H2 d (.frz od (.dK (kvs cs)))) D (.lst (((cs.take i).filter fun c => isDue c.n now).map fun c => V.ref c.a))) rfl (fun i H' _ e => by rw [e, upd_ne ndD, upd_same]) (fun i kk y H' hk e => ?_) (fun H' e => ?_)
    · subst e
      rw [List.getElem?_map] at hk
      cases hc : cs[i]? with
      | none =>
        rw [hc] at hk
        cases hk
      | some c =>
        rw [hc] at hk
        obtain ⟨rfl, rfl⟩ : Sum.inl c.n.addr = kk ∧ V.ref c.a = y := by
          have := Option.some.inj hk
          exact ⟨congrArg Prod.fst this, congrArg Prod.snd this⟩
        have hcm : c ∈ cs := List.mem_of_getElem? hc
        have hca := (B2.l.at_ c hcm).1
        have hca' : upd (upd H2 d (.frz od (.dK (kvs cs)))) D (.lst (((cs.take i).filter fun c => isDue c.n now).map fun c => V.ref c.a)) c.a = some (.ins CN c.dx (nf c.n c.w)) := by
          rw [upd_ne (ne_of_none hca hD0), upd_ne (B2.l.da hcm).symm]
          exact hca
        refine ⟨rfl, _, rfl, c.a, c.dx, _, rfl, hca', rfl, _, rfl, c.a, c.dx, c.w, c.n, now, rfl, hca', _, rfl, ?_⟩
        have tk : (cs.take (i + 1)).filter (fun c => isDue c.n now) = (cs.take i).filter (fun c => isDue c.n now) ++ (if isDue c.n now then [c] else []) := by
          rw [List.take_add_one, hc, List.filter_append]
          show _ ++ List.filter _ [c] = _
          rw [List.filter_cons, List.filter_nil]
        cases hdue : isDue c.n now with
        | true =>
          dsimp only
          rw [if_pos rfl]
          refine ⟨_, rfl, _, upd_same, ?_, ?_⟩
          · rw [List.length_map]
            have l1 := List.length_filter_le (fun c : Cell => isDue c.n now) (cs.take i)
            have l2 := List.length_take_le i cs
            rw [List.length_take] at l1
            exact small1000 (by have := B2.l.len; omega)
          · rw [tk, hdue, if_pos rfl, upd_upd, List.map_append]
            rfl
        | false =>
          refine iteF ?_
          rw [tk, hdue, if_neg (by decide), List.append_nil]
    · subst e
      rw [List.length_map, List.take_length]
      refine ⟨by rw [upd_ne ndD, upd_same], ?_⟩
      obtain ⟨S3, hD3, _⟩ := unlock_same (l := .lst ((cs.filter fun c => isDue c.n now).map fun c => V.ref c.a)) B2.l.dct hD
      generalize upd (upd (upd H2 d (.frz od (.dK (kvs cs)))) D (.lst ((cs.filter fun c => isDue c.n now).map fun c => V.ref c.a))) d (.dK (kvs cs)) = H3 at S3 hD3 ⊢
      have B3 := B2.same S3
      have kk3 := kk2.trans (Kp.same S3)
      have dsub : ∀ c ∈ cs.filter (fun c => isDue c.n now), c ∈ cs := fun c hc => (List.mem_filter.mp hc).1
      refine ⟨_, rfl, D, (cs.filter fun c => isDue c.n now).map (fun c => V.ref c.a), (cs.filter fun c => isDue c.n now).map (fun c => (c.n.due, c.n.addr)), rfl, SqL.of hD3, by rw [List.length_map, List.length_map], ?_, fun H4 p qs S4 hp hperm hpw hl4 => ?_⟩
      · intro i y kk H1' S hy hk
        rw [List.getElem?_map] at hy hk
        cases hc : (cs.filter fun c => isDue c.n now)[i]? with
        | none =>
          rw [hc] at hy
          cases hy
        | some c =>
          rw [hc] at hy hk
          obtain rfl : V.ref c.a = y := Option.some.inj hy
          obtain rfl : (c.n.due, c.n.addr) = kk := Option.some.inj hk
          exact ⟨c.a, c.dx, c.w, c.n, rfl, S _ _ (B3.l.at_ c (dsub c (List.mem_of_getElem? hc))).1, fun t ht => ⟨(Same.refl H1').upd_free ht, t, rfl, upd_same⟩⟩
      · obtain ⟨cl, hcl, rfl⟩ := perm_map_inv hperm (m := cs.filter fun c => isDue c.n now) (f := fun c => ((c.n.due, c.n.addr), V.ref c.a)) (List.zip_map' ..)
        rw [List.pairwise_map] at hpw
        rw [List.map_map] at hl4
        have hl4' : H4 p = some (.lst (cl.map fun c => V.ref c.a)) := hl4
        have csub : ∀ c ∈ cl, c ∈ cs := fun c hc => dsub c (hcl.mem_iff.mp hc)
        have cnd : (cl.map fun c => c.n.addr).Nodup := (hcl.map _).nodup_iff.mpr (nd_sub List.filter_sublist B3.l.nd)
        have clen : cl.length ≤ 256 := by
          rw [hcl.length_eq]
          exact Nat.le_trans (List.length_filter_le _ _) B3.l.len
        have pout : p ∉ fpB L d cs x tl [] := fun z => by
          rcases List.mem_append.mp z with z | z
          · obtain ⟨o, e⟩ := B3.l.there z
            rw [hp] at e
            cases e
          · obtain ⟨o, e⟩ := B3.w.there z
            rw [hp] at e
            cases e
        refine ⟨p, rfl, ⟨_, SqL.of hl4'⟩, for_list (K := K) (a := p) (xs := cl.map fun c => V.ref c.a) (fun i σ H' => ∃ (v : Option V) (ts : List Addr), σ = [some (.ref L), some (.int now), some (.ref x), some (.ref D), v] ∧ H' p = some (.lst (cl.map fun c => V.ref c.a)) ∧
            p ∉ fpB L d ((cl.take i).foldl (doDueC now) cs) x tl ts ∧ Both CL CN CW H' L dL d mac addr now ((cl.take i).foldl (doDueC now) cs) x tl ts ((cl.take i).flatMap fun c => doDueT mac addr c.n) ∧
            Kp (lfp L d cs) (fpB L d ((cl.take i).foldl (doDueC now) cs) x tl ts) H H' ∧ ∀ c ∈ cl.drop i, c ∈ (cl.take i).foldl (doDueC now) cs)
          ⟨none, [], rfl, hl4', pout, B3.same S4, kk3.trans (Kp.same S4), fun c hc => csub c (by simpa using hc)⟩ (fun i σ H' _ ⟨_, _, _, h1, _⟩ => SqL.of h1) ?_ ?_⟩
        · rintro i y σ H' hi ⟨v, ts, rfl, hp4, po4, B4, k4, mem4⟩
          rw [List.getElem?_map] at hi
          cases e : cl[i]? with
          | none =>
            rw [e] at hi
            cases hi
          | some c =>
            rw [e] at hi
            obtain rfl : V.ref c.a = y := Option.some.inj hi
            obtain ⟨hil, ec⟩ := List.getElem?_eq_some_iff.mp e
            have dr : cl.drop i = c :: cl.drop (i + 1) := by rw [List.drop_eq_getElem_cons hil, ec]
            have hcm : c ∈ (cl.take i).foldl (doDueC now) cs := mem4 c (by rw [dr]; exact List.mem_cons_self ..)
            have bound : ((cl.take i).flatMap fun c => doDueT mac addr c.n).length ≤ 90000 := by
              have q := flat5 (mac := mac) (addr := addr) (cl.take i) fun c hc => B3.l.wl c (csub c (List.mem_of_mem_take hc))
              rw [List.length_take] at q
              omega
            have tk : cl.take (i + 1) = cl.take i ++ [c] := by
              rw [List.take_add_one, e]
              rfl
            refine ⟨_, rfl, L, dL, _, rfl, B4.l.obj, rfl, _, rfl, _, rfl, L, dL, d, mac, addr, now, _, x, tl, ts, _, c, rfl, B4, hcm, bound, fun H5 ts5 B5 k5 => ?_⟩
            obtain ⟨hp5, po5⟩ := k5.out hp4 po4
            have fe : (cl.take (i + 1)).foldl (doDueC now) cs = doDueC now ((cl.take i).foldl (doDueC now) cs) c := by
              rw [tk, List.foldl_append]
              rfl
            have te : ((cl.take (i + 1)).flatMap fun c => doDueT mac addr c.n) = ((cl.take i).flatMap fun c => doDueT mac addr c.n) ++ doDueT mac addr c.n := by
              rw [tk, List.flatMap_append]
              simp
            refine ⟨some (.ref c.a), ts5, rfl, hp5, ?_, ?_, ?_, fun z hz => ?_⟩
            · rw [fe]
              exact po5
            · rw [fe, te]
              exact B5
            · rw [fe]
              exact k4.trans k5
            · rw [fe]
              refine doDueC_mem (mem4 z (by rw [dr]; exact List.mem_cons_of_mem _ hz)) fun q => ?_
              have nd2 : ((cl.drop i).map fun c => c.n.addr).Nodup := nd_sub (List.drop_sublist i cl) cnd
              rw [dr, List.map_cons, List.nodup_cons] at nd2
              exact nd2.1 (List.mem_map.mpr ⟨z, hz, q⟩)
        · rintro σ H' ⟨v, ts, rfl, _, _, B4, k4, _⟩
          rw [List.length_map, List.take_length] at B4 k4
          exact ⟨_, rfl, k H' cl x tl ts hcl hpw B4 k4⟩
end
end Nb
set_option Elab.async false
set_option linter.all false
set_option maxRecDepth 100000
set_option maxHeartbeats 4000000
namespace Nb
open PySem PySem.Spec PyProof.Rows L2
def spRoom (CL CN : Addr) : Sp := fun vs H Q _ => ∃ (L dL d : Addr) (mac addr now : Int) (cs : List Cell), vs = [.ref L] ∧ LAt CL CN H L dL d mac addr now cs ∧ (cs.length < 256 → Q (.bl true) H) ∧
  (¬ cs.length < 256 → (∀ c ∈ cs, c.n.st = 1) → ∀ H' : Hp, Same H H' → Q (.bl false) H') ∧
  ∀ g ∈ cs, ¬ cs.length < 256 → g.n.st ≠ 1 → (∀ x ∈ cs, x.n.st ≠ 1 → lexLe (g.n.used, g.n.addr) (x.n.used, x.n.addr)) → ∀ H' : Hp, LAt CL CN H' L dL d mac addr now (dropC cs g.n.addr) → Kp (lfp L d cs) (lfp L d (dropC cs g.n.addr)) H H' → Q (.bl true) H'
def spAdd (CL CN : Addr) : Sp := fun vs H Q _ => ∃ (L dL d : Addr) (mac addr now : Int) (cs : List Cell) (ad : Int), vs = [.ref L, .int ad] ∧ LAt CL CN H L dL d mac addr now cs ∧ (∀ x ∈ cs, x.n.addr ≠ ad) ∧ cs.length < 256 ∧
  ∀ (H' : Hp) (c : Cell), c.n = newN ad now → LAt CL CN H' L dL d mac addr now (cs ++ [c]) → Kp (lfp L d cs) (lfp L d (cs ++ [c])) H H' → Q (.ref c.a) H'
def spNext (CL CN : Addr) : Sp := fun vs H Q _ => ∃ (L dL d : Addr) (mac addr now : Int) (cs : List Cell), vs = [.ref L] ∧ LAt CL CN H L dL d mac addr now cs ∧
  ((∀ c ∈ cs, hasDue c.n = false) → ∀ (H' : Hp) (p : Addr), Same H H' → H p = none → H' p = some (.lst [.int (-2)]) → Q (.ref p) H') ∧
  ∀ g ∈ cs, hasDue g.n = true → (∀ x ∈ cs, hasDue x.n = true → g.n.due ≤ x.n.due) → ∀ (H' : Hp) (p : Addr), Same H H' → H p = none → H' p = some (.lst [.int 0, .int g.n.due]) → Q (.ref p) H'
section
variable {P : Program} {w : World} {K : PySem.W.Frag} {mg : Str → Option Value} {base : Heap} {CL CN CW CM : Addr}
theorem filt_take {α : Type} {p : α → Bool} {l : List α} {i : Nat} {c : α} (h : l[i]? = some c) : (l.take (i + 1)).filter p = (l.take i).filter p ++ (if p c = true then [c] else []) := by
  rw [List.take_add_one, h, List.filter_append]
  show _ ++ List.filter _ [c] = _
  rw [List.filter_cons, List.filter_nil]
theorem filt_len {α : Type} {p : α → Bool} {l : List α} {i : Nat} (h : l.length ≤ 256) : ((l.take i).filter p).length < sizeLine := by
  have l1 := List.length_filter_le p (l.take i)
  rw [List.length_take] at l1
  exact small1000 (by omega)
theorem scRoom : FnScope ["self", "spare", "gone", "neighbour"] ["self"] (defScope (inL 16)) := ⟨rfl, rfl, rfl, by decide +kernel, rfl, by decide +kernel, by decide +kernel⟩
theorem ok_room {f : Addr} {fd : FuncData} (F : Fun K "make_room" "Link.make_room" (inL 16) f fd) (T : TL K mg CL) (N : TN K mg CN) (oU : Ok P w K mg base 1 "use_order" ["neighbour"] (spUseOrder CN)) : FnOk P w K mg base CX0 3 f fd ["self"] (spRoom CL CN) := by
  refine F.ok scRoom (fun vs H Q E h => ?_) (fun cdv A outer s H vs Q E hr h => ?_)
  · obtain ⟨L, dL, d, mac, addr, now, cs, rfl, _⟩ := h
    rfl
  · obtain ⟨L, dL, d, mac, addr, now, cs, rfl, A0, kr, kn, kg⟩ := h
    refine ⟨_, pss_cons (ps_if (pt_cmpR op_lt (pe_callB call_lenD (by rfl) T.len PySem.boot_len (pa_cons (pe_fld (pv 0) rfl) pa_nil)) (pe_num rfl T.most) (nomark _)) (pss_one (ps_ret pe_bl)) pss_nil)
      (pss_cons (ps_lock (ps_setLc (i := 1) (own := [("neighbour", 3)]) (tt := tTest (tOp rNe (tFld K (tVar 3) "standing") (tC (.int 1)))) rfl scRoom.nd rfl rfl (sw_true rfl rfl rfl rfl) (pi_values (pe_fld (pv 0) rfl)) (blkOk_by rfl) (fun _ _ _ _ _ => pg_name (i := 3) scRoom.nd rfl (Or.inl rfl))
        (fun _ _ _ _ _ => pts_one (pt_cmpR op_ne (pe_fld (pv 3) rfl) (pe_num rfl N.askedFor) (nomark _))) (fun _ _ _ _ _ => pv 3)))
      (pss_cons (ps_if (pt_cmpR op_eq (pe_callB call_len_seq (by rfl) T.len PySem.boot_len (pa_cons (pv 1) pa_nil)) pe_int (nomark _)) (pss_one (ps_ret pe_bl)) pss_nil)
      (pss_cons (ps_set (i := 2) scRoom.nd rfl (Or.inl rfl) (pe_minO oU (hr.mono (by decide)) rfl T.min rfl (pv 1)))
      (pss_cons (ps_expr (pe_dpop1 (pe_fld (pv 0) rfl) (pe_fld (pv 2) rfl) ⟨rfl, rfl, rfl, rfl⟩))
      (pss_one (ps_ret pe_bl)))))), ?_⟩
    refine ⟨_, rfl, L, CL, dL, _, _, rfl, A0.obj, T.cl, T.nD, rfl, d, _, rfl, A0.dct, _, _, rfl, rfl, _, rfl, ?_⟩
    rw [List.length_map]
    by_cases h1 : cs.length < 256
    · rw [decide_eq_true (show ((cs.length : Nat) : Int) < 256 by omega)]
      dsimp only
      rw [if_pos rfl]
      exact kr h1
    · rw [decide_eq_false (show ¬ ((cs.length : Nat) : Int) < 256 by omega)]
      refine iteF ?_
      refine ⟨d, .dK (kvs cs), A0.dct, trivial, fun od => ?_⟩
      refine ⟨_, rfl, L, CL, dL, _, _, rfl, (upd_ne A0.Ld).trans A0.obj, T.cl, T.nD, rfl, d, od, _, rfl, upd_same, fun D hD => ?_⟩
      have ndD : d ≠ D := ne_of_none upd_same hD
      have hD0 : H D = none := (upd_ne ndD.symm).symm.trans hD
      refine lc_vals (fun i H' => H' = upd (upd H d (.frz od (.dK (kvs cs)))) D (.lst (((cs.take i).filter fun c : Cell => !decide (c.n.st = 1)).map fun c : Cell => V.ref c.a))) rfl (fun i H' _ e => by rw [e, upd_ne ndD, upd_same]) (fun i kk y H' hk e => ?_) (fun H' e => ?_)
      · subst e
        rw [List.getElem?_map] at hk
        cases hc : cs[i]? with
        | none =>
          rw [hc] at hk
          cases hk
        | some c =>
          rw [hc] at hk
          obtain ⟨rfl, rfl⟩ : Sum.inl c.n.addr = kk ∧ V.ref c.a = y := by
            have := Option.some.inj hk
            exact ⟨congrArg Prod.fst this, congrArg Prod.snd this⟩
          have hcm : c ∈ cs := List.mem_of_getElem? hc
          have hca := (A0.at_ c hcm).1
          have hca' : upd (upd H d (.frz od (.dK (kvs cs)))) D (.lst (((cs.take i).filter fun c : Cell => !decide (c.n.st = 1)).map fun c : Cell => V.ref c.a)) c.a = some (.ins CN c.dx (nf c.n c.w)) := by
            rw [upd_ne (ne_of_none hca hD0), upd_ne (A0.da hcm).symm]
            exact hca
          refine ⟨rfl, _, rfl, c.a, CN, c.dx, _, _, rfl, hca', N.cl, N.nS, rfl, rfl, _, rfl, ?_⟩
          have tk := filt_take (p := fun c : Cell => !decide (c.n.st = 1)) hc
          rw [dnot_int]
          by_cases hst : c.n.st = 1
          · rw [decide_eq_true hst, Bool.not_true] at tk ⊢
            refine iteF ?_
            rw [tk, if_neg (by decide), List.append_nil]
          · rw [decide_eq_false hst, Bool.not_false] at tk ⊢
            dsimp only
            rw [if_pos rfl]
            refine ⟨_, rfl, _, upd_same, ?_, ?_⟩
            · rw [List.length_map]
              exact filt_len A0.len
            · rw [tk, if_pos rfl, upd_upd, List.map_append]
              rfl
      · subst e
        rw [List.length_map, List.take_length]
        refine ⟨by rw [upd_ne ndD, upd_same], ?_⟩
        obtain ⟨S3, hD3, _⟩ := unlock_same (l := .lst ((cs.filter fun c : Cell => !decide (c.n.st = 1)).map fun c : Cell => V.ref c.a)) A0.dct hD
        generalize upd (upd (upd H d (.frz od (.dK (kvs cs)))) D (.lst ((cs.filter fun c : Cell => !decide (c.n.st = 1)).map fun c : Cell => V.ref c.a))) d (.dK (kvs cs)) = H3 at S3 hD3 ⊢
        have dsub : ∀ c, c ∈ cs.filter (fun c : Cell => !decide (c.n.st = 1)) ↔ c ∈ cs ∧ c.n.st ≠ 1 := fun c => by
          rw [List.mem_filter]
          simp
        have A3 := A0.same S3
        refine ⟨_, rfl, D, _, rfl, .inl (SqL.of hD3), rfl, _, rfl, ?_⟩
        rw [deq_int, List.length_map]
        by_cases hz : (((cs.filter fun c : Cell => !decide (c.n.st = 1)).length : Nat) : Int) = 0
        · rw [decide_eq_true hz]
          dsimp only
          rw [if_pos rfl]
          have hnil : cs.filter (fun c : Cell => !decide (c.n.st = 1)) = [] := List.length_eq_zero_iff.mp (by omega)
          refine kn h1 (fun c hc => ?_) H3 S3
          by_cases q : c.n.st = 1
          · exact q
          · have := (dsub c).mpr ⟨hc, q⟩
            rw [hnil] at this
            exact absurd this (by simp)
        · rw [decide_eq_false hz]
          refine iteF ?_
          refine ⟨_, rfl, D, (cs.filter fun c : Cell => !decide (c.n.st = 1)).map (fun c : Cell => V.ref c.a), (cs.filter fun c : Cell => !decide (c.n.st = 1)).map (fun c => (c.n.used, c.n.addr)), rfl, SqL.of hD3, by rw [List.length_map, List.length_map], by rw [List.length_map]; omega, ?_, fun H4 b y kb S4 hy hk best => ?_⟩
          · intro i y kk H1' S hy hk
            rw [List.getElem?_map] at hy hk
            cases hc : (cs.filter fun c : Cell => !decide (c.n.st = 1))[i]? with
            | none =>
              rw [hc] at hy
              cases hy
            | some c =>
              rw [hc] at hy hk
              obtain rfl : V.ref c.a = y := Option.some.inj hy
              obtain rfl : (c.n.used, c.n.addr) = kk := Option.some.inj hk
              exact ⟨c.a, c.dx, c.w, c.n, rfl, S _ _ (A3.at_ c ((dsub c).mp (List.mem_of_getElem? hc)).1).1, fun t ht => ⟨(Same.refl H1').upd_free ht, t, rfl, upd_same⟩⟩
          · rw [List.getElem?_map] at hy hk
            cases hc : (cs.filter fun c : Cell => !decide (c.n.st = 1))[b]? with
            | none =>
              rw [hc] at hy
              cases hy
            | some g =>
              rw [hc] at hy hk
              obtain rfl : V.ref g.a = y := Option.some.inj hy
              obtain rfl : (g.n.used, g.n.addr) = kb := Option.some.inj hk
              obtain ⟨hg, hg1⟩ := (dsub g).mp (List.mem_of_getElem? hc)
              have A4 := A3.same S4
              refine ⟨_, rfl, L, CL, dL, _, _, rfl, A4.obj, T.cl, T.nD, rfl, d, rfl, .inl ⟨_, .inl A4.dct⟩, _, rfl, g.a, CN, g.dx, _, _, rfl, (A4.at_ g hg).1, N.cl, N.nA, rfl, _, Sum.inl g.n.addr, _, A4.dct, rfl, valV_kvs_some A4.nd hg, ?_⟩
              have S5 := A4.dropN (ad := g.n.addr) (H' := upd H4 d (.dK (dropK (kvs cs) (Sum.inl g.n.addr)))) upd_same (fun b o e hb => by
                rw [upd_ne (by simpa using hb)]
                exact e)
              refine kg g hg h1 hg1 (fun z hz hz1 => ?_) _ S5.1 ((Kp.same (S3.trans S4)).trans S5.2)
              obtain ⟨j, hj, ej⟩ := List.mem_iff_getElem.mp ((dsub z).mpr ⟨hz, hz1⟩)
              exact best j (z.n.used, z.n.addr) (by rw [List.getElem?_map, List.getElem?_eq_getElem hj, ej]; rfl)
theorem scAdd : FnScope ["self", "address", "neighbour"] ["self", "address"] (defScope (inL 17)) := ⟨rfl, rfl, rfl, by decide +kernel, rfl, by decide +kernel, by decide +kernel⟩
theorem ok_add {f : Addr} {fd : FuncData} (F : Fun K "add_neighbour" "Link.add_neighbour" (inL 17) f fd) (T : TL K mg CL) (N : TN K mg CN) (oI : OkI P w K mg base 1 "Neighbour" CN ["self", "address", "now"] (spNInit CN)) : FnOk P w K mg base CX0 3 f fd ["self", "address"] (spAdd CL CN) := by
  refine F.ok scAdd (fun vs H Q E h => ?_) (fun cdv A outer s H vs Q E hr h => ?_)
  · obtain ⟨L, dL, d, mac, addr, now, cs, ad, rfl, _⟩ := h
    rfl
  · obtain ⟨L, dL, d, mac, addr, now, cs, ad, rfl, A0, hno, hlen, k⟩ := h
    refine ⟨_, pss_cons (ps_set (i := 2) scAdd.nd rfl (Or.inl rfl) (pe_makeO oI hr rfl (pa_cons (pv 1) (pa_cons (pe_fld (pv 0) rfl) pa_nil))))
      (pss_cons (ps_dput (hu_of hr) (pe_fld (pv 0) rfl) (pv 1) (pv 2) rfl) (pss_one (ps_ret (pv 2)))), ?_⟩
    refine ⟨_, rfl, _, rfl, L, CL, dL, _, _, rfl, A0.obj, T.cl, T.nN, rfl, fun x dx nx ndx ne => ?_⟩
    refine ⟨x, dx, ad, now, rfl, upd_same, fun H1 w' hw' h1w h1x h1k => ⟨rfl, ?_⟩⟩
    have nxw : x ≠ w' := ne_of_none upd_same hw'
    have ndw : dx ≠ w' := ne_of_none ((upd_ne ne).trans upd_same) hw'
    have hw0 : H w' = none := by
      rw [upd_ne nxw.symm, upd_ne ndw.symm] at hw'
      exact hw'
    have S1 : Same H H1 := fun b o e => by
      rw [h1k b (ne_of_none e nx) (ne_of_none e hw0), upd_ne (ne_of_none e nx), upd_ne (ne_of_none e ndx)]
      exact e
    have A1 := A0.same S1
    refine ⟨_, rfl, _, rfl, L, CL, dL, _, _, rfl, A1.obj, T.cl, T.nD, rfl, _, rfl, d, _, rfl, DPut.k (k := Sum.inl ad) A1.dct (by rw [List.length_map]; exact small1000 (by omega)), ?_⟩
    have nxd : x ≠ d := fun z => by
      rw [z, A0.dct] at nx
      cases nx
    have nwd : w' ≠ d := fun z => by
      rw [z, A0.dct] at hw0
      cases hw0
    have S2 := A0.addN (c := ⟨x, dx, w', newN ad now⟩) (H' := upd H1 d (.dK (putK (kvs cs) (Sum.inl ad) (.ref x)))) hno nx hw0 hlen (Nat.zero_le _) upd_same ((upd_ne nxd).trans h1x) ((upd_ne nwd).trans h1w) (fun b o e hb => by
      rw [upd_ne (by simpa using hb)]
      exact S1 b o e)
    exact ⟨_, rfl, k _ ⟨x, dx, w', newN ad now⟩ rfl S2.1 S2.2⟩
end
end Nb
set_option Elab.async false
set_option linter.all false
set_option maxRecDepth 100000
set_option maxHeartbeats 4000000
namespace Nb
open PySem PySem.Spec PyProof.Rows L2
section
variable {P : Program} {w : World} {K : PySem.W.Frag} {mg : Str → Option Value} {base : Heap} {CL CN CW CM : Addr}
theorem scNext : FnScope ["self", "times", "neighbour"] ["self"] (defScope (inL 5)) := ⟨rfl, rfl, rfl, by decide +kernel, rfl, by decide +kernel, by decide +kernel⟩
theorem ok_next {f : Addr} {fd : FuncData} (F : Fun K "next_due" "Link.next_due" (inL 5) f fd) (T : TL K mg CL) (N : TN K mg CN) (oH : OkM P w K mg base 1 CN "has_due" ["self"] (spHasDue CN)) : FnOk P w K mg base CX0 2 f fd ["self"] (spNext CL CN) := by
  refine F.ok scNext (fun vs H Q E h => ?_) (fun cdv A outer s H vs Q E hr h => ?_)
  · obtain ⟨L, dL, d, mac, addr, now, cs, rfl, _⟩ := h
    rfl
  · obtain ⟨L, dL, d, mac, addr, now, cs, rfl, A0, kn, kg⟩ := h
    refine ⟨_, pss_cons (ps_lock (ps_setLc (i := 1) (own := [("neighbour", 2)]) (te := tFld K (tVar 2) "due") rfl scNext.nd rfl rfl (sw_true rfl rfl rfl rfl) (pi_values (pe_fld (pv 0) rfl)) (blkOk_by rfl) (fun _ _ _ _ _ => pg_name (i := 2) scNext.nd rfl (Or.inl rfl))
        (fun _ _ _ _ _ => pts_one (pt_val (pe_methO0 oH N.cl hr (pv 2)))) (fun _ _ _ _ _ => pe_fld (pv 2) rfl)))
      (pss_cons (ps_if (pt_cmpR op_eq (pe_callB call_len_seq (by rfl) T.len PySem.boot_len (pa_cons (pv 1) pa_nil)) pe_int (nomark _)) (pss_one (ps_ret (pe_lst (pa_cons (pe_num rfl T.nothing) pa_nil)))) pss_nil)
      (pss_one (ps_ret (pe_lst (pa_cons (pe_num rfl T.fine) (pa_cons (pe_callB (cr_min rfl) (by rfl) T.min (by decide +kernel) (pa_cons (pv 1) pa_nil)) pa_nil)))))), ?_⟩
    refine ⟨d, .dK (kvs cs), A0.dct, trivial, fun od => ?_⟩
    refine ⟨_, rfl, L, CL, dL, _, _, rfl, (upd_ne A0.Ld).trans A0.obj, T.cl, T.nD, rfl, d, od, _, rfl, upd_same, fun D hD => ?_⟩
    have ndD : d ≠ D := ne_of_none upd_same hD
    have hD0 : H D = none := (upd_ne ndD.symm).symm.trans hD
    refine lc_vals (fun i H' => H' = upd (upd H d (.frz od (.dK (kvs cs)))) D (.lst (((cs.take i).filter fun c : Cell => hasDue c.n).map fun c : Cell => V.int c.n.due))) rfl (fun i H' _ e => by rw [e, upd_ne ndD, upd_same]) (fun i kk y H' hk e => ?_) (fun H' e => ?_)
    · subst e
      rw [List.getElem?_map] at hk
      cases hc : cs[i]? with
      | none =>
        rw [hc] at hk
        cases hk
      | some c =>
        rw [hc] at hk
        obtain ⟨rfl, rfl⟩ : Sum.inl c.n.addr = kk ∧ V.ref c.a = y := by
          have := Option.some.inj hk
          exact ⟨congrArg Prod.fst this, congrArg Prod.snd this⟩
        have hcm : c ∈ cs := List.mem_of_getElem? hc
        have hca := (A0.at_ c hcm).1
        have hca' : upd (upd H d (.frz od (.dK (kvs cs)))) D (.lst (((cs.take i).filter fun c : Cell => hasDue c.n).map fun c : Cell => V.int c.n.due)) c.a = some (.ins CN c.dx (nf c.n c.w)) := by
          rw [upd_ne (ne_of_none hca hD0), upd_ne (A0.da hcm).symm]
          exact hca
        refine ⟨rfl, _, rfl, c.a, c.dx, _, rfl, hca', rfl, c.a, c.dx, c.w, c.n, rfl, hca', _, rfl, ?_⟩
        have tk := filt_take (p := fun c : Cell => hasDue c.n) hc
        cases hd : hasDue c.n with
        | false =>
          rw [hd] at tk
          refine iteF ?_
          rw [tk, if_neg (by decide), List.append_nil]
        | true =>
          rw [hd] at tk
          dsimp only
          rw [if_pos rfl]
          refine ⟨_, rfl, c.a, CN, c.dx, _, _, rfl, hca', N.cl, N.nD, rfl, _, upd_same, ?_, ?_⟩
          · rw [List.length_map]
            exact filt_len A0.len
          · rw [tk, if_pos rfl, upd_upd, List.map_append]
            rfl
    · subst e
      rw [List.length_map, List.take_length]
      refine ⟨by rw [upd_ne ndD, upd_same], ?_⟩
      obtain ⟨S3, hD3, _⟩ := unlock_same (l := .lst ((cs.filter fun c : Cell => hasDue c.n).map fun c : Cell => V.int c.n.due)) A0.dct hD
      generalize upd (upd (upd H d (.frz od (.dK (kvs cs)))) D (.lst ((cs.filter fun c : Cell => hasDue c.n).map fun c : Cell => V.int c.n.due))) d (.dK (kvs cs)) = H3 at S3 hD3 ⊢
      have dsub : ∀ c, c ∈ cs.filter (fun c : Cell => hasDue c.n) ↔ c ∈ cs ∧ hasDue c.n = true := fun c => List.mem_filter
      refine ⟨_, rfl, D, _, rfl, .inl (SqL.of hD3), rfl, _, rfl, ?_⟩
      rw [deq_int, List.length_map]
      by_cases hz : (((cs.filter fun c : Cell => hasDue c.n).length : Nat) : Int) = 0
      · rw [decide_eq_true hz]
        dsimp only
        rw [if_pos rfl]
        have hnil : cs.filter (fun c : Cell => hasDue c.n) = [] := List.length_eq_zero_iff.mp (by omega)
        refine ⟨(by show 1 ≤ sizeLine; decide), fun p hp => kn (fun c hc => ?_) _ p (S3.trans ((Same.refl H3).upd_free hp)) (S3.free hp) upd_same⟩
        cases q : hasDue c.n with
        | false => rfl
        | true =>
          have := (dsub c).mpr ⟨hc, q⟩
          rw [hnil] at this
          exact absurd this (by simp)
      · rw [decide_eq_false hz]
        refine iteF ?_
        have hD4 : H3 D = some (.lst (((cs.filter fun c : Cell => hasDue c.n).map fun c : Cell => c.n.due).map V.int)) := by
          rw [hD3, List.map_map]
          rfl
        refine ⟨_, rfl, D, (cs.filter fun c : Cell => hasDue c.n).map fun c : Cell => c.n.due, rfl, SqL.of hD4, by rw [List.length_map]; omega, fun m hm hmin => ?_⟩
        obtain ⟨g, hg, rfl⟩ := List.mem_map.mp hm
        obtain ⟨hg1, hg2⟩ := (dsub g).mp hg
        refine ⟨(by show 2 ≤ sizeLine; decide), fun p hp => kg g hg1 hg2 (fun z hz1 hz2 => hmin _ (List.mem_map.mpr ⟨z, (dsub z).mpr ⟨hz1, hz2⟩, rfl⟩)) _ p (S3.trans ((Same.refl H3).upd_free hp)) (S3.free hp) upd_same⟩
end
def waitN (l : List Int) (p : Int) : List Int := (if l.length = 4 then l.drop 1 else l) ++ [p]
def waitT (l : List Int) : List (List Int) := if l.length = 4 then [[3, l.headD 0, 2]] else []
def spLetWait (CL CN CW : Addr) : Sp := fun vs H Q _ => ∃ (L dL d : Addr) (mac addr now : Int) (cs : List Cell) (wa tl : Addr) (ts : List Addr) (things : List (List Int)) (c : Cell) (p : Int), vs = [.ref L, .ref c.a, .int p, .ref wa] ∧ Both CL CN CW H L dL d mac addr now cs wa tl ts things ∧ c ∈ cs ∧ things.length ≤ 90000 ∧
  Fin2 CL CN CW H L dL d mac addr now cs wa tl ts things (setC cs { c with n := { c.n with wait := waitN c.n.wait p } }) (waitT c.n.wait) .non Q
def handN (n : Nbr) (now p : Int) : Nbr := if n.st = 1 then { n with used := now, wait := waitN n.wait p } else if n.st = 3 then askN { n with used := now, st := 4, asked := 0 } now else { n with used := now }
def handT (mac addr : Int) (n : Nbr) (p : Int) : List (List Int) := if n.st = 1 then waitT n.wait else if n.st = 3 then [[1, p, n.la], askT mac addr n] else [[1, p, n.la]]
def spHandTo (CL CN CW : Addr) : Sp := fun vs H Q _ => ∃ (L dL d : Addr) (mac addr now : Int) (cs : List Cell) (wa tl : Addr) (ts : List Addr) (things : List (List Int)) (c : Cell) (p : Int), vs = [.ref L, .ref c.a, .int p, .ref wa] ∧ Both CL CN CW H L dL d mac addr now cs wa tl ts things ∧ c ∈ cs ∧ things.length ≤ 80000 ∧
  Fin2 CL CN CW H L dL d mac addr now cs wa tl ts things (setC cs { c with n := handN c.n now p }) (handT mac addr c.n p) .non Q
section
variable {P : Program} {w : World} {K : PySem.W.Frag} {mg : Str → Option Value} {base : Heap} {CL CN CW CM : Addr}
theorem Both.setA {H : Hp} {L dL d : Addr} {mac addr now : Int} {cs : List Cell} {wa tl : Addr} {ts : List Addr} {things : List (List Int)} (B : Both CL CN CW H L dL d mac addr now cs wa tl ts things) {c : Cell} (hc : c ∈ cs) (n' : Nbr) (hd : n'.addr = c.n.addr) (hw : n'.wait = c.n.wait) :
    Both CL CN CW (upd H c.a (.ins CN c.dx (nf n' c.w))) L dL d mac addr now (setC cs { c with n := n' }) wa tl ts things ∧ Kp (fpB L d cs wa tl ts) (fpB L d (setC cs { c with n := n' }) wa tl ts) H (upd H c.a (.ins CN c.dx (nf n' c.w))) := by
  have S1 := B.l.setN (c := c) (c' := { c with n := n' }) (H' := upd H c.a (.ins CN c.dx (nf n' c.w))) hc rfl hd (.inl rfl) upd_same ((upd_ne (B.l.aw hc hc).symm).trans (by rw [(B.l.at_ c hc).2, ← hw])) (by show n'.wait.length ≤ 4; rw [hw]; exact B.l.wl c hc) (fun b o e hb => by
    rw [upd_ne (fun z => hb (by simp [z]))]
    exact e)
  exact B.link S1.1 S1.2
theorem Both.setW {H : Hp} {L dL d : Addr} {mac addr now : Int} {cs : List Cell} {wa tl : Addr} {ts : List Addr} {things : List (List Int)} (B : Both CL CN CW H L dL d mac addr now cs wa tl ts things) {c : Cell} (hc : c ∈ cs) (l : List Int) (hl : l.length ≤ 4) :
    Both CL CN CW (upd H c.w (.lst (l.map V.int))) L dL d mac addr now (setC cs { c with n := { c.n with wait := l } }) wa tl ts things ∧ Kp (fpB L d cs wa tl ts) (fpB L d (setC cs { c with n := { c.n with wait := l } }) wa tl ts) H (upd H c.w (.lst (l.map V.int))) := by
  have S1 := B.l.setN (c := c) (c' := { c with n := { c.n with wait := l } }) (H' := upd H c.w (.lst (l.map V.int))) hc rfl rfl (.inl rfl) ((upd_ne (B.l.aw hc hc)).trans (B.l.at_ c hc).1) upd_same hl (fun b o e hb => by
    rw [upd_ne (fun z => hb (by simp [z]))]
    exact e)
  exact B.link S1.1 S1.2
theorem scLetWait : FnScope ["self", "neighbour", "packet", "wanted"] ["self", "neighbour", "packet", "wanted"] (defScope (inL 21)) := ⟨rfl, rfl, rfl, by decide +kernel, rfl, by decide +kernel, by decide +kernel⟩
theorem ok_letWait {f : Addr} {fd : FuncData} (F : Fun K "let_wait" "Link.let_wait" (inL 21) f fd) (T : TL K mg CL) (N : TN K mg CN) (W : TWd K mg CW) (oD : OkM P w K mg base 1 CW "drop_packet" ["self", "packet", "why"] (spDropP CW)) : FnOk P w K mg base CX0 2 f fd ["self", "neighbour", "packet", "wanted"] (spLetWait CL CN CW) := by
  refine F.ok scLetWait (fun vs H Q E h => ?_) (fun cdv A outer s H vs Q E hr h => ?_)
  · obtain ⟨L, dL, d, mac, addr, now, cs, wa, tl, ts, things, c, p, rfl, _⟩ := h
    rfl
  · obtain ⟨L, dL, d, mac, addr, now, cs, wa, tl, ts, things, c, p, rfl, B, hc, hlen, k⟩ := h
    refine ⟨_, pss_cons (ps_if (pt_cmpR op_eq (pe_callB call_len_seq (by rfl) T.len PySem.boot_len (pa_cons (pe_fld (pv 1) rfl) pa_nil)) (pe_num rfl T.mostW) (nomark _))
        (pss_one (ps_expr (pe_methO oD W.cl hr (pv 3) (pa_cons (pe_bm PySem.F.plainAttrs_list PySem.F.slot_list_pop PySem.F.type_list_pop mt_popAt (pe_fld (pv 1) rfl) (pa_cons pe_int pa_nil)) (pa_cons (pe_num rfl T.tooMany) pa_nil))))) pss_nil)
      (pss_one (ps_expr (pe_bm PySem.F.plainAttrs_list PySem.F.slot_list_append PySem.F.type_list_append mt_append (pe_fld (pv 1) rfl) (pa_cons (pv 2) pa_nil)))), ?_⟩
    obtain ⟨hca, hcw⟩ := B.l.at_ c hc
    have wl := B.l.wl c hc
    refine ⟨_, rfl, c.a, CN, c.dx, _, _, rfl, hca, N.cl, N.nW, rfl, c.w, _, rfl, .inl (SqL.of hcw), rfl, _, rfl, ?_⟩
    rw [deq_int, List.length_map]
    unfold waitN waitT at k
    by_cases h4 : c.n.wait.length = 4
    · rw [if_pos h4, if_pos h4] at k
      rw [decide_eq_true (show ((c.n.wait.length : Nat) : Int) = 4 by omega)]
      dsimp only
      rw [if_pos rfl]
      obtain ⟨dW, hW⟩ := B.w.obj
      obtain ⟨x, l, hxl⟩ : ∃ x l, c.n.wait = x :: l := by
        cases q : c.n.wait with
        | nil =>
          rw [q] at h4
          cases h4
        | cons x l => exact ⟨x, l, rfl⟩
      rw [hxl] at k hcw h4
      have l4 : l.length = 3 := by simpa using h4
      refine ⟨_, rfl, wa, dW, _, rfl, hW, rfl, _, rfl, c.a, CN, c.dx, _, _, rfl, hca, N.cl, N.nW, rfl, .inl ⟨rfl, _, SqL.of hcw⟩, c.w, _, 0, 0, .int x, rfl, rfl, hcw, by decide, by decide, (by rw [List.length_map, List.length_cons, l4]; rfl), rfl, ?_⟩
      have BK := B.setW hc l (by omega)
      have hw1 : upd H c.w (.lst (l.map V.int)) c.w = some (.lst (l.map V.int)) := upd_same
      have ha1 : upd H c.w (.lst (l.map V.int)) c.a = some (.ins CN c.dx (nf c.n c.w)) := (upd_ne (B.l.aw hc hc)).trans hca
      have eG : upd H c.w (.lst (l.map V.int)) = upd H c.w (.lst ((List.map V.int (x :: l)).eraseIdx 0)) := rfl
      rw [eG] at BK hw1 ha1
      obtain ⟨B1, k1⟩ := BK
      generalize upd H c.w (.lst ((List.map V.int (x :: l)).eraseIdx 0)) = H1 at B1 k1 hw1 ha1 ⊢
      refine ⟨wa, tl, ts, things, x, 2, rfl, B1.w, (by omega), fun H2 t ht W2 kb2 => ?_⟩
      obtain ⟨B2, k2⟩ := B1.tell ht W2 kb2
      obtain ⟨natl, nwtl⟩ := B.atl hc
      have hw2 := kb2 _ _ hw1 nwtl
      have ha2 := kb2 _ _ ha1 natl
      refine ⟨_, rfl, c.a, CN, c.dx, _, _, rfl, ha2, N.cl, N.nW, rfl, .inl ⟨rfl, _, SqL.of hw2⟩, _, rfl, c.w, _, _, rfl, rfl, hw2, (by rw [List.length_map]; exact small1000 (by omega)), ?_⟩
      have hc1 : ({ c with n := { c.n with wait := l } } : Cell) ∈ setC cs { c with n := { c.n with wait := l } } := setC_mem hc rfl
      obtain ⟨B3, k3⟩ := B2.setW (c := { c with n := { c.n with wait := l } }) hc1 (l ++ [p]) (by rw [List.length_append, List.length_singleton]; omega)
      rw [setC_setC (by rfl)] at B3 k3
      have e3 : upd H2 c.w (.lst (l.map V.int ++ [.int p])) = upd H2 c.w (.lst ((l ++ [p]).map V.int)) := by rw [List.map_append]; rfl
      rw [e3]
      exact k _ _ B3 ((k1.trans k2).trans k3)
    · rw [if_neg h4, if_neg h4] at k
      rw [decide_eq_false (show ¬ ((c.n.wait.length : Nat) : Int) = 4 by omega)]
      refine iteF ?_
      refine ⟨_, rfl, c.a, CN, c.dx, _, _, rfl, hca, N.cl, N.nW, rfl, .inl ⟨rfl, _, SqL.of hcw⟩, _, rfl, c.w, _, _, rfl, rfl, hcw, (by rw [List.length_map]; exact small1000 (by omega)), ?_⟩
      obtain ⟨B3, k3⟩ := B.setW hc (c.n.wait ++ [p]) (by rw [List.length_append, List.length_singleton]; omega)
      have e3 : upd H c.w (.lst (c.n.wait.map V.int ++ [.int p])) = upd H c.w (.lst ((c.n.wait ++ [p]).map V.int)) := by rw [List.map_append]; rfl
      rw [e3]
      exact k _ _ (by rw [List.append_nil]; exact B3) k3
end
end Nb
set_option Elab.async false
set_option linter.all false
set_option maxRecDepth 100000
set_option maxHeartbeats 4000000
namespace Nb
open PySem PySem.Spec PyProof.Rows L2
def RoomTo (cs cs1 : List Cell) : Prop := (cs.length < 256 ∧ cs1 = cs) ∨ ∃ g ∈ cs, ¬ cs.length < 256 ∧ g.n.st ≠ 1 ∧ (∀ x ∈ cs, x.n.st ≠ 1 → lexLe (g.n.used, g.n.addr) (x.n.used, x.n.addr)) ∧ cs1 = dropC cs g.n.addr
def NoRoom (cs : List Cell) : Prop := ¬ cs.length < 256 ∧ ∀ c ∈ cs, c.n.st = 1
theorem RoomTo.sub {cs cs1 : List Cell} (h : RoomTo cs cs1) {x : Cell} (hx : x ∈ cs1) : x ∈ cs := by
  rcases h with ⟨_, rfl⟩ | ⟨g, _, _, _, _, rfl⟩
  · exact hx
  · exact (mem_dropC.mp hx).1
theorem RoomTo.len {cs cs1 : List Cell} (h : RoomTo cs cs1) (hl : cs.length ≤ 256) : cs1.length < 256 := by
  rcases h with ⟨h, rfl⟩ | ⟨g, hg, _, _, _, rfl⟩
  · exact h
  · have : (dropC cs g.n.addr).length < cs.length := by
      unfold dropC
      refine List.length_filter_lt_length_iff_exists.mpr ⟨g, hg, ?_⟩
      simp
    omega
theorem setC_last {cs : List Cell} {c c' : Cell} (h : ∀ x ∈ cs, x.n.addr ≠ c'.n.addr) (e : c.n.addr = c'.n.addr) : setC (cs ++ [c]) c' = cs ++ [c'] := by
  unfold setC
  rw [List.map_append]
  congr 1
  · conv => rhs; rw [← List.map_id cs]
    exact List.map_congr_left fun x hx => if_neg (h x hx)
  · show [if c.n.addr = c'.n.addr then c' else c] = [c']
    rw [if_pos e]
def HandRel (mac addr now to p : Int) (cs cs' : List Cell) (new : List (List Int)) : Prop :=
  (to = 4294967295 ∧ cs' = cs ∧ new = [[1, p, 281474976710655]]) ∨ (to ≠ 4294967295 ∧
    ((∃ c ∈ cs, c.n.addr = to ∧ cs' = setC cs { c with n := handN c.n now p } ∧ new = handT mac addr c.n p) ∨
    ((∀ c ∈ cs, c.n.addr ≠ to) ∧ ((NoRoom cs ∧ cs' = cs ∧ new = [[3, p, 3]]) ∨
      ∃ cs1 c0, RoomTo cs cs1 ∧ c0.n = { askN (newN to now) now with wait := [p] } ∧ cs' = cs1 ++ [c0] ∧ new = [askT mac addr (newN to now)]))))
def spHand (CL CN CW : Addr) : Sp := fun vs H Q _ => ∃ (L dL d : Addr) (mac addr now : Int) (cs : List Cell) (wa tl : Addr) (ts : List Addr) (things : List (List Int)) (to p : Int), vs = [.ref L, .int to, .int p, .ref wa] ∧ Both CL CN CW H L dL d mac addr now cs wa tl ts things ∧ things.length ≤ 80000 ∧
  ∀ cs' new, HandRel mac addr now to p cs cs' new → Fin2 CL CN CW H L dL d mac addr now cs wa tl ts things cs' new .non Q
section
variable {P : Program} {w : World} {K : PySem.W.Frag} {mg : Str → Option Value} {base : Heap} {CL CN CW CM : Addr}
theorem scHandTo : FnScope ["self", "neighbour", "packet", "wanted"] ["self", "neighbour", "packet", "wanted"] (defScope (inL 20)) := ⟨rfl, rfl, rfl, by decide +kernel, rfl, by decide +kernel, by decide +kernel⟩
theorem ok_handTo {f : Addr} {fd : FuncData} (F : Fun K "hand_over_to" "Link.hand_over_to" (inL 20) f fd) (T : TL K mg CL) (N : TN K mg CN) (W : TWd K mg CW) (oLW : OkM P w K mg base 2 CL "let_wait" ["self", "neighbour", "packet", "wanted"] (spLetWait CL CN CW))
    (oP : OkM P w K mg base 1 CW "pass_packet" ["self", "packet", "link_address"] (spPass CW)) (oBA : OkM P w K mg base 1 CN "become_asked_again" ["self"] (spBecAgain CN)) (oA : OkM P w K mg base 4 CL "ask" ["self", "neighbour", "wanted"] (spAsk CL CN CW)) :
    FnOk P w K mg base CX0 5 f fd ["self", "neighbour", "packet", "wanted"] (spHandTo CL CN CW) := by
  refine F.ok scHandTo (fun vs H Q E h => ?_) (fun cdv A outer s H vs Q E hr h => ?_)
  · obtain ⟨L, dL, d, mac, addr, now, cs, wa, tl, ts, things, c, p, rfl, _⟩ := h
    rfl
  · obtain ⟨L, dL, d, mac, addr, now, cs, wa, tl, ts, things, c, p, rfl, B, hc, hlen, k⟩ := h
    refine ⟨_, pss_cons (ps_fld (pv 1) (pe_fld (pv 0) rfl) rfl) (pss_cons (ps_if (pt_cmpR op_eq (pe_fld (pv 1) rfl) (pe_num rfl N.askedFor) (nomark _))
        (pss_cons (ps_expr (pe_methO oLW T.cl (hr.mono (by decide)) (pv 0) (pa_cons (pv 1) (pa_cons (pv 2) (pa_cons (pv 3) pa_nil))))) (pss_one ps_retN)) pss_nil)
      (pss_cons (ps_expr (pe_methO oP W.cl (hr.mono (by decide)) (pv 3) (pa_cons (pv 2) (pa_cons (pe_fld (pv 1) rfl) pa_nil))))
      (pss_one (ps_if (pt_cmpR op_eq (pe_fld (pv 1) rfl) (pe_num rfl N.old) (nomark _))
        (pss_cons (ps_expr (pe_methO0 oBA N.cl (hr.mono (by decide)) (pv 1))) (pss_one (ps_expr (pe_methO oA T.cl hr (pv 0) (pa_cons (pv 1) (pa_cons (pv 3) pa_nil)))))) pss_nil)))), ?_⟩
    obtain ⟨hca, hcw⟩ := B.l.at_ c hc
    refine ⟨_, rfl, L, CL, dL, _, _, rfl, B.l.obj, T.cl, T.nN, rfl, _, rfl, c.a, CN, c.dx, _, rfl, hca, N.cl, N.nU, (by show 7 < 1000; decide), ?_⟩
    obtain ⟨B1, k1⟩ := B.setA hc { c.n with used := now } rfl rfl
    have hca1 : upd H c.a (.ins CN c.dx (nf { c.n with used := now } c.w)) c.a = some (.ins CN c.dx (nf { c.n with used := now } c.w)) := upd_same
    show tSeq _ _ _ _ (upd H c.a (.ins CN c.dx (nf { c.n with used := now } c.w)))
    generalize upd H c.a (.ins CN c.dx (nf { c.n with used := now } c.w)) = H1 at B1 k1 hca1 ⊢
    have hc1 : ({ c with n := { c.n with used := now } } : Cell) ∈ setC cs { c with n := { c.n with used := now } } := setC_mem hc rfl
    refine ⟨_, rfl, c.a, CN, c.dx, _, _, rfl, hca1, N.cl, N.nS, rfl, rfl, _, rfl, ?_⟩
    rw [deq_int]
    unfold handN handT at k
    by_cases h1 : c.n.st = 1
    · rw [if_pos h1, if_pos h1] at k
      rw [decide_eq_true (show ({ c.n with used := now } : Nbr).st = 1 from h1)]
      try dsimp only
      rw [if_pos rfl]
      refine ⟨_, rfl, L, dL, _, rfl, B1.l.obj, rfl, _, rfl, _, rfl, _, rfl, L, dL, d, mac, addr, now, _, wa, tl, ts, things, { c with n := { c.n with used := now } }, p, rfl, B1, hc1, (by omega), fun H2 ts2 B2 k2 => ?_⟩
      rw [setC_setC (by rfl)] at B2 k2
      exact k H2 ts2 B2 (k1.trans k2)
    · rw [if_neg h1, if_neg h1] at k
      rw [decide_eq_false (show ¬ ({ c.n with used := now } : Nbr).st = 1 from h1)]
      refine iteF ?_
      obtain ⟨dW, hW⟩ := B1.w.obj
      obtain ⟨natl, nwtl⟩ := B.atl hc
      refine ⟨_, rfl, wa, dW, _, rfl, hW, rfl, _, rfl, _, rfl, c.a, CN, c.dx, _, _, rfl, hca1, N.cl, N.nL, rfl, wa, tl, ts, things, p, c.n.la, rfl, B1.w, (by omega), fun H2 t ht W2 kb2 => ?_⟩
      obtain ⟨B2, k2⟩ := B1.tell ht W2 kb2
      have hca2 := kb2 _ _ hca1 natl
      refine ⟨_, rfl, c.a, CN, c.dx, _, _, rfl, hca2, N.cl, N.nS, rfl, rfl, _, rfl, ?_⟩
      rw [deq_int]
      by_cases h3 : c.n.st = 3
      · rw [if_pos h3, if_pos h3] at k
        rw [decide_eq_true (show ({ c.n with used := now } : Nbr).st = 3 from h3)]
        try dsimp only
        rw [if_pos rfl]
        refine ⟨_, rfl, c.a, c.dx, _, rfl, hca2, rfl, c.a, c.dx, c.w, { c.n with used := now }, rfl, hca2, ?_⟩
        obtain ⟨B3, k3⟩ := B2.setA (c := { c with n := { c.n with used := now } }) hc1 { c.n with used := now, st := 4, asked := 0 } rfl rfl
        rw [setC_setC (by rfl)] at B3 k3
        have hc3 : ({ c with n := { c.n with used := now, st := 4, asked := 0 } } : Cell) ∈ setC cs { c with n := { c.n with used := now, st := 4, asked := 0 } } := setC_mem hc rfl
        refine ⟨_, rfl, L, dL, _, rfl, B3.l.obj, rfl, _, rfl, _, rfl, L, dL, d, mac, addr, now, _, wa, tl, _, _, { c with n := { c.n with used := now, st := 4, asked := 0 } }, rfl, B3, hc3, (by rw [List.length_append, List.length_singleton]; omega), fun H4 ts4 B4 k4 => ?_⟩
        rw [setC_setC (by rfl), List.append_assoc] at B4
        rw [setC_setC (by rfl)] at k4
        exact k H4 ts4 B4 (((k1.trans k2).trans k3).trans k4)
      · rw [if_neg h3, if_neg h3] at k
        rw [decide_eq_false (show ¬ ({ c.n with used := now } : Nbr).st = 3 from h3)]
        exact iteF (k H2 _ B2 (k1.trans k2))
theorem scHand : FnScope ["self", "to", "packet", "wanted", "neighbour"] ["self", "to", "packet", "wanted"] (defScope (inL 19)) := ⟨rfl, rfl, rfl, by decide +kernel, rfl, by decide +kernel, by decide +kernel⟩
theorem ok_hand {f : Addr} {fd : FuncData} (F : Fun K "hand_over" "Link.hand_over" (inL 19) f fd) (T : TL K mg CL) (N : TN K mg CN) (W : TWd K mg CW) (M : TW K mg CM) (oP : OkM P w K mg base 1 CW "pass_packet" ["self", "packet", "link_address"] (spPass CW)) (oH : OkM P w K mg base 5 CL "hand_over_to" ["self", "neighbour", "packet", "wanted"] (spHandTo CL CN CW))
    (oR : OkM P w K mg base 3 CL "make_room" ["self"] (spRoom CL CN)) (oN : OkM P w K mg base 3 CL "add_neighbour" ["self", "address"] (spAdd CL CN)) (oA : OkM P w K mg base 4 CL "ask" ["self", "neighbour", "wanted"] (spAsk CL CN CW)) (oD : OkM P w K mg base 1 CW "drop_packet" ["self", "packet", "why"] (spDropP CW)) :
    FnOk P w K mg base CX0 6 f fd ["self", "to", "packet", "wanted"] (spHand CL CN CW) := by
  refine F.ok scHand (fun vs H Q E h => ?_) (fun cdv A outer s H vs Q E hr h => ?_)
  · obtain ⟨L, dL, d, mac, addr, now, cs, wa, tl, ts, things, to, p, rfl, _⟩ := h
    rfl
  · obtain ⟨L, dL, d, mac, addr, now, cs, wa, tl, ts, things, to, p, rfl, B, hlen, k⟩ := h
    refine ⟨_, pss_one (ps_if (pt_cmpR op_eq (pv 1) (pe_num rfl M.everybody) (nomark _)) (pss_one (ps_expr (pe_methO oP W.cl (hr.mono (by decide)) (pv 3) (pa_cons (pv 2) (pa_cons (pe_num rfl M.everyLink) pa_nil)))))
      (pss_one (ps_if (pt_cmp (pc_din (hu_of hr) (pv 1) (pe_fld (pv 0) rfl))) (pss_one (ps_expr (pe_methO oH T.cl hr (pv 0) (pa_cons (pe_dget (hu_of hr) (pe_fld (pv 0) rfl) (pv 1) (fun _ _ => rfl)) (pa_cons (pv 2) (pa_cons (pv 3) pa_nil))))))
      (pss_one (ps_if (pt_val (pe_methO0 oR T.cl (hr.mono (by decide)) (pv 0))) (pss_cons (ps_set (i := 4) scHand.nd rfl (Or.inl rfl) (pe_methO oN T.cl (hr.mono (by decide)) (pv 0) (pa_cons (pv 1) pa_nil)))
          (pss_cons (ps_expr (pe_bm PySem.F.plainAttrs_list PySem.F.slot_list_append PySem.F.type_list_append mt_append (pe_fld (pv 4) rfl) (pa_cons (pv 2) pa_nil)))
          (pss_one (ps_expr (pe_methO oA T.cl (hr.mono (by decide)) (pv 0) (pa_cons (pv 4) (pa_cons (pv 3) pa_nil)))))))
        (pss_one (ps_expr (pe_methO oD W.cl (hr.mono (by decide)) (pv 3) (pa_cons (pv 2) (pa_cons (pe_num rfl T.noRoom) pa_nil)))))))))), ?_⟩
    obtain ⟨dW, hW⟩ := B.w.obj
    refine ⟨_, rfl, rfl, _, rfl, ?_⟩
    rw [deq_int]
    by_cases h1 : to = 4294967295
    · rw [decide_eq_true h1]
      try dsimp only
      rw [if_pos rfl]
      refine ⟨_, rfl, wa, dW, _, rfl, hW, rfl, _, rfl, wa, tl, ts, things, p, _, rfl, B.w, (by omega), fun H2 t ht W2 kb2 => ?_⟩
      obtain ⟨B2, k2⟩ := B.tell ht W2 kb2
      exact k cs _ (.inl ⟨h1, rfl, rfl⟩) H2 _ B2 k2
    · rw [decide_eq_false h1]
      refine iteF ?_
      refine ⟨_, rfl, _, rfl, L, CL, dL, _, _, rfl, B.l.obj, T.cl, T.nD, rfl, d, _, rfl, DGet.k (k := Sum.inl to) B.l.dct, _, rfl, ?_⟩
      by_cases hin : ∃ c ∈ cs, c.n.addr = to
      · obtain ⟨c, hc, rfl⟩ := hin
        rw [valV_kvs_some B.l.nd hc]
        dsimp only [Option.isSome]
        rw [if_pos rfl]
        refine ⟨_, rfl, L, dL, _, rfl, B.l.obj, rfl, _, rfl, L, CL, dL, _, _, rfl, B.l.obj, T.cl, T.nD, rfl, _, rfl, d, _, rfl, (by rw [← valV_kvs_some B.l.nd hc]; exact DGet.k (k := Sum.inl c.n.addr) B.l.dct), _, rfl, _, rfl, L, dL, d, mac, addr, now, cs, wa, tl, ts, things, c, p, rfl, B, hc, hlen, ?_⟩
        exact k _ _ (.inr ⟨h1, .inl ⟨c, hc, rfl, rfl, rfl⟩⟩)
      · have hno : ∀ c ∈ cs, c.n.addr ≠ to := fun c hc e => hin ⟨c, hc, e⟩
        rw [valV_kvs_none hno]
        dsimp only [Option.isSome]
        refine iteF ?_
        have goon : ∀ (H1 : Hp) (cs1 : List Cell), RoomTo cs cs1 → LAt CL CN H1 L dL d mac addr now cs1 → Kp (lfp L d cs) (lfp L d cs1) H H1 → (tSeq (tAsg (tMeth CL "add_neighbour" (spAdd CL CN) [] E0 (tVar 0) (tCons (tVar 1) tNil)) (gName 4))
            (tSeq (tDrop (tBM K "list" rAppend (tFld K (tVar 4) "waiting") (tCons (tVar 2) tNil))) (tDrop (tMeth CL "ask" (spAsk CL CN CW) [] E0 (tVar 0) (tCons (tVar 4) (tCons (tVar 3) tNil)))))) { nx := fun _ H' => Q .non H', rt := Q } (L2.start ["self", "to", "packet", "wanted", "neighbour"] [.ref L, .int to, .int p, .ref wa]) H1 := by
          intro H1 cs1 R A1 k1
          obtain ⟨B1, kb1⟩ := B.link A1 k1
          have hno1 : ∀ c ∈ cs1, c.n.addr ≠ to := fun c hc => hno c (R.sub hc)
          refine ⟨_, rfl, L, dL, _, rfl, A1.obj, rfl, _, rfl, L, dL, d, mac, addr, now, cs1, to, rfl, A1, hno1, R.len B.l.len, fun H2 c ec A2 k2 => ?_⟩
          obtain ⟨B2, kb2⟩ := B1.link A2 k2
          have hcm : c ∈ cs1 ++ [c] := List.mem_append_right _ (List.mem_singleton.mpr rfl)
          obtain ⟨hca, hcw⟩ := A2.at_ c hcm
          have hwn : c.n.wait = [] := by rw [ec]; rfl
          rw [hwn] at hcw
          refine ⟨_, rfl, c.a, CN, c.dx, _, _, rfl, hca, N.cl, N.nW, rfl, .inl ⟨rfl, _, SqL.of hcw⟩, _, rfl, c.w, _, _, rfl, rfl, hcw, (by show 0 < sizeLine; decide), ?_⟩
          obtain ⟨B3, k3⟩ := B2.setW hcm [p] (by show 1 ≤ 4; decide)
          have ead : c.n.addr = to := by rw [ec]; rfl
          have sl1 : setC (cs1 ++ [c]) { c with n := { c.n with wait := [p] } } = cs1 ++ [{ c with n := { c.n with wait := [p] } }] := setC_last (fun x hx => by show x.n.addr ≠ c.n.addr; rw [ead]; exact hno1 x hx) rfl
          rw [sl1] at B3 k3
          have hcm3 : ({ c with n := { c.n with wait := [p] } } : Cell) ∈ cs1 ++ [{ c with n := { c.n with wait := [p] } }] := List.mem_append_right _ (List.mem_singleton.mpr rfl)
          refine ⟨_, rfl, L, dL, _, rfl, B3.l.obj, rfl, _, rfl, _, rfl, L, dL, d, mac, addr, now, _, wa, tl, ts, things, { c with n := { c.n with wait := [p] } }, rfl, B3, hcm3, (by omega), ?_⟩
          have sl2 : setC (cs1 ++ [{ c with n := { c.n with wait := [p] } }]) { c with n := askN { c.n with wait := [p] } now } = cs1 ++ [{ c with n := askN { c.n with wait := [p] } now }] := setC_last (fun x hx => by show x.n.addr ≠ c.n.addr; rw [ead]; exact hno1 x hx) rfl
          rw [sl2]
          intro H4 ts4 B4 k4
          refine k (cs1 ++ [{ c with n := askN { c.n with wait := [p] } now }]) [askT mac addr (newN to now)] (.inr ⟨h1, .inr ⟨hno, .inr ⟨cs1, _, R, ?_, rfl, rfl⟩⟩⟩) H4 ts4 ?_ (((kb1.trans kb2).trans k3).trans k4)
          · show askN { c.n with wait := [p] } now = _
            rw [ec]
            rfl
          · have et : askT mac addr { c.n with wait := [p] } = askT mac addr (newN to now) := by
              rw [ec]
              rfl
            rw [← et]
            exact B4
        refine ⟨_, rfl, L, dL, _, rfl, B.l.obj, rfl, L, dL, d, mac, addr, now, cs, rfl, B.l, fun hlt => ⟨_, rfl, ?_⟩, fun hge hall H1 S1 => ⟨_, rfl, ?_⟩, fun g hg hge hg1 hmin H1 A1 k1 => ⟨_, rfl, ?_⟩⟩
        · try dsimp only
          rw [if_pos rfl]
          exact goon H cs (.inl ⟨hlt, rfl⟩) B.l Kp.refl
        · refine iteF ?_
          have B1 := B.same S1
          obtain ⟨dW1, hW1⟩ := B1.w.obj
          refine ⟨_, rfl, wa, dW1, _, rfl, hW1, rfl, _, rfl, wa, tl, ts, things, p, 3, rfl, B1.w, (by omega), fun H2 t ht W2 kb2 => ?_⟩
          obtain ⟨B2, k2⟩ := B1.tell ht W2 kb2
          exact k cs _ (.inr ⟨h1, .inr ⟨hno, .inl ⟨⟨hge, hall⟩, rfl, rfl⟩⟩⟩) H2 _ B2 ((Kp.same S1).trans k2)
        · try dsimp only
          rw [if_pos rfl]
          exact goon H1 _ (.inr ⟨g, hg, hge, hg1, hmin, rfl⟩) A1 k1
end
end Nb
set_option Elab.async false
set_option linter.all false
set_option maxRecDepth 100000
set_option maxHeartbeats 4000000
namespace Nb
open PySem PySem.Spec PyProof.Rows L2
theorem mf_ne_nf {C dx C' dx' : Addr} {a b c d : Int} {n : Nbr} {w : Addr} : HO.ins C dx (mf a b c d) ≠ HO.ins C' dx' (nf n w) := fun z => by
  injection z with _ _ z
  exact absurd (congrArg List.length z) (by show ¬ 4 = 7; decide)
theorem mf_ne_lf {C dx C' dx' : Addr} {a b c d m x y : Int} {q : Addr} : HO.ins C dx (mf a b c d) ≠ HO.ins C' dx' (lf m x y q) := fun z => by
  injection z with _ _ z
  have e : (("what" : Str), V.int a) = (("link_address" : Str), V.int m) := (List.cons.inj z).1
  exact absurd (congrArg Prod.fst e) (by show ¬ ("what" : Str) = "link_address"; decide +kernel)
theorem Both.msgOut {CL CN CW CM : Addr} {H : Hp} {L dL d : Addr} {mac addr now : Int} {cs : List Cell} {wa tl : Addr} {ts : List Addr} {things : List (List Int)} (B : Both CL CN CW H L dL d mac addr now cs wa tl ts things) {m dm : Addr} {w l a b : Int} (hm : H m = some (.ins CM dm (mf w l a b))) :
    m ∉ fpB L d cs wa tl ts := fun z => by
  rcases List.mem_append.mp z with z | z
  · rcases mem_lfp.mp z with rfl | rfl | ⟨c, hc, rfl | rfl⟩
    · rw [B.l.obj] at hm
      exact mf_ne_lf (Option.some.inj hm).symm
    · rw [B.l.dct] at hm
      cases hm
    · rw [(B.l.at_ c hc).1] at hm
      exact mf_ne_nf (Option.some.inj hm).symm
    · rw [(B.l.at_ c hc).2] at hm
      cases hm
  · obtain ⟨dW, hW⟩ := B.w.obj
    rcases List.mem_cons.mp z with rfl | z
    · rw [hW] at hm
      have := Option.some.inj hm
      injection this with _ _ q
      exact absurd (congrArg List.length q) (by show ¬ 1 = 4; decide)
    · rcases List.mem_cons.mp z with rfl | z
      · rw [B.w.lst] at hm
        cases hm
      · obtain ⟨j, hj, e⟩ := List.mem_iff_getElem.mp z
        have e1 : ts[j]? = some m := by rw [List.getElem?_eq_getElem hj, e]
        have := B.w.at_ j m _ e1 (List.getElem?_eq_getElem (show j < things.length by rw [← B.w.len]; exact hj))
        rw [this] at hm
        cases hm
def heedsI (mac sender l : Int) : Bool := if l ≠ sender ∨ sender = mac then false else mayLink sender
def spHeeds (CL CM : Addr) : Sp := fun vs H Q _ => ∃ (L dL d : Addr) (mac addr cur sender : Int) (m dm : Addr) (w l a b : Int), vs = [.ref L, .int sender, .ref m] ∧ H L = some (.ins CL dL (lf mac addr cur d)) ∧ H m = some (.ins CM dm (mf w l a b)) ∧ Q (.bl (heedsI mac sender l)) H
def AnswerRel (addr now : Int) (l a b : Int) (cs cs' : List Cell) (new : List (List Int)) : Prop :=
  (b = addr ∧ ∃ c ∈ cs, c.n.addr = a ∧ isAwaited c.n = true ∧ (∃ w', cs' = setC cs { c with n := knowN c.n l now, w := w' }) ∧ new = knowT c.n l) ∨
  ((b ≠ addr ∨ ∀ c ∈ cs, c.n.addr = a → isAwaited c.n = false) ∧ cs' = cs ∧ new = [])
def spTakeAnswer (CL CN CW CM : Addr) : Sp := fun vs H Q _ => ∃ (L dL d : Addr) (mac addr now : Int) (cs : List Cell) (wa tl : Addr) (ts : List Addr) (things : List (List Int)) (m dm : Addr) (w l a b : Int), vs = [.ref L, .ref m, .ref wa] ∧ Both CL CN CW H L dL d mac addr now cs wa tl ts things ∧ things.length ≤ 80000 ∧ H m = some (.ins CM dm (mf w l a b)) ∧
  ∀ cs' new, AnswerRel addr now l a b cs cs' new → Fin2 CL CN CW H L dL d mac addr now cs wa tl ts things cs' new .non Q
def QuestRel (mac addr now : Int) (l a : Int) (cs cs' : List Cell) (new : List (List Int)) : Prop :=
  (mayAddr a = false ∧ cs' = cs ∧ new = [2 :: l :: writeI 2 mac addr a]) ∨ (mayAddr a = true ∧
    ((∃ c ∈ cs, c.n.addr = a ∧ (∃ w', cs' = setC cs { c with n := knowN c.n l now, w := w' }) ∧ new = (2 :: l :: writeI 2 mac addr a) :: knowT c.n l) ∨
    ((∀ c ∈ cs, c.n.addr ≠ a) ∧ ((NoRoom cs ∧ cs' = cs ∧ new = [2 :: l :: writeI 2 mac addr a]) ∨
      ∃ cs1 c0, RoomTo cs cs1 ∧ c0.n = knowN (newN a now) l now ∧ cs' = cs1 ++ [c0] ∧ new = [2 :: l :: writeI 2 mac addr a, [4, a, l]]))))
def spTakeQuestion (CL CN CW CM : Addr) : Sp := fun vs H Q _ => ∃ (L dL d : Addr) (mac addr now : Int) (cs : List Cell) (wa tl : Addr) (ts : List Addr) (things : List (List Int)) (m dm : Addr) (w l a b : Int), vs = [.ref L, .ref m, .ref wa] ∧ Both CL CN CW H L dL d mac addr now cs wa tl ts things ∧ things.length ≤ 80000 ∧ H m = some (.ins CM dm (mf w l a b)) ∧
  ∀ cs' new, QuestRel mac addr now l a cs cs' new → Fin2 CL CN CW H L dL d mac addr now cs wa tl ts things cs' new .non Q
def MsgRel (mac addr now : Int) (w l a b : Int) (cs cs' : List Cell) (new : List (List Int)) : Prop :=
  (a = addr ∧ cs' = cs ∧ new = [[6, l]]) ∨ (a ≠ addr ∧ ((w = 2 ∧ AnswerRel addr now l a b cs cs' new) ∨ (w ≠ 2 ∧ ((b = addr ∧ QuestRel mac addr now l a cs cs' new) ∨ (b ≠ addr ∧ cs' = cs ∧ new = [])))))
def spTakeMessage (CL CN CW CM : Addr) : Sp := fun vs H Q _ => ∃ (L dL d : Addr) (mac addr now : Int) (cs : List Cell) (wa tl : Addr) (ts : List Addr) (things : List (List Int)) (m dm : Addr) (w l a b : Int), vs = [.ref L, .ref m, .ref wa] ∧ Both CL CN CW H L dL d mac addr now cs wa tl ts things ∧ things.length ≤ 80000 ∧ H m = some (.ins CM dm (mf w l a b)) ∧
  ∀ cs' new, MsgRel mac addr now w l a b cs cs' new → Fin2 CL CN CW H L dL d mac addr now cs wa tl ts things cs' new .non Q
section
variable {P : Program} {w : World} {K : PySem.W.Frag} {mg : Str → Option Value} {base : Heap} {CL CN CW CM : Addr}
theorem scHeeds : FnScope ["self", "sender", "message"] ["self", "sender", "message"] (defScope (inL 22)) := ⟨rfl, rfl, rfl, by decide +kernel, rfl, by decide +kernel, by decide +kernel⟩
theorem ok_heeds {f : Addr} {fd : FuncData} (F : Fun K "heeds" "Link.heeds" (inL 22) f fd) (T : TL K mg CL) (M : TW K mg CM) (oL : Ok P w K mg base 1 "may_have_link_address" ["number"] spMayLink) : FnOk P w K mg base CX0 2 f fd ["self", "sender", "message"] (spHeeds CL CM) := by
  refine F.ok scHeeds (fun vs H Q E h => ?_) (fun cdv A outer s H vs Q E hr h => ?_)
  · obtain ⟨L, dL, d, mac, addr, cur, sender, m, dm, w, l, a, b, rfl, _⟩ := h
    rfl
  · obtain ⟨L, dL, d, mac, addr, cur, sender, m, dm, w, l, a, b, rfl, hL, hm, k⟩ := h
    refine ⟨_, pss_cons (ps_if (PW.pt (pw_or (pt_cmpR op_ne (pe_fld (pv 2) rfl) (pv 1) (nomark _)) (pw_or1 (pt_cmpR op_eq (pv 1) (pe_fld (pv 0) rfl) (nomark _))))) (pss_one (ps_ret pe_bl)) pss_nil)
      (pss_one (ps_ret (pe_callO oL hr rfl (pa_cons (pv 1) pa_nil)))), ?_⟩
    refine ⟨_, rfl, m, CM, dm, _, _, rfl, hm, M.cl, M.nL, rfl, _, rfl, rfl, _, rfl, ?_⟩
    rw [dnot_int]
    unfold heedsI at k
    by_cases h1 : l = sender
    · rw [decide_eq_true h1, Bool.not_true]
      show (if false = true then _ else _)
      rw [if_neg (by decide)]
      refine ⟨_, rfl, _, rfl, L, CL, dL, _, _, rfl, hL, T.cl, T.nM, rfl, rfl, _, rfl, ?_⟩
      rw [deq_int]
      by_cases h2 : sender = mac
      · rw [if_pos (.inr h2)] at k
        rw [decide_eq_true h2]
        try dsimp only
        rw [if_pos rfl]
        exact k
      · rw [if_neg (fun z => z.elim (fun q => q h1) h2)] at k
        rw [decide_eq_false h2]
        exact iteF ⟨_, rfl, sender, rfl, k⟩
    · rw [if_pos (.inl h1)] at k
      rw [decide_eq_false h1, Bool.not_false]
      show (if true = true then _ else _)
      rw [if_pos rfl]
      exact k
theorem scTakeAnswer : FnScope ["self", "message", "wanted", "neighbour"] ["self", "message", "wanted"] (defScope (inL 24)) := ⟨rfl, rfl, rfl, by decide +kernel, rfl, by decide +kernel, by decide +kernel⟩
theorem ok_takeAnswer {f : Addr} {fd : FuncData} (F : Fun K "take_answer" "Link.take_answer" (inL 24) f fd) (T : TL K mg CL) (N : TN K mg CN) (M : TW K mg CM) (oI : OkM P w K mg base 1 CN "is_awaited" ["self"] (spAwaited CN)) (oK : OkM P w K mg base 2 CL "know" ["self", "neighbour", "link_address", "wanted"] (spKnow CL CN CW)) :
    FnOk P w K mg base CX0 3 f fd ["self", "message", "wanted"] (spTakeAnswer CL CN CW CM) := by
  refine F.ok scTakeAnswer (fun vs H Q E h => ?_) (fun cdv A outer s H vs Q E hr h => ?_)
  · obtain ⟨L, dL, d, mac, addr, now, cs, wa, tl, ts, things, m, dm, w, l, a, b, rfl, _⟩ := h
    rfl
  · obtain ⟨L, dL, d, mac, addr, now, cs, wa, tl, ts, things, m, dm, w, l, a, b, rfl, B, hlen, hm, k⟩ := h
    refine ⟨_, pss_cons (ps_set (i := 3) scTakeAnswer.nd rfl (Or.inl rfl) (pe_dget1 (hu_of hr) (pe_fld (pv 0) rfl) (pe_fld (pv 1) rfl) ⟨rfl, rfl, rfl, rfl⟩))
      (pss_cons (ps_if (PW.pt (pw_or (pt_cmpR op_ne (pe_fld (pv 1) rfl) (pe_fld (pv 0) rfl) (nomark _)) (pw_or1 (pt_cmp (pc_isN (pv 3)))))) (pss_one ps_retN) pss_nil)
      (pss_one (ps_if (pt_val (pe_methO0 oI N.cl (hr.mono (by decide)) (pv 3))) (pss_one (ps_expr (pe_methO oK T.cl hr (pv 0) (pa_cons (pv 3) (pa_cons (pe_fld (pv 1) rfl) (pa_cons (pv 2) pa_nil)))))) pss_nil))), ?_⟩
    refine ⟨_, rfl, L, CL, dL, _, _, rfl, B.l.obj, T.cl, T.nD, rfl, d, rfl, .inl ⟨_, .inl B.l.dct⟩, _, rfl, m, CM, dm, _, _, rfl, hm, M.cl, M.nA, rfl, _, DGet.k (k := Sum.inl a) B.l.dct, ?_⟩
    refine ⟨_, rfl, m, CM, dm, _, _, rfl, hm, M.cl, M.nB, rfl, _, rfl, L, CL, dL, _, _, rfl, B.l.obj, T.cl, T.nA, rfl, rfl, _, rfl, ?_⟩
    rw [dnot_int]
    have nil : (b ≠ addr ∨ ∀ c ∈ cs, c.n.addr = a → isAwaited c.n = false) → Q .non H := fun h => k cs [] (.inr ⟨h, rfl, rfl⟩) H ts (by rw [List.append_nil]; exact B) Kp.refl
    by_cases h1 : b = addr
    · rw [decide_eq_true h1, Bool.not_true]
      show (if false = true then _ else _)
      rw [if_neg (by decide)]
      by_cases hin : ∃ c ∈ cs, c.n.addr = a
      · obtain ⟨c, hc, ea⟩ := hin
        have ev : valV (kvs cs) (Sum.inl a) = some (.ref c.a) := by rw [← ea]; exact valV_kvs_some B.l.nd hc
        rw [ev]
        obtain ⟨hca, hcw⟩ := B.l.at_ c hc
        refine ⟨_, rfl, _, rfl, ?_⟩
        have en : decide ((some (V.ref c.a)).getD V.non = V.non) = false := decide_eq_false (by intro z; cases z)
        rw [en]
        refine iteF ⟨_, rfl, c.a, c.dx, _, rfl, hca, rfl, c.a, c.dx, c.w, c.n, rfl, hca, _, rfl, ?_⟩
        cases haw : isAwaited c.n with
        | true =>
          try dsimp only
          rw [if_pos rfl]
          refine ⟨_, rfl, L, dL, _, rfl, B.l.obj, rfl, _, rfl, _, rfl, m, CM, dm, _, _, rfl, hm, M.cl, M.nL, rfl, _, rfl, L, dL, d, mac, addr, now, cs, wa, tl, ts, things, c, l, rfl, B, hc, (by omega), fun w' => ?_⟩
          exact k _ _ (.inl ⟨h1, c, hc, ea, haw, ⟨w', rfl⟩, rfl⟩)
        | false =>
          refine iteF (nil (.inr fun c' hc' ea' => ?_))
          rw [B.l.eqAddr hc' hc (ea'.trans ea.symm)]
          exact haw
      · rw [valV_kvs_none (fun c hc e => hin ⟨c, hc, e⟩)]
        refine ⟨_, rfl, _, rfl, ?_⟩
        have en : decide ((none : Option V).getD V.non = V.non) = true := decide_eq_true rfl
        rw [en]
        try dsimp only
        rw [if_pos rfl]
        exact nil (.inr fun c hc e => absurd ⟨c, hc, e⟩ hin)
    · rw [decide_eq_false h1, Bool.not_false]
      show (if true = true then _ else _)
      rw [if_pos rfl]
      exact nil (.inl h1)
end
end Nb
set_option Elab.async false
set_option linter.all false
set_option maxRecDepth 100000
set_option maxHeartbeats 4000000
namespace Nb
open PySem PySem.Spec PyProof.Rows L2
section
variable {P : Program} {w : World} {K : PySem.W.Frag} {mg : Str → Option Value} {base : Heap} {CL CN CW CM : Addr}
theorem scTakeQ : FnScope ["self", "message", "wanted", "answer"] ["self", "message", "wanted"] (defScope (inL 25)) := ⟨rfl, rfl, rfl, by decide +kernel, rfl, by decide +kernel, by decide +kernel⟩
theorem ok_takeQ {f : Addr} {fd : FuncData} (F : Fun K "take_question" "Link.take_question" (inL 25) f fd) (T : TL K mg CL) (N : TN K mg CN) (W : TWd K mg CW) (M : TW K mg CM) (oM : OkI P w K mg base 1 "Message" CM ["self", "what", "link_address", "address", "about"] (spMsgInit CM))
    (oS : OkM P w K mg base 3 CW "send_message" ["self", "link_address", "message"] (spSendMsg CW CM)) (oMA : Ok P w K mg base 1 "may_have_address" ["number"] spMayAddr) (oK : OkM P w K mg base 2 CL "know" ["self", "neighbour", "link_address", "wanted"] (spKnow CL CN CW))
    (oR : OkM P w K mg base 3 CL "make_room" ["self"] (spRoom CL CN)) (oN : OkM P w K mg base 3 CL "add_neighbour" ["self", "address"] (spAdd CL CN)) : FnOk P w K mg base CX0 4 f fd ["self", "message", "wanted"] (spTakeQuestion CL CN CW CM) := by
  refine F.ok scTakeQ (fun vs H Q E h => ?_) (fun cdv A outer s H vs Q E hr h => ?_)
  · obtain ⟨L, dL, d, mac, addr, now, cs, wa, tl, ts, things, m, dm, w, l, a, b, rfl, _⟩ := h
    rfl
  · obtain ⟨L, dL, d, mac, addr, now, cs, wa, tl, ts, things, m, dm, w, l, a, b, rfl, B, hlen, hm, k⟩ := h
    have hr1 : Room 1 _ := hr.mono (by decide)
    have hr2 : Room 2 _ := hr.mono (by decide)
    refine ⟨_, pss_cons (ps_set (i := 3) scTakeQ.nd rfl (Or.inl rfl) (pe_makeO oM hr2 rfl (pa_cons (pe_num rfl M.answered) (pa_cons (pe_fld (pv 0) rfl) (pa_cons (pe_fld (pv 0) rfl) (pa_cons (pe_fld (pv 1) rfl) pa_nil))))))
      (pss_cons (ps_expr (pe_methO oS W.cl hr (pv 2) (pa_cons (pe_fld (pv 1) rfl) (pa_cons (pv 3) pa_nil))))
      (pss_cons (ps_if (pt_not (pt_val (pe_callO oMA hr1 rfl (pa_cons (pe_fld (pv 1) rfl) pa_nil)))) (pss_one ps_retN) pss_nil)
      (pss_one (ps_if (pt_cmp (pc_din (hu_of hr) (pe_fld (pv 1) rfl) (pe_fld (pv 0) rfl)))
        (pss_one (ps_expr (pe_methO oK T.cl hr2 (pv 0) (pa_cons (pe_dget (hu_of hr) (pe_fld (pv 0) rfl) (pe_fld (pv 1) rfl) (fun _ _ => rfl)) (pa_cons (pe_fld (pv 1) rfl) (pa_cons (pv 2) pa_nil))))))
        (pss_one (ps_if (pt_val (pe_methO0 oR T.cl hr (pv 0)))
          (pss_one (ps_expr (pe_methO oK T.cl hr2 (pv 0) (pa_cons (pe_methO oN T.cl hr (pv 0) (pa_cons (pe_fld (pv 1) rfl) pa_nil)) (pa_cons (pe_fld (pv 1) rfl) (pa_cons (pv 2) pa_nil)))))) pss_nil)))))), ?_⟩
    refine ⟨_, rfl, L, CL, dL, _, _, rfl, B.l.obj, T.cl, T.nM, rfl, _, rfl, L, CL, dL, _, _, rfl, B.l.obj, T.cl, T.nA, rfl, _, rfl, m, CM, dm, _, _, rfl, hm, M.cl, M.nA, rfl, fun x dx nx ndx ne => ?_⟩
    refine ⟨x, dx, _, _, _, _, rfl, upd_same, rfl, ?_⟩
    have S1 : Same H (upd (upd (upd H dx (.own x)) x (.ins CM dx [])) x (.ins CM dx (mf 2 mac addr a))) := (((Same.refl H).upd_free ndx).upd_free nx).upd_free nx
    have hx : upd (upd (upd H dx (.own x)) x (.ins CM dx [])) x (.ins CM dx (mf 2 mac addr a)) x = some (.ins CM dx (mf 2 mac addr a)) := upd_same
    generalize upd (upd (upd H dx (.own x)) x (.ins CM dx [])) x (.ins CM dx (mf 2 mac addr a)) = H1 at S1 hx ⊢
    have B1 := B.same S1
    have hm1 := S1 _ _ hm
    have mtl : m ≠ tl := fun z => B1.msgOut hm1 (List.mem_append_right _ (by simp [wfp, z]))
    obtain ⟨dW, hW⟩ := B1.w.obj
    refine ⟨_, rfl, wa, dW, _, rfl, hW, rfl, _, rfl, m, CM, dm, _, _, rfl, hm1, M.cl, M.nL, rfl, _, rfl, wa, tl, ts, things, l, x, dx, 2, mac, addr, a, rfl, B1.w, (by omega), hx, fun H2 t ht W2 kb2 => ?_⟩
    obtain ⟨B2, k2⟩ := B1.tell ht W2 kb2
    have hm2 := kb2 _ _ hm1 mtl
    have kk2 := (Kp.same S1).trans k2
    refine ⟨_, rfl, m, CM, dm, _, _, rfl, hm2, M.cl, M.nA, rfl, a, rfl, _, rfl, ?_⟩
    cases hma : mayAddr a with
    | false =>
      try dsimp only
      rw [Bool.not_false, if_pos rfl]
      exact k cs _ (.inl ⟨hma, rfl, rfl⟩) H2 _ B2 kk2
    | true =>
      rw [Bool.not_true]
      refine iteF ?_
      refine ⟨_, rfl, m, CM, dm, _, _, rfl, hm2, M.cl, M.nA, rfl, _, rfl, L, CL, dL, _, _, rfl, B2.l.obj, T.cl, T.nD, rfl, d, _, rfl, DGet.k (k := Sum.inl a) B2.l.dct, _, rfl, ?_⟩
      by_cases hin : ∃ c ∈ cs, c.n.addr = a
      · obtain ⟨c, hc, rfl⟩ := hin
        rw [valV_kvs_some B2.l.nd hc]
        dsimp only [Option.isSome]
        rw [if_pos rfl]
        refine ⟨_, rfl, L, dL, _, rfl, B2.l.obj, rfl, _, rfl, L, CL, dL, _, _, rfl, B2.l.obj, T.cl, T.nD, rfl, _, rfl, m, CM, dm, _, _, rfl, hm2, M.cl, M.nA, rfl, d, _, rfl, (by rw [← valV_kvs_some B2.l.nd hc]; exact DGet.k (k := Sum.inl c.n.addr) B2.l.dct), _, rfl, m, CM, dm, _, _, rfl, hm2, M.cl, M.nL, rfl, _, rfl, L, dL, d, mac, addr, now, cs, wa, tl, _, _, c, l, rfl, B2, hc, (by rw [List.length_append, List.length_singleton]; omega), fun w' H3 ts3 B3 k3 => ?_⟩
        rw [List.append_assoc] at B3
        exact k _ _ (.inr ⟨hma, .inl ⟨c, hc, rfl, ⟨w', rfl⟩, rfl⟩⟩) H3 ts3 B3 (kk2.trans k3)
      · have hno : ∀ c ∈ cs, c.n.addr ≠ a := fun c hc e => hin ⟨c, hc, e⟩
        rw [valV_kvs_none hno]
        dsimp only [Option.isSome]
        refine iteF ?_
        have goon : ∀ (H3 : Hp) (cs1 : List Cell), RoomTo cs cs1 → LAt CL CN H3 L dL d mac addr now cs1 → Kp (lfp L d cs) (lfp L d cs1) H2 H3 →
            tDrop (tMeth CL "know" (spKnow CL CN CW) [] E0 (tVar 0) (tCons (tMeth CL "add_neighbour" (spAdd CL CN) [] E0 (tVar 0) (tCons (tFld K (tVar 1) "address") tNil)) (tCons (tFld K (tVar 1) "link_address") (tCons (tVar 2) tNil)))) { nx := fun _ H' => Q .non H', rt := Q } [some (.ref L), some (.ref m), some (.ref wa), some (.ref x)] H3 := by
          intro H3 cs1 R A3 k3
          obtain ⟨B3, kb3⟩ := B2.link A3 k3
          have hno1 : ∀ c ∈ cs1, c.n.addr ≠ a := fun c hc => hno c (R.sub hc)
          have hm3 := (kb3.out hm2 (B2.msgOut hm2)).1
          refine ⟨_, rfl, L, dL, _, rfl, A3.obj, rfl, _, rfl, L, dL, _, rfl, A3.obj, rfl, _, rfl, m, CM, dm, _, _, rfl, hm3, M.cl, M.nA, rfl, L, dL, d, mac, addr, now, cs1, a, rfl, A3, hno1, R.len B.l.len, fun H4 c ec A4 k4 => ?_⟩
          obtain ⟨B4, kb4⟩ := B3.link A4 k4
          have hm4 := (kb4.out hm3 (B3.msgOut hm3)).1
          have hcm : c ∈ cs1 ++ [c] := List.mem_append_right _ (List.mem_singleton.mpr rfl)
          have ead : c.n.addr = a := by rw [ec]; rfl
          refine ⟨_, rfl, m, CM, dm, _, _, rfl, hm4, M.cl, M.nL, rfl, _, rfl, L, dL, d, mac, addr, now, _, wa, tl, _, _, c, l, rfl, B4, hcm, (by rw [List.length_append, List.length_singleton]; omega), fun w' => ?_⟩
          have sl : setC (cs1 ++ [c]) { c with n := knowN c.n l now, w := w' } = cs1 ++ [{ c with n := knowN c.n l now, w := w' }] := setC_last (fun x hx => by show x.n.addr ≠ c.n.addr; rw [ead]; exact hno1 x hx) rfl
          rw [sl]
          intro H5 ts5 B5 k5
          have ek : knowT c.n l = [[4, a, l]] := by
            rw [ec]
            rfl
          rw [ek, List.append_assoc] at B5
          refine k (cs1 ++ [{ c with n := knowN c.n l now, w := w' }]) _ (.inr ⟨hma, .inr ⟨hno, .inr ⟨cs1, _, R, ?_, rfl, rfl⟩⟩⟩) H5 ts5 B5 (((kk2.trans kb3).trans kb4).trans k5)
          show knowN c.n l now = _
          rw [ec]
        refine ⟨_, rfl, L, dL, _, rfl, B2.l.obj, rfl, L, dL, d, mac, addr, now, cs, rfl, B2.l, fun hlt => ⟨_, rfl, ?_⟩, fun hge hall H3 S3 => ⟨_, rfl, ?_⟩, fun g hg hge hg1 hmin H3 A3 k3 => ⟨_, rfl, ?_⟩⟩
        · try dsimp only
          rw [if_pos rfl]
          exact goon H2 cs (.inl ⟨hlt, rfl⟩) B2.l Kp.refl
        · exact iteF (k cs _ (.inr ⟨hma, .inr ⟨hno, .inl ⟨⟨hge, hall⟩, rfl, rfl⟩⟩⟩) H3 _ (B2.same S3) (kk2.trans (Kp.same S3)))
        · try dsimp only
          rw [if_pos rfl]
          exact goon H3 _ (.inr ⟨g, hg, hge, hg1, hmin, rfl⟩) A3 k3
theorem scTakeM : FnScope ["self", "message", "wanted"] ["self", "message", "wanted"] (defScope (inL 23)) := ⟨rfl, rfl, rfl, by decide +kernel, rfl, by decide +kernel, by decide +kernel⟩
theorem ok_takeM {f : Addr} {fd : FuncData} (F : Fun K "take_message" "Link.take_message" (inL 23) f fd) (T : TL K mg CL) (W : TWd K mg CW) (M : TW K mg CM) (oO : OkM P w K mg base 1 CW "tell_ours_taken" ["self", "link_address"] (spTellOurs CW)) (oA : OkM P w K mg base 3 CL "take_answer" ["self", "message", "wanted"] (spTakeAnswer CL CN CW CM))
    (oQ : OkM P w K mg base 4 CL "take_question" ["self", "message", "wanted"] (spTakeQuestion CL CN CW CM)) : FnOk P w K mg base CX0 5 f fd ["self", "message", "wanted"] (spTakeMessage CL CN CW CM) := by
  refine F.ok scTakeM (fun vs H Q E h => ?_) (fun cdv A outer s H vs Q E hr h => ?_)
  · obtain ⟨L, dL, d, mac, addr, now, cs, wa, tl, ts, things, m, dm, w, l, a, b, rfl, _⟩ := h
    rfl
  · obtain ⟨L, dL, d, mac, addr, now, cs, wa, tl, ts, things, m, dm, w, l, a, b, rfl, B, hlen, hm, k⟩ := h
    refine ⟨_, pss_one (ps_if (pt_cmpR op_eq (pe_fld (pv 1) rfl) (pe_fld (pv 0) rfl) (nomark _)) (pss_one (ps_expr (pe_methO oO W.cl (hr.mono (by decide)) (pv 2) (pa_cons (pe_fld (pv 1) rfl) pa_nil))))
      (pss_one (ps_if (pt_cmpR op_eq (pe_fld (pv 1) rfl) (pe_num rfl M.answered) (nomark _)) (pss_one (ps_expr (pe_methO oA T.cl (hr.mono (by decide)) (pv 0) (pa_cons (pv 1) (pa_cons (pv 2) pa_nil)))))
      (pss_one (ps_if (pt_cmpR op_eq (pe_fld (pv 1) rfl) (pe_fld (pv 0) rfl) (nomark _)) (pss_one (ps_expr (pe_methO oQ T.cl hr (pv 0) (pa_cons (pv 1) (pa_cons (pv 2) pa_nil))))) pss_nil))))), ?_⟩
    obtain ⟨dW, hW⟩ := B.w.obj
    refine ⟨_, rfl, m, CM, dm, _, _, rfl, hm, M.cl, M.nA, rfl, _, rfl, L, CL, dL, _, _, rfl, B.l.obj, T.cl, T.nA, rfl, rfl, _, rfl, ?_⟩
    rw [deq_int]
    by_cases h1 : a = addr
    · rw [decide_eq_true h1]
      try dsimp only
      rw [if_pos rfl]
      refine ⟨_, rfl, wa, dW, _, rfl, hW, rfl, _, rfl, m, CM, dm, _, _, rfl, hm, M.cl, M.nL, rfl, wa, tl, ts, things, l, rfl, B.w, (by omega), fun H2 t ht W2 kb2 => ?_⟩
      obtain ⟨B2, k2⟩ := B.tell ht W2 kb2
      exact k cs _ (.inl ⟨h1, rfl, rfl⟩) H2 _ B2 k2
    · rw [decide_eq_false h1]
      refine iteF ⟨_, rfl, m, CM, dm, _, _, rfl, hm, M.cl, M.nW, rfl, rfl, _, rfl, ?_⟩
      rw [deq_int]
      by_cases h2 : w = 2
      · rw [decide_eq_true h2]
        try dsimp only
        rw [if_pos rfl]
        exact ⟨_, rfl, L, dL, _, rfl, B.l.obj, rfl, _, rfl, _, rfl, L, dL, d, mac, addr, now, cs, wa, tl, ts, things, m, dm, w, l, a, b, rfl, B, hlen, hm, fun cs' new R => k cs' new (.inr ⟨h1, .inl ⟨h2, R⟩⟩)⟩
      · rw [decide_eq_false h2]
        refine iteF ⟨_, rfl, m, CM, dm, _, _, rfl, hm, M.cl, M.nB, rfl, _, rfl, L, CL, dL, _, _, rfl, B.l.obj, T.cl, T.nA, rfl, rfl, _, rfl, ?_⟩
        rw [deq_int]
        by_cases h3 : b = addr
        · rw [decide_eq_true h3]
          try dsimp only
          rw [if_pos rfl]
          exact ⟨_, rfl, L, dL, _, rfl, B.l.obj, rfl, _, rfl, _, rfl, L, dL, d, mac, addr, now, cs, wa, tl, ts, things, m, dm, w, l, a, b, rfl, B, hlen, hm, fun cs' new R => k cs' new (.inr ⟨h1, .inr ⟨h2, .inl ⟨h3, R⟩⟩⟩)⟩
        · rw [decide_eq_false h3]
          exact iteF (k cs [] (.inr ⟨h1, .inr ⟨h2, .inr ⟨h3, rfl, rfl⟩⟩⟩) H ts (by rw [List.append_nil]; exact B) Kp.refl)
end
end Nb
set_option Elab.async false
set_option linter.all false
set_option maxRecDepth 100000
set_option maxHeartbeats 4000000
namespace Nb
open PySem PySem.Spec PyProof.Rows L2
def Ans (CL CN : Addr) (H : Hp) (L dL d : Addr) (cs : List Cell) (Q : VK) (d' : Addr) (mac addr now : Int) (cs' : List Cell) (ans : List Int) : Prop :=
  ∀ (H' : Hp) (p : Addr), LAt CL CN H' L dL d' mac addr now cs' → Kp (lfp L d cs) (lfp L d' cs') H H' → (∀ b o, H b = some o → b ∉ lfp L d cs → b ≠ p) → p ∉ lfp L d' cs' → H' p = some (.lst (ans.map V.int)) → Q (.ref p) H'
def spBegin (CL CN : Addr) : Sp := fun vs H Q _ => ∃ (L dL d : Addr) (mac addr cur : Int) (cs : List Cell) (la ad : Int), vs = [.ref L, .int la, .int ad] ∧ LAt CL CN H L dL d mac addr cur cs ∧
  ((mayLink la && mayAddr ad) = false → Ans CL CN H L dL d cs Q d mac addr cur cs [-1]) ∧ ((mayLink la && mayAddr ad) = true → ∀ d', Ans CL CN H L dL d cs Q d' la ad 0 [] [0])
def GoRel (now : Int) (cs qs : List Cell) : Prop := qs.Perm (cs.filter fun c => isDue c.n now) ∧ qs.Pairwise (fun x y => lexLe (x.n.due, x.n.addr) (y.n.due, y.n.addr))
def OnNow (CL CN : Addr) (H : Hp) (L dL d : Addr) (mac addr cur : Int) (cs : List Cell) (Q : VK) (now : Int) (R : List Cell → List Cell → List (List Int) → Prop) : Prop :=
  (refuseI cur now ≠ 0 → Ans CL CN H L dL d cs Q d mac addr cur cs [refuseI cur now]) ∧
  (refuseI cur now = 0 → ∀ qs cs' new, GoRel now cs qs → R (qs.foldl (doDueC now) cs) cs' new → Ans CL CN H L dL d cs Q d mac addr now cs' (toldI ((qs.flatMap fun c => doDueT mac addr c.n) ++ new)))
def spTick (CL CN : Addr) : Sp := fun vs H Q _ => ∃ (L dL d : Addr) (mac addr cur : Int) (cs : List Cell) (now : Int), vs = [.ref L, .int now] ∧ LAt CL CN H L dL d mac addr cur cs ∧ OnNow CL CN H L dL d mac addr cur cs Q now (fun cs1 cs' new => cs' = cs1 ∧ new = [])
def spSend (CL CN : Addr) : Sp := fun vs H Q _ => ∃ (L dL d : Addr) (mac addr cur : Int) (cs : List Cell) (now to p : Int), vs = [.ref L, .int now, .int to, .int p] ∧ LAt CL CN H L dL d mac addr cur cs ∧
  ((maySend addr to = false ∨ 4294967295 < p) → Ans CL CN H L dL d cs Q d mac addr cur cs [-1]) ∧ (maySend addr to = true → ¬ 4294967295 < p → OnNow CL CN H L dL d mac addr cur cs Q now (fun cs1 cs' new => HandRel mac addr now to p cs1 cs' new))
def spCame (K : PySem.W.Frag) (CL CN : Addr) : Sp := fun vs H Q _ => ∃ (L dL d : Addr) (mac addr cur : Int) (cs : List Cell) (now sender : Int) (r : Addr) (ns : List Int), vs = [.ref L, .int now, .int sender, .ref r] ∧ LAt CL CN H L dL d mac addr cur cs ∧ SqL K H r (ns.map V.int) ∧
  (281474976710655 < sender → Ans CL CN H L dL d cs Q d mac addr cur cs [-1]) ∧ (¬ 281474976710655 < sender → readI ns = none → Ans CL CN H L dL d cs Q d mac addr cur cs [-3]) ∧
  (¬ 281474976710655 < sender → ∀ w l a b, readI ns = some (w, l, a, b) → OnNow CL CN H L dL d mac addr cur cs Q now (fun cs1 cs' new => (heedsI mac sender l = true ∧ MsgRel mac addr now w l a b cs1 cs' new) ∨ (heedsI mac sender l = false ∧ cs' = cs1 ∧ new = [])))
def Short (ts : List (List Int)) : Prop := ∀ t ∈ ts, t.length ≤ 22
theorem Short.app {a b : List (List Int)} (h : Short a) (h' : Short b) : Short (a ++ b) := fun t ht => (List.mem_append.mp ht).elim (h t) (h' t)
theorem Short.flat : ∀ {l : List (List Int)}, Short l → l.flatten.length ≤ 22 * l.length
  | [], _ => by simp
  | x :: l, h => by
    have h1 := h x (List.mem_cons_self ..)
    have h2 := Short.flat (l := l) fun t ht => h t (List.mem_cons_of_mem _ ht)
    rw [List.flatten_cons, List.length_append, List.length_cons]
    omega
theorem short_ask (mac addr : Int) (n : Nbr) : (askT mac addr n).length ≤ 22 := by
  unfold askT
  rw [List.length_cons, List.length_cons, writeI_len]
  decide
theorem short_due (mac addr : Int) (n : Nbr) : Short (doDueT mac addr n) := by
  intro t ht
  unfold doDueT loseT at ht
  split at ht
  · cases ht
  · split at ht
    · rw [List.mem_singleton.mp ht]
      exact short_ask _ _ _
    · rcases List.mem_cons.mp ht with rfl | ht
      · show 2 ≤ 22
        decide
      · obtain ⟨p, _, rfl⟩ := List.mem_map.mp ht
        show 3 ≤ 22
        decide
theorem short_flat (mac addr : Int) (qs : List Cell) : Short (qs.flatMap fun c => doDueT mac addr c.n) := fun t ht => by
  obtain ⟨c, _, h⟩ := List.mem_flatMap.mp ht
  exact short_due mac addr c.n t h
theorem short_know (n : Nbr) (la : Int) : Short (knowT n la) := fun t ht => by
  unfold knowT at ht
  rcases List.mem_cons.mp ht with rfl | ht
  · show 3 ≤ 22
    decide
  · obtain ⟨p, _, rfl⟩ := List.mem_map.mp ht
    show 3 ≤ 22
    decide
theorem len_know (n : Nbr) (la : Int) (h : n.wait.length ≤ 4) : (knowT n la).length ≤ 5 := by
  unfold knowT
  rw [List.length_cons, List.length_map]
  omega
theorem short_hand {mac addr now to p : Int} {cs cs' : List Cell} {new : List (List Int)} (h : HandRel mac addr now to p cs cs' new) : Short new ∧ new.length ≤ 2 := by
  have one : ∀ t : List Int, t.length ≤ 22 → Short [t] ∧ ([t] : List (List Int)).length ≤ 2 := fun t ht => ⟨fun x hx => by rw [List.mem_singleton.mp hx]; exact ht, by simp⟩
  rcases h with ⟨_, _, rfl⟩ | ⟨_, ⟨c, _, _, _, rfl⟩ | ⟨_, ⟨_, _, rfl⟩ | ⟨cs1, c0, _, _, _, rfl⟩⟩⟩
  · exact one _ (by show 3 ≤ 22; decide)
  · unfold handT waitT
    split
    · split
      · exact one _ (by show 3 ≤ 22; decide)
      · exact ⟨fun t ht => absurd ht (by simp), by simp⟩
    · split
      · refine ⟨fun t ht => ?_, by simp⟩
        rcases List.mem_cons.mp ht with rfl | ht
        · show 3 ≤ 22
          decide
        · rw [List.mem_singleton.mp ht]
          exact short_ask _ _ _
      · exact one _ (by show 3 ≤ 22; decide)
  · exact one _ (by show 3 ≤ 22; decide)
  · exact one _ (short_ask _ _ _)
theorem short_ans (l mac addr a : Int) : (2 :: l :: writeI 2 mac addr a).length ≤ 22 := by
  rw [List.length_cons, List.length_cons, writeI_len]
  decide
theorem short_msg {mac addr now w l a b : Int} {cs cs' : List Cell} {new : List (List Int)} (hw : ∀ c ∈ cs, c.n.wait.length ≤ 4) (h : MsgRel mac addr now w l a b cs cs' new) : Short new ∧ new.length ≤ 6 := by
  have one : ∀ t : List Int, t.length ≤ 22 → Short [t] ∧ ([t] : List (List Int)).length ≤ 6 := fun t ht => ⟨fun x hx => by rw [List.mem_singleton.mp hx]; exact ht, by simp⟩
  have nil : Short [] ∧ ([] : List (List Int)).length ≤ 6 := ⟨fun t ht => absurd ht (by simp), by simp⟩
  rcases h with ⟨_, _, rfl⟩ | ⟨_, ⟨_, h⟩ | ⟨_, ⟨_, h⟩ | ⟨_, _, rfl⟩⟩⟩
  · exact one _ (by show 2 ≤ 22; decide)
  · rcases h with ⟨_, c, hc, _, _, _, rfl⟩ | ⟨_, _, rfl⟩
    · exact ⟨short_know _ _, by have := len_know c.n l (hw c hc); omega⟩
    · exact nil
  · rcases h with ⟨_, _, rfl⟩ | ⟨_, ⟨c, hc, _, _, rfl⟩ | ⟨_, ⟨_, _, rfl⟩ | ⟨cs1, c0, _, _, _, rfl⟩⟩⟩
    · exact one _ (short_ans _ _ _ _)
    · refine ⟨fun t ht => ?_, by have := len_know c.n l (hw c hc); rw [List.length_cons]; omega⟩
      rcases List.mem_cons.mp ht with rfl | ht
      · exact short_ans _ _ _ _
      · exact short_know _ _ t ht
    · exact one _ (short_ans _ _ _ _)
    · refine ⟨fun t ht => ?_, by simp⟩
      rcases List.mem_cons.mp ht with rfl | ht
      · exact short_ans _ _ _ _
      · rw [List.mem_singleton.mp ht]
        show 3 ≤ 22
        decide
  · exact nil
theorem GoRel.wl {now : Int} {cs qs : List Cell} (h : GoRel now cs qs) (hw : ∀ c ∈ cs, c.n.wait.length ≤ 4) (hl : cs.length ≤ 256) {mac addr : Int} : (qs.flatMap fun c => doDueT mac addr c.n).length ≤ 1280 := by
  have q := flat5 (mac := mac) (addr := addr) qs fun c hc => hw c (List.mem_filter.mp (h.1.mem_iff.mp hc)).1
  have l1 := h.1.length_eq
  have l2 := List.length_filter_le (fun c : Cell => isDue c.n now) cs
  omega
theorem fin_ans {CL CN CW : Addr} {H H1 H2 : Hp} {L dL d : Addr} {mac addr now : Int} {cs cs' : List Cell} {wa tl p : Addr} {ts : List Addr} {things : List (List Int)} {Q : VK} {ans : List Int} (k : Ans CL CN H L dL d cs Q d mac addr now cs' ans) (B : Both CL CN CW H1 L dL d mac addr now cs' wa tl ts things)
    (kp : Kp (lfp L d cs) (fpB L d cs' wa tl ts) H H1) (S : Same H1 H2) (hp : H1 p = none) (h2 : H2 p = some (.lst (ans.map V.int))) : Q (.ref p) H2 := by
  refine k H2 p (B.l.same S) ⟨fun b o e hb => S b o (kp.keep b o e hb), fun b hb => kp.fresh b (List.mem_append_left _ hb)⟩ (fun b o e hb => ne_of_none (kp.keep b o e hb) hp) (fun z => ?_) h2
  obtain ⟨o, e⟩ := B.l.there z
  rw [hp] at e
  cases e
section
variable {P : Program} {w : World} {K : PySem.W.Frag} {mg : Str → Option Value} {base : Heap} {CL CN CW CM : Addr}
theorem ans_now {H : Hp} {L dL d : Addr} {mac addr cur : Int} {cs : List Cell} {Q : VK} {z : Int} (A : LAt CL CN H L dL d mac addr cur cs) (k : Ans CL CN H L dL d cs Q d mac addr cur cs [z]) (H1 : Hp) (S : Same H H1) (p : Addr) (hp : H1 p = none) : Q (.ref p) (upd H1 p (.lst [.int z])) := by
  have h0 : H p = none := S.free hp
  refine k _ p (A.same (S.upd_free h0)) (Kp.same (S.upd_free h0)) (fun b o e _ => ne_of_none e h0) (fun q => ?_) upd_same
  obtain ⟨o, e⟩ := A.there q
  rw [h0] at e
  cases e
theorem scBegin : FnScope ["self", "link_address", "address"] ["self", "link_address", "address"] (defScope (inL 1)) := ⟨rfl, rfl, rfl, by decide +kernel, rfl, by decide +kernel, by decide +kernel⟩
theorem ok_begin {f : Addr} {fd : FuncData} (F : Fun K "begin" "Link.begin" (inL 1) f fd) (T : TL K mg CL) (oL : Ok P w K mg base 1 "may_have_link_address" ["number"] spMayLink) (oA : Ok P w K mg base 1 "may_have_address" ["number"] spMayAddr) : FnOk P w K mg base CX0 2 f fd ["self", "link_address", "address"] (spBegin CL CN) := by
  refine F.ok scBegin (fun vs H Q E h => ?_) (fun cdv A outer s H vs Q E hr h => ?_)
  · obtain ⟨L, dL, d, mac, addr, cur, cs, la, ad, rfl, _⟩ := h
    rfl
  · obtain ⟨L, dL, d, mac, addr, cur, cs, la, ad, rfl, A0, kn, ky⟩ := h
    refine ⟨_, pss_cons (ps_if (PW.pt (pw_or (pt_not (pt_val (pe_callO oL hr rfl (pa_cons (pv 1) pa_nil)))) (pw_or1 (pt_not (pt_val (pe_callO oA hr rfl (pa_cons (pv 2) pa_nil))))))) (pss_one (ps_ret (pe_lst (pa_cons (pe_num rfl T.wrong) pa_nil)))) pss_nil)
      (pss_cons (ps_fld (pv 0) (pv 1) rfl) (pss_cons (ps_fld (pv 0) (pv 2) rfl) (pss_cons (ps_fld (pv 0) pe_int rfl) (pss_cons (ps_fld (pv 0) pe_dnewK rfl) (pss_one (ps_ret (pe_lst (pa_cons (pe_num rfl T.fine) pa_nil)))))))), ?_⟩
    refine ⟨_, rfl, la, rfl, _, rfl, ?_⟩
    cases hl : mayLink la with
    | false =>
      rw [hl, Bool.false_and] at kn
      show (if true = true then _ else _)
      rw [if_pos rfl]
      exact ⟨(by show 1 ≤ sizeLine; decide), fun p hp => ans_now A0 (kn rfl) H (Same.refl H) p hp⟩
    | true =>
      rw [hl, Bool.true_and] at kn ky
      show (if false = true then _ else _)
      rw [if_neg (by decide)]
      refine ⟨_, rfl, ad, rfl, _, rfl, ?_⟩
      cases ha : mayAddr ad with
      | false =>
        try dsimp only
        rw [Bool.not_false, if_pos rfl]
        exact ⟨(by show 1 ≤ sizeLine; decide), fun p hp => ans_now A0 (kn ha) H (Same.refl H) p hp⟩
      | true =>
        rw [Bool.not_true]
        refine iteF ?_
        refine ⟨_, rfl, _, rfl, L, CL, dL, _, rfl, A0.obj, T.cl, T.nM, (by show 4 < 1000; decide), ?_⟩
        refine ⟨_, rfl, _, rfl, L, CL, dL, _, rfl, upd_same, T.cl, T.nA, (by show 4 < 1000; decide), ?_⟩
        refine ⟨_, rfl, L, CL, dL, _, rfl, upd_same, T.cl, T.nN, (by show 4 < 1000; decide), ?_⟩
        rw [upd_upd, upd_upd]
        intro d' hd'
        have nLd : L ≠ d' := ne_of_none upd_same hd'
        have hd0 : H d' = none := (upd_ne nLd.symm).symm.trans hd'
        refine ⟨_, rfl, L, CL, dL, _, rfl, (upd_ne nLd).trans upd_same, T.cl, T.nD, (by show 4 < 1000; decide), ?_⟩
        refine ⟨(by show 1 ≤ sizeLine; decide), fun p hp => ?_⟩
        have npL : L ≠ p := ne_of_none upd_same hp
        have npd : d' ≠ p := ne_of_none ((upd_ne nLd.symm).trans upd_same) hp
        have hp0 : H p = none := by
          rw [upd_ne npL.symm, upd_ne npd.symm, upd_ne npL.symm] at hp
          exact hp
        refine ky ha d' _ p ⟨(upd_ne npL).trans upd_same, by rw [upd_ne npd, upd_ne nLd.symm, upd_same]; rfl, List.nodup_nil, List.nodup_nil, List.nodup_nil, fun c hc => absurd hc (by simp), by simp, fun c hc => absurd hc (by simp)⟩ ⟨fun b o e hb => ?_, fun b hb => ?_⟩ (fun b o e _ => ne_of_none e hp0) (fun z => ?_) upd_same
        · have hbL : b ≠ L := fun z => hb (mem_lfp.mpr (.inl z))
          rw [upd_ne (ne_of_none e hp0), upd_ne hbL, upd_ne (ne_of_none e hd0), upd_ne hbL]
          exact e
        · rcases mem_lfp.mp hb with z | z | ⟨c, hc, _⟩
          · exact .inl (mem_lfp.mpr (.inl z))
          · exact .inr (z ▸ hd0)
          · exact absurd hc (by simp)
        · rcases mem_lfp.mp z with z | z | ⟨c, hc, _⟩
          · exact npL z.symm
          · exact npd z.symm
          · exact absurd hc (by simp)
end
end Nb
set_option Elab.async false
set_option linter.all false
set_option maxRecDepth 100000
set_option maxHeartbeats 4000000
namespace Nb
open PySem PySem.Spec PyProof.Rows L2
section
variable {P : Program} {w : World} {K : PySem.W.Frag} {mg : Str → Option Value} {base : Heap} {CL CN CW CM : Addr}
theorem told_len {mac addr now : Int} {cs qs : List Cell} {new : List (List Int)} (g : GoRel now cs qs) (hw : ∀ c ∈ cs, c.n.wait.length ≤ 4) (hl : cs.length ≤ 256) (hs : Short new) (hn : new.length ≤ 6) : ((qs.flatMap fun c => doDueT mac addr c.n) ++ new).flatten.length ≤ 10000000 := by
  have h1 := Short.flat (Short.app (short_flat mac addr qs) hs)
  rw [List.length_append] at h1
  have h2 := g.wl hw hl (mac := mac) (addr := addr)
  omega
theorem scTick : FnScope ["self", "now", "refusal"] ["self", "now"] (defScope (inL 4)) := ⟨rfl, rfl, rfl, by decide +kernel, rfl, by decide +kernel, by decide +kernel⟩
theorem ok_tick {f : Addr} {fd : FuncData} (F : Fun K "tick" "Link.tick" (inL 4) f fd) (T : TL K mg CL) (W : TWd K mg CW) (oR : OkM P w K mg base 1 CL "refuse_now" ["self", "now"] (spRefuse CL)) (oG : OkM P w K mg base 6 CL "go_on_to" ["self", "now"] (spGo CL CN CW)) (oT : OkM P w K mg base 1 CW "told" ["self"] (spTold CW)) :
    FnOk P w K mg base CX0 7 f fd ["self", "now"] (spTick CL CN) := by
  refine F.ok scTick (fun vs H Q E h => ?_) (fun cdv A outer s H vs Q E hr h => ?_)
  · obtain ⟨L, dL, d, mac, addr, cur, cs, now, rfl, _⟩ := h
    rfl
  · obtain ⟨L, dL, d, mac, addr, cur, cs, now, rfl, A0, kn, ky⟩ := h
    have hr1 : Room 1 _ := hr.mono (by decide)
    refine ⟨_, pss_cons (ps_set (i := 2) scTick.nd rfl (Or.inl rfl) (pe_methO oR T.cl hr1 (pv 0) (pa_cons (pv 1) pa_nil)))
      (pss_cons (ps_if (pt_cmpR op_ne (pv 2) (pe_num rfl T.fine) (nomark _)) (pss_one (ps_ret (pe_lst (pa_cons (pv 2) pa_nil)))) pss_nil)
      (pss_one (ps_ret (pe_methO0 oT W.cl hr1 (pe_methO oG T.cl hr (pv 0) (pa_cons (pv 1) pa_nil)))))), ?_⟩
    refine ⟨_, rfl, L, dL, _, rfl, A0.obj, rfl, _, rfl, L, dL, d, mac, addr, cur, now, rfl, A0.obj, ?_⟩
    refine ⟨_, rfl, rfl, _, rfl, ?_⟩
    rw [dnot_int]
    by_cases h0 : refuseI cur now = 0
    · rw [decide_eq_true h0, Bool.not_true]
      refine iteF ?_
      refine ⟨_, rfl, L, dL, _, rfl, A0.obj, rfl, _, rfl, L, dL, d, mac, addr, cur, now, cs, rfl, A0, fun H1 qs wa tl ts g1 g2 B1 k1 => ?_⟩
      obtain ⟨dW, hW⟩ := B1.w.obj
      have gr : GoRel now cs qs := ⟨g1, g2⟩
      have tl' := told_len (mac := mac) (addr := addr) (new := []) gr A0.wl A0.len (fun t ht => absurd ht (by simp)) (by simp)
      rw [List.append_nil] at tl'
      refine ⟨wa, dW, _, rfl, hW, rfl, wa, tl, ts, _, rfl, B1.w, tl', fun H2 p S2 hp h2 => ?_⟩
      have kk := ky h0 qs _ [] gr ⟨rfl, rfl⟩
      rw [List.append_nil] at kk
      exact fin_ans kk B1 k1 S2 hp h2
    · rw [decide_eq_false h0, Bool.not_false]
      try dsimp only
      rw [if_pos rfl]
      exact ⟨_, rfl, (by show 1 ≤ sizeLine; decide), fun p hp => ans_now A0 (kn h0) H (Same.refl H) p hp⟩
theorem scSend : FnScope ["self", "now", "to", "packet", "refusal", "wanted"] ["self", "now", "to", "packet"] (defScope (inL 2)) := ⟨rfl, rfl, rfl, by decide +kernel, rfl, by decide +kernel, by decide +kernel⟩
theorem ok_send {f : Addr} {fd : FuncData} (F : Fun K "send" "Link.send" (inL 2) f fd) (T : TL K mg CL) (W : TWd K mg CW) (M : TW K mg CM) (oS : OkM P w K mg base 2 CL "may_send" ["self", "to"] (spMaySend CL)) (oR : OkM P w K mg base 1 CL "refuse_now" ["self", "now"] (spRefuse CL)) (oG : OkM P w K mg base 6 CL "go_on_to" ["self", "now"] (spGo CL CN CW))
    (oH : OkM P w K mg base 6 CL "hand_over" ["self", "to", "packet", "wanted"] (spHand CL CN CW)) (oT : OkM P w K mg base 1 CW "told" ["self"] (spTold CW)) : FnOk P w K mg base CX0 7 f fd ["self", "now", "to", "packet"] (spSend CL CN) := by
  refine F.ok scSend (fun vs H Q E h => ?_) (fun cdv A outer s H vs Q E hr h => ?_)
  · obtain ⟨L, dL, d, mac, addr, cur, cs, now, to, p, rfl, _⟩ := h
    rfl
  · obtain ⟨L, dL, d, mac, addr, cur, cs, now, to, pk, rfl, A0, kw, kon⟩ := h
    have hr1 : Room 1 _ := hr.mono (by decide)
    have hr2 : Room 2 _ := hr.mono (by decide)
    refine ⟨_, pss_cons (ps_if (PW.pt (pw_or (pt_not (pt_val (pe_methO oS T.cl hr2 (pv 0) (pa_cons (pv 2) pa_nil)))) (pw_or1 (pt_cmpR op_gt (pv 3) (pe_num rfl M.lastPacket) (nomark _))))) (pss_one (ps_ret (pe_lst (pa_cons (pe_num rfl T.wrong) pa_nil)))) pss_nil)
      (pss_cons (ps_set (i := 4) scSend.nd rfl (Or.inl rfl) (pe_methO oR T.cl hr1 (pv 0) (pa_cons (pv 1) pa_nil)))
      (pss_cons (ps_if (pt_cmpR op_ne (pv 4) (pe_num rfl T.fine) (nomark _)) (pss_one (ps_ret (pe_lst (pa_cons (pv 4) pa_nil)))) pss_nil)
      (pss_cons (ps_set (i := 5) scSend.nd rfl (Or.inl rfl) (pe_methO oG T.cl hr (pv 0) (pa_cons (pv 1) pa_nil)))
      (pss_cons (ps_expr (pe_methO oH T.cl hr (pv 0) (pa_cons (pv 2) (pa_cons (pv 3) (pa_cons (pv 5) pa_nil)))))
      (pss_one (ps_ret (pe_methO0 oT W.cl hr1 (pv 5)))))))), ?_⟩
    refine ⟨_, rfl, L, dL, _, rfl, A0.obj, rfl, _, rfl, L, dL, d, mac, addr, cur, to, rfl, A0.obj, _, rfl, ?_⟩
    have wrong : (maySend addr to = false ∨ 4294967295 < pk) → tRet (tLst (tCons (tC (.int (-1))) tNil)) { nx := fun _ H' => Q .non H', rt := Q } (L2.start ["self", "now", "to", "packet", "refusal", "wanted"] [.ref L, .int now, .int to, .int pk]) H := fun h =>
      ⟨(by show 1 ≤ sizeLine; decide), fun p hp => ans_now A0 (kw h) H (Same.refl H) p hp⟩
    cases hs : maySend addr to with
    | false =>
      show (if true = true then _ else _)
      rw [if_pos rfl]
      exact wrong (.inl hs)
    | true =>
      show (if false = true then _ else _)
      rw [if_neg (by decide)]
      refine ⟨_, rfl, _, _, rfl, rfl, _, rfl, ?_⟩
      by_cases hp1 : (4294967295 : Int) < pk
      · rw [decide_eq_true hp1]
        try dsimp only
        rw [if_pos rfl]
        exact wrong (.inr hp1)
      · rw [decide_eq_false hp1]
        obtain ⟨kn, ky⟩ := kon hs hp1
        refine iteF ?_
        refine ⟨_, rfl, L, dL, _, rfl, A0.obj, rfl, _, rfl, L, dL, d, mac, addr, cur, now, rfl, A0.obj, ?_⟩
        refine ⟨_, rfl, rfl, _, rfl, ?_⟩
        rw [dnot_int]
        by_cases h0 : refuseI cur now = 0
        · rw [decide_eq_true h0, Bool.not_true]
          refine iteF ?_
          refine ⟨_, rfl, L, dL, _, rfl, A0.obj, rfl, _, rfl, L, dL, d, mac, addr, cur, now, cs, rfl, A0, fun H1 qs wa tl ts g1 g2 B1 k1 => ?_⟩
          have gr : GoRel now cs qs := ⟨g1, g2⟩
          have gl := gr.wl A0.wl A0.len (mac := mac) (addr := addr)
          refine ⟨_, rfl, L, dL, _, rfl, B1.l.obj, rfl, _, rfl, _, rfl, _, rfl, L, dL, d, mac, addr, now, _, wa, tl, ts, _, to, pk, rfl, B1, (by omega), fun cs' new R H2 ts2 B2 k2 => ?_⟩
          obtain ⟨dW, hW⟩ := B2.w.obj
          obtain ⟨sh, shl⟩ := short_hand R
          refine ⟨_, rfl, wa, dW, _, rfl, hW, rfl, wa, tl, ts2, _, rfl, B2.w, told_len gr A0.wl A0.len sh (by omega), fun H3 p S3 hp h3 => ?_⟩
          exact fin_ans (ky h0 qs cs' new gr R) B2 (k1.trans k2) S3 hp h3
        · rw [decide_eq_false h0, Bool.not_false]
          try dsimp only
          rw [if_pos rfl]
          exact ⟨_, rfl, (by show 1 ≤ sizeLine; decide), fun p hp => ans_now A0 (kn h0) H (Same.refl H) p hp⟩
theorem scCame : FnScope ["self", "now", "sender", "row", "message", "refusal", "wanted"] ["self", "now", "sender", "row"] (defScope (inL 3)) := ⟨rfl, rfl, rfl, by decide +kernel, rfl, by decide +kernel, by decide +kernel⟩
theorem ok_came {f : Addr} {fd : FuncData} (F : Fun K "came" "Link.came" (inL 3) f fd) (T : TL K mg CL) (W : TWd K mg CW) (M : TW K mg CM) (oRd : Ok P w K mg base 3 "read_message" ["row"] (spRead K CM)) (oR : OkM P w K mg base 1 CL "refuse_now" ["self", "now"] (spRefuse CL)) (oG : OkM P w K mg base 6 CL "go_on_to" ["self", "now"] (spGo CL CN CW))
    (oH : OkM P w K mg base 2 CL "heeds" ["self", "sender", "message"] (spHeeds CL CM)) (oM : OkM P w K mg base 5 CL "take_message" ["self", "message", "wanted"] (spTakeMessage CL CN CW CM)) (oT : OkM P w K mg base 1 CW "told" ["self"] (spTold CW)) : FnOk P w K mg base CX0 7 f fd ["self", "now", "sender", "row"] (spCame K CL CN) := by
  refine F.ok scCame (fun vs H Q E h => ?_) (fun cdv A outer s H vs Q E hr h => ?_)
  · obtain ⟨L, dL, d, mac, addr, cur, cs, now, sender, r, ns, rfl, _⟩ := h
    rfl
  · obtain ⟨L, dL, d, mac, addr, cur, cs, now, sender, r, ns, rfl, A0, hr0, kw, km, kon⟩ := h
    have hr1 : Room 1 _ := hr.mono (by decide)
    refine ⟨_, pss_cons (ps_if (pt_cmpR op_gt (pv 2) (pe_num rfl M.everyLink) (nomark _)) (pss_one (ps_ret (pe_lst (pa_cons (pe_num rfl T.wrong) pa_nil)))) pss_nil)
      (pss_cons (ps_set (i := 4) scCame.nd rfl (Or.inl rfl) (pe_callO oRd (hr.mono (by decide)) rfl (pa_cons (pv 3) pa_nil)))
      (pss_cons (ps_if (pt_cmp (pc_isN (pv 4))) (pss_one (ps_ret (pe_lst (pa_cons (pe_num rfl T.noMessage) pa_nil)))) pss_nil)
      (pss_cons (ps_set (i := 5) scCame.nd rfl (Or.inl rfl) (pe_methO oR T.cl hr1 (pv 0) (pa_cons (pv 1) pa_nil)))
      (pss_cons (ps_if (pt_cmpR op_ne (pv 5) (pe_num rfl T.fine) (nomark _)) (pss_one (ps_ret (pe_lst (pa_cons (pv 5) pa_nil)))) pss_nil)
      (pss_cons (ps_set (i := 6) scCame.nd rfl (Or.inl rfl) (pe_methO oG T.cl hr (pv 0) (pa_cons (pv 1) pa_nil)))
      (pss_cons (ps_if (pt_val (pe_methO oH T.cl (hr.mono (by decide)) (pv 0) (pa_cons (pv 2) (pa_cons (pv 4) pa_nil)))) (pss_one (ps_expr (pe_methO oM T.cl (hr.mono (by decide)) (pv 0) (pa_cons (pv 4) (pa_cons (pv 6) pa_nil))))) pss_nil)
      (pss_one (ps_ret (pe_methO0 oT W.cl hr1 (pv 6)))))))))), ?_⟩
    refine ⟨_, rfl, _, _, rfl, rfl, _, rfl, ?_⟩
    by_cases hs : (281474976710655 : Int) < sender
    · rw [decide_eq_true hs]
      try dsimp only
      rw [if_pos rfl]
      exact ⟨(by show 1 ≤ sizeLine; decide), fun p hp => ans_now A0 (kw hs) H (Same.refl H) p hp⟩
    · rw [decide_eq_false hs]
      refine iteF ?_
      refine ⟨_, rfl, r, ns, rfl, hr0, fun hn H1 S1 => ?_, fun w l a b hrd H1 m dm S1 nm hm => ?_⟩
      · refine ⟨_, rfl, _, rfl, ?_⟩
        rw [decide_eq_true rfl]
        try dsimp only
        rw [if_pos rfl]
        exact ⟨(by show 1 ≤ sizeLine; decide), fun p hp => ans_now A0 (km hs hn) H1 S1 p hp⟩
      · refine ⟨_, rfl, _, rfl, ?_⟩
        have en : decide (V.ref m = V.non) = false := decide_eq_false (by intro z; cases z)
        rw [en]
        refine iteF ?_
        have A1 := A0.same S1
        obtain ⟨kn, ky⟩ := kon hs w l a b hrd
        refine ⟨_, rfl, L, dL, _, rfl, A1.obj, rfl, _, rfl, L, dL, d, mac, addr, cur, now, rfl, A1.obj, ?_⟩
        refine ⟨_, rfl, rfl, _, rfl, ?_⟩
        rw [dnot_int]
        by_cases h0 : refuseI cur now = 0
        · rw [decide_eq_true h0, Bool.not_true]
          refine iteF ?_
          refine ⟨_, rfl, L, dL, _, rfl, A1.obj, rfl, _, rfl, L, dL, d, mac, addr, cur, now, cs, rfl, A1, fun H2 qs wa tl ts g1 g2 B2 k2 => ?_⟩
          have gr : GoRel now cs qs := ⟨g1, g2⟩
          have gl := gr.wl A0.wl A0.len (mac := mac) (addr := addr)
          have mout : m ∉ lfp L d cs := fun z => by
            obtain ⟨o, e⟩ := A0.there z
            rw [nm] at e
            cases e
          have hm2 := k2.keep _ _ hm mout
          have kk2 := (Kp.same (fp := lfp L d cs) S1).trans k2
          refine ⟨_, rfl, L, dL, _, rfl, B2.l.obj, rfl, _, rfl, _, rfl, L, dL, d, mac, addr, now, sender, m, dm, w, l, a, b, rfl, B2.l.obj, hm2, _, rfl, ?_⟩
          cases hh : heedsI mac sender l with
          | true =>
            try dsimp only
            rw [if_pos rfl]
            refine ⟨_, rfl, L, dL, _, rfl, B2.l.obj, rfl, _, rfl, _, rfl, L, dL, d, mac, addr, now, _, wa, tl, ts, _, m, dm, w, l, a, b, rfl, B2, (by omega), hm2, fun cs' new R H3 ts3 B3 k3 => ?_⟩
            obtain ⟨dW, hW⟩ := B3.w.obj
            obtain ⟨sh, shl⟩ := short_msg B2.l.wl R
            refine ⟨_, rfl, wa, dW, _, rfl, hW, rfl, wa, tl, ts3, _, rfl, B3.w, told_len gr A0.wl A0.len sh shl, fun H4 p S4 hp h4 => ?_⟩
            exact fin_ans (ky h0 qs cs' new gr (.inl ⟨hh, R⟩)) B3 (kk2.trans k3) S4 hp h4
          | false =>
            refine iteF ?_
            obtain ⟨dW, hW⟩ := B2.w.obj
            have tl' := told_len (mac := mac) (addr := addr) (new := []) gr A0.wl A0.len (fun t ht => absurd ht (by simp)) (by simp)
            have kk := ky h0 qs _ [] gr (.inr ⟨hh, rfl, rfl⟩)
            rw [List.append_nil] at tl' kk
            refine ⟨_, rfl, wa, dW, _, rfl, hW, rfl, wa, tl, ts, _, rfl, B2.w, tl', fun H4 p S4 hp h4 => ?_⟩
            exact fin_ans kk B2 kk2 S4 hp h4
        · rw [decide_eq_false h0, Bool.not_false]
          try dsimp only
          rw [if_pos rfl]
          exact ⟨_, rfl, (by show 1 ≤ sizeLine; decide), fun p hp => ans_now A0 (kn h0) H1 S1 p hp⟩
end
end Nb
set_option Elab.async false
set_option linter.all false
set_option maxRecDepth 100000
set_option maxHeartbeats 4000000
namespace Nb
open PySem
abbrev toI (l : List Nat) : List Int := l.map fun (x : Nat) => (x : Int)
theorem splitI_be (x n : Nat) : splitI (x : Int) n = toI (Sn99.be n x) := by
  unfold splitI Sn99.be toI
  rw [List.map_map]
  refine List.map_congr_left fun i hi => ?_
  have hi' : i < n := List.mem_range.mp hi
  show Builtin.bitAnd ((x : Int) / 2 ^ (8 * ((n : Int) - 1 - (i : Int))).toNat) 255 = ((x / 256 ^ (n - 1 - i) % 256 : Nat) : Int)
  rw [PyProof.Rows.bitAnd_m8]
  have e : (8 * ((n : Int) - 1 - (i : Int))).toNat = 8 * (n - 1 - i) := by omega
  rw [e]
  have e2 : (2 : Int) ^ (8 * (n - 1 - i)) = ((256 ^ (n - 1 - i) : Nat) : Int) := by
    rw [Int.pow_mul]
    simp
  rw [e2]
  omega
theorem writeI_bytes (w l a b : Nat) : writeI (w : Int) l a b = toI (Sn99.Message.bytes ⟨w, l, a, b⟩) := by
  unfold writeI Sn99.Message.bytes
  have z : splitI 0 4 = toI (Sn99.be 4 0) := splitI_be 0 4
  rw [splitI_be, splitI_be, splitI_be, splitI_be, z]
  unfold toI
  simp only [List.map_append, List.append_assoc]
theorem mayAddr_one (n : Nat) : mayAddr (n : Int) = Sn99.one n := by
  unfold mayAddr Sn99.one Sn99.ALL
  have e1 : decide ((n : Int) = 0) = (n == 0) := by
    by_cases h : n = 0
    · subst h; rfl
    · rw [decide_eq_false (by omega)]
      simp [h]
  have e2 : decide ((n : Int) < 4294967295) = decide (n < 2 ^ 32 - 1) := by
    by_cases h : n < 2 ^ 32 - 1
    · rw [decide_eq_true h, decide_eq_true (by omega)]
    · rw [decide_eq_false h, decide_eq_false (by omega)]
  rw [e1, e2]
  rfl
theorem bit40 (n : Nat) : decide (Builtin.bitAnd (n : Int) 1099511627776 = 0) = (n / 2 ^ 40 % 2 == 0) := by
  have e : Builtin.bitAnd (n : Int) 1099511627776 = ((n &&& 2 ^ 40 : Nat) : Int) := by
    unfold Builtin.bitAnd
    rw [decide_eq_true (Int.natCast_nonneg n), decide_eq_true (show (0 : Int) ≤ 1099511627776 by decide)]
    rfl
  rw [e]
  have tb : n.testBit 40 = decide (n / 2 ^ 40 % 2 = 1) := Nat.testBit_eq_decide_div_mod_eq
  rcases Nat.mod_two_eq_zero_or_one (n / 2 ^ 40) with h | h
  · rw [h]
    have z : n &&& 2 ^ 40 = 0 := by
      refine Nat.eq_of_testBit_eq fun i => ?_
      rw [Nat.testBit_and, Nat.testBit_two_pow, Nat.zero_testBit]
      by_cases hi : 40 = i
      · subst hi
        rw [tb, h]
        rfl
      · rw [decide_eq_false hi, Bool.and_false]
    rw [z]
    rfl
  · rw [h]
    have z : n &&& 2 ^ 40 ≠ 0 := fun z => by
      have q := congrArg (fun x => x.testBit 40) z
      simp only [Nat.testBit_and, Nat.testBit_two_pow, Nat.zero_testBit, tb, h] at q
      exact absurd q (by decide)
    rw [decide_eq_false (by omega)]
    rfl
theorem snocInd {α : Type} {P : List α → Prop} (h0 : P []) (h1 : ∀ l c, P l → P (l ++ [c])) (l : List α) : P l := by
  have g : ∀ n (l : List α), l.length = n → P l := by
    intro n
    induction n with
    | zero =>
      intro l hl
      rw [List.length_eq_zero_iff.mp hl]
      exact h0
    | succ n ih =>
      intro l hl
      have hne : l ≠ [] := fun z => by rw [z] at hl; cases hl
      rw [← List.dropLast_concat_getLast hne]
      exact h1 _ _ (ih _ (by rw [List.length_dropLast, hl]; rfl))
  exact g _ l rfl
theorem mayLink_single (n : Nat) : mayLink (n : Int) = Sn99.single n := by
  unfold mayLink Sn99.single
  rw [bit40]
  have e1 : decide ((n : Int) = 0) = (n == 0) := by
    by_cases h : n = 0
    · subst h; rfl
    · rw [decide_eq_false (by omega)]
      simp [h]
  have e2 : decide ((n : Int) ≤ 281474976710655) = decide (n < 2 ^ 48) := by
    by_cases h : n < 2 ^ 48
    · rw [decide_eq_true h, decide_eq_true (by omega)]
    · rw [decide_eq_false h, decide_eq_false (by omega)]
  rw [e1, e2]
  rfl
theorem joinI_number (l : List Nat) : joinI (toI l) = ((Sn99.number l : Nat) : Int) := by
  unfold joinI Sn99.number toI
  rw [List.foldl_map]
  have g : ∀ (l : List Nat) (a : Nat), l.foldl (fun (n : Int) (b : Nat) => n * 256 + (b : Int)) (a : Int) = ((l.foldl (fun n c => 256 * n + c) a : Nat) : Int) := by
    intro l
    induction l with
    | nil => exact fun a => rfl
    | cons x l ih =>
      intro a
      rw [List.foldl_cons, List.foldl_cons, ← ih]
      congr 1
      omega
  exact g l 0
theorem pieceI_nat (l : List Nat) (i j : Nat) : pieceI (toI l) i j = toI ((l.drop i).take (j - i)) := by
  unfold pieceI toI
  rw [List.map_take, List.map_drop]
theorem number_snoc (l : List Nat) (c : Nat) : Sn99.number (l ++ [c]) = 256 * Sn99.number l + c := by
  unfold Sn99.number
  rw [List.foldl_append]
  rfl
theorem be_succ (n x : Nat) : Sn99.be (n + 1) x = Sn99.be n (x / 256) ++ [x % 256] := by
  unfold Sn99.be
  rw [List.range_succ, List.map_append]
  congr 1
  · refine List.map_congr_left fun i hi => ?_
    have hi' : i < n := List.mem_range.mp hi
    have e : n + 1 - 1 - i = (n - 1 - i) + 1 := by omega
    rw [e, Nat.pow_succ, Nat.mul_comm, Nat.div_div_eq_div_mul]
  · show [x / 256 ^ (n + 1 - 1 - n) % 256] = [x % 256]
    have e : n + 1 - 1 - n = 0 := by omega
    rw [e, Nat.pow_zero, Nat.div_one]
theorem be_number : ∀ (l : List Nat), (∀ x ∈ l, x < 256) → Sn99.be l.length (Sn99.number l) = l := by
  intro l
  refine snocInd (P := fun l => (∀ x ∈ l, x < 256) → Sn99.be l.length (Sn99.number l) = l) (fun _ => rfl) (fun l c ih => ?_) l
  · intro h
    have h1 := ih fun x hx => h x (List.mem_append_left _ hx)
    have h2 := h c (List.mem_append_right _ (List.mem_singleton.mpr rfl))
    rw [number_snoc, List.length_append, List.length_singleton, be_succ]
    have e1 : (256 * Sn99.number l + c) / 256 = Sn99.number l := by omega
    have e2 : (256 * Sn99.number l + c) % 256 = c := by omega
    rw [e1, e2, h1]
end Nb
set_option Elab.async false
set_option linter.all false
set_option maxRecDepth 100000
set_option maxHeartbeats 4000000
namespace Nb
open PySem
theorem be_piece (b : List Nat) (h : b.length = 20) (hb : ∀ x ∈ b, x < 256) (i n : Nat) (hi : i + n ≤ 20) : Sn99.be n (Sn99.piece b i n) = (b.drop i).take n := by
  have l : ((b.drop i).take n).length = n := by
    rw [List.length_take, List.length_drop]
    omega
  have e := be_number ((b.drop i).take n) fun x hx => hb x (List.mem_of_mem_drop (List.mem_of_mem_take hx))
  rw [l] at e
  exact e
theorem cut5 (b : List Nat) (h : b.length = 20) : b = (b.drop 0).take 2 ++ ((b.drop 2).take 6 ++ ((b.drop 8).take 4 ++ ((b.drop 12).take 4 ++ (b.drop 16).take 4))) := by
  have e16 : (b.drop 16).take 4 = b.drop 16 := List.take_of_length_le (by rw [List.length_drop]; omega)
  have s : ∀ i n, b.drop i = (b.drop i).take n ++ b.drop (i + n) := fun i n => by
    conv => lhs; rw [← List.take_append_drop n (b.drop i)]
    rw [List.drop_drop]
  rw [e16, ← s 12 4, ← s 8 4, ← s 2 6, ← s 0 2]
  rfl
theorem bytes_iff (b : List Nat) (h : b.length = 20) (hb : ∀ x ∈ b, x < 256) :
    Sn99.Message.bytes ⟨Sn99.piece b 0 2, Sn99.piece b 2 6, Sn99.piece b 8 4, Sn99.piece b 12 4⟩ = b ↔ Sn99.piece b 16 4 = 0 := by
  unfold Sn99.Message.bytes
  show Sn99.be 2 (Sn99.piece b 0 2) ++ (Sn99.be 6 (Sn99.piece b 2 6) ++ (Sn99.be 4 (Sn99.piece b 8 4) ++ (Sn99.be 4 (Sn99.piece b 12 4) ++ Sn99.be 4 0))) = b ↔ _
  rw [be_piece b h hb 0 2 (by omega), be_piece b h hb 2 6 (by omega), be_piece b h hb 8 4 (by omega), be_piece b h hb 12 4 (by omega)]
  have e16 := be_piece b h hb 16 4 (by omega)
  constructor
  · intro e
    have e2 := e.trans (cut5 b h)
    have e3 := List.append_cancel_left (List.append_cancel_left (List.append_cancel_left (List.append_cancel_left e2)))
    unfold Sn99.piece
    rw [← e3]
    decide
  · intro z
    rw [z] at e16
    rw [e16]
    exact (cut5 b h).symm
theorem readI_read (b : List Nat) (hb : ∀ x ∈ b, x < 256) : readI (toI b) = (Sn99.read b).map fun m => ((m.what : Int), (m.mac : Int), (m.addr : Int), (m.other : Int)) := by
  unfold readI Sn99.read
  have p : ∀ i j, joinI (pieceI (toI b) i j) = ((Sn99.piece b i (j - i) : Nat) : Int) := fun i j => by
    rw [pieceI_nat, joinI_number]
    rfl
  rw [p, p, p, p, p]
  have ll : (toI b).length = b.length := List.length_map ..
  rw [ll]
  by_cases h : b.length = 20
  · have bi := bytes_iff b h hb
    by_cases hz : Sn99.piece b 16 4 = 0
    · by_cases hw : Sn99.piece b 0 2 = 1 ∨ Sn99.piece b 0 2 = 2
      · rw [if_pos ⟨h, by show ((Sn99.piece b 16 4 : Nat) : Int) = 0; omega, by show ((Sn99.piece b 0 2 : Nat) : Int) = 1 ∨ ((Sn99.piece b 0 2 : Nat) : Int) = 2; omega⟩]
        show _ = Option.map _ (if _ then _ else _)
        rw [if_pos ⟨h, hw, bi.mpr hz⟩]
        rfl
      · rw [if_neg (fun q => hw (by have q2 : ((Sn99.piece b 0 2 : Nat) : Int) = 1 ∨ ((Sn99.piece b 0 2 : Nat) : Int) = 2 := q.2.2; omega))]
        show _ = Option.map _ (if _ then _ else _)
        rw [if_neg (fun q => hw q.2.1)]
        rfl
    · rw [if_neg (fun q => hz (by have q2 : ((Sn99.piece b 16 4 : Nat) : Int) = 0 := q.2.1; omega))]
      show _ = Option.map _ (if _ then _ else _)
      rw [if_neg (fun q => hz (bi.mp q.2.2))]
      rfl
  · rw [if_neg (fun q => h q.1)]
    show _ = Option.map _ (if _ then _ else _)
    rw [if_neg (fun q => h q.1)]
    rfl
structure RelN (n : Nbr) (o : Sn99.One) : Prop where
  addr : n.addr = (o.addr : Int)
  used : n.used = (o.used : Int)
  due : n.due = (o.due : Int)
  st : match o.stand with
    | .asked k l => n.st = 1 ∧ n.la = 281474976710655 ∧ n.asked = (k : Int) ∧ n.wait = toI l
    | .known => n.st = 2 ∧ n.la = (o.mac : Int) ∧ n.wait = []
    | .old => n.st = 3 ∧ n.la = (o.mac : Int) ∧ n.wait = []
    | .again k => n.st = 4 ∧ n.la = (o.mac : Int) ∧ n.asked = (k : Int) ∧ n.wait = []
abbrev RC (cs : List Cell) (os : List Sn99.One) : Prop := Paired (fun c o => RelN c.n o) cs os
def setO (os : List Sn99.One) (o : Sn99.One) : List Sn99.One := os.map fun x => if x.addr = o.addr then o else x
def dropO (os : List Sn99.One) (a : Nat) : List Sn99.One := os.filter fun x => x.addr != a
theorem RC.set {cs : List Cell} {os : List Sn99.One} (r : RC cs os) {c : Cell} {o : Sn99.One} (h : RelN c.n o) : RC (setC cs c) (setO os o) := by
  induction r with
  | nil => exact .nil
  | @cons x y l m rx r ih =>
    refine .cons ?_ ih
    have e1 := rx.addr
    have e2 := h.addr
    show RelN (if x.n.addr = c.n.addr then c else x).n (if y.addr = o.addr then o else y)
    by_cases e : y.addr = o.addr
    · rw [if_pos e, if_pos (by rw [e1, e2, e])]
      exact h
    · rw [if_neg e, if_neg (by rw [e1, e2]; omega)]
      exact rx
theorem RC.drop {cs : List Cell} {os : List Sn99.One} (r : RC cs os) (a : Nat) : RC (dropC cs (a : Int)) (dropO os a) := by
  induction r with
  | nil => exact .nil
  | @cons x y l m rx r ih =>
    have e1 := rx.addr
    unfold dropC dropO at *
    rw [List.filter_cons, List.filter_cons]
    by_cases e : y.addr = a
    · rw [if_neg (by rw [e1, e]; simp), if_neg (by rw [e]; simp)]
      exact ih
    · rw [if_pos (by rw [e1, decide_eq_true_eq]; omega), if_pos (by simp [e])]
      exact .cons rx ih
theorem RC.snoc {cs : List Cell} {os : List Sn99.One} (r : RC cs os) {c : Cell} {o : Sn99.One} (h : RelN c.n o) : RC (cs ++ [c]) (os ++ [o]) := Paired.snoc r h
theorem RC.len {cs : List Cell} {os : List Sn99.One} (r : RC cs os) : cs.length = os.length := Paired.length r
theorem RC.fwd {cs : List Cell} {os : List Sn99.One} (r : RC cs os) {c : Cell} (hc : c ∈ cs) : ∃ o ∈ os, RelN c.n o := by
  induction r with
  | nil => exact absurd hc (by simp)
  | @cons x y l m rx r ih =>
    rcases List.mem_cons.mp hc with h | h
    · exact ⟨y, List.mem_cons_self .., h ▸ rx⟩
    · obtain ⟨o, ho, q⟩ := ih h
      exact ⟨o, List.mem_cons_of_mem _ ho, q⟩
theorem RC.bwd {cs : List Cell} {os : List Sn99.One} (r : RC cs os) {o : Sn99.One} (ho : o ∈ os) : ∃ c ∈ cs, RelN c.n o := by
  induction r with
  | nil => exact absurd ho (by simp)
  | @cons x y l m rx r ih =>
    rcases List.mem_cons.mp ho with h | h
    · exact ⟨x, List.mem_cons_self .., h ▸ rx⟩
    · obtain ⟨c, hc, q⟩ := ih h
      exact ⟨c, List.mem_cons_of_mem _ hc, q⟩
theorem RC.find_none {cs : List Cell} {os : List Sn99.One} (r : RC cs os) {a : Nat} (h : ∀ c ∈ cs, c.n.addr ≠ (a : Int)) : os.find? (fun o => o.addr == a) = none := by
  refine List.find?_eq_none.mpr fun o ho => ?_
  obtain ⟨c, hc, q⟩ := r.bwd ho
  have := h c hc
  rw [q.addr] at this
  simp
  omega
theorem RC.find_some {cs : List Cell} {os : List Sn99.One} (r : RC cs os) (nd : (cs.map (·.n.addr)).Nodup) {c : Cell} (hc : c ∈ cs) {a : Nat} (ha : c.n.addr = (a : Int)) : ∃ o, os.find? (fun o => o.addr == a) = some o ∧ RelN c.n o ∧ o.addr = a := by
  induction r with
  | nil => exact absurd hc (by simp)
  | @cons x y l m rx r ih =>
    rw [List.map_cons, List.nodup_cons] at nd
    rw [List.find?_cons]
    rcases List.mem_cons.mp hc with h | h
    · subst h
      have e : y.addr = a := by have := rx.addr; omega
      rw [e]
      simp only [beq_self_eq_true]
      exact ⟨y, rfl, rx, e⟩
    · have ne : y.addr ≠ a := fun e => nd.1 (List.mem_map.mpr ⟨c, h, by rw [ha, rx.addr, e]⟩)
      have eb : (y.addr == a) = false := by simp [ne]
      rw [eb]
      exact ih nd.2 h
end Nb
set_option Elab.async false
set_option linter.all false
set_option maxRecDepth 100000
set_option maxHeartbeats 4000000
namespace Nb
open PySem
abbrev tI (w : Sn99.Want) : List Int := toI (Sn99Neutral.told w)
structure RelS (mac addr now : Int) (cs : List Cell) (s : Sn99.State) : Prop where
  mac : mac = (s.mac : Int)
  addr : addr = (s.addr : Int)
  now : now = (s.now : Int)
  rc : RC cs s.ones
def leO (key : Sn99.One → Nat) (o x : Sn99.One) : Prop := key o < key x ∨ (key o = key x ∧ o.addr ≤ x.addr)
theorem leO.refl {key : Sn99.One → Nat} (o : Sn99.One) : leO key o o := .inr ⟨rfl, Nat.le_refl _⟩
theorem leO.trans {key : Sn99.One → Nat} {a b c : Sn99.One} (h : leO key a b) (h' : leO key b c) : leO key a c := by
  unfold leO at *
  omega
def bestF (p : Sn99.One → Prop) [DecidablePred p] (key : Sn99.One → Nat) : Option Sn99.One → Sn99.One → Option Sn99.One := fun m o => if p o then m else match m with
  | none => some o
  | some x => if key o < key x ∨ (key o = key x ∧ o.addr < x.addr) then some o else m
def BestOk (p : Sn99.One → Prop) (key : Sn99.One → Nat) (l : List Sn99.One) (m0 r : Option Sn99.One) : Prop := match r with
  | none => m0 = none ∧ ∀ o ∈ l, p o
  | some o => (m0 = some o ∨ (o ∈ l ∧ ¬ p o)) ∧ (∀ x ∈ l, ¬ p x → leO key o x) ∧ ∀ x, m0 = some x → leO key o x
theorem best_ok (p : Sn99.One → Prop) [DecidablePred p] (key : Sn99.One → Nat) : ∀ (l : List Sn99.One) (m0 : Option Sn99.One), BestOk p key l m0 (l.foldl (bestF p key) m0)
  | [], m0 => by
    show BestOk p key [] m0 m0
    cases m0 with
    | none => exact ⟨rfl, fun o ho => absurd ho (by simp)⟩
    | some o => exact ⟨.inl rfl, fun x hx => absurd hx (by simp), fun x e => by rw [Option.some.inj e]; exact leO.refl _⟩
  | y :: l, m0 => by
    have ih := best_ok p key l (bestF p key m0 y)
    rw [List.foldl_cons]
    by_cases hp : p y
    · have e : bestF p key m0 y = m0 := if_pos hp
      rw [e] at ih ⊢
      generalize l.foldl (bestF p key) m0 = r at ih ⊢
      cases r with
      | none => exact ⟨ih.1, fun o ho => (List.mem_cons.mp ho).elim (fun z => z ▸ hp) (ih.2 o)⟩
      | some o =>
        obtain ⟨h1, h2, h3⟩ := ih
        refine ⟨h1.imp id fun z => ⟨List.mem_cons_of_mem _ z.1, z.2⟩, fun x hx hxp => ?_, h3⟩
        rcases List.mem_cons.mp hx with z | z
        · exact absurd (z ▸ hp) hxp
        · exact h2 x z hxp
    · have hb : ∃ z, bestF p key m0 y = some z ∧ leO key z y ∧ (z = y ∨ m0 = some z) ∧ ∀ x, m0 = some x → leO key z x := by
        unfold bestF
        rw [if_neg hp]
        cases m0 with
        | none => exact ⟨y, rfl, leO.refl _, .inl rfl, fun x e => nomatch e⟩
        | some x =>
          show ∃ z, (if key y < key x ∨ (key y = key x ∧ y.addr < x.addr) then some y else some x) = some z ∧ _
          by_cases q : key y < key x ∨ (key y = key x ∧ y.addr < x.addr)
          · rw [if_pos q]
            refine ⟨y, rfl, leO.refl _, .inl rfl, fun x' e => ?_⟩
            rw [← Option.some.inj e]
            unfold leO
            omega
          · rw [if_neg q]
            refine ⟨x, rfl, ?_, .inr rfl, fun x' e => ?_⟩
            · unfold leO
              omega
            · rw [← Option.some.inj e]
              exact leO.refl _
      obtain ⟨z, ez, hzy, hz, hzx⟩ := hb
      rw [ez] at ih ⊢
      generalize l.foldl (bestF p key) (some z) = r at ih ⊢
      cases r with
      | none => exact absurd ih.1 (by simp)
      | some o =>
        obtain ⟨h1, h2, h3⟩ := ih
        have hoz := h3 z rfl
        refine ⟨?_, fun x hx hxp => ?_, fun x e => hoz.trans (hzx x e)⟩
        · rcases h1 with h1 | ⟨h1, h1'⟩
          · rw [← Option.some.inj h1]
            rcases hz with q | q
            · rw [q]
              exact .inr ⟨List.mem_cons_self .., hp⟩
            · exact .inl q
          · exact .inr ⟨List.mem_cons_of_mem _ h1, h1'⟩
        · rcases List.mem_cons.mp hx with q | q
          · rw [q]
            exact hoz.trans hzy
          · exact h2 x q hxp
theorem next_eq (s : Sn99.State) : s.next = s.ones.foldl (bestF (fun o => o.stand = .old) (·.due)) none := rfl
theorem eldest_eq (s : Sn99.State) : s.eldest = s.ones.foldl (bestF (fun o => o.stand.isAsked = true) (·.used)) none := rfl
theorem RelN.old {n : Nbr} {o : Sn99.One} (r : RelN n o) : hasDue n = true ↔ ¬ o.stand = .old := by
  have h := r.st
  unfold hasDue
  cases e : o.stand with
  | asked k l =>
    rw [e] at h
    rw [h.1]
    simp
  | known =>
    rw [e] at h
    rw [h.1]
    simp
  | old =>
    rw [e] at h
    rw [h.1]
    simp
  | again k =>
    rw [e] at h
    rw [h.1]
    simp
theorem RelN.asked {n : Nbr} {o : Sn99.One} (r : RelN n o) : n.st = 1 ↔ o.stand.isAsked = true := by
  have h := r.st
  cases e : o.stand with
  | asked k l =>
    rw [e] at h
    rw [h.1]
    simp [Sn99.Stand.isAsked]
  | known =>
    rw [e] at h
    rw [h.1]
    simp [Sn99.Stand.isAsked]
  | old =>
    rw [e] at h
    rw [h.1]
    simp [Sn99.Stand.isAsked]
  | again k =>
    rw [e] at h
    rw [h.1]
    simp [Sn99.Stand.isAsked]
theorem due_ok {mac addr now : Int} {cs : List Cell} {s : Sn99.State} (R : RelS mac addr now cs s) {c : Cell} {o : Sn99.One} (r : RelN c.n o) (hd : hasDue c.n = true) :
    RelS mac addr now (doDueC now cs c) (s.dueOf o).1 ∧ (s.dueOf o).2.map tI = doDueT mac addr c.n := by
  have hst := r.st
  have hold := r.old.mp hd
  cases e : o.stand with
  | asked k l =>
    rw [e] at hst
    obtain ⟨h1, h2, h3, h4⟩ := hst
    have n2 : ¬ c.n.st = 2 := by rw [h1]; decide
    have eS : s.dueOf o = (if k < Sn99.TRIES then (s.set { o with stand := .asked (k + 1) l, due := s.now + Sn99.ASK }, [.send Sn99.EVERYBODY (s.ask o.addr)]) else (s.drop o.addr, .lost o.addr :: l.map fun p => .dropped p 1)) := by
      unfold Sn99.State.dueOf
      rw [e]
    by_cases hk : k < Sn99.TRIES
    · have hk' : k < 3 := hk
      have a3 : c.n.asked < 3 := by rw [h3]; omega
      have eC : doDueC now cs c = setC cs { c with n := askN c.n now } := by
        unfold doDueC
        rw [if_neg n2, if_pos a3]
      have eT : doDueT mac addr c.n = [askT mac addr c.n] := by
        unfold doDueT
        rw [if_neg n2, if_pos a3]
      rw [eC, eT, eS, if_pos hk]
      refine ⟨⟨R.mac, R.addr, R.now, R.rc.set (o := { o with stand := .asked (k + 1) l, due := s.now + Sn99.ASK }) ⟨r.addr, r.used, ?_, ?_⟩⟩, ?_⟩
      · show now + 1000 = ((s.now + 1000 : Nat) : Int)
        rw [R.now]
        omega
      · exact ⟨h1, h2, by show c.n.asked + 1 = ((k + 1 : Nat) : Int); rw [h3]; omega, h4⟩
      · show [tI (.send Sn99.EVERYBODY (s.ask o.addr))] = [askT mac addr c.n]
        unfold askT
        have q := writeI_bytes 1 s.mac s.addr o.addr
        rw [h2, R.mac, R.addr, r.addr]
        show [(2 : Int) :: ((281474976710655 : Nat) : Int) :: toI (Sn99.Message.bytes ⟨1, s.mac, s.addr, o.addr⟩)] = _
        rw [← q]
        rfl
    · have hk' : ¬ k < 3 := hk
      have a3 : ¬ c.n.asked < 3 := by rw [h3]; omega
      have eC : doDueC now cs c = dropC cs c.n.addr := by
        unfold doDueC
        rw [if_neg n2, if_neg a3]
      have eT : doDueT mac addr c.n = loseT c.n 1 := by
        unfold doDueT
        rw [if_neg n2, if_neg a3]
      rw [eC, eT, eS, if_neg hk]
      refine ⟨⟨R.mac, R.addr, R.now, by rw [r.addr]; exact R.rc.drop o.addr⟩, ?_⟩
      show tI (.lost o.addr) :: (l.map fun p => Sn99.Want.dropped p 1).map tI = loseT c.n 1
      unfold loseT
      rw [r.addr, h4]
      unfold toI
      rw [List.map_map, List.map_map]
      rfl
  | known =>
    rw [e] at hst
    obtain ⟨h1, h2, h4⟩ := hst
    have eS : s.dueOf o = (s.set { o with stand := .old }, []) := by
      unfold Sn99.State.dueOf
      rw [e]
    have eC : doDueC now cs c = setC cs { c with n := { c.n with st := 3 } } := by
      unfold doDueC
      rw [if_pos h1]
    have eT : doDueT mac addr c.n = [] := by
      unfold doDueT
      rw [if_pos h1]
    rw [eC, eT, eS]
    exact ⟨⟨R.mac, R.addr, R.now, R.rc.set (o := { o with stand := .old }) ⟨r.addr, r.used, r.due, ⟨rfl, h2, h4⟩⟩⟩, rfl⟩
  | old => exact absurd e hold
  | again k =>
    rw [e] at hst
    obtain ⟨h1, h2, h3, h4⟩ := hst
    have n2 : ¬ c.n.st = 2 := by rw [h1]; decide
    have eS : s.dueOf o = (if k < Sn99.TRIES then (s.set { o with stand := .again (k + 1), due := s.now + Sn99.ASK }, [.send o.mac (s.ask o.addr)]) else (s.drop o.addr, [.lost o.addr])) := by
      unfold Sn99.State.dueOf
      rw [e]
    by_cases hk : k < Sn99.TRIES
    · have hk' : k < 3 := hk
      have a3 : c.n.asked < 3 := by rw [h3]; omega
      have eC : doDueC now cs c = setC cs { c with n := askN c.n now } := by
        unfold doDueC
        rw [if_neg n2, if_pos a3]
      have eT : doDueT mac addr c.n = [askT mac addr c.n] := by
        unfold doDueT
        rw [if_neg n2, if_pos a3]
      rw [eC, eT, eS, if_pos hk]
      refine ⟨⟨R.mac, R.addr, R.now, R.rc.set (o := { o with stand := .again (k + 1), due := s.now + Sn99.ASK }) ⟨r.addr, r.used, ?_, ?_⟩⟩, ?_⟩
      · show now + 1000 = ((s.now + 1000 : Nat) : Int)
        rw [R.now]
        omega
      · exact ⟨h1, h2, by show c.n.asked + 1 = ((k + 1 : Nat) : Int); rw [h3]; omega, h4⟩
      · show [tI (.send o.mac (s.ask o.addr))] = [askT mac addr c.n]
        unfold askT
        have q := writeI_bytes 1 s.mac s.addr o.addr
        rw [h2, R.mac, R.addr, r.addr]
        show [(2 : Int) :: (o.mac : Int) :: toI (Sn99.Message.bytes ⟨1, s.mac, s.addr, o.addr⟩)] = _
        rw [← q]
        rfl
    · have hk' : ¬ k < 3 := hk
      have a3 : ¬ c.n.asked < 3 := by rw [h3]; omega
      have eC : doDueC now cs c = dropC cs c.n.addr := by
        unfold doDueC
        rw [if_neg n2, if_neg a3]
      have eT : doDueT mac addr c.n = loseT c.n 1 := by
        unfold doDueT
        rw [if_neg n2, if_neg a3]
      rw [eC, eT, eS, if_neg hk]
      refine ⟨⟨R.mac, R.addr, R.now, by rw [r.addr]; exact R.rc.drop o.addr⟩, ?_⟩
      show [tI (.lost o.addr)] = loseT c.n 1
      unfold loseT
      rw [r.addr, h4]
      rfl
end Nb
set_option Elab.async false
set_option linter.all false
set_option maxRecDepth 100000
set_option maxHeartbeats 4000000
namespace Nb
open PySem L2
theorem setC_filter {p : Cell → Bool} {c' : Cell} (h : p c' = false) : ∀ cs : List Cell, (setC cs c').filter p = (cs.filter p).filter fun x => decide (x.n.addr ≠ c'.n.addr)
  | [] => rfl
  | x :: cs => by
    have ih := setC_filter h cs
    show ((if x.n.addr = c'.n.addr then c' else x) :: setC cs c').filter p = _
    by_cases e : x.n.addr = c'.n.addr
    · rw [if_pos e, List.filter_cons, h, if_neg (by decide), ih, List.filter_cons]
      cases hp : p x with
      | true =>
        rw [if_pos rfl, List.filter_cons, if_neg (by simp [e])]
      | false => rw [if_neg (by decide)]
    · rw [if_neg e, List.filter_cons, List.filter_cons]
      cases hp : p x with
      | true =>
        rw [if_pos rfl, if_pos rfl, List.filter_cons, if_pos (by simp [e]), ih]
      | false => rw [if_neg (by decide), if_neg (by decide), ih]
theorem filt_due {now : Int} {cs : List Cell} {c : Cell} : (doDueC now cs c).filter (fun x => isDue x.n now) = (cs.filter fun x => isDue x.n now).filter fun x => decide (x.n.addr ≠ c.n.addr) := by
  unfold doDueC
  split
  · exact setC_filter (c' := { c with n := { c.n with st := 3 } }) (by show isDue _ now = false; rfl) cs
  · split
    · refine setC_filter (c' := { c with n := askN c.n now }) ?_ cs
      show (hasDue _ && decide (now + 1000 ≤ now)) = false
      rw [decide_eq_false (by omega), Bool.and_false]
    · unfold dropC
      rw [List.filter_filter, List.filter_filter]
      congr 1
      funext x
      exact Bool.and_comm _ _
theorem doDueC_nd {now : Int} {cs : List Cell} {c : Cell} (h : (cs.map (·.n.addr)).Nodup) : ((doDueC now cs c).map (·.n.addr)).Nodup := by
  unfold doDueC
  split
  · rw [setC_map (f := fun x => x.n.addr) (c := c) fun x hx e => e]
    exact h
  · split
    · rw [setC_map (f := fun x => x.n.addr) (c := c) fun x hx e => e]
      exact h
    · exact nd_sub (dropC_sub _) h
theorem filter_self {α : Type} {p : α → Bool} : ∀ {l : List α}, (∀ x ∈ l, p x = true) → l.filter p = l
  | [], _ => rfl
  | x :: l, h => by
    rw [List.filter_cons, if_pos (h x (List.mem_cons_self ..)), filter_self fun y hy => h y (List.mem_cons_of_mem _ hy)]
theorem isDue_iff {n : Nbr} {now : Int} : isDue n now = true ↔ hasDue n = true ∧ n.due ≤ now := by
  unfold isDue
  rw [Bool.and_eq_true, decide_eq_true_eq]
theorem tick_ok {mac addr now : Int} : ∀ (qs cs : List Cell) (s : Sn99.State) (f : Nat), RelS mac addr now cs s → (cs.map (·.n.addr)).Nodup → GoRel now cs qs → qs.length ≤ f →
    RelS mac addr now (qs.foldl (doDueC now) cs) (Sn99.State.tick f s).1 ∧ (Sn99.State.tick f s).2.map tI = qs.flatMap fun c => doDueT mac addr c.n
  | [], cs, s, f, R, nd, g, _ => by
    have nodue : ∀ c ∈ cs, isDue c.n now = false := fun c hc => by
      cases q : isDue c.n now with
      | false => rfl
      | true =>
        have := g.1.mem_iff.mpr (List.mem_filter.mpr ⟨hc, q⟩)
        exact absurd this (by simp)
    have e : Sn99.State.tick f s = (s, []) := by
      cases f with
      | zero => rfl
      | succ f =>
        unfold Sn99.State.tick
        have b := best_ok (fun o => o.stand = .old) (·.due) s.ones none
        rw [← next_eq] at b
        cases hn : s.next with
        | none => rfl
        | some o =>
          rw [hn] at b
          obtain ⟨h1, _⟩ := b
          rcases h1 with h1 | ⟨ho, hold⟩
          · exact nomatch h1
          · obtain ⟨c, hc, r⟩ := R.rc.bwd ho
            have h2 := nodue c hc
            have hd : hasDue c.n = true := r.old.mpr hold
            have h3 : ¬ c.n.due ≤ now := fun z => by
              rw [isDue_iff.mpr ⟨hd, z⟩] at h2
              cases h2
            have h4 : s.now < o.due := by
              have := r.due
              have := R.now
              omega
            show (if s.now < o.due then (s, []) else _) = (s, [])
            rw [if_pos h4]
    rw [e]
    exact ⟨R, rfl⟩
  | c :: qs, cs, s, f, R, nd, g, hf => by
    obtain ⟨f, rfl⟩ : ∃ f', f = f' + 1 := ⟨f - 1, by rw [List.length_cons] at hf; omega⟩
    have hcm := List.mem_filter.mp (g.1.mem_iff.mp (List.mem_cons_self ..))
    have hcd := isDue_iff.mp (show isDue c.n now = true from hcm.2)
    obtain ⟨pw1, pw2⟩ := List.pairwise_cons.mp g.2
    have b := best_ok (fun o => o.stand = .old) (·.due) s.ones none
    rw [← next_eq] at b
    obtain ⟨o, hn, r⟩ : ∃ o, s.next = some o ∧ RelN c.n o := by
      cases hn : s.next with
      | none =>
        rw [hn] at b
        obtain ⟨oc, hoc, rc⟩ := R.rc.fwd hcm.1
        exact absurd (b.2 oc hoc) (rc.old.mp hcd.1)
      | some o =>
        rw [hn] at b
        obtain ⟨h1, h2, _⟩ := b
        rcases h1 with h1 | ⟨ho, hold⟩
        · exact nomatch h1
        · obtain ⟨c', hc', r'⟩ := R.rc.bwd ho
          obtain ⟨oc, hoc, rc⟩ := R.rc.fwd hcm.1
          have hle := h2 oc hoc (rc.old.mp hcd.1)
          have hd' : hasDue c'.n = true := r'.old.mpr hold
          have e1 := r'.due
          have e2 := rc.due
          have e3 := r'.addr
          have e4 := rc.addr
          have hle' : o.due < oc.due ∨ (o.due = oc.due ∧ o.addr ≤ oc.addr) := hle
          have hdue' : c'.n.due ≤ now := by
            have := hcd.2
            omega
          have hm : c' ∈ c :: qs := g.1.mem_iff.mpr (List.mem_filter.mpr ⟨hc', isDue_iff.mpr ⟨hd', hdue'⟩⟩)
          rcases List.mem_cons.mp hm with z | z
          · exact ⟨o, rfl, z ▸ r'⟩
          · have q := pw1 c' z
            have q' : c.n.due < c'.n.due ∨ (c.n.due = c'.n.due ∧ c.n.addr ≤ c'.n.addr) := q
            have ea : c'.n.addr = c.n.addr := by omega
            exact ⟨o, rfl, nd_inj (f := fun x : Cell => x.n.addr) nd hc' hcm.1 ea ▸ r'⟩
    have hnl : ¬ s.now < o.due := by
      have := r.due
      have := R.now
      have := hcd.2
      omega
    obtain ⟨R1, t1⟩ := due_ok R r hcd.1
    have nd1 := doDueC_nd (now := now) (c := c) nd
    have cnd : ((c :: qs).map fun x => x.n.addr).Nodup := (g.1.map _).nodup_iff.mpr (nd_sub List.filter_sublist nd)
    rw [List.map_cons, List.nodup_cons] at cnd
    have g1 : GoRel now (doDueC now cs c) qs := by
      refine ⟨?_, pw2⟩
      rw [filt_due]
      have p := g.1.filter (fun x : Cell => decide (x.n.addr ≠ c.n.addr))
      rw [List.filter_cons, if_neg (by simp), filter_self (fun x hx => by
        rw [decide_eq_true_eq]
        exact fun z => cnd.1 (List.mem_map.mpr ⟨x, hx, z⟩))] at p
      exact p
    obtain ⟨R2, t2⟩ := tick_ok qs (doDueC now cs c) (s.dueOf o).1 f R1 nd1 g1 (by rw [List.length_cons] at hf; omega)
    have e : Sn99.State.tick (f + 1) s = ((Sn99.State.tick f (s.dueOf o).1).1, (s.dueOf o).2 ++ (Sn99.State.tick f (s.dueOf o).1).2) := by
      show (match s.next with
        | none => (s, [])
        | some o => if s.now < o.due then (s, []) else ((Sn99.State.tick f (s.dueOf o).1).1, (s.dueOf o).2 ++ (Sn99.State.tick f (s.dueOf o).1).2)) = _
      rw [hn]
      show (if s.now < o.due then (s, []) else _) = _
      rw [if_neg hnl]
    rw [e, List.foldl_cons, List.flatMap_cons]
    refine ⟨R2, ?_⟩
    show ((s.dueOf o).2 ++ (Sn99.State.tick f (s.dueOf o).1).2).map tI = _
    rw [List.map_append, t1, t2]
end Nb
set_option Elab.async false
set_option linter.all false
set_option maxRecDepth 100000
set_option maxHeartbeats 4000000
namespace Nb
open PySem L2
theorem RelN.wait {n : Nbr} {o : Sn99.One} (r : RelN n o) : n.wait = toI o.stand.waiting := by
  have h := r.st
  cases e : o.stand with
  | asked k l => rw [e] at h; exact h.2.2.2
  | known => rw [e] at h; exact h.2.2
  | old => rw [e] at h; exact h.2.2
  | again k => rw [e] at h; exact h.2.2.2
theorem RelN.la {n : Nbr} {o : Sn99.One} (r : RelN n o) (h1 : ¬ n.st = 1) : n.la = (o.mac : Int) := by
  have h := r.st
  cases e : o.stand with
  | asked k l => rw [e] at h; exact absurd h.1 h1
  | known => rw [e] at h; exact h.2.1
  | old => rw [e] at h; exact h.2.1
  | again k => rw [e] at h; exact h.2.1
theorem room_none {mac addr now : Int} {cs : List Cell} {s : Sn99.State} (R : RelS mac addr now cs s) (h : NoRoom cs) : s.room = none := by
  unfold Sn99.State.room
  have hl := R.rc.len
  rw [if_neg (show ¬ s.ones.length < Sn99.ROOM from by rw [← hl]; exact h.1)]
  have b := best_ok (fun o => o.stand.isAsked = true) (·.used) s.ones none
  rw [← eldest_eq] at b
  cases he : s.eldest with
  | none => rfl
  | some o =>
    rw [he] at b
    rcases b.1 with z | ⟨ho, hn⟩
    · exact nomatch z
    · obtain ⟨c, hc, r⟩ := R.rc.bwd ho
      exact absurd (r.asked.mp (h.2 c hc)) hn
theorem room_some {mac addr now : Int} {cs cs1 : List Cell} {s : Sn99.State} (R : RelS mac addr now cs s) (nd : (cs.map (·.n.addr)).Nodup) (h : RoomTo cs cs1) : ∃ os, s.room = some { s with ones := os } ∧ RC cs1 os := by
  have hl := R.rc.len
  unfold Sn99.State.room
  rcases h with ⟨h, rfl⟩ | ⟨g, hg, hge, hg1, hmin, rfl⟩
  · rw [if_pos (show s.ones.length < Sn99.ROOM from by rw [← hl]; exact h)]
    exact ⟨s.ones, rfl, R.rc⟩
  · rw [if_neg (show ¬ s.ones.length < Sn99.ROOM from by rw [← hl]; exact hge)]
    have b := best_ok (fun o => o.stand.isAsked = true) (·.used) s.ones none
    rw [← eldest_eq] at b
    obtain ⟨og, hog, rg⟩ := R.rc.fwd hg
    have gna : ¬ og.stand.isAsked = true := fun z => hg1 (rg.asked.mpr z)
    cases he : s.eldest with
    | none =>
      rw [he] at b
      exact absurd (b.2 og hog) gna
    | some o =>
      rw [he] at b
      obtain ⟨h1, h2, _⟩ := b
      rcases h1 with z | ⟨ho, hn⟩
      · exact nomatch z
      · obtain ⟨c, hc, r⟩ := R.rc.bwd ho
        have q1 := h2 og hog gna
        have q1' : o.used < og.used ∨ (o.used = og.used ∧ o.addr ≤ og.addr) := q1
        have q2 := hmin c hc (fun z => hn (r.asked.mp z))
        have q2' : g.n.used < c.n.used ∨ (g.n.used = c.n.used ∧ g.n.addr ≤ c.n.addr) := q2
        have e1 := r.used
        have e2 := rg.used
        have e3 := r.addr
        have e4 := rg.addr
        have ea : o.addr = og.addr := by omega
        refine ⟨dropO s.ones o.addr, rfl, ?_⟩
        rw [e4, ← ea]
        exact R.rc.drop o.addr
theorem askT_eq {mac addr now : Int} {cs : List Cell} {s : Sn99.State} (R : RelS mac addr now cs s) {n : Nbr} {m a : Nat} (hl : n.la = (m : Int)) (ha : n.addr = (a : Int)) : [askT mac addr n] = [Sn99.Want.send m (s.ask a)].map tI := by
  unfold askT
  have q := writeI_bytes 1 s.mac s.addr a
  rw [hl, R.mac, R.addr, ha]
  show _ = [(2 : Int) :: (m : Int) :: toI (Sn99.Message.bytes ⟨1, s.mac, s.addr, a⟩)]
  rw [← q]
  rfl
theorem hand_ok {mac addr now : Int} {cs cs' : List Cell} {s : Sn99.State} {new : List (List Int)} (R : RelS mac addr now cs s) (nd : (cs.map (·.n.addr)).Nodup) (wl : ∀ c ∈ cs, c.n.wait.length ≤ 4) {to p : Nat} (h : HandRel mac addr now (to : Int) (p : Int) cs cs' new) :
    RelS mac addr now cs' (s.send to p).1 ∧ (s.send to p).2.map tI = new := by
  have hnow := R.now
  rcases h with ⟨e, rfl, rfl⟩ | ⟨ne, h⟩
  · have eS : s.send to p = (s, [.pass p Sn99.EVERYBODY]) := by
      unfold Sn99.State.send
      rw [if_pos (show to = Sn99.ALL from by unfold Sn99.ALL; omega)]
    rw [eS]
    exact ⟨R, rfl⟩
  · have nall : ¬ to = Sn99.ALL := fun z => ne (by rw [z]; rfl)
    rcases h with ⟨c, hc, ea, rfl, rfl⟩ | ⟨hno, h⟩
    · obtain ⟨o, hf, r, eo⟩ := R.rc.find_some nd hc ea
      have hf' : s.find to = some o := hf
      have hst := r.st
      cases e : o.stand with
      | asked k l =>
        rw [e] at hst
        obtain ⟨h1, h2, h3, h4⟩ := hst
        have eS : s.send to p = (if l.length < Sn99.WAITING then (s.set { o with stand := .asked k (l ++ [p]), used := s.now }, []) else (s.set { o with stand := .asked k (l.drop 1 ++ [p]), used := s.now }, [.dropped (l.headD 0) 2])) := by
          unfold Sn99.State.send
          rw [if_neg nall, hf']
          simp only [e]
        have ll : c.n.wait.length = l.length := by rw [h4]; exact List.length_map ..
        have wc := wl c hc
        have eN : handN c.n now (p : Int) = { c.n with used := now, wait := waitN c.n.wait p } := by unfold handN; rw [if_pos h1]
        have eT : handT mac addr c.n (p : Int) = waitT c.n.wait := by unfold handT; rw [if_pos h1]
        rw [eN, eT, eS]
        by_cases h4' : l.length < Sn99.WAITING
        · have h5 : l.length < 4 := h4'
          have w1 : waitN c.n.wait (p : Int) = c.n.wait ++ [(p : Int)] := by unfold waitN; rw [if_neg (by omega)]
          have w2 : waitT c.n.wait = [] := by unfold waitT; rw [if_neg (by omega)]
          rw [if_pos h4', w1, w2]
          refine ⟨⟨R.mac, R.addr, R.now, R.rc.set (o := { o with stand := .asked k (l ++ [p]), used := s.now }) ⟨r.addr, hnow, r.due, h1, h2, h3, ?_⟩⟩, rfl⟩
          show c.n.wait ++ [(p : Int)] = toI (l ++ [p])
          rw [h4]
          unfold toI
          rw [List.map_append]
          rfl
        · have h5 : ¬ l.length < 4 := h4'
          have w1 : waitN c.n.wait (p : Int) = c.n.wait.drop 1 ++ [(p : Int)] := by unfold waitN; rw [if_pos (by omega)]
          have w2 : waitT c.n.wait = [[3, c.n.wait.headD 0, 2]] := by unfold waitT; rw [if_pos (by omega)]
          rw [if_neg h4', w1, w2]
          refine ⟨⟨R.mac, R.addr, R.now, R.rc.set (o := { o with stand := .asked k (l.drop 1 ++ [p]), used := s.now }) ⟨r.addr, hnow, r.due, h1, h2, h3, ?_⟩⟩, ?_⟩
          · show c.n.wait.drop 1 ++ [(p : Int)] = toI (l.drop 1 ++ [p])
            rw [h4]
            unfold toI
            rw [List.map_append, List.map_drop]
            rfl
          · show [tI (.dropped (l.headD 0) 2)] = _
            rw [h4]
            cases l with
            | nil => exact absurd h5 (by simp)
            | cons x l => rfl
      | known =>
        rw [e] at hst
        obtain ⟨h1, h2, h4⟩ := hst
        have eS : s.send to p = (s.set { o with used := s.now }, [.pass p o.mac]) := by
          unfold Sn99.State.send
          rw [if_neg nall, hf']
          simp only [e]
        have eN : handN c.n now (p : Int) = { c.n with used := now } := by unfold handN; rw [if_neg (by rw [h1]; decide), if_neg (by rw [h1]; decide)]
        have eT : handT mac addr c.n (p : Int) = [[1, (p : Int), c.n.la]] := by unfold handT; rw [if_neg (by rw [h1]; decide), if_neg (by rw [h1]; decide)]
        rw [eN, eT, h2, eS]
        refine ⟨⟨R.mac, R.addr, R.now, R.rc.set (o := { o with used := s.now }) ⟨r.addr, hnow, r.due, ?_⟩⟩, rfl⟩
        have := r.st
        exact this
      | old =>
        rw [e] at hst
        obtain ⟨h1, h2, h4⟩ := hst
        have eS : s.send to p = (s.set { o with stand := .again 1, due := s.now + Sn99.ASK, used := s.now }, [.pass p o.mac, .send o.mac (s.ask to)]) := by
          unfold Sn99.State.send
          rw [if_neg nall, hf']
          simp only [e]
        have eN : handN c.n now (p : Int) = askN { c.n with used := now, st := 4, asked := 0 } now := by unfold handN; rw [if_neg (by rw [h1]; decide), if_pos h1]
        have eT : handT mac addr c.n (p : Int) = [[1, (p : Int), c.n.la], askT mac addr c.n] := by unfold handT; rw [if_neg (by rw [h1]; decide), if_pos h1]
        rw [eN, eT, eS]
        refine ⟨⟨R.mac, R.addr, R.now, R.rc.set (o := { o with stand := .again 1, due := s.now + Sn99.ASK, used := s.now }) ⟨r.addr, hnow, ?_, ⟨rfl, h2, rfl, h4⟩⟩⟩, ?_⟩
        · show now + 1000 = ((s.now + 1000 : Nat) : Int)
          omega
        · have q := askT_eq R h2 ea
          show tI (.pass p o.mac) :: [Sn99.Want.send o.mac (s.ask to)].map tI = _
          rw [← q, h2]
          rfl
      | again k =>
        rw [e] at hst
        obtain ⟨h1, h2, h3, h4⟩ := hst
        have eS : s.send to p = (s.set { o with used := s.now }, [.pass p o.mac]) := by
          unfold Sn99.State.send
          rw [if_neg nall, hf']
          simp only [e]
        have eN : handN c.n now (p : Int) = { c.n with used := now } := by unfold handN; rw [if_neg (by rw [h1]; decide), if_neg (by rw [h1]; decide)]
        have eT : handT mac addr c.n (p : Int) = [[1, (p : Int), c.n.la]] := by unfold handT; rw [if_neg (by rw [h1]; decide), if_neg (by rw [h1]; decide)]
        rw [eN, eT, h2, eS]
        refine ⟨⟨R.mac, R.addr, R.now, R.rc.set (o := { o with used := s.now }) ⟨r.addr, hnow, r.due, ?_⟩⟩, rfl⟩
        have := r.st
        exact this
    · have hf' : s.find to = none := R.rc.find_none hno
      rcases h with ⟨hnr, rfl, rfl⟩ | ⟨cs1, c0, hr, hc0, rfl, rfl⟩
      · have eS : s.send to p = (s, [.dropped p 3]) := by
          unfold Sn99.State.send
          rw [if_neg nall, hf', room_none R hnr]
        rw [eS]
        exact ⟨R, rfl⟩
      · obtain ⟨os, er, rc⟩ := room_some R nd hr
        have eS : s.send to p = ({ s with ones := os ++ [⟨to, 0, .asked 1 [p], s.now + Sn99.ASK, s.now⟩] }, [.send Sn99.EVERYBODY (s.ask to)]) := by
          unfold Sn99.State.send
          rw [if_neg nall, hf', er]
        rw [eS]
        refine ⟨⟨R.mac, R.addr, R.now, RC.snoc rc ?_⟩, ?_⟩
        · rw [hc0]
          refine ⟨rfl, hnow, ?_, ⟨rfl, rfl, rfl, rfl⟩⟩
          show now + 1000 = ((s.now + 1000 : Nat) : Int)
          omega
        · exact (askT_eq R (n := newN (to : Int) now) (m := Sn99.EVERYBODY) rfl rfl).symm
end Nb
set_option Elab.async false
set_option linter.all false
set_option maxRecDepth 100000
set_option maxHeartbeats 4000000
namespace Nb
open PySem L2
theorem learn_ok {mac addr now : Int} {cs : List Cell} {s : Sn99.State} (R : RelS mac addr now cs s) {c : Cell} {o : Sn99.One} (r : RelN c.n o) (m : Nat) (w' : Addr) :
    RelS mac addr now (setC cs { c with n := knowN c.n (m : Int) now, w := w' }) (s.learn o m).1 ∧ (s.learn o m).2.map tI = knowT c.n (m : Int) := by
  have hnow := R.now
  refine ⟨⟨R.mac, R.addr, R.now, R.rc.set (o := { o with mac := m, stand := .known, due := s.now + Sn99.KEPT }) ⟨r.addr, r.used, ?_, ⟨rfl, rfl, rfl⟩⟩⟩, ?_⟩
  · show now + 30000 = ((s.now + 30000 : Nat) : Int)
    omega
  · show tI (.known o.addr m) :: (o.stand.waiting.map fun p => Sn99.Want.pass p m).map tI = knowT c.n (m : Int)
    unfold knowT
    rw [r.addr, r.wait]
    unfold toI
    rw [List.map_map, List.map_map]
    rfl
theorem awaited_iff {n : Nbr} {o : Sn99.One} (r : RelN n o) : isAwaited n = true ↔ (∃ k l, o.stand = .asked k l) ∨ ∃ k, o.stand = .again k := by
  have h := r.st
  unfold isAwaited
  cases e : o.stand with
  | asked k l =>
    rw [e] at h
    rw [h.1]
    simp
  | known =>
    rw [e] at h
    rw [h.1]
    simp
  | old =>
    rw [e] at h
    rw [h.1]
    simp
  | again k =>
    rw [e] at h
    rw [h.1]
    simp
theorem heeds_iff {mac : Int} {s : Sn99.State} (hm : mac = (s.mac : Int)) (sender l : Nat) : heedsI mac (sender : Int) (l : Int) = true ↔ ¬ (l ≠ sender ∨ Sn99.single sender = false ∨ sender = s.mac) := by
  unfold heedsI
  rw [hm]
  by_cases h1 : l = sender
  · by_cases h2 : sender = s.mac
    · rw [if_pos (.inr (by omega))]
      simp [h2]
    · rw [if_neg (fun z => z.elim (fun q => q (by omega)) (fun q => h2 (by omega))), mayLink_single]
      simp [h1, h2]
  · rw [if_pos (.inl (by omega))]
    simp [h1]
theorem came_ok {mac addr now : Int} {cs cs' : List Cell} {s : Sn99.State} {new : List (List Int)} (R : RelS mac addr now cs s) (nd : (cs.map (·.n.addr)).Nodup) {sender : Nat} {m : Sn99.Message}
    (h : (heedsI mac (sender : Int) (m.mac : Int) = true ∧ MsgRel mac addr now m.what m.mac m.addr m.other cs cs' new) ∨ (heedsI mac (sender : Int) (m.mac : Int) = false ∧ cs' = cs ∧ new = [])) :
    RelS mac addr now cs' (s.came sender m).1 ∧ (s.came sender m).2.map tI = new := by
  have hnow := R.now
  have haddr := R.addr
  have hi := heeds_iff R.mac sender m.mac
  rcases h with ⟨hh, h⟩ | ⟨hh, rfl, rfl⟩
  · have hn := hi.mp hh
    have em : m.mac = sender := Decidable.of_not_not fun z => hn (.inl z)
    have back : tI (.send sender ⟨2, s.mac, s.addr, m.addr⟩) = 2 :: (m.mac : Int) :: writeI 2 mac addr (m.addr : Int) := by
      have q := writeI_bytes 2 s.mac s.addr m.addr
      rw [R.mac, R.addr, em]
      show (2 : Int) :: (sender : Int) :: toI (Sn99.Message.bytes ⟨2, s.mac, s.addr, m.addr⟩) = _
      rw [← q]
      rfl
    rcases h with ⟨e, rfl, rfl⟩ | ⟨ne, h⟩
    · have eS : s.came sender m = (s, [.doubled sender]) := by
        unfold Sn99.State.came
        rw [if_neg hn, if_pos (show m.addr = s.addr by omega)]
      rw [eS, em]
      exact ⟨R, rfl⟩
    · have na : ¬ m.addr = s.addr := by omega
      rcases h with ⟨h2, h⟩ | ⟨h2, h⟩
      · have w2 : m.what = 2 := by omega
        rcases h with ⟨eb, c, hc, ea, haw, ⟨w', rfl⟩, rfl⟩ | ⟨hno, rfl, rfl⟩
        · obtain ⟨o, hf, r, eo⟩ := R.rc.find_some nd hc ea
          have eS : s.came sender m = s.learn o sender := by
            unfold Sn99.State.came
            rw [if_neg hn, if_neg na, if_pos w2, if_neg (show ¬ m.other ≠ s.addr from fun z => z (by omega)), show s.find m.addr = some o from hf]
            rcases (awaited_iff r).mp haw with ⟨k, l, e⟩ | ⟨k, e⟩
            · simp only [e]
            · simp only [e]
          rw [eS, em]
          exact learn_ok R r sender w'
        · have eS : s.came sender m = (s, []) := by
            unfold Sn99.State.came
            rw [if_neg hn, if_neg na, if_pos w2]
            by_cases hb : m.other = s.addr
            · rw [if_neg (fun z => z hb)]
              have hno' : ∀ c ∈ cs', c.n.addr = (m.addr : Int) → isAwaited c.n = false := hno.resolve_left (fun z => z (by omega))
              by_cases hin : ∃ c ∈ cs', c.n.addr = (m.addr : Int)
              · obtain ⟨c, hc, ea⟩ := hin
                obtain ⟨o, hf, r, eo⟩ := R.rc.find_some nd hc ea
                have q := hno' c hc ea
                have q2 : ¬ ((∃ k l, o.stand = .asked k l) ∨ ∃ k, o.stand = .again k) := fun z => by
                  rw [(awaited_iff r).mpr z] at q
                  cases q
                rw [show s.find m.addr = some o from hf]
                cases e : o.stand with
                | asked k l => exact absurd (.inl ⟨k, l, e⟩) q2
                | known => simp only [e]
                | old => simp only [e]
                | again k => exact absurd (.inr ⟨k, e⟩) q2
              · rw [show s.find m.addr = none from R.rc.find_none fun c hc e => hin ⟨c, hc, e⟩]
            · rw [if_pos hb]
          rw [eS]
          exact ⟨R, rfl⟩
      · have w2 : ¬ m.what = 2 := by omega
        rcases h with ⟨eb, h⟩ | ⟨nb, rfl, rfl⟩
        · have ob : ¬ m.other ≠ s.addr := fun z => z (by omega)
          rcases h with ⟨hma, rfl, rfl⟩ | ⟨hma, h⟩
          · rw [mayAddr_one] at hma
            have eS : s.came sender m = (s, [.send sender ⟨2, s.mac, s.addr, m.addr⟩]) := by
              unfold Sn99.State.came
              rw [if_neg hn, if_neg na, if_neg w2, if_neg ob]
              show (if Sn99.one m.addr = false then _ else _) = _
              rw [if_pos hma]
            rw [eS]
            exact ⟨R, by show [tI _] = _; rw [back]⟩
          · rw [mayAddr_one] at hma
            have hma' : ¬ Sn99.one m.addr = false := by rw [hma]; decide
            rcases h with ⟨c, hc, ea, ⟨w', rfl⟩, rfl⟩ | ⟨hno, h⟩
            · obtain ⟨o, hf, r, eo⟩ := R.rc.find_some nd hc ea
              have eS : s.came sender m = ((s.learn o sender).1, .send sender ⟨2, s.mac, s.addr, m.addr⟩ :: (s.learn o sender).2) := by
                unfold Sn99.State.came
                rw [if_neg hn, if_neg na, if_neg w2, if_neg ob]
                show (if Sn99.one m.addr = false then _ else _) = _
                rw [if_neg hma', show s.find m.addr = some o from hf]
              obtain ⟨R1, t1⟩ := learn_ok R r sender w'
              rw [eS]
              refine ⟨by rw [em]; exact R1, ?_⟩
              show tI _ :: (s.learn o sender).2.map tI = _
              rw [back, t1, em]
            · have hf : s.find m.addr = none := R.rc.find_none hno
              rcases h with ⟨hnr, rfl, rfl⟩ | ⟨cs1, c0, hr, hc0, rfl, rfl⟩
              · have eS : s.came sender m = (s, [.send sender ⟨2, s.mac, s.addr, m.addr⟩]) := by
                  unfold Sn99.State.came
                  rw [if_neg hn, if_neg na, if_neg w2, if_neg ob]
                  show (if Sn99.one m.addr = false then _ else _) = _
                  rw [if_neg hma', hf, room_none R hnr]
                rw [eS]
                exact ⟨R, by show [tI _] = _; rw [back]⟩
              · obtain ⟨os, er, rc⟩ := room_some R nd hr
                have eS : s.came sender m = ({ s with ones := os ++ [⟨m.addr, sender, .known, s.now + Sn99.KEPT, s.now⟩] }, [.send sender ⟨2, s.mac, s.addr, m.addr⟩, .known m.addr sender]) := by
                  unfold Sn99.State.came
                  rw [if_neg hn, if_neg na, if_neg w2, if_neg ob]
                  show (if Sn99.one m.addr = false then _ else _) = _
                  rw [if_neg hma', hf, er]
                rw [eS]
                refine ⟨⟨R.mac, R.addr, R.now, RC.snoc rc ?_⟩, ?_⟩
                · rw [hc0, em]
                  refine ⟨rfl, hnow, ?_, ⟨rfl, rfl, rfl⟩⟩
                  show now + 30000 = ((s.now + 30000 : Nat) : Int)
                  omega
                · show [tI _, tI _] = _
                  rw [back, em]
                  rfl
        · have eS : s.came sender m = (s, []) := by
            unfold Sn99.State.came
            rw [if_neg hn, if_neg na, if_neg w2, if_pos (show m.other ≠ s.addr from fun z => nb (by omega))]
          rw [eS]
          exact ⟨R, rfl⟩
  · have hn : m.mac ≠ sender ∨ Sn99.single sender = false ∨ sender = s.mac := Decidable.of_not_not fun z => by
      rw [hi.mpr z] at hh
      cases hh
    have eS : s.came sender m = (s, []) := by
      unfold Sn99.State.came
      rw [if_pos hn]
    rw [eS]
    exact ⟨R, rfl⟩
theorem next_none {mac addr now : Int} {cs : List Cell} {s : Sn99.State} (R : RelS mac addr now cs s) (h : ∀ c ∈ cs, hasDue c.n = false) : s.next = none := by
  have b := best_ok (fun o => o.stand = .old) (·.due) s.ones none
  rw [← next_eq] at b
  cases hn : s.next with
  | none => rfl
  | some o =>
    rw [hn] at b
    rcases b.1 with z | ⟨ho, hold⟩
    · exact nomatch z
    · obtain ⟨c, hc, r⟩ := R.rc.bwd ho
      have q := r.old.mpr hold
      rw [h c hc] at q
      cases q
theorem next_some {mac addr now : Int} {cs : List Cell} {s : Sn99.State} (R : RelS mac addr now cs s) {g : Cell} (hg : g ∈ cs) (hd : hasDue g.n = true) (hmin : ∀ x ∈ cs, hasDue x.n = true → g.n.due ≤ x.n.due) : ∃ o, s.next = some o ∧ g.n.due = (o.due : Int) := by
  have b := best_ok (fun o => o.stand = .old) (·.due) s.ones none
  rw [← next_eq] at b
  obtain ⟨og, hog, rg⟩ := R.rc.fwd hg
  cases hn : s.next with
  | none =>
    rw [hn] at b
    exact absurd (b.2 og hog) (rg.old.mp hd)
  | some o =>
    rw [hn] at b
    obtain ⟨h1, h2, _⟩ := b
    rcases h1 with z | ⟨ho, hold⟩
    · exact nomatch z
    · obtain ⟨c, hc, r⟩ := R.rc.bwd ho
      have q1 := h2 og hog (rg.old.mp hd)
      have q1' : o.due < og.due ∨ (o.due = og.due ∧ o.addr ≤ og.addr) := q1
      have q2 := hmin c hc (r.old.mpr hold)
      have e1 := r.due
      have e2 := rg.due
      exact ⟨o, rfl, by omega⟩
def lookI (n : Nbr) : List Int := if n.st = 1 then [1, n.asked, (n.wait.length : Int), n.due] else if n.st = 2 then [2, n.la, n.due] else if n.st = 3 then [3, n.la] else [4, n.la, n.asked, n.due]
theorem look_ok {n : Nbr} {o : Sn99.One} (r : RelN n o) : lookI n = (match o.stand with
      | .asked k l => [1, (k : Int), (l.length : Int), (o.due : Int)]
      | .known => [2, (o.mac : Int), (o.due : Int)]
      | .old => [3, (o.mac : Int)]
      | .again k => [4, (o.mac : Int), (k : Int), (o.due : Int)]) := by
  have h := r.st
  have hd := r.due
  unfold lookI
  cases e : o.stand with
  | asked k l =>
    rw [e] at h
    obtain ⟨h1, h2, h3, h4⟩ := h
    rw [if_pos h1, h3, h4, hd]
    show [1, (k : Int), ((toI l).length : Int), (o.due : Int)] = _
    rw [show (toI l).length = l.length from List.length_map ..]
  | known =>
    rw [e] at h
    obtain ⟨h1, h2, h4⟩ := h
    rw [if_neg (by rw [h1]; decide), if_pos h1, h2, hd]
  | old =>
    rw [e] at h
    obtain ⟨h1, h2, h4⟩ := h
    rw [if_neg (by rw [h1]; decide), if_neg (by rw [h1]; decide), if_pos h1, h2]
  | again k =>
    rw [e] at h
    obtain ⟨h1, h2, h3, h4⟩ := h
    rw [if_neg (by rw [h1]; decide), if_neg (by rw [h1]; decide), if_neg (by rw [h1]; decide), h2, h3, hd]
def heardN (n : Nbr) (now : Int) : Nbr := { n with st := 2, due := now + 30000 }
theorem heard_ok {mac addr now : Int} {cs : List Cell} {s : Sn99.State} (R : RelS mac addr now cs s) {c : Cell} {o : Sn99.One} (r : RelN c.n o) (h1 : ¬ c.n.st = 1) : RelS mac addr now (setC cs { c with n := heardN c.n now }) (s.set { o with stand := .known, due := s.now + Sn99.KEPT }) := by
  have hnow := R.now
  have hw : c.n.wait = [] := by
    have h := r.st
    cases e : o.stand with
    | asked k l => rw [e] at h; exact absurd h.1 h1
    | known => rw [e] at h; exact h.2.2
    | old => rw [e] at h; exact h.2.2
    | again k => rw [e] at h; exact h.2.2.2
  refine ⟨R.mac, R.addr, R.now, R.rc.set (o := { o with stand := .known, due := s.now + Sn99.KEPT }) ⟨r.addr, r.used, ?_, ⟨rfl, r.la h1, hw⟩⟩⟩
  show now + 30000 = ((s.now + 30000 : Nat) : Int)
  omega
theorem lose_ok {n : Nbr} {o : Sn99.One} (r : RelN n o) (a why : Nat) (ha : o.addr = a) : loseT n (why : Int) = (Sn99.Want.lost a :: o.stand.waiting.map fun p => Sn99.Want.dropped p why).map tI := by
  unfold loseT
  rw [r.addr, r.wait, ha]
  unfold toI
  show _ = _ :: ((o.stand.waiting.map fun p => Sn99.Want.dropped p why).map tI)
  rw [List.map_map, List.map_map]
  rfl
end Nb
set_option Elab.async false
set_option linter.all false
set_option maxRecDepth 100000
set_option maxHeartbeats 4000000
namespace Nb
open PySem L2
def ansI (a : Sn99.Ans) : List Int := a.value :: toI (a.wants.flatMap Sn99Neutral.told ++ a.out)
theorem ans_says (z : Int) : ansI (Sn99.says z) = [z] := rfl
theorem ans_wanted (ws : List Sn99.Want) : ansI (Sn99.wanted ws) = toldI (ws.map tI) := by
  unfold ansI toldI Sn99.wanted
  rw [List.length_map, List.append_nil]
  congr 1
  show toI (ws.flatMap Sn99Neutral.told) = (ws.map tI).flatten
  unfold toI
  rw [List.map_flatMap, List.flatMap_def]
def onS (s : Sn99.State) (now : Nat) (f : Sn99.State → Sn99.State × List Sn99.Want) : Sn99.State × Sn99.Ans :=
  if Sn99.LAST - Sn99.KEPT < now then (s, Sn99.says (-1)) else if now < s.now then (s, Sn99.says (-4)) else
    let x := Sn99.State.tick Sn99.ENOUGH (s.at_ now)
    let y := f x.1
    (y.1, Sn99.wanted (x.2 ++ y.2))
theorem last_eq : Sn99.LAST - Sn99.KEPT = 9223372036854745807 := by decide
theorem on_ref {mac addr cur : Int} {cs : List Cell} {s : Sn99.State} (R : RelS mac addr cur cs s) (now : Nat) (h : refuseI cur (now : Int) ≠ 0) (f : Sn99.State → Sn99.State × List Sn99.Want) : onS s now f = (s, Sn99.says (refuseI cur (now : Int))) := by
  have hn := R.now
  unfold onS
  rw [last_eq]
  unfold refuseI at h ⊢
  by_cases h1 : 9223372036854745807 < now
  · rw [if_pos h1, if_pos (show (9223372036854745807 : Int) < (now : Int) by omega)]
  · have h1' : ¬ (9223372036854745807 : Int) < (now : Int) := by omega
    rw [if_neg h1'] at h
    rw [if_neg h1, if_neg h1']
    by_cases h2 : now < s.now
    · rw [if_pos h2, if_pos (show (now : Int) < cur by omega)]
    · rw [if_neg (show ¬ (now : Int) < cur by omega)] at h
      exact absurd rfl h
theorem setC_wl {cs : List Cell} {c : Cell} (h : ∀ x ∈ cs, x.n.wait.length ≤ 4) (hc : c.n.wait.length ≤ 4) : ∀ x ∈ setC cs c, x.n.wait.length ≤ 4 := fun x hx => by
  rcases mem_setC hx with rfl | ⟨hx, _⟩
  · exact hc
  · exact h x hx
theorem fold_wl {now : Int} : ∀ (qs cs : List Cell), (∀ x ∈ cs, x.n.wait.length ≤ 4) → (∀ x ∈ qs, x.n.wait.length ≤ 4) → ∀ x ∈ qs.foldl (doDueC now) cs, x.n.wait.length ≤ 4
  | [], cs, h, _ => h
  | c :: qs, cs, h, hq => by
    rw [List.foldl_cons]
    have hc := hq c (List.mem_cons_self ..)
    refine fold_wl qs _ ?_ fun x hx => hq x (List.mem_cons_of_mem _ hx)
    unfold doDueC
    split
    · exact setC_wl h hc
    · split
      · exact setC_wl h hc
      · exact fun x hx => h x (mem_dropC.mp hx).1
theorem fold_nd {now : Int} : ∀ (qs cs : List Cell), (cs.map (·.n.addr)).Nodup → ((qs.foldl (doDueC now) cs).map (·.n.addr)).Nodup
  | [], cs, h => h
  | c :: qs, cs, h => by
    rw [List.foldl_cons]
    exact fold_nd qs _ (doDueC_nd h)
theorem GoRel.qwl {now : Int} {cs qs : List Cell} (g : GoRel now cs qs) (h : ∀ x ∈ cs, x.n.wait.length ≤ 4) : ∀ x ∈ qs.foldl (doDueC now) cs, x.n.wait.length ≤ 4 :=
  fold_wl qs cs h fun x hx => h x (List.mem_filter.mp (g.1.mem_iff.mp hx)).1
theorem GoRel.qlen {now : Int} {cs qs : List Cell} (g : GoRel now cs qs) (h : cs.length ≤ 256) : qs.length ≤ 256 := by
  have l1 := g.1.length_eq
  have l2 := List.length_filter_le (fun c : Cell => isDue c.n now) cs
  omega
theorem on_ok {mac addr cur : Int} {cs qs cs' : List Cell} {s : Sn99.State} {new : List (List Int)} (R : RelS mac addr cur cs s) (nd : (cs.map (·.n.addr)).Nodup) (hl : cs.length ≤ 256) (now : Nat) (h : refuseI cur (now : Int) = 0) (g : GoRel (now : Int) cs qs) {f : Sn99.State → Sn99.State × List Sn99.Want}
    (hf : ∀ r : Sn99.State, RelS mac addr (now : Int) (qs.foldl (doDueC (now : Int)) cs) r → RelS mac addr (now : Int) cs' (f r).1 ∧ (f r).2.map tI = new) :
    RelS mac addr (now : Int) cs' (onS s now f).1 ∧ ansI (onS s now f).2 = toldI ((qs.flatMap fun c => doDueT mac addr c.n) ++ new) := by
  have hn := R.now
  have e : onS s now f = ((f (Sn99.State.tick Sn99.ENOUGH (s.at_ now)).1).1, Sn99.wanted ((Sn99.State.tick Sn99.ENOUGH (s.at_ now)).2 ++ (f (Sn99.State.tick Sn99.ENOUGH (s.at_ now)).1).2)) := by
    unfold onS
    unfold refuseI at h
    have h1 : ¬ 9223372036854745807 < now := fun z => by
      rw [if_pos (by omega)] at h
      exact absurd h (by decide)
    rw [if_neg (by omega)] at h
    have h2 : ¬ now < s.now := fun z => by
      rw [if_pos (by omega)] at h
      exact absurd h (by decide)
    rw [last_eq, if_neg h1, if_neg h2]
  have R0 : RelS mac addr (now : Int) cs (s.at_ now) := ⟨R.mac, R.addr, rfl, R.rc⟩
  obtain ⟨R1, t1⟩ := tick_ok qs cs (s.at_ now) Sn99.ENOUGH R0 nd g (by have := g.qlen hl; show _ ≤ 1024; omega)
  obtain ⟨R2, t2⟩ := hf _ R1
  rw [e]
  refine ⟨R2, ?_⟩
  rw [ans_wanted, List.map_append, t1, t2]
theorem step_tick (s : Sn99.State) (now : Nat) : Sn99.step s (.tick now) = onS s now fun r => (r, []) := rfl
theorem step_send (s : Sn99.State) (now to p : Nat) : Sn99.step s (.send now to p) = if (Sn99.one to || to == Sn99.ALL) = false ∨ to = s.addr ∨ Sn99.ALL < p then (s, Sn99.says (-1)) else onS s now fun r => r.send to p := rfl
theorem step_came (s : Sn99.State) (now m : Nat) (b : List Nat) : Sn99.step s (.came now m b) = if 2 ^ 48 ≤ m then (s, Sn99.says (-1)) else match Sn99.read b with
    | none => (s, Sn99.says (-3))
    | some x => onS s now fun r => r.came m x := rfl
theorem step_heard (s : Sn99.State) (now a : Nat) : Sn99.step s (.heard now a) = onS s now fun r => (match r.find a with
    | none => (r, [])
    | some o => if o.stand.isAsked = true then (r, []) else (r.set { o with stand := .known, due := r.now + Sn99.KEPT }, [])) := rfl
theorem step_forget (s : Sn99.State) (now a : Nat) : Sn99.step s (.forget now a) = onS s now fun r => (match r.find a with
    | none => (r, [])
    | some o => (r.drop a, .lost a :: o.stand.waiting.map fun p => .dropped p 4)) := rfl
theorem maySend_iff {addr : Int} {s : Sn99.State} (ha : addr = (s.addr : Int)) (hs : Sn99.one s.addr = true) (to : Nat) : maySend addr (to : Int) = true ↔ ¬ ((Sn99.one to || to == Sn99.ALL) = false ∨ to = s.addr) := by
  unfold maySend
  rw [mayAddr_one, ha]
  have e1 : decide ((to : Int) = 4294967295) = (to == Sn99.ALL) := by
    by_cases h : to = Sn99.ALL
    · rw [decide_eq_true (by rw [h]; rfl), h]
      simp
    · rw [decide_eq_false (fun z => h (by unfold Sn99.ALL; omega))]
      simp [h]
  have e2 : decide ((to : Int) = (s.addr : Int)) = (to == s.addr) := by
    by_cases h : to = s.addr
    · rw [decide_eq_true (by omega), h]
      simp
    · rw [decide_eq_false (by omega)]
      simp [h]
  rw [e1, e2]
  by_cases h : to = Sn99.ALL
  · have hne : to ≠ s.addr := fun z => by
      rw [← z, h] at hs
      exact absurd hs (by decide)
    have hb : (to == Sn99.ALL) = true := by simp [h]
    rw [hb]
    simp [hne]
  · have hb : (to == Sn99.ALL) = false := by simp [h]
    rw [hb]
    cases Sn99.one to with
    | true => simp
    | false => simp
end Nb
set_option Elab.async false
set_option linter.all false
set_option maxRecDepth 100000
set_option maxHeartbeats 4000000
namespace Nb
open PySem PySem.Spec PyProof.Rows L2
abbrev inR (j : Nat) : Stmt := inClass (top 61) j
def rf (a : Addr) (i : Int) : List (Str × V) := [("numbers", .ref a), ("place", .int i)]
def ArgL (K : PySem.W.Frag) (H : Hp) (a : Addr) (xs : List V) : Prop := (∃ o, H a = some (.frz o (.lst xs))) ∨
  ∃ (o : Obj) (its : Array Value) (n : Nat), K.lookup a = some o ∧ o.cls = .type "list" ∧ o.dict = none ∧ o.data = .seq its n ∧ its.size ≤ sizeLine ∧ Vals xs its.toList
theorem ArgL.sq {K : PySem.W.Frag} {H : Hp} {a : Addr} {xs : List V} (h : ArgL K H a xs) : SqL K H a xs := h.elim (fun ⟨o, e⟩ => .inl (.inr ⟨o, e⟩)) .inr
theorem ArgL.keep {K : PySem.W.Frag} {H H' : Hp} {a : Addr} {xs : List V} (h : ArgL K H a xs) (k : ∀ o, H a = some (.frz o (.lst xs)) → H' a = some (.frz o (.lst xs))) : ArgL K H' a xs := h.elim (fun ⟨o, e⟩ => .inl ⟨o, k o e⟩) .inr
structure TR (K : PySem.W.Frag) (mg : Str → Option Value) (CR : Addr) : Prop where
  cl : Cls K CR
  nN : NoAttr K CR "numbers"
  nP : NoAttr K CR "place"
  len : mg "len" = none
def spRInit (CR : Addr) : Sp := fun vs H Q _ => ∃ (p dx a : Addr), vs = [.ref p, .ref a] ∧ H p = some (.ins CR dx []) ∧ Q .non (upd H p (.ins CR dx (rf a 0)))
def spMore (K : PySem.W.Frag) (CR : Addr) : Sp := fun vs H Q _ => ∃ (r dr a : Addr) (j : Nat) (ns : List Int), vs = [.ref r] ∧ H r = some (.ins CR dr (rf a j)) ∧ SqL K H a (ns.map V.int) ∧ Q (.bl (decide (j < ns.length))) H
def spTake (K : PySem.W.Frag) (CR : Addr) : Sp := fun vs H Q _ => ∃ (r dr a : Addr) (j : Nat) (ns : List Int) (z : Int), vs = [.ref r] ∧ H r = some (.ins CR dr (rf a j)) ∧ SqL K H a (ns.map V.int) ∧ ns[j]? = some z ∧ Q (.int z) (upd H r (.ins CR dr (rf a ((j + 1 : Nat) : Int))))
def spTakeRow (K : PySem.W.Frag) (CR : Addr) : Sp := fun vs H Q _ => ∃ (r dr a : Addr) (j n : Nat) (ns : List Int), vs = [.ref r] ∧ H r = some (.ins CR dr (rf a j)) ∧ ArgL K H a (ns.map V.int) ∧ ns[j]? = some (n : Int) ∧ j + 1 + n ≤ ns.length ∧
  ∀ p, H p = none → Q (.ref p) (upd (upd H p (.lst (((ns.drop (j + 1)).take n).map V.int))) r (.ins CR dr (rf a ((j + 1 + n : Nat) : Int))))
section
variable {P : Program} {w : World} {K : PySem.W.Frag} {mg : Str → Option Value} {base : Heap} {CR : Addr}
theorem scRInit : FnScope ["self", "numbers"] ["self", "numbers"] (defScope (inR 0)) := ⟨rfl, rfl, rfl, by decide +kernel, rfl, by decide +kernel, by decide +kernel⟩
theorem ok_rInit {f : Addr} {fd : FuncData} (F : Fun K "__init__" "Reader.__init__" (inR 0) f fd) (T : TR K mg CR) : FnOk P w K mg base CX0 1 f fd ["self", "numbers"] (spRInit CR) := by
  refine F.ok scRInit (fun vs H Q E h => ?_) (fun cdv A outer s H vs Q E hr h => ?_)
  · obtain ⟨p, dx, a, rfl, _⟩ := h
    rfl
  · obtain ⟨p, dx, a, rfl, hp, k⟩ := h
    refine ⟨_, pss_cons (ps_fld (pv 0) (pv 1) rfl) (pss_one (ps_fld (pv 0) pe_int rfl)), ?_⟩
    refine ⟨_, rfl, _, rfl, p, CR, dx, [], rfl, hp, T.cl, T.nN, (by show 0 < 1000; decide), ?_⟩
    refine ⟨_, rfl, p, CR, dx, _, rfl, upd_same, T.cl, T.nP, (by show 1 < 1000; decide), ?_⟩
    rw [upd_upd]
    exact k
theorem scMore : FnScope ["self"] ["self"] (defScope (inR 1)) := ⟨rfl, rfl, rfl, by decide +kernel, rfl, by decide +kernel, by decide +kernel⟩
theorem ok_more {f : Addr} {fd : FuncData} (F : Fun K "has_more" "Reader.has_more" (inR 1) f fd) (T : TR K mg CR) : FnOk P w K mg base CX0 1 f fd ["self"] (spMore K CR) := by
  refine F.ok scMore (fun vs H Q E h => ?_) (fun cdv A outer s H vs Q E hr h => ?_)
  · obtain ⟨r, dr, a, j, ns, rfl, _⟩ := h
    rfl
  · obtain ⟨r, dr, a, j, ns, rfl, hr0, hS, k⟩ := h
    refine ⟨_, pss_one (ps_ret (pe_cmpR op_lt (pe_fld (pv 0) rfl) (pe_callB call_len_seq (by rfl) T.len PySem.boot_len (pa_cons (pe_fld (pv 0) rfl) pa_nil)) (nomark _))), ?_⟩
    refine ⟨_, rfl, r, CR, dr, _, _, rfl, hr0, T.cl, T.nP, rfl, _, rfl, r, CR, dr, _, _, rfl, hr0, T.cl, T.nN, rfl, a, _, rfl, .inl hS, _, _, rfl, rfl, ?_⟩
    show Q (.bl (decide ((j : Int) < (((ns.map V.int).length : Nat) : Int)))) H
    have e : decide ((j : Int) < (((ns.map V.int).length : Nat) : Int)) = decide (j < ns.length) := by
      rw [List.length_map]
      by_cases h : j < ns.length
      · rw [decide_eq_true h, decide_eq_true (by omega)]
      · rw [decide_eq_false h, decide_eq_false (by omega)]
    rw [e]
    exact k
theorem scTake : FnScope ["self", "number"] ["self"] (defScope (inR 2)) := ⟨rfl, rfl, rfl, by decide +kernel, rfl, by decide +kernel, by decide +kernel⟩
theorem ok_take {f : Addr} {fd : FuncData} (F : Fun K "take_number" "Reader.take_number" (inR 2) f fd) (T : TR K mg CR) : FnOk P w K mg base CX0 1 f fd ["self"] (spTake K CR) := by
  refine F.ok scTake (fun vs H Q E h => ?_) (fun cdv A outer s H vs Q E hr h => ?_)
  · obtain ⟨r, dr, a, j, ns, z, rfl, _⟩ := h
    rfl
  · obtain ⟨r, dr, a, j, ns, z, rfl, hr0, hS, hz, k⟩ := h
    refine ⟨_, pss_cons (ps_set (i := 1) scTake.nd rfl (Or.inl rfl) (pe_ix ix_list (pe_fld (pv 0) rfl) (pe_fld (pv 0) rfl) (fun _ _ => rfl)))
      (pss_cons (ps_fldaug (pv 0) pe_int in_add) (pss_one (ps_ret (pv 1)))), ?_⟩
    refine ⟨_, rfl, r, CR, dr, _, _, rfl, hr0, T.cl, T.nN, rfl, _, rfl, r, CR, dr, _, _, rfl, hr0, T.cl, T.nP, rfl, a, _, _, _, rfl, rfl, hS, atI_nat (j := j) (v := .int z) (by rw [List.getElem?_map, hz]; rfl), ?_⟩
    refine ⟨_, rfl, r, CR, dr, _, _, rfl, hr0, T.cl, T.nP, rfl, _, _, rfl, rfl, dr, _, hr0, (by show 2 < 1000; decide), ?_⟩
    have e : ((j : Int) + 1) = ((j + 1 : Nat) : Int) := by omega
    refine ⟨_, rfl, ?_⟩
    show Q (.int z) (upd H r (.ins CR dr (rf a ((j : Int) + 1))))
    rw [e]
    exact k
theorem scTakeRow : FnScope ["self", "size", "row"] ["self"] (defScope (inR 3)) := ⟨rfl, rfl, rfl, by decide +kernel, rfl, by decide +kernel, by decide +kernel⟩
theorem ok_takeRow {f : Addr} {fd : FuncData} (F : Fun K "take_row" "Reader.take_row" (inR 3) f fd) (T : TR K mg CR) (oT : OkM P w K mg base 1 CR "take_number" ["self"] (spTake K CR)) : FnOk P w K mg base CX0 2 f fd ["self"] (spTakeRow K CR) := by
  refine F.ok scTakeRow (fun vs H Q E h => ?_) (fun cdv A outer s H vs Q E hr h => ?_)
  · obtain ⟨r, dr, a, j, n, ns, rfl, _⟩ := h
    rfl
  · obtain ⟨r, dr, a, j, n, ns, rfl, hr0, hS, hz, hlen, k⟩ := h
    refine ⟨_, pss_cons (ps_set (i := 1) scTakeRow.nd rfl (Or.inl rfl) (pe_methO0 oT T.cl hr (pv 0)))
      (pss_cons (ps_set (i := 2) scTakeRow.nd rfl (Or.inl rfl) (pe_slice sl_list (pe_fld (pv 0) rfl) (po_some (pe_fld (pv 0) rfl)) (po_some (pe_op op_add (pe_fld (pv 0) rfl) (pv 1)))))
      (pss_cons (ps_fldaug (pv 0) (pv 1) in_add) (pss_one (ps_ret (pv 2))))), ?_⟩
    refine ⟨_, rfl, r, dr, _, rfl, hr0, rfl, r, dr, a, j, ns, n, rfl, hr0, hS.sq, hz, ?_⟩
    have hS1 : SqL K (upd H r (.ins CR dr (rf a ((j + 1 : Nat) : Int)))) a (ns.map V.int) := by
      exact (hS.keep (H' := upd H r (.ins CR dr (rf a ((j + 1 : Nat) : Int)))) fun o e => (upd_ne (ne_of e hr0 (by intro z; cases z))).trans e).sq
    refine ⟨_, rfl, r, CR, dr, _, _, rfl, upd_same, T.cl, T.nN, rfl, _, rfl, r, CR, dr, _, _, rfl, upd_same, T.cl, T.nP, rfl, _, rfl, _, rfl, r, CR, dr, _, _, rfl, upd_same, T.cl, T.nP, rfl, _, rfl, _, _, rfl, rfl, _, rfl, a, _, rfl, hS1, fun p hp => ?_⟩
    have nrp : r ≠ p := ne_of_none upd_same hp
    have hp0 : H p = none := (upd_ne nrp.symm).symm.trans hp
    have ec : cutV (ns.map V.int) (some ((j + 1 : Nat) : Int)) (some (((j + 1 : Nat) : Int) + (n : Int))) = ((ns.drop (j + 1)).take n).map V.int := by
      have e0 : ((j + 1 : Nat) : Int) + (n : Int) = ((j + 1 + n : Nat) : Int) := by omega
      rw [e0]
      unfold cutV
      rw [HT.sIx_nat, HT.sIx_nat, List.length_map, Nat.min_eq_left (show j + 1 ≤ ns.length by omega), Nat.min_eq_left hlen, List.map_take, List.map_drop]
      congr 1
      omega
    refine ⟨_, rfl, r, CR, dr, _, _, rfl, (upd_ne nrp).trans upd_same, T.cl, T.nP, rfl, _, rfl, _, _, rfl, rfl, dr, _, (upd_ne nrp).trans upd_same, (by show 2 < 1000; decide), ?_⟩
    refine ⟨_, rfl, ?_⟩
    have e1 : ((j + 1 : Nat) : Int) + (n : Int) = ((j + 1 + n : Nat) : Int) := by omega
    have kk := k p hp0
    have eH : upd (upd (upd H r (.ins CR dr (rf a ((j + 1 : Nat) : Int)))) p (.lst (cutV (ns.map V.int) (some ((j + 1 : Nat) : Int)) (some (((j + 1 : Nat) : Int) + (n : Int)))))) r (.ins CR dr (rf a (((j + 1 : Nat) : Int) + (n : Int)))) = upd (upd H p (.lst (((ns.drop (j + 1)).take n).map V.int))) r (.ins CR dr (rf a ((j + 1 + n : Nat) : Int))) := by
      rw [ec, e1]
      funext b
      by_cases hb : b = r
      · subst hb
        rw [upd_same, upd_same]
      · rw [upd_ne hb, upd_ne hb]
        by_cases hbp : b = p
        · subst hbp
          rw [upd_same, upd_same]
        · rw [upd_ne hbp, upd_ne hbp, upd_ne hb]
    rw [← eH] at kk
    exact kk
end
end Nb
set_option Elab.async false
set_option linter.all false
set_option maxRecDepth 100000
set_option maxHeartbeats 4000000
namespace Nb
open PySem PySem.Spec PyProof.Rows L2
theorem whole_id (c : List (List Int)) : PySn99.whole c = c := by
  unfold PySn99.whole
  split <;> rfl
theorem whole_map (cs : List (List (List Int))) : cs.map PySn99.whole = cs := by
  have : PySn99.whole = id := funext whole_id
  rw [this, List.map_id]
def spCall (K : PySem.W.Frag) (CL CN CR : Addr) : Sp := fun vs H Q _ => ∃ (L dL d : Addr) (mac addr now : Int) (cs : List Cell) (s : Sn99.State) (r dr a : Addr) (j : Nat) (ns : List Int) (c : List (List Int)) (rest : List Int),
  vs = [.ref L, .ref r] ∧ LAt CL CN H L dL d mac addr now cs ∧ RelS mac addr now cs s ∧ Sn99.one s.addr = true ∧ H r = some (.ins CR dr (rf a j)) ∧ ArgL K H a (ns.map V.int) ∧ (∀ z ∈ ns, 0 ≤ z) ∧
  PyFlat.call PySn99.shape (ns.drop j) = some (c, rest) ∧ Sn99Neutral.asked1 c = true ∧
  ∀ (H' : Hp) (p d' : Addr) (mac' addr' now' : Int) (cs' : List Cell) (j' : Nat), LAt CL CN H' L dL d' mac' addr' now' cs' → RelS mac' addr' now' cs' (Sn99Neutral.step s c).1 → Sn99.one (Sn99Neutral.step s c).1.addr = true → H' r = some (.ins CR dr (rf a j')) →
    rest = ns.drop j' → j < j' → j' ≤ ns.length → Kp (r :: lfp L d cs) (r :: lfp L d' cs') H H' → (∀ b o, H b = some o → b ∉ r :: lfp L d cs → b ≠ p) → p ∉ r :: lfp L d' cs' → H' p = some (.lst ((Sn99Neutral.step s c).2.map V.int)) → Q (.ref p) H'
def spAnswers (K : PySem.W.Frag) : Sp := fun vs H Q _ => ∃ (a : Addr) (ns : List Int), vs = [.ref a] ∧ ArgL K H a (ns.map V.int) ∧ (∀ z ∈ ns, 0 ≤ z) ∧ PySn99.answers_asked ns = true ∧ ∀ (H' : Hp) (p : Addr), H' p = some (.lst ((PySn99.answers ns).map V.int)) → Q (.ref p) H'
theorem frz_out {CL CN : Addr} {H : Hp} {L dL d : Addr} {mac addr now : Int} {cs : List Cell} (A : LAt CL CN H L dL d mac addr now cs) {a : Addr} {o : Obj} {u : HO} (h : H a = some (.frz o u)) : a ∉ lfp L d cs := fun z => by
  rcases mem_lfp.mp z with rfl | rfl | ⟨c, hc, rfl | rfl⟩
  · rw [A.obj] at h; cases h
  · rw [A.dct] at h; cases h
  · rw [(A.at_ c hc).1] at h; cases h
  · rw [(A.at_ c hc).2] at h; cases h
theorem rd_out {CL CN CR : Addr} {H : Hp} {L dL d : Addr} {mac addr now : Int} {cs : List Cell} (A : LAt CL CN H L dL d mac addr now cs) {r dr a : Addr} {i : Int} (h : H r = some (.ins CR dr (rf a i))) : r ∉ lfp L d cs := fun z => by
  rcases mem_lfp.mp z with rfl | rfl | ⟨c, hc, rfl | rfl⟩
  · rw [A.obj] at h
    have := Option.some.inj h
    injection this with _ _ q
    exact absurd (congrArg List.length q) (by show ¬ 4 = 2; decide)
  · rw [A.dct] at h; cases h
  · rw [(A.at_ c hc).1] at h
    have := Option.some.inj h
    injection this with _ _ q
    exact absurd (congrArg List.length q) (by show ¬ 7 = 2; decide)
  · rw [(A.at_ c hc).2] at h; cases h
theorem told_length (step : Sn99.State → List (List Int) → Sn99.State × List Int) : ∀ (cs : List (List (List Int))) (s : Sn99.State), (PyFlat.told (PyFlat.played step s cs)).length = cs.length + ((PyFlat.played step s cs).map List.length).sum
  | [], s => rfl
  | c :: cs, s => by
    have ih := told_length step cs (step s c).1
    show (((step s c).2.length : Int) :: (step s c).2 ++ PyFlat.told (PyFlat.played step (step s c).1 cs)).length = _
    rw [List.length_append, List.length_cons, ih]
    show _ = (cs.length + 1) + ((step s c).2.length + ((PyFlat.played step (step s c).1 cs).map List.length).sum)
    omega
theorem outs_eq : ∀ (cs : List (List (List Int))) (s : Sn99.State), Sn99Neutral.outs s cs = ((PyFlat.played Sn99Neutral.step s cs).map List.length).sum
  | [], s => rfl
  | c :: cs, s => by
    show (Sn99Neutral.step s c).2.length + Sn99Neutral.outs (Sn99Neutral.step s c).1 cs = (Sn99Neutral.step s c).2.length + ((PyFlat.played Sn99Neutral.step (Sn99Neutral.step s c).1 cs).map List.length).sum
    rw [outs_eq cs]
section
variable {P : Program} {w : World} {K : PySem.W.Frag} {mg : Str → Option Value} {base : Heap} {CL CN CR : Addr}
abbrev sAnswers : Stmt := top 68
theorem scAnswers : FnScope ["calls", "link", "reader", "numbers", "answer"] ["calls"] (defScope sAnswers) := ⟨rfl, rfl, rfl, by decide +kernel, rfl, by decide +kernel, by decide +kernel⟩
theorem ok_answers {f : Addr} {fd : FuncData} {k : Nat} (hk : 2 ≤ k) (F : Fun K "answers" "answers" sAnswers f fd) (T : TR K mg CR) (oL : OkI P w K mg base 1 "Link" CL ["self"] (spLInit CL CN)) (oR : OkI P w K mg base 1 "Reader" CR ["self", "numbers"] (spRInit CR)) (oM : OkM P w K mg base 1 CR "has_more" ["self"] (spMore K CR))
    (oC : Ok P w K mg base k "answer_call" ["link", "reader"] (spCall K CL CN CR)) : FnOk P w K mg base CX0 (k + 1) f fd ["calls"] (spAnswers K) := by
  refine F.ok scAnswers (fun vs H Q E h => ?_) (fun cdv A outer s H vs Q E hr h => ?_)
  · obtain ⟨a, ns, rfl, _⟩ := h
    rfl
  · obtain ⟨a, ns, rfl, hA, hpos, hask, kQ⟩ := h
    have hr1 : Room 1 _ := hr.mono (by omega)
    have hr2 : Room 2 _ := hr.mono hk
    refine ⟨_, pss_cons (ps_set (i := 1) scAnswers.nd rfl (Or.inl rfl) (pe_makeO0 oL hr2 rfl)) (pss_cons (ps_set (i := 2) scAnswers.nd rfl (Or.inl rfl) (pe_makeO oR hr2 rfl (pa_cons (pv 0) pa_nil)))
      (pss_cons (ps_set (i := 3) scAnswers.nd rfl (Or.inl rfl) (pe_lst pa_nil))
      (pss_cons (ps_while PassesOwn.never (pt_val (pe_methO0 oM T.cl hr1 (pv 2)))
        (pss_cons (ps_set (i := 4) scAnswers.nd rfl (Or.inl rfl) (pe_callO oC hr rfl (pa_cons (pv 1) (pa_cons (pv 2) pa_nil))))
        (pss_cons (ps_expr (pe_bm PySem.F.plainAttrs_list PySem.F.slot_list_append PySem.F.type_list_append mt_append (pv 3) (pa_cons (pe_callB call_len_seq (by rfl) T.len PySem.boot_len (pa_cons (pv 4) pa_nil)) pa_nil)))
        (pss_one (ps_expr (pe_bm PySem.F.plainAttrs_list PySem.F.slot_list_extend PySem.F.type_list_extend mt_extend (pv 3) (pa_cons (pv 4) pa_nil)))))))
      (pss_one (ps_ret (pv 3)))))), ?_⟩
    unfold PySn99.answers_asked PySn99.calls at hask
    obtain ⟨cs0, hcs0, hmost, hall, houts⟩ : ∃ cs0, PyFlat.calls PySn99.shape ns.length ns = some cs0 ∧ cs0.length ≤ 2000 ∧ cs0.all Sn99Neutral.asked1 = true ∧ Sn99Neutral.outs Sn99Neutral.start cs0 < 1000000 := by
      cases e : PyFlat.calls PySn99.shape ns.length ns with
      | none =>
        rw [e] at hask
        exact nomatch hask
      | some cs0 =>
        rw [e] at hask
        have hask' : (PyFlat.atMost 2000 (cs0.map PySn99.whole) && Sn99Neutral.asked (cs0.map PySn99.whole)) = true := hask
        rw [whole_map] at hask'
        unfold PyFlat.atMost Sn99Neutral.asked at hask'
        rw [Bool.and_eq_true, Bool.and_eq_true, Bool.and_eq_true, decide_eq_true_eq, decide_eq_true_eq] at hask'
        exact ⟨cs0, rfl, hask'.1, hask'.2.2.1, hask'.2.2.2⟩
    have eA : PySn99.answers ns = PyFlat.told (PyFlat.played Sn99Neutral.step Sn99Neutral.start cs0) := by
      unfold PySn99.answers PySn99.calls
      rw [hcs0]
      show PyFlat.told (PyFlat.played Sn99Neutral.step Sn99Neutral.start (cs0.map PySn99.whole)) = _
      rw [whole_map]
    have lenA : (PySn99.answers ns).length ≤ 1100000 := by
      rw [eA, told_length, ← outs_eq]
      omega
    intro x dx nx ndx ne
    refine ⟨x, dx, rfl, upd_same, fun H1 d hd A1 k1 => ⟨rfl, ?_⟩⟩
    have S1 : Same H H1 := fun b o e => k1 b o (by rw [upd_ne (ne_of_none e nx), upd_ne (ne_of_none e ndx)]; exact e) (by simp [ne_of_none e nx])
    refine ⟨_, rfl, fun r dr nr ndr ner => ?_⟩
    refine ⟨r, dr, a, rfl, upd_same, rfl, ?_⟩
    have S2 : Same H1 (upd (upd (upd H1 dr (.own r)) r (.ins CR dr [])) r (.ins CR dr (rf a 0))) := (((Same.refl H1).upd_free ndr).upd_free nr).upd_free nr
    have hr2' : upd (upd (upd H1 dr (.own r)) r (.ins CR dr [])) r (.ins CR dr (rf a 0)) r = some (.ins CR dr (rf a 0)) := upd_same
    generalize upd (upd (upd H1 dr (.own r)) r (.ins CR dr [])) r (.ins CR dr (rf a 0)) = H2 at S2 hr2' ⊢
    refine ⟨Nat.zero_le _, fun nl hnl => ?_⟩
    have S3 : Same H2 (upd H2 nl (.lst [])) := (Same.refl H2).upd_free hnl
    have hn3 : upd H2 nl (.lst []) nl = some (.lst []) := upd_same
    generalize upd H2 nl (.lst []) = H3 at S3 hn3 ⊢
    have A3 := (A1.same S2).same S3
    have nout : nl ∉ r :: lfp x d [] := fun z => by
      rcases List.mem_cons.mp z with z | z
      · rw [z, hr2'] at hnl
        cases hnl
      · obtain ⟨o, e⟩ := (A1.same S2).there z
        rw [hnl] at e
        cases e
    have R0 : RelS 2199023255552 1 0 [] Sn99Neutral.start := ⟨rfl, rfl, rfl, .nil⟩
    refine ⟨fun m σ H' => ∃ (v : Option V) (d : Addr) (mac addr now : Int) (cs : List Cell) (s : Sn99.State) (j f : Nat) (csr : List (List (List Int))) (out : List Int), σ = [some (.ref a), some (.ref x), some (.ref r), some (.ref nl), v] ∧ m = ns.length - j ∧ LAt CL CN H' x dx d mac addr now cs ∧ RelS mac addr now cs s ∧
        Sn99.one s.addr = true ∧ H' r = some (.ins CR dr (rf a j)) ∧ ArgL K H' a (ns.map V.int) ∧ H' nl = some (.lst (out.map V.int)) ∧ nl ∉ r :: lfp x d cs ∧ PyFlat.calls PySn99.shape f (ns.drop j) = some csr ∧ csr.all Sn99Neutral.asked1 = true ∧ out ++ PyFlat.told (PyFlat.played Sn99Neutral.step s csr) = PySn99.answers ns,
      ⟨_, none, d, _, _, _, [], Sn99Neutral.start, 0, ns.length, cs0, [], rfl, rfl, A3, R0, by decide, S3 _ _ hr2', hA.keep fun o e => S3 _ _ (S2 _ _ (S1 _ _ e)), hn3, nout, hcs0, hall, eA.symm⟩, ?_⟩
    rintro m σ H' ⟨v, d, mac, addr, now, cs, s, j, f, csr, out, rfl, rfl, A, R, h1, hr', hA', hn', nout, hcalls, hall, hout⟩
    refine ⟨_, rfl, r, dr, _, rfl, hr', rfl, r, dr, a, j, ns, rfl, hr', hA'.sq, _, rfl, ?_⟩
    by_cases hj : j < ns.length
    · rw [decide_eq_true hj]
      try dsimp only
      rw [if_pos rfl]
      obtain ⟨c, rest, f', csr', hcall, hrest, rfl⟩ : ∃ c rest f' csr', PyFlat.call PySn99.shape (ns.drop j) = some (c, rest) ∧ PyFlat.calls PySn99.shape f' rest = some csr' ∧ csr = c :: csr' := by
        cases e : ns.drop j with
        | nil =>
          have := congrArg List.length e
          rw [List.length_drop, List.length_nil] at this
          omega
        | cons p q =>
          rw [e] at hcalls
          cases f with
          | zero => exact nomatch hcalls
          | succ f =>
            unfold PyFlat.calls at hcalls
            cases e2 : PyFlat.call PySn99.shape (p :: q) with
            | none =>
              rw [e2] at hcalls
              exact nomatch hcalls
            | some ct =>
              obtain ⟨c, t⟩ := ct
              rw [e2] at hcalls
              have hcalls' : (match PyFlat.calls PySn99.shape f t with
                | none => none
                | some cs => some (c :: cs)) = some csr := hcalls
              cases e3 : PyFlat.calls PySn99.shape f t with
              | none =>
                rw [e3] at hcalls'
                exact nomatch hcalls'
              | some cs =>
                rw [e3] at hcalls'
                exact ⟨c, t, f, cs, rfl, e3, (Option.some.inj hcalls').symm⟩
      rw [List.all_cons, Bool.and_eq_true] at hall
      refine ⟨fun σ' H'' => ∃ (v : Option V) (d : Addr) (mac addr now : Int) (cs : List Cell) (s : Sn99.State) (j' f : Nat) (csr : List (List (List Int))) (out : List Int), j < j' ∧ σ' = [some (.ref a), some (.ref x), some (.ref r), some (.ref nl), v] ∧ LAt CL CN H'' x dx d mac addr now cs ∧ RelS mac addr now cs s ∧
          Sn99.one s.addr = true ∧ H'' r = some (.ins CR dr (rf a j')) ∧ ArgL K H'' a (ns.map V.int) ∧ H'' nl = some (.lst (out.map V.int)) ∧ nl ∉ r :: lfp x d cs ∧ PyFlat.calls PySn99.shape f (ns.drop j') = some csr ∧ csr.all Sn99Neutral.asked1 = true ∧ out ++ PyFlat.told (PyFlat.played Sn99Neutral.step s csr) = PySn99.answers ns, ?_, ?_⟩
      · rintro σ' H'' ⟨v, d, mac, addr, now, cs, s, j', f, csr, out, hjj, rfl, q⟩
        exact ⟨ns.length - j', by omega, v, d, mac, addr, now, cs, s, j', f, csr, out, rfl, rfl, q⟩
      · refine ⟨_, rfl, _, rfl, x, dx, d, mac, addr, now, cs, s, r, dr, a, j, ns, c, rest, rfl, A, R, h1, hr', hA', hpos, hcall, hall.1, fun H4 p d4 mac4 addr4 now4 cs4 j4 A4 R4 o4 hr4 erest hj4 hj4' k4 hp4 po4 h4 => ?_⟩
        obtain ⟨hn4, no4⟩ := k4.out hn' nout
        have npn : nl ≠ p := hp4 nl _ hn' nout
        have eout : out ++ (((Sn99Neutral.step s c).2.length : Int) :: (Sn99Neutral.step s c).2 ++ PyFlat.told (PyFlat.played Sn99Neutral.step (Sn99Neutral.step s c).1 csr')) = PySn99.answers ns := hout
        have lb : out.length + 1 + (Sn99Neutral.step s c).2.length ≤ 1100000 := by
          have l1 := congrArg List.length eout
          rw [List.length_append, List.length_append, List.length_cons] at l1
          omega
        have hA4 : ArgL K H4 a (ns.map V.int) := hA'.keep fun o e => k4.keep _ _ e fun z => by
          rcases List.mem_cons.mp z with z | z
          · rw [z, hr'] at e
            cases e
          · exact frz_out A e z
        refine ⟨_, rfl, .inl ⟨rfl, _, SqL.of hn4⟩, _, rfl, p, _, rfl, .inl (SqL.of h4), nl, _, _, rfl, rfl, hn4, (by rw [List.length_map, sizeLine_eq]; omega), ?_⟩
        rw [List.length_map]
        have hp5 : upd H4 nl (.lst (out.map V.int ++ [.int (((Sn99Neutral.step s c).2.length : Nat) : Int)])) p = some (.lst ((Sn99Neutral.step s c).2.map V.int)) := (upd_ne npn.symm).trans h4
        have hn5 : upd H4 nl (.lst (out.map V.int ++ [.int (((Sn99Neutral.step s c).2.length : Nat) : Int)])) nl = some (.lst (out.map V.int ++ [.int (((Sn99Neutral.step s c).2.length : Nat) : Int)])) := upd_same
        refine ⟨_, rfl, .inl ⟨rfl, _, SqL.of hn5⟩, _, rfl, nl, p, _, _, rfl, rfl, hn5, hp5, (by rw [List.length_append, List.length_map, List.length_map, List.length_singleton, sizeLine_eq]; omega), ?_⟩
        rw [upd_upd]
        have kp : ∀ b o, H4 b = some o → b ≠ nl → upd H4 nl (.lst (out.map V.int ++ [.int (((Sn99Neutral.step s c).2.length : Nat) : Int)] ++ (Sn99Neutral.step s c).2.map V.int)) b = some o := fun b o e hb => (upd_ne hb).trans e
        refine ⟨some (.ref p), d4, mac4, addr4, now4, cs4, (Sn99Neutral.step s c).1, j4, f', csr', out ++ (((Sn99Neutral.step s c).2.length : Int) :: (Sn99Neutral.step s c).2), hj4, rfl, A4.stay fun b o hb e => kp b o e fun z => no4 (List.mem_cons_of_mem _ (z ▸ hb)), R4, o4, kp _ _ hr4 (fun z => no4 (by rw [← z]; exact List.mem_cons_self ..)), hA4.keep (fun o e => kp _ _ e fun z => (by rw [z, hn4] at e; cases e)), ?_, no4, ?_, hall.2, ?_⟩
        · rw [upd_same, List.map_append, List.append_assoc]
          rfl
        · rw [← erest]
          exact hrest
        · rw [List.append_assoc]
          exact eout
    · rw [decide_eq_false hj]
      refine iteF ⟨_, rfl, ?_⟩
      have e0 : ns.drop j = [] := List.drop_eq_nil_of_le (by omega)
      rw [e0] at hcalls
      have ec : csr = [] := by
        cases f with
        | zero => exact (Option.some.inj hcalls).symm
        | succ f => exact (Option.some.inj hcalls).symm
      rw [ec] at hout
      have hout' : out ++ [] = PySn99.answers ns := hout
      rw [List.append_nil] at hout'
      rw [hout'] at hn'
      exact kQ H' nl hn'
end
end Nb
set_option Elab.async false
set_option linter.all false
set_option maxRecDepth 100000
set_option maxHeartbeats 4000000
namespace Nb
open PySem PySem.Spec PyProof.Rows L2
structure TX (mg : Str → Option Value) : Prop where
  forgotten : Num mg "FORGOTTEN" 4
  list : mg "list" = none
  len : mg "len" = none
abbrev sLooked : Stmt := inClass (top 22) 8
def spLooked (CN : Addr) : Sp := fun vs H Q _ => ∃ (a dx w : Addr) (n : Nbr), vs = [.ref a] ∧ H a = some (.ins CN dx (nf n w)) ∧ H w = some (.lst (n.wait.map V.int)) ∧ ∀ p, H p = none → Q (.ref p) (upd H p (.lst ((lookI n).map V.int)))
def spLook (CL CN : Addr) : Sp := fun vs H Q _ => ∃ (L dL d : Addr) (mac addr cur : Int) (cs : List Cell) (a : Int), vs = [.ref L, .int a] ∧ LAt CL CN H L dL d mac addr cur cs ∧
  ((∀ c ∈ cs, c.n.addr ≠ a) → Ans CL CN H L dL d cs Q d mac addr cur cs [-2]) ∧ ∀ c ∈ cs, c.n.addr = a → Ans CL CN H L dL d cs Q d mac addr cur cs (lookI c.n)
def HeardRel (now a : Int) (cs cs' : List Cell) (new : List (List Int)) : Prop := new = [] ∧
  ((∃ c ∈ cs, c.n.addr = a ∧ ¬ c.n.st = 1 ∧ cs' = setC cs { c with n := heardN c.n now }) ∨ ((∀ c ∈ cs, c.n.addr = a → c.n.st = 1) ∧ cs' = cs))
def spHeard (CL CN : Addr) : Sp := fun vs H Q _ => ∃ (L dL d : Addr) (mac addr cur : Int) (cs : List Cell) (now a : Int), vs = [.ref L, .int now, .int a] ∧ LAt CL CN H L dL d mac addr cur cs ∧ OnNow CL CN H L dL d mac addr cur cs Q now (fun cs1 cs' new => HeardRel now a cs1 cs' new)
def ForgetRel (a : Int) (cs cs' : List Cell) (new : List (List Int)) : Prop := (∃ c ∈ cs, c.n.addr = a ∧ cs' = dropC cs a ∧ new = loseT c.n 4) ∨ ((∀ c ∈ cs, c.n.addr ≠ a) ∧ cs' = cs ∧ new = [])
def spForget (CL CN : Addr) : Sp := fun vs H Q _ => ∃ (L dL d : Addr) (mac addr cur : Int) (cs : List Cell) (now a : Int), vs = [.ref L, .int now, .int a] ∧ LAt CL CN H L dL d mac addr cur cs ∧ OnNow CL CN H L dL d mac addr cur cs Q now (fun cs1 cs' new => ForgetRel a cs1 cs' new)
def spList (CL CN : Addr) : Sp := fun vs H Q _ => ∃ (L dL d : Addr) (mac addr cur : Int) (cs : List Cell), vs = [.ref L] ∧ LAt CL CN H L dL d mac addr cur cs ∧ Ans CL CN H L dL d cs Q d mac addr cur cs ((cs.length : Int) :: cs.map fun c => c.n.addr)
section
variable {P : Program} {w : World} {K : PySem.W.Frag} {mg : Str → Option Value} {base : Heap} {CL CN CW CM : Addr}
theorem scLooked : FnScope ["self"] ["self"] (defScope sLooked) := ⟨rfl, rfl, rfl, by decide +kernel, rfl, by decide +kernel, by decide +kernel⟩
theorem ok_looked {f : Addr} {fd : FuncData} (F : Fun K "looked_at" "Neighbour.looked_at" sLooked f fd) (N : TN K mg CN) (X : TX mg) : FnOk P w K mg base CX0 1 f fd ["self"] (spLooked CN) := by
  refine F.ok scLooked (fun vs H Q E h => ?_) (fun cdv A outer s H vs Q E hr h => ?_)
  · obtain ⟨a, dx, w, n, rfl, _⟩ := h
    rfl
  · obtain ⟨a, dx, w, n, rfl, ha, hw, k⟩ := h
    refine ⟨_, pss_cons (ps_if (pt_cmpR op_eq (pe_fld (pv 0) rfl) (pe_num rfl N.askedFor) (nomark _)) (pss_one (ps_ret (pe_lst (pa_cons (pe_num rfl N.askedFor) (pa_cons (pe_fld (pv 0) rfl) (pa_cons (pe_callB call_len_seq (by rfl) X.len PySem.boot_len (pa_cons (pe_fld (pv 0) rfl) pa_nil)) (pa_cons (pe_fld (pv 0) rfl) pa_nil))))))) pss_nil)
      (pss_cons (ps_if (pt_cmpR op_eq (pe_fld (pv 0) rfl) (pe_num rfl N.known) (nomark _)) (pss_one (ps_ret (pe_lst (pa_cons (pe_num rfl N.known) (pa_cons (pe_fld (pv 0) rfl) (pa_cons (pe_fld (pv 0) rfl) pa_nil)))))) pss_nil)
      (pss_cons (ps_if (pt_cmpR op_eq (pe_fld (pv 0) rfl) (pe_num rfl N.old) (nomark _)) (pss_one (ps_ret (pe_lst (pa_cons (pe_num rfl N.old) (pa_cons (pe_fld (pv 0) rfl) pa_nil))))) pss_nil)
      (pss_one (ps_ret (pe_lst (pa_cons (pe_num rfl N.again) (pa_cons (pe_fld (pv 0) rfl) (pa_cons (pe_fld (pv 0) rfl) (pa_cons (pe_fld (pv 0) rfl) pa_nil))))))))), ?_⟩
    refine ⟨_, rfl, a, CN, dx, _, _, rfl, ha, N.cl, N.nS, rfl, rfl, _, rfl, ?_⟩
    rw [deq_int]
    unfold lookI at k
    by_cases h1 : n.st = 1
    · rw [if_pos h1] at k
      rw [decide_eq_true h1]
      try dsimp only
      rw [if_pos rfl]
      refine ⟨_, rfl, a, CN, dx, _, _, rfl, ha, N.cl, N.nK, rfl, _, rfl, a, CN, dx, _, _, rfl, ha, N.cl, N.nW, rfl, w, _, rfl, .inl (SqL.of hw), _, rfl, a, CN, dx, _, _, rfl, ha, N.cl, N.nD, rfl, (by show 4 ≤ sizeLine; decide), fun p hp => ?_⟩
      have kk := k p hp
      rw [List.length_map]
      exact kk
    · rw [if_neg h1] at k
      rw [decide_eq_false h1]
      refine iteF ?_
      refine ⟨_, rfl, a, CN, dx, _, _, rfl, ha, N.cl, N.nS, rfl, rfl, _, rfl, ?_⟩
      rw [deq_int]
      by_cases h2 : n.st = 2
      · rw [if_pos h2] at k
        rw [decide_eq_true h2]
        try dsimp only
        rw [if_pos rfl]
        exact ⟨_, rfl, a, CN, dx, _, _, rfl, ha, N.cl, N.nL, rfl, _, rfl, a, CN, dx, _, _, rfl, ha, N.cl, N.nD, rfl, (by show 3 ≤ sizeLine; decide), fun p hp => k p hp⟩
      · rw [if_neg h2] at k
        rw [decide_eq_false h2]
        refine iteF ?_
        refine ⟨_, rfl, a, CN, dx, _, _, rfl, ha, N.cl, N.nS, rfl, rfl, _, rfl, ?_⟩
        rw [deq_int]
        by_cases h3 : n.st = 3
        · rw [if_pos h3] at k
          rw [decide_eq_true h3]
          try dsimp only
          rw [if_pos rfl]
          exact ⟨_, rfl, a, CN, dx, _, _, rfl, ha, N.cl, N.nL, rfl, (by show 2 ≤ sizeLine; decide), fun p hp => k p hp⟩
        · rw [if_neg h3] at k
          rw [decide_eq_false h3]
          refine iteF ?_
          exact ⟨_, rfl, a, CN, dx, _, _, rfl, ha, N.cl, N.nL, rfl, _, rfl, a, CN, dx, _, _, rfl, ha, N.cl, N.nK, rfl, _, rfl, a, CN, dx, _, _, rfl, ha, N.cl, N.nD, rfl, (by show 4 ≤ sizeLine; decide), fun p hp => k p hp⟩
theorem ans_new {H : Hp} {L dL d : Addr} {mac addr cur : Int} {cs : List Cell} {Q : VK} {ans : List Int} (A : LAt CL CN H L dL d mac addr cur cs) (k : Ans CL CN H L dL d cs Q d mac addr cur cs ans) (H1 : Hp) (S : Same H H1) (p : Addr) (h0 : H p = none) (hp : H1 p = some (.lst (ans.map V.int))) : Q (.ref p) H1 := by
  refine k _ p (A.same S) (Kp.same S) (fun b o e _ => ne_of_none e h0) (fun q => ?_) hp
  obtain ⟨o, e⟩ := A.there q
  rw [h0] at e
  cases e
theorem scLook : FnScope ["self", "address", "neighbour"] ["self", "address"] (defScope (inL 6)) := ⟨rfl, rfl, rfl, by decide +kernel, rfl, by decide +kernel, by decide +kernel⟩
theorem ok_look {f : Addr} {fd : FuncData} (F : Fun K "look" "Link.look" (inL 6) f fd) (T : TL K mg CL) (N : TN K mg CN) (oL : OkM P w K mg base 1 CN "looked_at" ["self"] (spLooked CN)) : FnOk P w K mg base CX0 2 f fd ["self", "address"] (spLook CL CN) := by
  refine F.ok scLook (fun vs H Q E h => ?_) (fun cdv A outer s H vs Q E hr h => ?_)
  · obtain ⟨L, dL, d, mac, addr, cur, cs, a, rfl, _⟩ := h
    rfl
  · obtain ⟨L, dL, d, mac, addr, cur, cs, a, rfl, A0, kn, ky⟩ := h
    refine ⟨_, pss_cons (ps_set (i := 2) scLook.nd rfl (Or.inl rfl) (pe_dget1 (hu_of hr) (pe_fld (pv 0) rfl) (pv 1) ⟨rfl, rfl, rfl, rfl⟩))
      (pss_cons (ps_if (pt_cmp (pc_isN (pv 2))) (pss_one (ps_ret (pe_lst (pa_cons (pe_num rfl T.nothing) pa_nil)))) pss_nil)
      (pss_one (ps_ret (pe_methO0 oL N.cl hr (pv 2))))), ?_⟩
    refine ⟨_, rfl, L, CL, dL, _, _, rfl, A0.obj, T.cl, T.nD, rfl, d, rfl, .inl ⟨_, .inl A0.dct⟩, _, rfl, _, DGet.k (k := Sum.inl a) A0.dct, ?_⟩
    by_cases hin : ∃ c ∈ cs, c.n.addr = a
    · obtain ⟨c, hc, ea⟩ := hin
      have ev : valV (kvs cs) (Sum.inl a) = some (.ref c.a) := by rw [← ea]; exact valV_kvs_some A0.nd hc
      rw [ev]
      obtain ⟨hca, hcw⟩ := A0.at_ c hc
      refine ⟨_, rfl, _, rfl, ?_⟩
      have en : decide ((some (V.ref c.a)).getD V.non = V.non) = false := decide_eq_false (by intro z; cases z)
      rw [en]
      refine iteF ⟨_, rfl, c.a, c.dx, _, rfl, hca, rfl, c.a, c.dx, c.w, c.n, rfl, hca, hcw, fun p hp => ?_⟩
      exact ans_new A0 (ky c hc ea) _ ((Same.refl H).upd_free hp) p hp upd_same
    · rw [valV_kvs_none (fun c hc e => hin ⟨c, hc, e⟩)]
      refine ⟨_, rfl, _, rfl, ?_⟩
      have en : decide ((none : Option V).getD V.non = V.non) = true := decide_eq_true rfl
      rw [en]
      try dsimp only
      rw [if_pos rfl]
      exact ⟨(by show 1 ≤ sizeLine; decide), fun p hp => ans_now A0 (kn fun c hc e => hin ⟨c, hc, e⟩) H (Same.refl H) p hp⟩
theorem scHeard : FnScope ["self", "now", "address", "refusal", "wanted", "neighbour"] ["self", "now", "address"] (defScope (inL 7)) := ⟨rfl, rfl, rfl, by decide +kernel, rfl, by decide +kernel, by decide +kernel⟩
theorem ok_heard {f : Addr} {fd : FuncData} (F : Fun K "heard" "Link.heard" (inL 7) f fd) (T : TL K mg CL) (N : TN K mg CN) (W : TWd K mg CW) (oR : OkM P w K mg base 1 CL "refuse_now" ["self", "now"] (spRefuse CL)) (oG : OkM P w K mg base 6 CL "go_on_to" ["self", "now"] (spGo CL CN CW))
    (oB : OkM P w K mg base 1 CN "become_known" ["self", "link_address", "now"] (spBecKnown CN)) (oT : OkM P w K mg base 1 CW "told" ["self"] (spTold CW)) : FnOk P w K mg base CX0 7 f fd ["self", "now", "address"] (spHeard CL CN) := by
  refine F.ok scHeard (fun vs H Q E h => ?_) (fun cdv A outer s H vs Q E hr h => ?_)
  · obtain ⟨L, dL, d, mac, addr, cur, cs, now, a, rfl, _⟩ := h
    rfl
  · obtain ⟨L, dL, d, mac, addr, cur, cs, now, a, rfl, A0, kn, ky⟩ := h
    have hr1 : Room 1 _ := hr.mono (by decide)
    refine ⟨_, pss_cons (ps_set (i := 3) scHeard.nd rfl (Or.inl rfl) (pe_methO oR T.cl hr1 (pv 0) (pa_cons (pv 1) pa_nil)))
      (pss_cons (ps_if (pt_cmpR op_ne (pv 3) (pe_num rfl T.fine) (nomark _)) (pss_one (ps_ret (pe_lst (pa_cons (pv 3) pa_nil)))) pss_nil)
      (pss_cons (ps_set (i := 4) scHeard.nd rfl (Or.inl rfl) (pe_methO oG T.cl hr (pv 0) (pa_cons (pv 1) pa_nil)))
      (pss_cons (ps_set (i := 5) scHeard.nd rfl (Or.inl rfl) (pe_dget1 (hu_of hr) (pe_fld (pv 0) rfl) (pv 2) ⟨rfl, rfl, rfl, rfl⟩))
      (pss_cons (ps_if (PW.pt (pw_and (pt_cmp (pc_notN (pv 5))) (pw_and1 (pt_cmpR op_ne (pe_fld (pv 5) rfl) (pe_num rfl N.askedFor) (nomark _))))) (pss_one (ps_expr (pe_methO oB N.cl hr1 (pv 5) (pa_cons (pe_fld (pv 5) rfl) (pa_cons (pv 1) pa_nil))))) pss_nil)
      (pss_one (ps_ret (pe_methO0 oT W.cl hr1 (pv 4)))))))), ?_⟩
    refine ⟨_, rfl, L, dL, _, rfl, A0.obj, rfl, _, rfl, L, dL, d, mac, addr, cur, now, rfl, A0.obj, ?_⟩
    refine ⟨_, rfl, rfl, _, rfl, ?_⟩
    rw [dnot_int]
    by_cases h0 : refuseI cur now = 0
    · rw [decide_eq_true h0, Bool.not_true]
      refine iteF ?_
      refine ⟨_, rfl, L, dL, _, rfl, A0.obj, rfl, _, rfl, L, dL, d, mac, addr, cur, now, cs, rfl, A0, fun H1 qs wa tl ts g1 g2 B1 k1 => ?_⟩
      have gr : GoRel now cs qs := ⟨g1, g2⟩
      have fin : ∀ (cs' : List Cell) (H2 : Hp), HeardRel now a (qs.foldl (doDueC now) cs) cs' [] → Both CL CN CW H2 L dL d mac addr now cs' wa tl ts (qs.flatMap fun c => doDueT mac addr c.n) → Kp (lfp L d cs) (fpB L d cs' wa tl ts) H H2 → ∀ nb : V,
          tRet (tMeth CW "told" (spTold CW) [] E0 (tVar 4) tNil) { nx := fun _ H' => Q .non H', rt := Q } [some (.ref L), some (.int now), some (.int a), some (.int (refuseI cur now)), some (.ref wa), some nb] H2 := by
        intro cs' H2 R B2 k2 nb
        obtain ⟨dW, hW⟩ := B2.w.obj
        have tl' := told_len (mac := mac) (addr := addr) (new := []) gr A0.wl A0.len (fun t ht => absurd ht (by simp)) (by simp)
        rw [List.append_nil] at tl'
        refine ⟨_, rfl, wa, dW, _, rfl, hW, rfl, wa, tl, ts, _, rfl, B2.w, tl', fun H3 p S3 hp h3 => ?_⟩
        have kk := ky h0 qs cs' [] gr R
        rw [List.append_nil] at kk
        exact fin_ans kk B2 k2 S3 hp h3
      refine ⟨_, rfl, L, CL, dL, _, _, rfl, B1.l.obj, T.cl, T.nD, rfl, d, rfl, .inl ⟨_, .inl B1.l.dct⟩, _, rfl, _, DGet.k (k := Sum.inl a) B1.l.dct, ?_⟩
      by_cases hin : ∃ c ∈ qs.foldl (doDueC now) cs, c.n.addr = a
      · obtain ⟨c, hc, ea⟩ := hin
        have ev : valV (kvs (qs.foldl (doDueC now) cs)) (Sum.inl a) = some (.ref c.a) := by rw [← ea]; exact valV_kvs_some B1.l.nd hc
        rw [ev]
        obtain ⟨hca, hcw⟩ := B1.l.at_ c hc
        refine ⟨_, rfl, _, rfl, ?_⟩
        have en : (!decide ((some (V.ref c.a)).getD V.non = V.non)) = true := by rw [decide_eq_false (by intro z; cases z)]; rfl
        rw [en]
        show (if true = true then _ else _)
        rw [if_pos rfl]
        refine ⟨_, rfl, c.a, CN, c.dx, _, _, rfl, hca, N.cl, N.nS, rfl, rfl, _, rfl, ?_⟩
        rw [dnot_int]
        by_cases h1 : c.n.st = 1
        · rw [decide_eq_true h1, Bool.not_true]
          refine iteF ?_
          exact fin _ H1 ⟨rfl, .inr ⟨fun c' hc' ea' => by rw [B1.l.eqAddr hc' hc (ea'.trans ea.symm)]; exact h1, rfl⟩⟩ B1 k1 _
        · rw [decide_eq_false h1, Bool.not_false]
          try dsimp only
          rw [if_pos rfl]
          refine ⟨_, rfl, c.a, c.dx, _, rfl, hca, rfl, _, rfl, c.a, CN, c.dx, _, _, rfl, hca, N.cl, N.nL, rfl, _, rfl, c.a, c.dx, c.w, c.n, c.n.la, now, rfl, hca, ?_⟩
          obtain ⟨B2, k2⟩ := B1.setA hc (heardN c.n now) rfl rfl
          exact fin _ _ ⟨rfl, .inl ⟨c, hc, ea, h1, rfl⟩⟩ B2 (k1.trans k2) _
      · rw [valV_kvs_none (fun c hc e => hin ⟨c, hc, e⟩)]
        refine ⟨_, rfl, _, rfl, ?_⟩
        have en : (!decide ((none : Option V).getD V.non = V.non)) = false := by rw [decide_eq_true (show (none : Option V).getD V.non = V.non from rfl)]; rfl
        rw [en]
        show (if false = true then _ else _)
        rw [if_neg (by decide)]
        refine iteF ?_
        exact fin _ H1 ⟨rfl, .inr ⟨fun c hc e => absurd ⟨c, hc, e⟩ hin, rfl⟩⟩ B1 k1 _
    · rw [decide_eq_false h0, Bool.not_false]
      try dsimp only
      rw [if_pos rfl]
      exact ⟨_, rfl, (by show 1 ≤ sizeLine; decide), fun p hp => ans_now A0 (kn h0) H (Same.refl H) p hp⟩
theorem scForget : FnScope ["self", "now", "address", "refusal", "wanted"] ["self", "now", "address"] (defScope (inL 8)) := ⟨rfl, rfl, rfl, by decide +kernel, rfl, by decide +kernel, by decide +kernel⟩
theorem short_lose (n : Nbr) (h : n.wait.length ≤ 4) (z : Int) : Short (loseT n z) ∧ (loseT n z).length ≤ 6 := by
  unfold loseT
  refine ⟨fun t ht => ?_, by rw [List.length_cons, List.length_map]; omega⟩
  rcases List.mem_cons.mp ht with rfl | ht
  · show 2 ≤ 22
    decide
  · obtain ⟨p, _, rfl⟩ := List.mem_map.mp ht
    show 3 ≤ 22
    decide
theorem ok_forget {f : Addr} {fd : FuncData} (F : Fun K "forget" "Link.forget" (inL 8) f fd) (T : TL K mg CL) (W : TWd K mg CW) (X : TX mg) (oR : OkM P w K mg base 1 CL "refuse_now" ["self", "now"] (spRefuse CL)) (oG : OkM P w K mg base 6 CL "go_on_to" ["self", "now"] (spGo CL CN CW))
    (oL : OkM P w K mg base 2 CL "lose" ["self", "neighbour", "why", "wanted"] (spLose CL CN CW)) (oT : OkM P w K mg base 1 CW "told" ["self"] (spTold CW)) : FnOk P w K mg base CX0 7 f fd ["self", "now", "address"] (spForget CL CN) := by
  refine F.ok scForget (fun vs H Q E h => ?_) (fun cdv A outer s H vs Q E hr h => ?_)
  · obtain ⟨L, dL, d, mac, addr, cur, cs, now, a, rfl, _⟩ := h
    rfl
  · obtain ⟨L, dL, d, mac, addr, cur, cs, now, a, rfl, A0, kn, ky⟩ := h
    have hr1 : Room 1 _ := hr.mono (by decide)
    refine ⟨_, pss_cons (ps_set (i := 3) scForget.nd rfl (Or.inl rfl) (pe_methO oR T.cl hr1 (pv 0) (pa_cons (pv 1) pa_nil)))
      (pss_cons (ps_if (pt_cmpR op_ne (pv 3) (pe_num rfl T.fine) (nomark _)) (pss_one (ps_ret (pe_lst (pa_cons (pv 3) pa_nil)))) pss_nil)
      (pss_cons (ps_set (i := 4) scForget.nd rfl (Or.inl rfl) (pe_methO oG T.cl hr (pv 0) (pa_cons (pv 1) pa_nil)))
      (pss_cons (ps_if (pt_cmp (pc_din (hu_of hr) (pv 2) (pe_fld (pv 0) rfl))) (pss_one (ps_expr (pe_methO oL T.cl (hr.mono (by decide)) (pv 0) (pa_cons (pe_dget (hu_of hr) (pe_fld (pv 0) rfl) (pv 2) (fun _ _ => rfl)) (pa_cons (pe_num rfl X.forgotten) (pa_cons (pv 4) pa_nil)))))) pss_nil)
      (pss_one (ps_ret (pe_methO0 oT W.cl hr1 (pv 4))))))), ?_⟩
    refine ⟨_, rfl, L, dL, _, rfl, A0.obj, rfl, _, rfl, L, dL, d, mac, addr, cur, now, rfl, A0.obj, ?_⟩
    refine ⟨_, rfl, rfl, _, rfl, ?_⟩
    rw [dnot_int]
    by_cases h0 : refuseI cur now = 0
    · rw [decide_eq_true h0, Bool.not_true]
      refine iteF ?_
      refine ⟨_, rfl, L, dL, _, rfl, A0.obj, rfl, _, rfl, L, dL, d, mac, addr, cur, now, cs, rfl, A0, fun H1 qs wa tl ts g1 g2 B1 k1 => ?_⟩
      have gr : GoRel now cs qs := ⟨g1, g2⟩
      have gl := gr.wl A0.wl A0.len (mac := mac) (addr := addr)
      refine ⟨_, rfl, _, rfl, L, CL, dL, _, _, rfl, B1.l.obj, T.cl, T.nD, rfl, d, _, rfl, DGet.k (k := Sum.inl a) B1.l.dct, _, rfl, ?_⟩
      by_cases hin : ∃ c ∈ qs.foldl (doDueC now) cs, c.n.addr = a
      · obtain ⟨c, hc, rfl⟩ := hin
        rw [valV_kvs_some B1.l.nd hc]
        dsimp only [Option.isSome]
        rw [if_pos rfl]
        refine ⟨_, rfl, L, dL, _, rfl, B1.l.obj, rfl, _, rfl, L, CL, dL, _, _, rfl, B1.l.obj, T.cl, T.nD, rfl, _, rfl, d, _, rfl, (by rw [← valV_kvs_some B1.l.nd hc]; exact DGet.k (k := Sum.inl c.n.addr) B1.l.dct), _, rfl, L, dL, d, mac, addr, now, _, wa, tl, ts, _, c, 4, rfl, B1, hc, (by omega), fun H2 ts2 B2 k2 => ?_⟩
        obtain ⟨dW, hW⟩ := B2.w.obj
        obtain ⟨sh, shl⟩ := short_lose c.n (B1.l.wl c hc) 4
        refine ⟨_, rfl, wa, dW, _, rfl, hW, rfl, wa, tl, ts2, _, rfl, B2.w, told_len gr A0.wl A0.len sh shl, fun H3 p S3 hp h3 => ?_⟩
        exact fin_ans (ky h0 qs _ _ gr (.inl ⟨c, hc, rfl, rfl, rfl⟩)) B2 (k1.trans k2) S3 hp h3
      · have hno : ∀ c ∈ qs.foldl (doDueC now) cs, c.n.addr ≠ a := fun c hc e => hin ⟨c, hc, e⟩
        rw [valV_kvs_none hno]
        dsimp only [Option.isSome]
        refine iteF ?_
        obtain ⟨dW, hW⟩ := B1.w.obj
        have tl' := told_len (mac := mac) (addr := addr) (new := []) gr A0.wl A0.len (fun t ht => absurd ht (by simp)) (by simp)
        have kk := ky h0 qs _ [] gr (.inr ⟨hno, rfl, rfl⟩)
        rw [List.append_nil] at tl' kk
        refine ⟨_, rfl, wa, dW, _, rfl, hW, rfl, wa, tl, ts, _, rfl, B1.w, tl', fun H3 p S3 hp h3 => ?_⟩
        exact fin_ans kk B1 k1 S3 hp h3
    · rw [decide_eq_false h0, Bool.not_false]
      try dsimp only
      rw [if_pos rfl]
      exact ⟨_, rfl, (by show 1 ≤ sizeLine; decide), fun p hp => ans_now A0 (kn h0) H (Same.refl H) p hp⟩
theorem scList : FnScope ["self", "numbers"] ["self"] (defScope (inL 9)) := ⟨rfl, rfl, rfl, by decide +kernel, rfl, by decide +kernel, by decide +kernel⟩
theorem ok_list {f : Addr} {fd : FuncData} (F : Fun K "list_addresses" "Link.list_addresses" (inL 9) f fd) (T : TL K mg CL) (X : TX mg) : FnOk P w K mg base CX0 1 f fd ["self"] (spList CL CN) := by
  refine F.ok scList (fun vs H Q E h => ?_) (fun cdv A outer s H vs Q E hr h => ?_)
  · obtain ⟨L, dL, d, mac, addr, cur, cs, rfl, _⟩ := h
    rfl
  · obtain ⟨L, dL, d, mac, addr, cur, cs, rfl, A0, k⟩ := h
    refine ⟨_, pss_cons (ps_set (i := 1) scList.nd rfl (Or.inl rfl) (pe_lst (pa_cons (pe_callB call_lenD (by rfl) X.len PySem.boot_len (pa_cons (pe_fld (pv 0) rfl) pa_nil)) pa_nil)))
      (pss_cons (ps_expr (pe_bm PySem.F.plainAttrs_list PySem.F.slot_list_extend PySem.F.type_list_extend mt_extend (pv 1) (pa_cons (pe_callTy (call_listK rfl) (by rfl) X.list (by decide +kernel) (pa_cons (pe_fld (pv 0) rfl) pa_nil)) pa_nil)))
      (pss_one (ps_ret (pv 1)))), ?_⟩
    refine ⟨_, rfl, L, CL, dL, _, _, rfl, A0.obj, T.cl, T.nD, rfl, d, _, rfl, A0.dct, (by show 1 ≤ sizeLine; decide), fun p hp => ?_⟩
    have S1 : Same H (upd H p (.lst [.int ((kvs cs).length : Nat)])) := (Same.refl H).upd_free hp
    have hp1 : upd H p (.lst [.int ((kvs cs).length : Nat)]) p = some (.lst [.int ((kvs cs).length : Nat)]) := upd_same
    refine ⟨_, rfl, .inl ⟨rfl, _, SqL.of hp1⟩, _, rfl, L, CL, dL, _, _, rfl, S1 _ _ A0.obj, T.cl, T.nD, rfl, d, _, rfl, S1 _ _ A0.dct, fun l hl => ?_⟩
    have npl : p ≠ l := ne_of_none hp1 hl
    have hl0 : H l = none := (upd_ne npl.symm).symm.trans hl
    refine ⟨p, l, _, _, rfl, rfl, (upd_ne npl).trans hp1, upd_same, ?_, ?_⟩
    · have := A0.len
      rw [List.length_singleton, List.length_map, sizeLine_eq]
      show 1 + (cs.map _).length ≤ _
      rw [List.length_map]
      omega
    · refine ⟨_, rfl, ?_⟩
      refine ans_new A0 k _ (fun b o e => ?_) p hp ?_
      · rw [upd_ne (ne_of_none e hp), upd_ne (ne_of_none e hl0), upd_ne (ne_of_none e hp)]
        exact e
      · rw [upd_same, List.length_map, List.map_map, List.map_cons, List.map_map]
        rfl
end
end Nb
set_option Elab.async false
set_option linter.all false
set_option maxRecDepth 100000
set_option maxHeartbeats 4000000
namespace Nb
open PySem PySem.Spec PyProof.Rows L2
theorem call0 {p : Int} {r rest : List Int} {n : Nat} {c : List (List Int)} (hs : PySn99.shape p = some (n, 0)) (h : PyFlat.call PySn99.shape (p :: r) = some (c, rest)) : n ≤ r.length ∧ c = [p :: r.take n] ∧ rest = r.drop n := by
  unfold PyFlat.call at h
  dsimp only at h
  rw [hs] at h
  have h' : (if r.length < n then none else some ([p :: r.take n], r.drop n)) = some (c, rest) := h
  by_cases hl : r.length < n
  · rw [if_pos hl] at h'
    exact nomatch h'
  · rw [if_neg hl] at h'
    have := Option.some.inj h'
    exact ⟨by omega, (congrArg Prod.fst this).symm, (congrArg Prod.snd this).symm⟩
theorem call1 {p : Int} {r rest : List Int} {n : Nat} {c : List (List Int)} (hs : PySn99.shape p = some (n, 1)) (h : PyFlat.call PySn99.shape (p :: r) = some (c, rest)) : n ≤ r.length ∧ ∃ m r', r.drop n = m :: r' ∧ 0 ≤ m ∧ m.toNat ≤ r'.length ∧ c = [p :: r.take n, r'.take m.toNat] ∧ rest = r'.drop m.toNat := by
  unfold PyFlat.call at h
  dsimp only at h
  rw [hs] at h
  have h' : (if r.length < n then none else match PyFlat.rows 1 (r.drop n) with
    | none => none
    | some (xs, t) => some ((p :: r.take n) :: xs, t)) = some (c, rest) := h
  by_cases hl : r.length < n
  · rw [if_pos hl] at h'
    exact nomatch h'
  · rw [if_neg hl] at h'
    refine ⟨by omega, ?_⟩
    cases e : r.drop n with
    | nil =>
      rw [e] at h'
      exact nomatch h'
    | cons m r' =>
      rw [e] at h'
      have er : PyFlat.rows 1 (m :: r') = if 0 ≤ m ∧ m.toNat ≤ r'.length then some ([r'.take m.toNat], r'.drop m.toNat) else none := by
        show (match PyFlat.row (m :: r') with
          | none => none
          | some (x, s) => match PyFlat.rows 0 s with
            | none => none
            | some (xs, t) => some (x :: xs, t)) = _
        unfold PyFlat.row
        dsimp only
        by_cases q : 0 ≤ m ∧ m.toNat ≤ r'.length
        · rw [if_pos q, if_pos q]
          rfl
        · rw [if_neg q, if_neg q]
      rw [er] at h'
      by_cases q : 0 ≤ m ∧ m.toNat ≤ r'.length
      · rw [if_pos q] at h'
        have := Option.some.inj h'
        exact ⟨m, r', rfl, q.1, q.2, (congrArg Prod.fst this).symm, (congrArg Prod.snd this).symm⟩
      · rw [if_neg q] at h'
        exact nomatch h'
inductive CallIs : List Int → List (List Int) → List Int → Prop
  | begin_ (x y : Nat) (rest : List Int) : CallIs (1 :: (x : Int) :: (y : Int) :: rest) [[1, (x : Int), (y : Int)]] rest
  | send (x y z : Nat) (rest : List Int) : CallIs (2 :: (x : Int) :: (y : Int) :: (z : Int) :: rest) [[2, (x : Int), (y : Int), (z : Int)]] rest
  | came (x y : Nat) (b : List Nat) (rest : List Int) (hb : ∀ x ∈ b, x < 256) : CallIs (3 :: (x : Int) :: (y : Int) :: ((b.length : Nat) : Int) :: (toI b ++ rest)) [[3, (x : Int), (y : Int)], toI b] rest
  | tick (x : Nat) (rest : List Int) : CallIs (4 :: (x : Int) :: rest) [[4, (x : Int)]] rest
  | next (rest : List Int) : CallIs (5 :: rest) [[5]] rest
  | look (x : Nat) (rest : List Int) : CallIs (6 :: (x : Int) :: rest) [[6, (x : Int)]] rest
  | heard (x y : Nat) (rest : List Int) : CallIs (7 :: (x : Int) :: (y : Int) :: rest) [[7, (x : Int), (y : Int)]] rest
  | forget (x y : Nat) (rest : List Int) : CallIs (8 :: (x : Int) :: (y : Int) :: rest) [[8, (x : Int), (y : Int)]] rest
  | list (rest : List Int) : CallIs (9 :: rest) [[9]] rest
theorem nat_of {z : Int} (h : 0 ≤ z) : ∃ n : Nat, z = (n : Int) := ⟨z.toNat, by omega⟩
theorem one_of {r : List Int} (h : 1 ≤ r.length) (hp : ∀ z ∈ r, 0 ≤ z) : ∃ (x : Nat) (t : List Int), r = (x : Int) :: t ∧ r.take 1 = [(x : Int)] ∧ r.drop 1 = t ∧ ∀ z ∈ t, 0 ≤ z := by
  cases r with
  | nil => exact absurd h (by simp)
  | cons a t =>
    obtain ⟨x, rfl⟩ := nat_of (hp a (List.mem_cons_self ..))
    exact ⟨x, t, rfl, rfl, rfl, fun z hz => hp z (List.mem_cons_of_mem _ hz)⟩
theorem two_of {r : List Int} (h : 2 ≤ r.length) (hp : ∀ z ∈ r, 0 ≤ z) : ∃ (x y : Nat) (t : List Int), r = (x : Int) :: (y : Int) :: t ∧ r.take 2 = [(x : Int), (y : Int)] ∧ r.drop 2 = t ∧ ∀ z ∈ t, 0 ≤ z := by
  obtain ⟨x, t, rfl, _, _, ht⟩ := one_of (r := r) (by omega) hp
  rw [List.length_cons] at h
  obtain ⟨y, t', rfl, _, _, ht'⟩ := one_of (r := t) (by omega) ht
  exact ⟨x, y, t', rfl, rfl, rfl, ht'⟩
theorem three_of {r : List Int} (h : 3 ≤ r.length) (hp : ∀ z ∈ r, 0 ≤ z) : ∃ (x y z : Nat) (t : List Int), r = (x : Int) :: (y : Int) :: (z : Int) :: t ∧ r.take 3 = [(x : Int), (y : Int), (z : Int)] ∧ r.drop 3 = t := by
  obtain ⟨x, t, rfl, _, _, ht⟩ := one_of (r := r) (by omega) hp
  rw [List.length_cons] at h
  obtain ⟨y, z, t', rfl, _, _, ht'⟩ := two_of (r := t) (by omega) ht
  exact ⟨x, y, z, t', rfl, rfl, rfl⟩
theorem toI_of : ∀ {l : List Int}, (∀ z ∈ l, 0 ≤ z) → ∃ b : List Nat, l = toI b
  | [], _ => ⟨[], rfl⟩
  | z :: l, h => by
    obtain ⟨n, rfl⟩ := nat_of (h z (List.mem_cons_self ..))
    obtain ⟨b, rfl⟩ := toI_of (l := l) fun z hz => h z (List.mem_cons_of_mem _ hz)
    exact ⟨n :: b, rfl⟩
theorem call_is {l rest : List Int} {c : List (List Int)} (h : PyFlat.call PySn99.shape l = some (c, rest)) (ha : Sn99Neutral.asked1 c = true) (hp : ∀ z ∈ l, 0 ≤ z) : CallIs l c rest := by
  cases l with
  | nil => exact nomatch h
  | cons p r =>
    have hp' : ∀ z ∈ r, 0 ≤ z := fun z hz => hp z (List.mem_cons_of_mem _ hz)
    by_cases h1 : p = 1
    · subst h1
      obtain ⟨hl, rfl, rfl⟩ := call0 (n := 2) rfl h
      obtain ⟨x, y, t, rfl, e1, e2, _⟩ := two_of hl hp'
      rw [e1, e2]
      exact .begin_ x y t
    by_cases h2 : p = 2
    · subst h2
      obtain ⟨hl, rfl, rfl⟩ := call0 (n := 3) rfl h
      obtain ⟨x, y, z, t, rfl, e1, e2⟩ := three_of hl hp'
      rw [e1, e2]
      exact .send x y z t
    by_cases h3 : p = 3
    · subst h3
      obtain ⟨hl, m, r', er, hm, hml, rfl, rfl⟩ := call1 (n := 2) rfl h
      obtain ⟨x, y, t, rfl, e1, e2, ht⟩ := two_of hl hp'
      rw [e2] at er
      subst er
      rw [e1] at ha ⊢
      have ha' : ((r'.take m.toNat).all (fun (z : Int) => Sn99Neutral.natural z 8) && (Sn99Neutral.natural (x : Int) 64 && Sn99Neutral.natural (y : Int) 64)) = true := ha
      rw [Bool.and_eq_true] at ha'
      obtain ⟨b, eb⟩ := toI_of (l := r'.take m.toNat) fun z hz => ht z (List.mem_cons_of_mem _ (List.mem_of_mem_take hz))
      have hb : ∀ x ∈ b, x < 256 := fun x hx => by
        have q := List.all_eq_true.mp ha'.1 (x : Int) (by rw [eb]; exact List.mem_map.mpr ⟨x, hx, rfl⟩)
        unfold Sn99Neutral.natural at q
        rw [Bool.and_eq_true, decide_eq_true_eq, decide_eq_true_eq] at q
        have := q.2
        omega
      have hlen : m = ((b.length : Nat) : Int) := by
        have q := congrArg List.length eb
        have q2 : (toI b).length = b.length := List.length_map ..
        rw [q2, List.length_take] at q
        omega
      have e3 : r' = toI b ++ r'.drop m.toNat := by
        rw [← eb, List.take_append_drop]
      have := CallIs.came x y b (r'.drop m.toNat) hb
      rw [← e3, ← hlen] at this
      rw [eb]
      exact this
    by_cases h4 : p = 4
    · subst h4
      obtain ⟨hl, rfl, rfl⟩ := call0 (n := 1) rfl h
      obtain ⟨x, t, rfl, e1, e2, _⟩ := one_of hl hp'
      rw [e1, e2]
      exact .tick x t
    by_cases h5 : p = 5
    · subst h5
      obtain ⟨hl, rfl, rfl⟩ := call0 (n := 0) rfl h
      exact .next _
    by_cases h6 : p = 6
    · subst h6
      obtain ⟨hl, rfl, rfl⟩ := call0 (n := 1) rfl h
      obtain ⟨x, t, rfl, e1, e2, _⟩ := one_of hl hp'
      rw [e1, e2]
      exact .look x t
    by_cases h7 : p = 7
    · subst h7
      obtain ⟨hl, rfl, rfl⟩ := call0 (n := 2) rfl h
      obtain ⟨x, y, t, rfl, e1, e2, _⟩ := two_of hl hp'
      rw [e1, e2]
      exact .heard x y t
    by_cases h8 : p = 8
    · subst h8
      obtain ⟨hl, rfl, rfl⟩ := call0 (n := 2) rfl h
      obtain ⟨x, y, t, rfl, e1, e2, _⟩ := two_of hl hp'
      rw [e1, e2]
      exact .forget x y t
    by_cases h9 : p = 9
    · subst h9
      obtain ⟨hl, rfl, rfl⟩ := call0 (n := 0) rfl h
      exact .list _
    · have hs : PySn99.shape p = none := by
        unfold PySn99.shape
        rw [if_neg h1, if_neg h2, if_neg h3, if_neg h4, if_neg h5, if_neg h6, if_neg h7, if_neg h8, if_neg h9]
      unfold PyFlat.call at h
      dsimp only at h
      rw [hs] at h
      exact nomatch h
theorem st_begin (s : Sn99.State) (x y : Nat) : Sn99Neutral.step s [[1, (x : Int), (y : Int)]] = ((Sn99.step s (.begin_ x y)).1, ansI (Sn99.step s (.begin_ x y)).2) := rfl
theorem st_send (s : Sn99.State) (x y z : Nat) : Sn99Neutral.step s [[2, (x : Int), (y : Int), (z : Int)]] = ((Sn99.step s (.send x y z)).1, ansI (Sn99.step s (.send x y z)).2) := rfl
theorem nats_toI (b : List Nat) : Sn99Neutral.nats (toI b) = b := by
  unfold Sn99Neutral.nats toI
  rw [List.map_map]
  have : (Int.toNat ∘ fun (x : Nat) => (x : Int)) = id := funext fun x => rfl
  rw [this, List.map_id]
theorem st_came (s : Sn99.State) (x y : Nat) (b : List Nat) : Sn99Neutral.step s [[3, (x : Int), (y : Int)], toI b] = ((Sn99.step s (.came x y b)).1, ansI (Sn99.step s (.came x y b)).2) := by
  have e : Sn99Neutral.callOf [[3, (x : Int), (y : Int)], toI b] = some (.came x y b) := by
    unfold Sn99Neutral.callOf
    show (match [[3, x, y], Sn99Neutral.nats (toI b)] with
      | [[1, m, a]] => some (Sn99.Call.begin_ m a)
      | [[2, n, t, p]] => some (.send n t p)
      | [[3, n, m], b] => some (.came n m b)
      | [[4, n]] => some (.tick n)
      | [[5]] => some .next
      | [[6, a]] => some (.look a)
      | [[7, n, a]] => some (.heard n a)
      | [[8, n, a]] => some (.forget n a)
      | [[9]] => some .list
      | _ => none) = _
    rw [nats_toI]
    rfl
  unfold Sn99Neutral.step
  rw [e]
  rfl
theorem st_tick (s : Sn99.State) (x : Nat) : Sn99Neutral.step s [[4, (x : Int)]] = ((Sn99.step s (.tick x)).1, ansI (Sn99.step s (.tick x)).2) := rfl
theorem st_next (s : Sn99.State) : Sn99Neutral.step s [[5]] = ((Sn99.step s .next).1, ansI (Sn99.step s .next).2) := rfl
theorem st_look (s : Sn99.State) (x : Nat) : Sn99Neutral.step s [[6, (x : Int)]] = ((Sn99.step s (.look x)).1, ansI (Sn99.step s (.look x)).2) := rfl
theorem st_heard (s : Sn99.State) (x y : Nat) : Sn99Neutral.step s [[7, (x : Int), (y : Int)]] = ((Sn99.step s (.heard x y)).1, ansI (Sn99.step s (.heard x y)).2) := rfl
theorem st_forget (s : Sn99.State) (x y : Nat) : Sn99Neutral.step s [[8, (x : Int), (y : Int)]] = ((Sn99.step s (.forget x y)).1, ansI (Sn99.step s (.forget x y)).2) := rfl
theorem st_list (s : Sn99.State) : Sn99Neutral.step s [[9]] = ((Sn99.step s .list).1, ansI (Sn99.step s .list).2) := rfl
def KCall (CL CN CR : Addr) (H : Hp) (L dL d : Addr) (cs : List Cell) (r dr a : Addr) (j : Nat) (ns rest : List Int) (x : Sn99.State × List Int) (Q : VK) : Prop :=
  ∀ (H' : Hp) (p d' : Addr) (mac' addr' now' : Int) (cs' : List Cell) (j' : Nat), LAt CL CN H' L dL d' mac' addr' now' cs' → RelS mac' addr' now' cs' x.1 → Sn99.one x.1.addr = true → H' r = some (.ins CR dr (rf a j')) →
    rest = ns.drop j' → j < j' → j' ≤ ns.length → Kp (r :: lfp L d cs) (r :: lfp L d' cs') H H' → (∀ b o, H b = some o → b ∉ r :: lfp L d cs → b ≠ p) → p ∉ r :: lfp L d' cs' → H' p = some (.lst (x.2.map V.int)) → Q (.ref p) H'
structure Beg (CL CN CR : Addr) (H H1 : Hp) (L dL d : Addr) (mac addr now : Int) (cs : List Cell) (r dr a : Addr) (j j' : Nat) (ns rest : List Int) : Prop where
  l : LAt CL CN H L dL d mac addr now cs
  r0 : H r = some (.ins CR dr (rf a j))
  r1 : H1 r = some (.ins CR dr (rf a j'))
  k : ∀ b o, H b = some o → b ≠ r → H1 b = some o
  rest : rest = ns.drop j'
  lt : j < j'
  le : j' ≤ ns.length
section
variable {CL CN CR : Addr} {H H1 : Hp} {L dL d : Addr} {mac addr now : Int} {cs : List Cell} {r dr a : Addr} {j j' : Nat} {ns rest : List Int} {x : Sn99.State × List Int} {Q : VK}
theorem Beg.l1 (B : Beg CL CN CR H H1 L dL d mac addr now cs r dr a j j' ns rest) : LAt CL CN H1 L dL d mac addr now cs :=
  B.l.stay fun b o hb e => B.k b o e fun z => rd_out B.l B.r0 (z ▸ hb)
theorem Beg.ans (B : Beg CL CN CR H H1 L dL d mac addr now cs r dr a j j' ns rest) (kQ : KCall CL CN CR H L dL d cs r dr a j ns rest x Q) {d' : Addr} {mac' addr' now' : Int} {cs' : List Cell} {ans : List Int} (R : RelS mac' addr' now' cs' x.1) (h1 : Sn99.one x.1.addr = true) (ha : x.2 = ans) :
    Ans CL CN H1 L dL d cs Q d' mac' addr' now' cs' ans := by
  intro H' p hL kp hb hpn hp
  have ro : r ∉ lfp L d cs := rd_out B.l B.r0
  have hr' := kp.keep r _ B.r1 ro
  refine kQ H' p d' mac' addr' now' cs' j' hL R h1 hr' B.rest B.lt B.le ⟨fun b o e hn => ?_, fun b hb' => ?_⟩ (fun b o e hn => ?_) (fun z => ?_) (by rw [ha]; exact hp)
  · exact kp.keep b o (B.k b o e fun z => hn (z ▸ List.mem_cons_self ..)) fun z => hn (List.mem_cons_of_mem _ z)
  · rcases List.mem_cons.mp hb' with z | z
    · exact .inl (z ▸ List.mem_cons_self ..)
    · rcases kp.fresh b z with q | q
      · exact .inl (List.mem_cons_of_mem _ q)
      · by_cases hbr : b = r
        · exact .inl (hbr ▸ List.mem_cons_self ..)
        · refine .inr ?_
          cases e : H b with
          | none => rfl
          | some o =>
            rw [B.k b o e hbr] at q
            cases q
  · exact hb b o (B.k b o e fun z => hn (z ▸ List.mem_cons_self ..)) fun z => hn (List.mem_cons_of_mem _ z)
  · rcases List.mem_cons.mp z with z | z
    · exact hb r _ B.r1 ro z.symm
    · exact hpn z
theorem Beg.on (B : Beg CL CN CR H H1 L dL d mac addr now cs r dr a j j' ns rest) {s : Sn99.State} (R0 : RelS mac addr now cs s) (h1 : Sn99.one s.addr = true) {n : Nat} {f : Sn99.State → Sn99.State × List Sn99.Want} (kQ : KCall CL CN CR H L dL d cs r dr a j ns rest ((onS s n f).1, ansI (onS s n f).2) Q)
    {R : List Cell → List Cell → List (List Int) → Prop} (hR : ∀ cs1 cs' new t, R cs1 cs' new → (cs1.map (·.n.addr)).Nodup → (∀ x ∈ cs1, x.n.wait.length ≤ 4) → RelS mac addr (n : Int) cs1 t → RelS mac addr (n : Int) cs' (f t).1 ∧ (f t).2.map tI = new) :
    OnNow CL CN H1 L dL d mac addr now cs Q (n : Int) R := by
  refine ⟨fun h => ?_, fun h qs cs' new g hr => ?_⟩
  · have e := on_ref R0 n h f
    refine B.ans kQ ?_ ?_ ?_
    · rw [e]
      exact R0
    · rw [e]
      exact h1
    · rw [e]
      exact ans_says _
  · obtain ⟨q1, q2⟩ := on_ok R0 B.l.nd B.l.len n h g (f := f) (new := new) (cs' := cs') fun t ht => hR _ cs' new t hr (fold_nd qs cs B.l.nd) (g.qwl B.l.wl) ht
    refine B.ans kQ q1 ?_ q2
    have e1 := q1.addr
    have e2 := R0.addr
    have e3 : (onS s n f).1.addr = s.addr := by omega
    show Sn99.one (onS s n f).1.addr = true
    rw [e3]
    exact h1
end
theorem RC.addrs {cs : List Cell} {os : List Sn99.One} (r : RC cs os) : cs.map (fun c => c.n.addr) = toI (os.map fun o => o.addr) := by
  induction r with
  | nil => rfl
  | @cons x y l m rx r ih =>
    show x.n.addr :: l.map (fun c => c.n.addr) = (y.addr : Int) :: toI (m.map fun o => o.addr)
    rw [ih, rx.addr]
end Nb
set_option Elab.async false
set_option linter.all false
set_option maxRecDepth 100000
set_option maxHeartbeats 4000000
namespace Nb
open PySem PySem.Spec PyProof.Rows L2
section
variable {CL CN CR : Addr} {H H1 : Hp} {L dL d : Addr} {mac addr now : Int} {cs : List Cell} {r dr a : Addr} {j j' : Nat} {ns rest : List Int} {Q : VK} {s : Sn99.State}
theorem step_begin (s : Sn99.State) (x y : Nat) : Sn99.step s (.begin_ x y) = if Sn99.single x = false ∨ Sn99.one y = false then (s, Sn99.says (-1)) else (⟨x, y, 0, []⟩, Sn99.says 0) := rfl
theorem Beg.cBegin (B : Beg CL CN CR H H1 L dL d mac addr now cs r dr a j j' ns rest) (R : RelS mac addr now cs s) (h1 : Sn99.one s.addr = true) (x y : Nat) (kQ : KCall CL CN CR H L dL d cs r dr a j ns rest (Sn99Neutral.step s [[1, (x : Int), (y : Int)]]) Q) : spBegin CL CN [.ref L, .int x, .int y] H1 Q E0 := by
  rw [st_begin, step_begin] at kQ
  refine ⟨L, dL, d, mac, addr, now, cs, x, y, rfl, B.l1, fun h => ?_, fun h d' => ?_⟩
  · rw [mayLink_single, mayAddr_one] at h
    have hc : Sn99.single x = false ∨ Sn99.one y = false := by
      cases h2 : Sn99.single x with
      | false => exact .inl rfl
      | true => rw [h2, Bool.true_and] at h; exact .inr h
    rw [if_pos hc] at kQ
    exact B.ans kQ R h1 rfl
  · rw [mayLink_single, mayAddr_one, Bool.and_eq_true] at h
    have hc : ¬ (Sn99.single x = false ∨ Sn99.one y = false) := by
      rw [h.1, h.2]
      decide
    rw [if_neg hc] at kQ
    exact B.ans kQ (x := ((⟨x, y, 0, []⟩ : Sn99.State), ansI (Sn99.says 0))) ⟨rfl, rfl, rfl, .nil⟩ h.2 rfl
theorem Beg.cTick (B : Beg CL CN CR H H1 L dL d mac addr now cs r dr a j j' ns rest) (R : RelS mac addr now cs s) (h1 : Sn99.one s.addr = true) (x : Nat) (kQ : KCall CL CN CR H L dL d cs r dr a j ns rest (Sn99Neutral.step s [[4, (x : Int)]]) Q) : spTick CL CN [.ref L, .int x] H1 Q E0 := by
  rw [st_tick, step_tick] at kQ
  refine ⟨L, dL, d, mac, addr, now, cs, x, rfl, B.l1, B.on R h1 kQ ?_⟩
  rintro cs1 cs' new t ⟨rfl, rfl⟩ _ _ q
  exact ⟨q, rfl⟩
theorem Beg.cSend (B : Beg CL CN CR H H1 L dL d mac addr now cs r dr a j j' ns rest) (R : RelS mac addr now cs s) (h1 : Sn99.one s.addr = true) (x y z : Nat) (kQ : KCall CL CN CR H L dL d cs r dr a j ns rest (Sn99Neutral.step s [[2, (x : Int), (y : Int), (z : Int)]]) Q) : spSend CL CN [.ref L, .int x, .int y, .int z] H1 Q E0 := by
  rw [st_send, step_send] at kQ
  have hm := maySend_iff R.addr h1 y
  have hall : Sn99.ALL = 4294967295 := by decide
  refine ⟨L, dL, d, mac, addr, now, cs, x, y, z, rfl, B.l1, fun h => ?_, fun h h' => ?_⟩
  · have hc : (Sn99.one y || y == Sn99.ALL) = false ∨ y = s.addr ∨ Sn99.ALL < z := by
      rcases h with h | h
      · have q : (Sn99.one y || y == Sn99.ALL) = false ∨ y = s.addr := Decidable.of_not_not fun q => by
          rw [hm.mpr q] at h
          cases h
        exact q.imp id .inl
      · exact .inr (.inr (by omega))
    rw [if_pos hc] at kQ
    exact B.ans kQ R h1 rfl
  · have q := hm.mp h
    have hc : ¬ ((Sn99.one y || y == Sn99.ALL) = false ∨ y = s.addr ∨ Sn99.ALL < z) := fun w => by
      rcases w with w | w | w
      · exact q (.inl w)
      · exact q (.inr w)
      · omega
    rw [if_neg hc] at kQ
    refine B.on R h1 kQ ?_
    intro cs1 cs' new t hr nd wl q
    exact hand_ok q nd wl hr
theorem Beg.cCame {K : PySem.W.Frag} {p : Addr} (B : Beg CL CN CR H H1 L dL d mac addr now cs r dr a j j' ns rest) (R : RelS mac addr now cs s) (h1 : Sn99.one s.addr = true) (x y : Nat) (b : List Nat) (hb : ∀ x ∈ b, x < 256) (hp : SqL K H1 p ((toI b).map V.int)) (kQ : KCall CL CN CR H L dL d cs r dr a j ns rest (Sn99Neutral.step s [[3, (x : Int), (y : Int)], toI b]) Q) :
    spCame K CL CN [.ref L, .int x, .int y, .ref p] H1 Q E0 := by
  rw [st_came, step_came] at kQ
  have hrd := readI_read b hb
  refine ⟨L, dL, d, mac, addr, now, cs, x, y, p, toI b, rfl, B.l1, hp, fun h => ?_, fun h hn => ?_, fun h w l a' b' hs => ?_⟩
  · rw [if_pos (show 2 ^ 48 ≤ y by omega)] at kQ
    exact B.ans kQ R h1 rfl
  · rw [if_neg (show ¬ 2 ^ 48 ≤ y by omega)] at kQ
    have e : Sn99.read b = none := by
      cases e : Sn99.read b with
      | none => rfl
      | some m =>
        rw [hn, e] at hrd
        cases hrd
    rw [e] at kQ
    exact B.ans kQ R h1 rfl
  · rw [if_neg (show ¬ 2 ^ 48 ≤ y by omega)] at kQ
    cases e : Sn99.read b with
    | none =>
      rw [hs, e] at hrd
      cases hrd
    | some m =>
      rw [hs, e] at hrd
      rw [e] at kQ
      obtain ⟨e1, q1⟩ := Prod.mk.inj (Option.some.inj hrd)
      obtain ⟨e2, q2⟩ := Prod.mk.inj q1
      obtain ⟨e3, e4⟩ := Prod.mk.inj q2
      subst e1 e2 e3 e4
      refine B.on R h1 kQ ?_
      intro cs1 cs' new t hr nd wl q
      exact came_ok q nd hr
theorem step_next (s : Sn99.State) : Sn99.step s .next = (s, match s.next with
    | some o => ⟨0, [], [o.due]⟩
    | none => Sn99.says (-2)) := rfl
theorem Beg.cNext (B : Beg CL CN CR H H1 L dL d mac addr now cs r dr a j j' ns rest) (R : RelS mac addr now cs s) (h1 : Sn99.one s.addr = true) (kQ : KCall CL CN CR H L dL d cs r dr a j ns rest (Sn99Neutral.step s [[5]]) Q) : spNext CL CN [.ref L] H1 Q E0 := by
  rw [st_next, step_next] at kQ
  refine ⟨L, dL, d, mac, addr, now, cs, rfl, B.l1, fun h H' p S h0 hp => ?_, fun g hg hd hmin H' p S h0 hp => ?_⟩
  · rw [next_none R h] at kQ
    exact ans_new B.l1 (B.ans kQ R h1 rfl) H' S p h0 hp
  · obtain ⟨o, e, ed⟩ := next_some R hg hd hmin
    rw [e] at kQ
    rw [ed] at hp
    exact ans_new B.l1 (B.ans (ans := [0, (o.due : Int)]) kQ R h1 rfl) H' S p h0 hp
theorem step_look (s : Sn99.State) (x : Nat) : Sn99.step s (.look x) = (s, match s.find x with
    | none => Sn99.says (-2)
    | some o => (match o.stand with
      | .asked n l => ⟨1, [], [n, l.length, o.due]⟩
      | .known => ⟨2, [], [o.mac, o.due]⟩
      | .old => ⟨3, [], [o.mac]⟩
      | .again n => ⟨4, [], [o.mac, n, o.due]⟩)) := rfl
theorem Beg.cLook (B : Beg CL CN CR H H1 L dL d mac addr now cs r dr a j j' ns rest) (R : RelS mac addr now cs s) (h1 : Sn99.one s.addr = true) (x : Nat) (kQ : KCall CL CN CR H L dL d cs r dr a j ns rest (Sn99Neutral.step s [[6, (x : Int)]]) Q) : spLook CL CN [.ref L, .int x] H1 Q E0 := by
  rw [st_look, step_look] at kQ
  refine ⟨L, dL, d, mac, addr, now, cs, x, rfl, B.l1, fun h => ?_, fun c hc ea => ?_⟩
  · rw [show s.find x = none from R.rc.find_none h] at kQ
    exact B.ans kQ R h1 rfl
  · obtain ⟨o, hf, rn, eo⟩ := R.rc.find_some B.l.nd hc ea
    rw [show s.find x = some o from hf] at kQ
    refine B.ans kQ R h1 ?_
    rw [look_ok rn]
    dsimp only
    cases e : o.stand with
    | asked k l => rfl
    | known => rfl
    | old => rfl
    | again k => rfl
theorem Beg.cHeard (B : Beg CL CN CR H H1 L dL d mac addr now cs r dr a j j' ns rest) (R : RelS mac addr now cs s) (h1 : Sn99.one s.addr = true) (x y : Nat) (kQ : KCall CL CN CR H L dL d cs r dr a j ns rest (Sn99Neutral.step s [[7, (x : Int), (y : Int)]]) Q) : spHeard CL CN [.ref L, .int x, .int y] H1 Q E0 := by
  rw [st_heard, step_heard] at kQ
  refine ⟨L, dL, d, mac, addr, now, cs, x, y, rfl, B.l1, B.on R h1 kQ ?_⟩
  rintro cs1 cs' new t ⟨rfl, ⟨c, hc, ea, hst, rfl⟩ | ⟨hall, rfl⟩⟩ nd wl q
  · obtain ⟨o, hf, rn, eo⟩ := q.rc.find_some nd hc ea
    rw [show t.find y = some o from hf]
    have na : ¬ o.stand.isAsked = true := fun z => hst (rn.asked.mpr z)
    dsimp only
    rw [if_neg na]
    exact ⟨heard_ok q rn hst, rfl⟩
  · by_cases hin : ∃ c ∈ cs', c.n.addr = (y : Int)
    · obtain ⟨c, hc, ea⟩ := hin
      obtain ⟨o, hf, rn, eo⟩ := q.rc.find_some nd hc ea
      rw [show t.find y = some o from hf]
      dsimp only
      rw [if_pos (rn.asked.mp (hall c hc ea))]
      exact ⟨q, rfl⟩
    · rw [show t.find y = none from q.rc.find_none fun c hc e => hin ⟨c, hc, e⟩]
      exact ⟨q, rfl⟩
theorem Beg.cForget (B : Beg CL CN CR H H1 L dL d mac addr now cs r dr a j j' ns rest) (R : RelS mac addr now cs s) (h1 : Sn99.one s.addr = true) (x y : Nat) (kQ : KCall CL CN CR H L dL d cs r dr a j ns rest (Sn99Neutral.step s [[8, (x : Int), (y : Int)]]) Q) : spForget CL CN [.ref L, .int x, .int y] H1 Q E0 := by
  rw [st_forget, step_forget] at kQ
  refine ⟨L, dL, d, mac, addr, now, cs, x, y, rfl, B.l1, B.on R h1 kQ ?_⟩
  rintro cs1 cs' new t (⟨c, hc, ea, rfl, rfl⟩ | ⟨hno, rfl, rfl⟩) nd wl q
  · obtain ⟨o, hf, rn, eo⟩ := q.rc.find_some nd hc ea
    rw [show t.find y = some o from hf]
    have ey : o.addr = y := by
      have := rn.addr
      omega
    exact ⟨⟨q.mac, q.addr, q.now, q.rc.drop y⟩, (lose_ok rn y 4 ey).symm⟩
  · rw [show t.find y = none from q.rc.find_none hno]
    exact ⟨q, rfl⟩
theorem step_list (s : Sn99.State) : Sn99.step s .list = (s, ⟨s.ones.length, [], s.ones.map fun o => o.addr⟩) := rfl
theorem Beg.cList (B : Beg CL CN CR H H1 L dL d mac addr now cs r dr a j j' ns rest) (R : RelS mac addr now cs s) (h1 : Sn99.one s.addr = true) (kQ : KCall CL CN CR H L dL d cs r dr a j ns rest (Sn99Neutral.step s [[9]]) Q) : spList CL CN [.ref L] H1 Q E0 := by
  rw [st_list, step_list] at kQ
  refine ⟨L, dL, d, mac, addr, now, cs, rfl, B.l1, B.ans kQ R h1 ?_⟩
  rw [R.rc.addrs, R.rc.len]
  rfl
end
end Nb
set_option Elab.async false
set_option linter.all false
set_option maxRecDepth 100000
set_option maxHeartbeats 4000000
namespace Nb
open PySem PySem.Spec PyProof.Rows L2
structure TD (mg : Str → Option Value) : Prop where
  begin_ : Num mg "BEGIN" 1
  send : Num mg "SEND" 2
  came : Num mg "CAME" 3
  tick : Num mg "TICK" 4
  next : Num mg "NEXT" 5
  look : Num mg "LOOK" 6
  heard : Num mg "HEARD" 7
  forget : Num mg "FORGET" 8
  list : Num mg "LIST" 9
theorem ArgL.updr {K : PySem.W.Frag} {H : Hp} {a r C dx : Addr} {f : List (Str × V)} {xs : List V} {o : HO} (h : ArgL K H a xs) (h0 : H r = some (.ins C dx f)) : ArgL K (upd H r o) a xs := h.keep fun o' e => (upd_ne (ne_of e h0 (by intro z; cases z))).trans e
def spA2 (K : PySem.W.Frag) (CL CR : Addr) (sp : Sp) : Sp := fun vs H Q _ => ∃ (L dL : Addr) (d : Addr) (mac addr now : Int) (r dr a : Addr) (j : Nat) (ns : List Int) (x y : Int), vs = [.ref L, .ref r] ∧ H r = some (.ins CR dr (rf a j)) ∧ ArgL K H a (ns.map V.int) ∧ ns[j]? = some x ∧ ns[j + 1]? = some y ∧
  upd H r (.ins CR dr (rf a ((j + 1 + 1 : Nat) : Int))) L = some (.ins CL dL (lf mac addr now d)) ∧ sp [.ref L, .int x, .int y] (upd H r (.ins CR dr (rf a ((j + 1 + 1 : Nat) : Int)))) Q E0
def spA3 (K : PySem.W.Frag) (CL CR : Addr) (sp : Sp) : Sp := fun vs H Q _ => ∃ (L dL : Addr) (d : Addr) (mac addr now : Int) (r dr a : Addr) (j : Nat) (ns : List Int) (x y z : Int), vs = [.ref L, .ref r] ∧ H r = some (.ins CR dr (rf a j)) ∧ ArgL K H a (ns.map V.int) ∧ ns[j]? = some x ∧ ns[j + 1]? = some y ∧ ns[j + 1 + 1]? = some z ∧
  upd H r (.ins CR dr (rf a ((j + 1 + 1 + 1 : Nat) : Int))) L = some (.ins CL dL (lf mac addr now d)) ∧ sp [.ref L, .int x, .int y, .int z] (upd H r (.ins CR dr (rf a ((j + 1 + 1 + 1 : Nat) : Int)))) Q E0
def spAC (K : PySem.W.Frag) (CL CR : Addr) (sp : Sp) : Sp := fun vs H Q _ => ∃ (L dL : Addr) (d : Addr) (mac addr now : Int) (r dr a : Addr) (j n : Nat) (ns : List Int) (x y : Int), vs = [.ref L, .ref r] ∧ H r = some (.ins CR dr (rf a j)) ∧ ArgL K H a (ns.map V.int) ∧ ns[j]? = some x ∧ ns[j + 1]? = some y ∧ ns[j + 1 + 1]? = some (n : Int) ∧ j + 1 + 1 + 1 + n ≤ ns.length ∧
  ∀ p, upd H r (.ins CR dr (rf a ((j + 1 + 1 : Nat) : Int))) p = none → upd (upd (upd H r (.ins CR dr (rf a ((j + 1 + 1 : Nat) : Int)))) p (.lst (((ns.drop (j + 1 + 1 + 1)).take n).map V.int))) r (.ins CR dr (rf a ((j + 1 + 1 + 1 + n : Nat) : Int))) L = some (.ins CL dL (lf mac addr now d)) ∧
    sp [.ref L, .int x, .int y, .ref p] (upd (upd (upd H r (.ins CR dr (rf a ((j + 1 + 1 : Nat) : Int)))) p (.lst (((ns.drop (j + 1 + 1 + 1)).take n).map V.int))) r (.ins CR dr (rf a ((j + 1 + 1 + 1 + n : Nat) : Int)))) Q E0
section
variable {P : Program} {w : World} {K : PySem.W.Frag} {mg : Str → Option Value} {base : Heap} {CL CN CR : Addr}
theorem scaBegin : FnScope ["link", "reader", "link_address", "address"] ["link", "reader"] (defScope (top 62)) := ⟨rfl, rfl, rfl, by decide +kernel, rfl, by decide +kernel, by decide +kernel⟩
theorem ok_aBegin {f : Addr} {fd : FuncData} (F : Fun K "answer_begin" "answer_begin" (top 62) f fd) (T : TL K mg CL) (R : TR K mg CR) (oT : OkM P w K mg base 1 CR "take_number" ["self"] (spTake K CR)) (oB : OkM P w K mg base 2 CL "begin" ["self", "link_address", "address"] (spBegin CL CN)) :
    FnOk P w K mg base CX0 3 f fd ["link", "reader"] (spA2 K CL CR (spBegin CL CN)) := by
  refine F.ok scaBegin (fun vs H Q E h => ?_) (fun cdv A outer s H vs Q E hr h => ?_)
  · obtain ⟨L, dL, d, mac, addr, now, r, dr, a, j, ns, x, y, rfl, _⟩ := h
    rfl
  · obtain ⟨L, dL, d, mac, addr, now, r, dr, a, j, ns, x, y, rfl, h0, hA, hx, hy, hL, k⟩ := h
    have hr1 : Room 1 _ := hr.mono (by decide)
    refine ⟨_, pss_cons (ps_set (i := 2) scaBegin.nd rfl (Or.inl rfl) (pe_methO0 oT R.cl hr1 (pv 1))) (pss_cons (ps_set (i := 3) scaBegin.nd rfl (Or.inl rfl) (pe_methO0 oT R.cl hr1 (pv 1)))
      (pss_one (ps_ret (pe_methO oB T.cl hr (pv 0) (pa_cons (pv 2) (pa_cons (pv 3) pa_nil)))))), ?_⟩
    refine ⟨_, rfl, r, dr, _, rfl, h0, rfl, r, dr, a, j, ns, x, rfl, h0, hA.sq, hx, ?_⟩
    refine ⟨_, rfl, r, dr, _, rfl, upd_same, rfl, r, dr, a, j + 1, ns, y, rfl, upd_same, (hA.updr h0).sq, hy, ?_⟩
    rw [upd_upd]
    exact ⟨_, rfl, L, dL, _, rfl, hL, rfl, _, rfl, _, rfl, k⟩
theorem scaHeard : FnScope ["link", "reader", "now", "address"] ["link", "reader"] (defScope (top 65)) := ⟨rfl, rfl, rfl, by decide +kernel, rfl, by decide +kernel, by decide +kernel⟩
theorem ok_aHeard {f : Addr} {fd : FuncData} (F : Fun K "answer_heard" "answer_heard" (top 65) f fd) (T : TL K mg CL) (R : TR K mg CR) (oT : OkM P w K mg base 1 CR "take_number" ["self"] (spTake K CR)) (oB : OkM P w K mg base 7 CL "heard" ["self", "now", "address"] (spHeard CL CN)) :
    FnOk P w K mg base CX0 8 f fd ["link", "reader"] (spA2 K CL CR (spHeard CL CN)) := by
  refine F.ok scaHeard (fun vs H Q E h => ?_) (fun cdv A outer s H vs Q E hr h => ?_)
  · obtain ⟨L, dL, d, mac, addr, now, r, dr, a, j, ns, x, y, rfl, _⟩ := h
    rfl
  · obtain ⟨L, dL, d, mac, addr, now, r, dr, a, j, ns, x, y, rfl, h0, hA, hx, hy, hL, k⟩ := h
    have hr1 : Room 1 _ := hr.mono (by decide)
    refine ⟨_, pss_cons (ps_set (i := 2) scaHeard.nd rfl (Or.inl rfl) (pe_methO0 oT R.cl hr1 (pv 1))) (pss_cons (ps_set (i := 3) scaHeard.nd rfl (Or.inl rfl) (pe_methO0 oT R.cl hr1 (pv 1)))
      (pss_one (ps_ret (pe_methO oB T.cl hr (pv 0) (pa_cons (pv 2) (pa_cons (pv 3) pa_nil)))))), ?_⟩
    refine ⟨_, rfl, r, dr, _, rfl, h0, rfl, r, dr, a, j, ns, x, rfl, h0, hA.sq, hx, ?_⟩
    refine ⟨_, rfl, r, dr, _, rfl, upd_same, rfl, r, dr, a, j + 1, ns, y, rfl, upd_same, (hA.updr h0).sq, hy, ?_⟩
    rw [upd_upd]
    exact ⟨_, rfl, L, dL, _, rfl, hL, rfl, _, rfl, _, rfl, k⟩
theorem scaForget : FnScope ["link", "reader", "now", "address"] ["link", "reader"] (defScope (top 66)) := ⟨rfl, rfl, rfl, by decide +kernel, rfl, by decide +kernel, by decide +kernel⟩
theorem ok_aForget {f : Addr} {fd : FuncData} (F : Fun K "answer_forget" "answer_forget" (top 66) f fd) (T : TL K mg CL) (R : TR K mg CR) (oT : OkM P w K mg base 1 CR "take_number" ["self"] (spTake K CR)) (oB : OkM P w K mg base 7 CL "forget" ["self", "now", "address"] (spForget CL CN)) :
    FnOk P w K mg base CX0 8 f fd ["link", "reader"] (spA2 K CL CR (spForget CL CN)) := by
  refine F.ok scaForget (fun vs H Q E h => ?_) (fun cdv A outer s H vs Q E hr h => ?_)
  · obtain ⟨L, dL, d, mac, addr, now, r, dr, a, j, ns, x, y, rfl, _⟩ := h
    rfl
  · obtain ⟨L, dL, d, mac, addr, now, r, dr, a, j, ns, x, y, rfl, h0, hA, hx, hy, hL, k⟩ := h
    have hr1 : Room 1 _ := hr.mono (by decide)
    refine ⟨_, pss_cons (ps_set (i := 2) scaForget.nd rfl (Or.inl rfl) (pe_methO0 oT R.cl hr1 (pv 1))) (pss_cons (ps_set (i := 3) scaForget.nd rfl (Or.inl rfl) (pe_methO0 oT R.cl hr1 (pv 1)))
      (pss_one (ps_ret (pe_methO oB T.cl hr (pv 0) (pa_cons (pv 2) (pa_cons (pv 3) pa_nil)))))), ?_⟩
    refine ⟨_, rfl, r, dr, _, rfl, h0, rfl, r, dr, a, j, ns, x, rfl, h0, hA.sq, hx, ?_⟩
    refine ⟨_, rfl, r, dr, _, rfl, upd_same, rfl, r, dr, a, j + 1, ns, y, rfl, upd_same, (hA.updr h0).sq, hy, ?_⟩
    rw [upd_upd]
    exact ⟨_, rfl, L, dL, _, rfl, hL, rfl, _, rfl, _, rfl, k⟩
theorem scASend : FnScope ["link", "reader", "now", "to", "packet"] ["link", "reader"] (defScope (top 63)) := ⟨rfl, rfl, rfl, by decide +kernel, rfl, by decide +kernel, by decide +kernel⟩
theorem ok_aSend {f : Addr} {fd : FuncData} (F : Fun K "answer_send" "answer_send" (top 63) f fd) (T : TL K mg CL) (R : TR K mg CR) (oT : OkM P w K mg base 1 CR "take_number" ["self"] (spTake K CR)) (oB : OkM P w K mg base 7 CL "send" ["self", "now", "to", "packet"] (spSend CL CN)) :
    FnOk P w K mg base CX0 8 f fd ["link", "reader"] (spA3 K CL CR (spSend CL CN)) := by
  refine F.ok scASend (fun vs H Q E h => ?_) (fun cdv A outer s H vs Q E hr h => ?_)
  · obtain ⟨L, dL, d, mac, addr, now, r, dr, a, j, ns, x, y, z, rfl, _⟩ := h
    rfl
  · obtain ⟨L, dL, d, mac, addr, now, r, dr, a, j, ns, x, y, z, rfl, h0, hA, hx, hy, hz, hL, k⟩ := h
    have hr1 : Room 1 _ := hr.mono (by decide)
    refine ⟨_, pss_cons (ps_set (i := 2) scASend.nd rfl (Or.inl rfl) (pe_methO0 oT R.cl hr1 (pv 1))) (pss_cons (ps_set (i := 3) scASend.nd rfl (Or.inl rfl) (pe_methO0 oT R.cl hr1 (pv 1)))
      (pss_cons (ps_set (i := 4) scASend.nd rfl (Or.inl rfl) (pe_methO0 oT R.cl hr1 (pv 1)))
      (pss_one (ps_ret (pe_methO oB T.cl hr (pv 0) (pa_cons (pv 2) (pa_cons (pv 3) (pa_cons (pv 4) pa_nil)))))))), ?_⟩
    refine ⟨_, rfl, r, dr, _, rfl, h0, rfl, r, dr, a, j, ns, x, rfl, h0, hA.sq, hx, ?_⟩
    refine ⟨_, rfl, r, dr, _, rfl, upd_same, rfl, r, dr, a, j + 1, ns, y, rfl, upd_same, (hA.updr h0).sq, hy, ?_⟩
    rw [upd_upd]
    refine ⟨_, rfl, r, dr, _, rfl, upd_same, rfl, r, dr, a, j + 1 + 1, ns, z, rfl, upd_same, (hA.updr h0).sq, hz, ?_⟩
    rw [upd_upd]
    exact ⟨_, rfl, L, dL, _, rfl, hL, rfl, _, rfl, _, rfl, _, rfl, k⟩
theorem scACame : FnScope ["link", "reader", "now", "sender", "row"] ["link", "reader"] (defScope (top 64)) := ⟨rfl, rfl, rfl, by decide +kernel, rfl, by decide +kernel, by decide +kernel⟩
theorem ok_aCame {f : Addr} {fd : FuncData} (F : Fun K "answer_came" "answer_came" (top 64) f fd) (T : TL K mg CL) (R : TR K mg CR) (oT : OkM P w K mg base 1 CR "take_number" ["self"] (spTake K CR)) (oW : OkM P w K mg base 2 CR "take_row" ["self"] (spTakeRow K CR)) (oB : OkM P w K mg base 7 CL "came" ["self", "now", "sender", "row"] (spCame K CL CN)) :
    FnOk P w K mg base CX0 8 f fd ["link", "reader"] (spAC K CL CR (spCame K CL CN)) := by
  refine F.ok scACame (fun vs H Q E h => ?_) (fun cdv A outer s H vs Q E hr h => ?_)
  · obtain ⟨L, dL, d, mac, addr, now, r, dr, a, j, n, ns, x, y, rfl, _⟩ := h
    rfl
  · obtain ⟨L, dL, d, mac, addr, now, r, dr, a, j, n, ns, x, y, rfl, h0, hA, hx, hy, hz, hlen, k⟩ := h
    have hr1 : Room 1 _ := hr.mono (by decide)
    refine ⟨_, pss_cons (ps_set (i := 2) scACame.nd rfl (Or.inl rfl) (pe_methO0 oT R.cl hr1 (pv 1))) (pss_cons (ps_set (i := 3) scACame.nd rfl (Or.inl rfl) (pe_methO0 oT R.cl hr1 (pv 1)))
      (pss_cons (ps_set (i := 4) scACame.nd rfl (Or.inl rfl) (pe_methO0 oW R.cl (hr.mono (by decide)) (pv 1)))
      (pss_one (ps_ret (pe_methO oB T.cl hr (pv 0) (pa_cons (pv 2) (pa_cons (pv 3) (pa_cons (pv 4) pa_nil)))))))), ?_⟩
    refine ⟨_, rfl, r, dr, _, rfl, h0, rfl, r, dr, a, j, ns, x, rfl, h0, hA.sq, hx, ?_⟩
    refine ⟨_, rfl, r, dr, _, rfl, upd_same, rfl, r, dr, a, j + 1, ns, y, rfl, upd_same, (hA.updr h0).sq, hy, ?_⟩
    rw [upd_upd]
    refine ⟨_, rfl, r, dr, _, rfl, upd_same, rfl, r, dr, a, j + 1 + 1, n, ns, rfl, upd_same, hA.updr h0, hz, hlen, fun p hp => ?_⟩
    obtain ⟨hL, kk⟩ := k p hp
    exact ⟨_, rfl, L, dL, _, rfl, hL, rfl, _, rfl, _, rfl, _, rfl, kk⟩
theorem drop_cons {ns l : List Int} {j : Nat} {z : Int} (h : ns.drop j = z :: l) : ns[j]? = some z ∧ ns.drop (j + 1) = l ∧ j < ns.length := by
  have hj : j < ns.length := Decidable.of_not_not fun q => by
    rw [List.drop_eq_nil_of_le (by omega)] at h
    cases h
  rw [List.drop_eq_getElem_cons hj] at h
  obtain ⟨e1, e2⟩ := List.cons.inj h
  exact ⟨by rw [List.getElem?_eq_getElem hj, e1], e2, hj⟩
theorem scCall : FnScope ["link", "reader", "number"] ["link", "reader"] (defScope (top 67)) := ⟨rfl, rfl, rfl, by decide +kernel, rfl, by decide +kernel, by decide +kernel⟩
theorem ok_call {f : Addr} {fd : FuncData} (F : Fun K "answer_call" "answer_call" (top 67) f fd) (T : TL K mg CL) (R : TR K mg CR) (D : TD mg) (oT : OkM P w K mg base 1 CR "take_number" ["self"] (spTake K CR))
    (o1 : Ok P w K mg base 3 "answer_begin" ["link", "reader"] (spA2 K CL CR (spBegin CL CN))) (o2 : Ok P w K mg base 8 "answer_send" ["link", "reader"] (spA3 K CL CR (spSend CL CN))) (o3 : Ok P w K mg base 8 "answer_came" ["link", "reader"] (spAC K CL CR (spCame K CL CN)))
    (o4 : OkM P w K mg base 7 CL "tick" ["self", "now"] (spTick CL CN)) (o5 : OkM P w K mg base 2 CL "next_due" ["self"] (spNext CL CN)) (o6 : OkM P w K mg base 2 CL "look" ["self", "address"] (spLook CL CN))
    (o7 : Ok P w K mg base 8 "answer_heard" ["link", "reader"] (spA2 K CL CR (spHeard CL CN))) (o8 : Ok P w K mg base 8 "answer_forget" ["link", "reader"] (spA2 K CL CR (spForget CL CN))) (o9 : OkM P w K mg base 1 CL "list_addresses" ["self"] (spList CL CN)) :
    FnOk P w K mg base CX0 9 f fd ["link", "reader"] (spCall K CL CN CR) := by
  refine F.ok scCall (fun vs H Q E h => ?_) (fun cdv A outer s H vs Q E hr h => ?_)
  · obtain ⟨L, dL, d, mac, addr, now, cs, s, r, dr, a, j, ns, c, rest, rfl, _⟩ := h
    rfl
  · obtain ⟨L, dL, d, mac, addr, now, cs, s, r, dr, a, j, ns, c, rest, rfl, A0, R0, h1, h0, hA, hpos, hcall, hask, kQ'⟩ := h
    have kQ : KCall CL CN CR H L dL d cs r dr a j ns rest (Sn99Neutral.step s c) Q := kQ'
    clear kQ'
    have hr1 : Room 1 _ := hr.mono (by decide)
    have hr2 : Room 2 _ := hr.mono (by decide)
    have hr7 : Room 7 _ := hr.mono (by decide)
    refine ⟨_, pss_cons (ps_set (i := 2) scCall.nd rfl (Or.inl rfl) (pe_methO0 oT R.cl hr1 (pv 1)))
      (pss_cons (ps_if (pt_cmpR op_eq (pv 2) (pe_num rfl D.begin_) (nomark _)) (pss_one (ps_ret (pe_callO o1 (hr.mono (by decide)) rfl (pa_cons (pv 0) (pa_cons (pv 1) pa_nil))))) pss_nil)
      (pss_cons (ps_if (pt_cmpR op_eq (pv 2) (pe_num rfl D.send) (nomark _)) (pss_one (ps_ret (pe_callO o2 hr rfl (pa_cons (pv 0) (pa_cons (pv 1) pa_nil))))) pss_nil)
      (pss_cons (ps_if (pt_cmpR op_eq (pv 2) (pe_num rfl D.came) (nomark _)) (pss_one (ps_ret (pe_callO o3 hr rfl (pa_cons (pv 0) (pa_cons (pv 1) pa_nil))))) pss_nil)
      (pss_cons (ps_if (pt_cmpR op_eq (pv 2) (pe_num rfl D.tick) (nomark _)) (pss_one (ps_ret (pe_methO o4 T.cl hr7 (pv 0) (pa_cons (pe_methO0 oT R.cl hr1 (pv 1)) pa_nil)))) pss_nil)
      (pss_cons (ps_if (pt_cmpR op_eq (pv 2) (pe_num rfl D.next) (nomark _)) (pss_one (ps_ret (pe_methO0 o5 T.cl hr2 (pv 0)))) pss_nil)
      (pss_cons (ps_if (pt_cmpR op_eq (pv 2) (pe_num rfl D.look) (nomark _)) (pss_one (ps_ret (pe_methO o6 T.cl hr2 (pv 0) (pa_cons (pe_methO0 oT R.cl hr1 (pv 1)) pa_nil)))) pss_nil)
      (pss_cons (ps_if (pt_cmpR op_eq (pv 2) (pe_num rfl D.heard) (nomark _)) (pss_one (ps_ret (pe_callO o7 hr rfl (pa_cons (pv 0) (pa_cons (pv 1) pa_nil))))) pss_nil)
      (pss_cons (ps_if (pt_cmpR op_eq (pv 2) (pe_num rfl D.forget) (nomark _)) (pss_one (ps_ret (pe_callO o8 hr rfl (pa_cons (pv 0) (pa_cons (pv 1) pa_nil))))) pss_nil)
      (pss_cons (ps_if (pt_cmpR op_eq (pv 2) (pe_num rfl D.list) (nomark _)) (pss_one (ps_ret (pe_methO0 o9 T.cl hr1 (pv 0)))) pss_nil)
      (pss_one ps_never)))))))))), ?_⟩
    have hpos' : ∀ z ∈ ns.drop j, 0 ≤ z := fun z hz => hpos z (List.mem_of_mem_drop hz)
    have ci := call_is hcall hask hpos'
    clear hcall hask hpos'
    generalize hl : ns.drop j = l at ci
    have ro : r ∉ lfp L d cs := rd_out A0 h0
    have nLr : L ≠ r := fun z => ro (z ▸ mem_lfp.mpr (.inl rfl))
    cases ci with
    | begin_ x y rest =>
      obtain ⟨g0, hl0, lt0⟩ := drop_cons hl
      refine ⟨_, rfl, r, dr, _, rfl, h0, rfl, r, dr, a, j, ns, _, rfl, h0, hA.sq, g0, ?_⟩
      refine ⟨_, rfl, rfl, _, rfl, ?_⟩
      rw [deq_int, decide_eq_true (show (1 : Int) = 1 from rfl)]
      try dsimp only
      rw [if_pos rfl]
      obtain ⟨g1, hl1, lt1⟩ := drop_cons hl0
      obtain ⟨g2, hl2, lt2⟩ := drop_cons hl1
      refine ⟨_, rfl, _, rfl, L, dL, d, mac, addr, now, r, dr, a, j + 1, ns, _, _, rfl, upd_same, hA.updr h0, g1, g2, (upd_ne nLr).trans ((upd_ne nLr).trans A0.obj), ?_⟩
      have B : Beg CL CN CR H (upd (upd H r (.ins CR dr (rf a ((j + 1 : Nat) : Int)))) r (.ins CR dr (rf a ((j + 1 + 1 + 1 : Nat) : Int)))) L dL d mac addr now cs r dr a j (j + 1 + 1 + 1) ns rest := ⟨A0, h0, upd_same, fun b o e hb => by rw [upd_ne hb, upd_ne hb]; exact e, hl2.symm, by omega, by omega⟩
      exact B.cBegin R0 h1 x y kQ
    | send x y z rest =>
      obtain ⟨g0, hl0, lt0⟩ := drop_cons hl
      refine ⟨_, rfl, r, dr, _, rfl, h0, rfl, r, dr, a, j, ns, _, rfl, h0, hA.sq, g0, ?_⟩
      refine ⟨_, rfl, rfl, _, rfl, ?_⟩
      rw [deq_int, decide_eq_false (show ¬ (2 : Int) = 1 by decide)]
      refine iteF ?_
      refine ⟨_, rfl, rfl, _, rfl, ?_⟩
      rw [deq_int, decide_eq_true (show (2 : Int) = 2 from rfl)]
      try dsimp only
      rw [if_pos rfl]
      obtain ⟨g1, hl1, lt1⟩ := drop_cons hl0
      obtain ⟨g2, hl2, lt2⟩ := drop_cons hl1
      obtain ⟨g3, hl3, lt3⟩ := drop_cons hl2
      refine ⟨_, rfl, _, rfl, L, dL, d, mac, addr, now, r, dr, a, j + 1, ns, _, _, _, rfl, upd_same, hA.updr h0, g1, g2, g3, (upd_ne nLr).trans ((upd_ne nLr).trans A0.obj), ?_⟩
      have B : Beg CL CN CR H (upd (upd H r (.ins CR dr (rf a ((j + 1 : Nat) : Int)))) r (.ins CR dr (rf a ((j + 1 + 1 + 1 + 1 : Nat) : Int)))) L dL d mac addr now cs r dr a j (j + 1 + 1 + 1 + 1) ns rest := ⟨A0, h0, upd_same, fun b o e hb => by rw [upd_ne hb, upd_ne hb]; exact e, hl3.symm, by omega, by omega⟩
      exact B.cSend R0 h1 x y z kQ
    | came x y b rest hb =>
      obtain ⟨g0, hl0, lt0⟩ := drop_cons hl
      refine ⟨_, rfl, r, dr, _, rfl, h0, rfl, r, dr, a, j, ns, _, rfl, h0, hA.sq, g0, ?_⟩
      refine ⟨_, rfl, rfl, _, rfl, ?_⟩
      rw [deq_int, decide_eq_false (show ¬ (3 : Int) = 1 by decide)]
      refine iteF ?_
      refine ⟨_, rfl, rfl, _, rfl, ?_⟩
      rw [deq_int, decide_eq_false (show ¬ (3 : Int) = 2 by decide)]
      refine iteF ?_
      refine ⟨_, rfl, rfl, _, rfl, ?_⟩
      rw [deq_int, decide_eq_true (show (3 : Int) = 3 from rfl)]
      try dsimp only
      rw [if_pos rfl]
      obtain ⟨g1, hl1, lt1⟩ := drop_cons hl0
      obtain ⟨g2, hl2, lt2⟩ := drop_cons hl1
      obtain ⟨g3, hl3, lt3⟩ := drop_cons hl2
      have lb : (toI b).length = b.length := List.length_map ..
      have hlen : j + 1 + 1 + 1 + 1 + b.length ≤ ns.length := by
        have q := congrArg List.length hl3
        rw [List.length_drop, List.length_append, lb] at q
        omega
      have hrow : (ns.drop (j + 1 + 1 + 1 + 1)).take b.length = toI b := by
        rw [hl3, ← lb, List.take_left]
      have hrest : rest = ns.drop (j + 1 + 1 + 1 + 1 + b.length) := by
        rw [← List.drop_drop, hl3, ← lb, List.drop_left]
      refine ⟨_, rfl, _, rfl, L, dL, d, mac, addr, now, r, dr, a, j + 1, b.length, ns, _, _, rfl, upd_same, hA.updr h0, g1, g2, g3, hlen, fun p hp => ?_⟩
      have nrp : r ≠ p := ne_of_none upd_same hp
      have hp0 : H p = none := by
        rw [upd_ne nrp.symm, upd_ne nrp.symm] at hp
        exact hp
      have nLp : L ≠ p := ne_of_none A0.obj hp0
      refine ⟨(upd_ne nLr).trans ((upd_ne nLp).trans ((upd_ne nLr).trans ((upd_ne nLr).trans A0.obj))), ?_⟩
      rw [hrow]
      have B : Beg CL CN CR H (upd (upd (upd (upd H r (.ins CR dr (rf a ((j + 1 : Nat) : Int)))) r (.ins CR dr (rf a ((j + 1 + 1 + 1 : Nat) : Int)))) p (.lst ((toI b).map V.int))) r (.ins CR dr (rf a ((j + 1 + 1 + 1 + 1 + b.length : Nat) : Int)))) L dL d mac addr now cs r dr a j (j + 1 + 1 + 1 + 1 + b.length) ns rest := ⟨A0, h0, upd_same, fun b o e hb => by rw [upd_ne hb, upd_ne (ne_of_none e hp0), upd_ne hb, upd_ne hb]; exact e, hrest, by omega, by omega⟩
      exact B.cCame R0 h1 x y b hb (SqL.of ((upd_ne nrp.symm).trans upd_same)) kQ
    | tick x rest =>
      obtain ⟨g0, hl0, lt0⟩ := drop_cons hl
      refine ⟨_, rfl, r, dr, _, rfl, h0, rfl, r, dr, a, j, ns, _, rfl, h0, hA.sq, g0, ?_⟩
      refine ⟨_, rfl, rfl, _, rfl, ?_⟩
      rw [deq_int, decide_eq_false (show ¬ (4 : Int) = 1 by decide)]
      refine iteF ?_
      refine ⟨_, rfl, rfl, _, rfl, ?_⟩
      rw [deq_int, decide_eq_false (show ¬ (4 : Int) = 2 by decide)]
      refine iteF ?_
      refine ⟨_, rfl, rfl, _, rfl, ?_⟩
      rw [deq_int, decide_eq_false (show ¬ (4 : Int) = 3 by decide)]
      refine iteF ?_
      refine ⟨_, rfl, rfl, _, rfl, ?_⟩
      rw [deq_int, decide_eq_true (show (4 : Int) = 4 from rfl)]
      try dsimp only
      rw [if_pos rfl]
      obtain ⟨g1, hl1, lt1⟩ := drop_cons hl0
      refine ⟨_, rfl, L, dL, _, rfl, (upd_ne nLr).trans A0.obj, rfl, _, rfl, r, dr, _, rfl, upd_same, rfl, r, dr, a, j + 1, ns, _, rfl, upd_same, (hA.updr h0).sq, g1, ?_⟩
      have B : Beg CL CN CR H (upd (upd H r (.ins CR dr (rf a ((j + 1 : Nat) : Int)))) r (.ins CR dr (rf a ((j + 1 + 1 : Nat) : Int)))) L dL d mac addr now cs r dr a j (j + 1 + 1) ns rest := ⟨A0, h0, upd_same, fun b o e hb => by rw [upd_ne hb, upd_ne hb]; exact e, hl1.symm, by omega, by omega⟩
      exact B.cTick R0 h1 x kQ
    | next rest =>
      obtain ⟨g0, hl0, lt0⟩ := drop_cons hl
      refine ⟨_, rfl, r, dr, _, rfl, h0, rfl, r, dr, a, j, ns, _, rfl, h0, hA.sq, g0, ?_⟩
      refine ⟨_, rfl, rfl, _, rfl, ?_⟩
      rw [deq_int, decide_eq_false (show ¬ (5 : Int) = 1 by decide)]
      refine iteF ?_
      refine ⟨_, rfl, rfl, _, rfl, ?_⟩
      rw [deq_int, decide_eq_false (show ¬ (5 : Int) = 2 by decide)]
      refine iteF ?_
      refine ⟨_, rfl, rfl, _, rfl, ?_⟩
      rw [deq_int, decide_eq_false (show ¬ (5 : Int) = 3 by decide)]
      refine iteF ?_
      refine ⟨_, rfl, rfl, _, rfl, ?_⟩
      rw [deq_int, decide_eq_false (show ¬ (5 : Int) = 4 by decide)]
      refine iteF ?_
      refine ⟨_, rfl, rfl, _, rfl, ?_⟩
      rw [deq_int, decide_eq_true (show (5 : Int) = 5 from rfl)]
      try dsimp only
      rw [if_pos rfl]
      refine ⟨_, rfl, L, dL, _, rfl, (upd_ne nLr).trans A0.obj, rfl, ?_⟩
      have B : Beg CL CN CR H (upd H r (.ins CR dr (rf a ((j + 1 : Nat) : Int)))) L dL d mac addr now cs r dr a j (j + 1) ns rest := ⟨A0, h0, upd_same, fun b o e hb => by rw [upd_ne hb]; exact e, hl0.symm, by omega, by omega⟩
      exact B.cNext R0 h1 kQ
    | look x rest =>
      obtain ⟨g0, hl0, lt0⟩ := drop_cons hl
      refine ⟨_, rfl, r, dr, _, rfl, h0, rfl, r, dr, a, j, ns, _, rfl, h0, hA.sq, g0, ?_⟩
      refine ⟨_, rfl, rfl, _, rfl, ?_⟩
      rw [deq_int, decide_eq_false (show ¬ (6 : Int) = 1 by decide)]
      refine iteF ?_
      refine ⟨_, rfl, rfl, _, rfl, ?_⟩
      rw [deq_int, decide_eq_false (show ¬ (6 : Int) = 2 by decide)]
      refine iteF ?_
      refine ⟨_, rfl, rfl, _, rfl, ?_⟩
      rw [deq_int, decide_eq_false (show ¬ (6 : Int) = 3 by decide)]
      refine iteF ?_
      refine ⟨_, rfl, rfl, _, rfl, ?_⟩
      rw [deq_int, decide_eq_false (show ¬ (6 : Int) = 4 by decide)]
      refine iteF ?_
      refine ⟨_, rfl, rfl, _, rfl, ?_⟩
      rw [deq_int, decide_eq_false (show ¬ (6 : Int) = 5 by decide)]
      refine iteF ?_
      refine ⟨_, rfl, rfl, _, rfl, ?_⟩
      rw [deq_int, decide_eq_true (show (6 : Int) = 6 from rfl)]
      try dsimp only
      rw [if_pos rfl]
      obtain ⟨g1, hl1, lt1⟩ := drop_cons hl0
      refine ⟨_, rfl, L, dL, _, rfl, (upd_ne nLr).trans A0.obj, rfl, _, rfl, r, dr, _, rfl, upd_same, rfl, r, dr, a, j + 1, ns, _, rfl, upd_same, (hA.updr h0).sq, g1, ?_⟩
      have B : Beg CL CN CR H (upd (upd H r (.ins CR dr (rf a ((j + 1 : Nat) : Int)))) r (.ins CR dr (rf a ((j + 1 + 1 : Nat) : Int)))) L dL d mac addr now cs r dr a j (j + 1 + 1) ns rest := ⟨A0, h0, upd_same, fun b o e hb => by rw [upd_ne hb, upd_ne hb]; exact e, hl1.symm, by omega, by omega⟩
      exact B.cLook R0 h1 x kQ
    | heard x y rest =>
      obtain ⟨g0, hl0, lt0⟩ := drop_cons hl
      refine ⟨_, rfl, r, dr, _, rfl, h0, rfl, r, dr, a, j, ns, _, rfl, h0, hA.sq, g0, ?_⟩
      refine ⟨_, rfl, rfl, _, rfl, ?_⟩
      rw [deq_int, decide_eq_false (show ¬ (7 : Int) = 1 by decide)]
      refine iteF ?_
      refine ⟨_, rfl, rfl, _, rfl, ?_⟩
      rw [deq_int, decide_eq_false (show ¬ (7 : Int) = 2 by decide)]
      refine iteF ?_
      refine ⟨_, rfl, rfl, _, rfl, ?_⟩
      rw [deq_int, decide_eq_false (show ¬ (7 : Int) = 3 by decide)]
      refine iteF ?_
      refine ⟨_, rfl, rfl, _, rfl, ?_⟩
      rw [deq_int, decide_eq_false (show ¬ (7 : Int) = 4 by decide)]
      refine iteF ?_
      refine ⟨_, rfl, rfl, _, rfl, ?_⟩
      rw [deq_int, decide_eq_false (show ¬ (7 : Int) = 5 by decide)]
      refine iteF ?_
      refine ⟨_, rfl, rfl, _, rfl, ?_⟩
      rw [deq_int, decide_eq_false (show ¬ (7 : Int) = 6 by decide)]
      refine iteF ?_
      refine ⟨_, rfl, rfl, _, rfl, ?_⟩
      rw [deq_int, decide_eq_true (show (7 : Int) = 7 from rfl)]
      try dsimp only
      rw [if_pos rfl]
      obtain ⟨g1, hl1, lt1⟩ := drop_cons hl0
      obtain ⟨g2, hl2, lt2⟩ := drop_cons hl1
      refine ⟨_, rfl, _, rfl, L, dL, d, mac, addr, now, r, dr, a, j + 1, ns, _, _, rfl, upd_same, hA.updr h0, g1, g2, (upd_ne nLr).trans ((upd_ne nLr).trans A0.obj), ?_⟩
      have B : Beg CL CN CR H (upd (upd H r (.ins CR dr (rf a ((j + 1 : Nat) : Int)))) r (.ins CR dr (rf a ((j + 1 + 1 + 1 : Nat) : Int)))) L dL d mac addr now cs r dr a j (j + 1 + 1 + 1) ns rest := ⟨A0, h0, upd_same, fun b o e hb => by rw [upd_ne hb, upd_ne hb]; exact e, hl2.symm, by omega, by omega⟩
      exact B.cHeard R0 h1 x y kQ
    | forget x y rest =>
      obtain ⟨g0, hl0, lt0⟩ := drop_cons hl
      refine ⟨_, rfl, r, dr, _, rfl, h0, rfl, r, dr, a, j, ns, _, rfl, h0, hA.sq, g0, ?_⟩
      refine ⟨_, rfl, rfl, _, rfl, ?_⟩
      rw [deq_int, decide_eq_false (show ¬ (8 : Int) = 1 by decide)]
      refine iteF ?_
      refine ⟨_, rfl, rfl, _, rfl, ?_⟩
      rw [deq_int, decide_eq_false (show ¬ (8 : Int) = 2 by decide)]
      refine iteF ?_
      refine ⟨_, rfl, rfl, _, rfl, ?_⟩
      rw [deq_int, decide_eq_false (show ¬ (8 : Int) = 3 by decide)]
      refine iteF ?_
      refine ⟨_, rfl, rfl, _, rfl, ?_⟩
      rw [deq_int, decide_eq_false (show ¬ (8 : Int) = 4 by decide)]
      refine iteF ?_
      refine ⟨_, rfl, rfl, _, rfl, ?_⟩
      rw [deq_int, decide_eq_false (show ¬ (8 : Int) = 5 by decide)]
      refine iteF ?_
      refine ⟨_, rfl, rfl, _, rfl, ?_⟩
      rw [deq_int, decide_eq_false (show ¬ (8 : Int) = 6 by decide)]
      refine iteF ?_
      refine ⟨_, rfl, rfl, _, rfl, ?_⟩
      rw [deq_int, decide_eq_false (show ¬ (8 : Int) = 7 by decide)]
      refine iteF ?_
      refine ⟨_, rfl, rfl, _, rfl, ?_⟩
      rw [deq_int, decide_eq_true (show (8 : Int) = 8 from rfl)]
      try dsimp only
      rw [if_pos rfl]
      obtain ⟨g1, hl1, lt1⟩ := drop_cons hl0
      obtain ⟨g2, hl2, lt2⟩ := drop_cons hl1
      refine ⟨_, rfl, _, rfl, L, dL, d, mac, addr, now, r, dr, a, j + 1, ns, _, _, rfl, upd_same, hA.updr h0, g1, g2, (upd_ne nLr).trans ((upd_ne nLr).trans A0.obj), ?_⟩
      have B : Beg CL CN CR H (upd (upd H r (.ins CR dr (rf a ((j + 1 : Nat) : Int)))) r (.ins CR dr (rf a ((j + 1 + 1 + 1 : Nat) : Int)))) L dL d mac addr now cs r dr a j (j + 1 + 1 + 1) ns rest := ⟨A0, h0, upd_same, fun b o e hb => by rw [upd_ne hb, upd_ne hb]; exact e, hl2.symm, by omega, by omega⟩
      exact B.cForget R0 h1 x y kQ
    | list rest =>
      obtain ⟨g0, hl0, lt0⟩ := drop_cons hl
      refine ⟨_, rfl, r, dr, _, rfl, h0, rfl, r, dr, a, j, ns, _, rfl, h0, hA.sq, g0, ?_⟩
      refine ⟨_, rfl, rfl, _, rfl, ?_⟩
      rw [deq_int, decide_eq_false (show ¬ (9 : Int) = 1 by decide)]
      refine iteF ?_
      refine ⟨_, rfl, rfl, _, rfl, ?_⟩
      rw [deq_int, decide_eq_false (show ¬ (9 : Int) = 2 by decide)]
      refine iteF ?_
      refine ⟨_, rfl, rfl, _, rfl, ?_⟩
      rw [deq_int, decide_eq_false (show ¬ (9 : Int) = 3 by decide)]
      refine iteF ?_
      refine ⟨_, rfl, rfl, _, rfl, ?_⟩
      rw [deq_int, decide_eq_false (show ¬ (9 : Int) = 4 by decide)]
      refine iteF ?_
      refine ⟨_, rfl, rfl, _, rfl, ?_⟩
      rw [deq_int, decide_eq_false (show ¬ (9 : Int) = 5 by decide)]
      refine iteF ?_
      refine ⟨_, rfl, rfl, _, rfl, ?_⟩
      rw [deq_int, decide_eq_false (show ¬ (9 : Int) = 6 by decide)]
      refine iteF ?_
      refine ⟨_, rfl, rfl, _, rfl, ?_⟩
      rw [deq_int, decide_eq_false (show ¬ (9 : Int) = 7 by decide)]
      refine iteF ?_
      refine ⟨_, rfl, rfl, _, rfl, ?_⟩
      rw [deq_int, decide_eq_false (show ¬ (9 : Int) = 8 by decide)]
      refine iteF ?_
      refine ⟨_, rfl, rfl, _, rfl, ?_⟩
      rw [deq_int, decide_eq_true (show (9 : Int) = 9 from rfl)]
      try dsimp only
      rw [if_pos rfl]
      refine ⟨_, rfl, L, dL, _, rfl, (upd_ne nLr).trans A0.obj, rfl, ?_⟩
      have B : Beg CL CN CR H (upd H r (.ins CR dr (rf a ((j + 1 : Nat) : Int)))) L dL d mac addr now cs r dr a j (j + 1) ns rest := ⟨A0, h0, upd_same, fun b o e hb => by rw [upd_ne hb]; exact e, hl0.symm, by omega, by omega⟩
      exact B.cList R0 h1 kQ
end
end Nb
set_option Elab.async false
set_option linter.all false
set_option maxRecDepth 100000
set_option maxHeartbeats 4000000
namespace Nb
open PySem PySem.Spec PyProof.Rows L2
structure Def (K : PySem.W.Frag) (mg : Str → Option Value) (x : Str) (st : Stmt) : Prop where
  ex : ∃ f fd, mg x = some (.ref f) ∧ Fun K x x st f fd
structure MDef (K : PySem.W.Frag) (C : Addr) (m qual : Str) (st : Stmt) : Prop where
  ex : ∃ f fd, Meth K C m f ∧ Fun K m qual st f fd
structure IDef (K : PySem.W.Frag) (mg : Str → Option Value) (x : Str) (C : Addr) (qual : Str) (st : Stmt) : Prop where
  ex : ∃ f fd, mg x = some (.ref C) ∧ Mk K C f ∧ Fun K "__init__" qual st f fd
section
variable {K : PySem.W.Frag} {h : Heap} {mg : Str → Option Value} {f C : Addr} {x m qual : Str} {st : Stmt} {oc : Value} {od an : Option Addr} {osl : Array (Option Value)} {kV doc pm cdv ct : Value}
theorem def_mk (X : K.In h) (G : h.Ns mainGlobals mg) (a : PySem.W.nsIn K mainGlobals x = some (some (.ref f))) (l : K.lookup f = some ⟨oc, od, .func (PySem.W.fnOf x x (defArgs st) (defBody st) (defScope st) .none kV doc pm an cdv ct), osl⟩) (c : PySem.W.codeIn K cdv x = true) (k : PySem.W.keepIn K (.ref f) = true) : Def K mg x st :=
  ⟨_, _, PySem.W.mg_of X G a, fun_mk l c k⟩
theorem mdef_mk (a : PySem.W.findIn K (.ref C) m = some (some (.ref f))) (i : PySem.W.isFn K (.ref f) = true) (l : K.lookup f = some ⟨oc, od, .func (PySem.W.fnOf m qual (defArgs st) (defBody st) (defScope st) .none kV doc pm an cdv ct), osl⟩) (c : PySem.W.codeIn K cdv qual = true) (k : PySem.W.keepIn K (.ref f) = true) : MDef K C m qual st :=
  ⟨_, _, ⟨a, i, k⟩, fun_mk l c k⟩
theorem idef_mk (X : K.In h) (G : h.Ns mainGlobals mg) (b : PySem.W.nsIn K mainGlobals x = some (some (.ref C))) (a : PySem.W.findIn K (.ref C) "__init__" = some (some (.ref f))) (i : PySem.W.isFn K (.ref f) = true) (l : K.lookup f = some ⟨oc, od, .func (PySem.W.fnOf "__init__" qual (defArgs st) (defBody st) (defScope st) .none kV doc pm an cdv ct), osl⟩) (c : PySem.W.codeIn K cdv qual = true) (k : PySem.W.keepIn K (.ref f) = true)
    (mk : PySem.W.makesIn K C = true) (kc : PySem.W.keepIn K (.ref C) = true) : IDef K mg x C qual st :=
  ⟨_, _, PySem.W.mg_of X G b, ⟨mk, a, i, kc⟩, fun_mk l c k⟩
theorem num_of {z z' : Int} {tk : Tok} (X : K.In h) (G : h.Ns mainGlobals mg) (a : PySem.W.nsIn K mainGlobals x = some (some (.int z tk))) (e : z = z') : Num mg x z' := ⟨tk, e ▸ PySem.W.mg_of X G a⟩
end
section
variable {P : Program} {w : World} {K : PySem.W.Frag} {mg : Str → Option Value} {base : Heap} {k : Nat} {C : Addr} {x m qual : Str} {st : Stmt} {ps : List Str} {sp : Sp}
theorem Def.ok (D : Def K mg x st) (b : ∀ (kV doc pm : Value) (an : Option Addr) (cdv ct : Value) (us : List Value), us.length = ps.length → bindArgs (PySem.W.fnOf x x (defArgs st) (defBody st) (defScope st) .none kV doc pm an cdv ct) ⟨us, []⟩ = pure (ps.zip us))
    (F : ∀ f fd, Fun K x x st f fd → FnOk P w K mg base CX0 k f fd ps sp) : Ok P w K mg base k x ps sp := by
  obtain ⟨f, fd, a, F1⟩ := D.ex
  exact ⟨f, fd, a, F1.kp, F1.binds b, F f fd F1⟩
theorem MDef.ok (D : MDef K C m qual st) (b : ∀ (kV doc pm : Value) (an : Option Addr) (cdv ct : Value) (us : List Value), us.length = ps.length → bindArgs (PySem.W.fnOf m qual (defArgs st) (defBody st) (defScope st) .none kV doc pm an cdv ct) ⟨us, []⟩ = pure (ps.zip us))
    (F : ∀ f fd, Fun K m qual st f fd → FnOk P w K mg base CX0 k f fd ps sp) : OkM P w K mg base k C m ps sp := by
  obtain ⟨f, fd, a, F1⟩ := D.ex
  exact ⟨f, fd, a, F1.binds b, F f fd F1⟩
theorem IDef.ok (D : IDef K mg x C qual st) (b : ∀ (kV doc pm : Value) (an : Option Addr) (cdv ct : Value) (us : List Value), us.length = ps.length → bindArgs (PySem.W.fnOf "__init__" qual (defArgs st) (defBody st) (defScope st) .none kV doc pm an cdv ct) ⟨us, []⟩ = pure (ps.zip us))
    (F : ∀ f fd, Fun K "__init__" qual st f fd → FnOk P w K mg base CX0 k f fd ps sp) : OkI P w K mg base k x C ps sp := by
  obtain ⟨f, fd, a, mk, F1⟩ := D.ex
  exact ⟨f, fd, a, mk, F1.binds b, F f fd F1⟩
end
theorem all_mk {P : Program} {w : World} {K : PySem.W.Frag} {h : Heap} {mg : Str → Option Value} {fa CM CN CW CL CR : Addr} (X : K.In h) (G : h.Ns mainGlobals mg) (hfa : mg "answers" = some (.ref fa))
    (iMessage : IDef K mg "Message" CM "Message.__init__" sMsgInit)
    (iNeighbour : IDef K mg "Neighbour" CN "Neighbour.__init__" sNInit)
    (iWanted : IDef K mg "Wanted" CW "Wanted.__init__" sWInit)
    (iLink : IDef K mg "Link" CL "Link.__init__" (inL 0))
    (iReader : IDef K mg "Reader" CR "Reader.__init__" (inR 0))
    (tw : TW K mg CM) (tn : TN K mg CN) (twd : TWd K mg CW) (tl : TL K mg CL) (tr : TR K mg CR) (tx : TX mg) (td : TD mg)
    (dmayLink : Def K mg "may_have_link_address" sMayLink)
    (dmayAddr : Def K mg "may_have_address" sMayAddr)
    (dsplit : Def K mg "split_number" sSplit)
    (djoin : Def K mg "join_number" sJoin)
    (dwrite : Def K mg "write_message" sWrite)
    (dread : Def K mg "read_message" sRead)
    (mhasDue : MDef K CN "has_due" "Neighbour.has_due" sHasDue)
    (misDue : MDef K CN "is_due" "Neighbour.is_due" sIsDue)
    (mawaited : MDef K CN "is_awaited" "Neighbour.is_awaited" sAwaited)
    (mnoteAsked : MDef K CN "note_asked" "Neighbour.note_asked" sNoteAsked)
    (mbecKnown : MDef K CN "become_known" "Neighbour.become_known" sBecKnown)
    (mbecOld : MDef K CN "become_old" "Neighbour.become_old" sBecOld)
    (mbecAgain : MDef K CN "become_asked_again" "Neighbour.become_asked_again" sBecAgain)
    (mtakeWait : MDef K CN "take_waiting" "Neighbour.take_waiting" sTakeWait)
    (mpass : MDef K CW "pass_packet" "Wanted.pass_packet" sPass)
    (mdrop : MDef K CW "drop_packet" "Wanted.drop_packet" sDropP)
    (mtellKnown : MDef K CW "tell_known" "Wanted.tell_known" sTellKnown)
    (mtellLost : MDef K CW "tell_lost" "Wanted.tell_lost" sTellLost)
    (mtellOurs : MDef K CW "tell_ours_taken" "Wanted.tell_ours_taken" sTellOurs)
    (msendMsg : MDef K CW "send_message" "Wanted.send_message" sSendMsg)
    (mtold : MDef K CW "told" "Wanted.told" sTold)
    (ddueOrder : Def K mg "due_order" sDueOrder)
    (duseOrder : Def K mg "use_order" sUseOrder)
    (mrefuse : MDef K CL "refuse_now" "Link.refuse_now" (inL 10))
    (mmaySend : MDef K CL "may_send" "Link.may_send" (inL 18))
    (mask : MDef K CL "ask" "Link.ask" (inL 13))
    (mlose : MDef K CL "lose" "Link.lose" (inL 14))
    (mknow : MDef K CL "know" "Link.know" (inL 15))
    (mdoDue : MDef K CL "do_due" "Link.do_due" (inL 12))
    (mgo : MDef K CL "go_on_to" "Link.go_on_to" (inL 11))
    (mroom : MDef K CL "make_room" "Link.make_room" (inL 16))
    (madd : MDef K CL "add_neighbour" "Link.add_neighbour" (inL 17))
    (mnext : MDef K CL "next_due" "Link.next_due" (inL 5))
    (mletWait : MDef K CL "let_wait" "Link.let_wait" (inL 21))
    (mhandTo : MDef K CL "hand_over_to" "Link.hand_over_to" (inL 20))
    (mhand : MDef K CL "hand_over" "Link.hand_over" (inL 19))
    (mheeds : MDef K CL "heeds" "Link.heeds" (inL 22))
    (mtakeAnswer : MDef K CL "take_answer" "Link.take_answer" (inL 24))
    (mtakeQ : MDef K CL "take_question" "Link.take_question" (inL 25))
    (mtakeM : MDef K CL "take_message" "Link.take_message" (inL 23))
    (mbegin : MDef K CL "begin" "Link.begin" (inL 1))
    (mtick : MDef K CL "tick" "Link.tick" (inL 4))
    (msend : MDef K CL "send" "Link.send" (inL 2))
    (mcame : MDef K CL "came" "Link.came" (inL 3))
    (mmore : MDef K CR "has_more" "Reader.has_more" (inR 1))
    (mtake : MDef K CR "take_number" "Reader.take_number" (inR 2))
    (mtakeRow : MDef K CR "take_row" "Reader.take_row" (inR 3))
    (mlooked : MDef K CN "looked_at" "Neighbour.looked_at" sLooked)
    (mlook : MDef K CL "look" "Link.look" (inL 6))
    (mheard : MDef K CL "heard" "Link.heard" (inL 7))
    (mforget : MDef K CL "forget" "Link.forget" (inL 8))
    (mlist : MDef K CL "list_addresses" "Link.list_addresses" (inL 9))
    (daBegin : Def K mg "answer_begin" (top 62))
    (daHeard : Def K mg "answer_heard" (top 65))
    (daForget : Def K mg "answer_forget" (top 66))
    (daSend : Def K mg "answer_send" (top 63))
    (daCame : Def K mg "answer_came" (top 64))
    (dcall : Def K mg "answer_call" (top 67))
    (dAns : Def K mg "answers" sAnswers) :
    ∃ fd : FuncData, (∀ (s : Shared) (us : List Value), us.length = (["calls"] : List Str).length → BindsTo s fd ⟨us, []⟩ ((["calls"] : List Str).zip us)) ∧ ∀ base : Heap, K.In base → base.Ns mainGlobals mg → FnOk P w K mg base CX0 10 fa fd ["calls"] (spAnswers K) := by
  obtain ⟨f, fd, e, F⟩ := dAns.ex
  obtain rfl : f = fa := by
    have q := hfa.symm.trans e
    injection q with q
    injection q with q
    exact q.symm
  refine ⟨fd, ?_, fun base _ _ => ?_⟩
  · obtain ⟨oc, od, kV, doc, pm, an, cdv, ct, osl, rfl, lk, hcd⟩ := F.ex
    exact fun s us hu => match us, hu with | [_], _ => .of_eq rfl
  have o_mayLink : Ok P w K mg base 1 "may_have_link_address" ["number"] spMayLink := dmayLink.ok (fun _ _ _ _ _ _ us hl => match us, hl with | [_], _ => rfl) fun f fd F => ok_mayLink F tw
  have o_mayAddr : Ok P w K mg base 1 "may_have_address" ["number"] spMayAddr := dmayAddr.ok (fun _ _ _ _ _ _ us hl => match us, hl with | [_], _ => rfl) fun f fd F => ok_mayAddr F tw
  have o_msgInit : OkI P w K mg base 1 "Message" CM ["self", "what", "link_address", "address", "about"] (spMsgInit CM) := iMessage.ok (fun _ _ _ _ _ _ us hl => match us, hl with | [_, _, _, _, _], _ => rfl) fun f fd F => ok_msgInit F tw
  have o_split : Ok P w K mg base 1 "split_number" ["number", "size"] spSplit := dsplit.ok (fun _ _ _ _ _ _ us hl => match us, hl with | [_, _], _ => rfl) fun f fd F => ok_split F tw
  have o_join : Ok P w K mg base 1 "join_number" ["row"] (spJoin K) := djoin.ok (fun _ _ _ _ _ _ us hl => match us, hl with | [_], _ => rfl) fun f fd F => ok_join F
  have o_write : Ok P w K mg base 2 "write_message" ["message"] (spWrite CM) := dwrite.ok (fun _ _ _ _ _ _ us hl => match us, hl with | [_], _ => rfl) fun f fd F => ok_write F tw o_split
  have o_read : Ok P w K mg base 3 "read_message" ["row"] (spRead K CM) := dread.ok (fun _ _ _ _ _ _ us hl => match us, hl with | [_], _ => rfl) fun f fd F => ok_read F tw o_join o_msgInit
  have o_nInit : OkI P w K mg base 1 "Neighbour" CN ["self", "address", "now"] (spNInit CN) := iNeighbour.ok (fun _ _ _ _ _ _ us hl => match us, hl with | [_, _, _], _ => rfl) fun f fd F => ok_nInit F tn
  have o_hasDue : OkM P w K mg base 1 CN "has_due" ["self"] (spHasDue CN) := mhasDue.ok (fun _ _ _ _ _ _ us hl => match us, hl with | [_], _ => rfl) fun f fd F => ok_hasDue F tn
  have o_isDue : OkM P w K mg base 2 CN "is_due" ["self", "now"] (spIsDue CN) := misDue.ok (fun _ _ _ _ _ _ us hl => match us, hl with | [_, _], _ => rfl) fun f fd F => ok_isDue F tn o_hasDue
  have o_awaited : OkM P w K mg base 1 CN "is_awaited" ["self"] (spAwaited CN) := mawaited.ok (fun _ _ _ _ _ _ us hl => match us, hl with | [_], _ => rfl) fun f fd F => ok_awaited F tn
  have o_noteAsked : OkM P w K mg base 1 CN "note_asked" ["self", "now"] (spNoteAsked CN) := mnoteAsked.ok (fun _ _ _ _ _ _ us hl => match us, hl with | [_, _], _ => rfl) fun f fd F => ok_noteAsked F tn
  have o_becKnown : OkM P w K mg base 1 CN "become_known" ["self", "link_address", "now"] (spBecKnown CN) := mbecKnown.ok (fun _ _ _ _ _ _ us hl => match us, hl with | [_, _, _], _ => rfl) fun f fd F => ok_becKnown F tn
  have o_becOld : OkM P w K mg base 1 CN "become_old" ["self"] (spBecOld CN) := mbecOld.ok (fun _ _ _ _ _ _ us hl => match us, hl with | [_], _ => rfl) fun f fd F => ok_becOld F tn
  have o_becAgain : OkM P w K mg base 1 CN "become_asked_again" ["self"] (spBecAgain CN) := mbecAgain.ok (fun _ _ _ _ _ _ us hl => match us, hl with | [_], _ => rfl) fun f fd F => ok_becAgain F tn
  have o_takeWait : OkM P w K mg base 1 CN "take_waiting" ["self"] (spTakeWait CN) := mtakeWait.ok (fun _ _ _ _ _ _ us hl => match us, hl with | [_], _ => rfl) fun f fd F => ok_takeWait F tn
  have o_wInit : OkI P w K mg base 1 "Wanted" CW ["self"] (spWInit CW) := iWanted.ok (fun _ _ _ _ _ _ us hl => match us, hl with | [_], _ => rfl) fun f fd F => ok_wInit F twd
  have o_pass : OkM P w K mg base 1 CW "pass_packet" ["self", "packet", "link_address"] (spPass CW) := mpass.ok (fun _ _ _ _ _ _ us hl => match us, hl with | [_, _, _], _ => rfl) fun f fd F => ok_pass F twd
  have o_drop : OkM P w K mg base 1 CW "drop_packet" ["self", "packet", "why"] (spDropP CW) := mdrop.ok (fun _ _ _ _ _ _ us hl => match us, hl with | [_, _, _], _ => rfl) fun f fd F => ok_drop F twd
  have o_tellKnown : OkM P w K mg base 1 CW "tell_known" ["self", "address", "link_address"] (spTellKnown CW) := mtellKnown.ok (fun _ _ _ _ _ _ us hl => match us, hl with | [_, _, _], _ => rfl) fun f fd F => ok_tellKnown F twd
  have o_tellLost : OkM P w K mg base 1 CW "tell_lost" ["self", "address"] (spTellLost CW) := mtellLost.ok (fun _ _ _ _ _ _ us hl => match us, hl with | [_, _], _ => rfl) fun f fd F => ok_tellLost F twd
  have o_tellOurs : OkM P w K mg base 1 CW "tell_ours_taken" ["self", "link_address"] (spTellOurs CW) := mtellOurs.ok (fun _ _ _ _ _ _ us hl => match us, hl with | [_, _], _ => rfl) fun f fd F => ok_tellOurs F twd
  have o_sendMsg : OkM P w K mg base 3 CW "send_message" ["self", "link_address", "message"] (spSendMsg CW CM) := msendMsg.ok (fun _ _ _ _ _ _ us hl => match us, hl with | [_, _, _], _ => rfl) fun f fd F => ok_sendMsg F twd o_write
  have o_told : OkM P w K mg base 1 CW "told" ["self"] (spTold CW) := mtold.ok (fun _ _ _ _ _ _ us hl => match us, hl with | [_], _ => rfl) fun f fd F => ok_told F twd
  have o_dueOrder : Ok P w K mg base 1 "due_order" ["neighbour"] (spDueOrder CN) := ddueOrder.ok (fun _ _ _ _ _ _ us hl => match us, hl with | [_], _ => rfl) fun f fd F => ok_dueOrder F tn
  have o_useOrder : Ok P w K mg base 1 "use_order" ["neighbour"] (spUseOrder CN) := duseOrder.ok (fun _ _ _ _ _ _ us hl => match us, hl with | [_], _ => rfl) fun f fd F => ok_useOrder F tn
  have o_lInit : OkI P w K mg base 1 "Link" CL ["self"] (spLInit CL CN) := iLink.ok (fun _ _ _ _ _ _ us hl => match us, hl with | [_], _ => rfl) fun f fd F => ok_lInit F tl
  have o_refuse : OkM P w K mg base 1 CL "refuse_now" ["self", "now"] (spRefuse CL) := mrefuse.ok (fun _ _ _ _ _ _ us hl => match us, hl with | [_, _], _ => rfl) fun f fd F => ok_refuse F tl
  have o_maySend : OkM P w K mg base 2 CL "may_send" ["self", "to"] (spMaySend CL) := mmaySend.ok (fun _ _ _ _ _ _ us hl => match us, hl with | [_, _], _ => rfl) fun f fd F => ok_maySend F tl tw o_mayAddr
  have o_ask : OkM P w K mg base 4 CL "ask" ["self", "neighbour", "wanted"] (spAsk CL CN CW) := mask.ok (fun _ _ _ _ _ _ us hl => match us, hl with | [_, _, _], _ => rfl) fun f fd F => ok_ask F tl tn twd tw o_noteAsked o_msgInit o_sendMsg
  have o_lose : OkM P w K mg base 2 CL "lose" ["self", "neighbour", "why", "wanted"] (spLose CL CN CW) := mlose.ok (fun _ _ _ _ _ _ us hl => match us, hl with | [_, _, _, _], _ => rfl) fun f fd F => ok_lose F tl tn twd o_tellLost o_takeWait o_drop
  have o_know : OkM P w K mg base 2 CL "know" ["self", "neighbour", "link_address", "wanted"] (spKnow CL CN CW) := mknow.ok (fun _ _ _ _ _ _ us hl => match us, hl with | [_, _, _, _], _ => rfl) fun f fd F => ok_know F tl tn twd o_becKnown o_tellKnown o_takeWait o_pass
  have o_doDue : OkM P w K mg base 5 CL "do_due" ["self", "neighbour", "wanted"] (spDoDue CL CN CW) := mdoDue.ok (fun _ _ _ _ _ _ us hl => match us, hl with | [_, _, _], _ => rfl) fun f fd F => ok_doDue F tl tn o_becOld o_ask o_lose
  have o_go : OkM P w K mg base 6 CL "go_on_to" ["self", "now"] (spGo CL CN CW) := mgo.ok (fun _ _ _ _ _ _ us hl => match us, hl with | [_, _], _ => rfl) fun f fd F => ok_go F tl tn twd o_wInit o_isDue o_dueOrder o_doDue
  have o_room : OkM P w K mg base 3 CL "make_room" ["self"] (spRoom CL CN) := mroom.ok (fun _ _ _ _ _ _ us hl => match us, hl with | [_], _ => rfl) fun f fd F => ok_room F tl tn o_useOrder
  have o_add : OkM P w K mg base 3 CL "add_neighbour" ["self", "address"] (spAdd CL CN) := madd.ok (fun _ _ _ _ _ _ us hl => match us, hl with | [_, _], _ => rfl) fun f fd F => ok_add F tl tn o_nInit
  have o_next : OkM P w K mg base 2 CL "next_due" ["self"] (spNext CL CN) := mnext.ok (fun _ _ _ _ _ _ us hl => match us, hl with | [_], _ => rfl) fun f fd F => ok_next F tl tn o_hasDue
  have o_letWait : OkM P w K mg base 2 CL "let_wait" ["self", "neighbour", "packet", "wanted"] (spLetWait CL CN CW) := mletWait.ok (fun _ _ _ _ _ _ us hl => match us, hl with | [_, _, _, _], _ => rfl) fun f fd F => ok_letWait F tl tn twd o_drop
  have o_handTo : OkM P w K mg base 5 CL "hand_over_to" ["self", "neighbour", "packet", "wanted"] (spHandTo CL CN CW) := mhandTo.ok (fun _ _ _ _ _ _ us hl => match us, hl with | [_, _, _, _], _ => rfl) fun f fd F => ok_handTo F tl tn twd o_letWait o_pass o_becAgain o_ask
  have o_hand : OkM P w K mg base 6 CL "hand_over" ["self", "to", "packet", "wanted"] (spHand CL CN CW) := mhand.ok (fun _ _ _ _ _ _ us hl => match us, hl with | [_, _, _, _], _ => rfl) fun f fd F => ok_hand F tl tn twd tw o_pass o_handTo o_room o_add o_ask o_drop
  have o_heeds : OkM P w K mg base 2 CL "heeds" ["self", "sender", "message"] (spHeeds CL CM) := mheeds.ok (fun _ _ _ _ _ _ us hl => match us, hl with | [_, _, _], _ => rfl) fun f fd F => ok_heeds F tl tw o_mayLink
  have o_takeAnswer : OkM P w K mg base 3 CL "take_answer" ["self", "message", "wanted"] (spTakeAnswer CL CN CW CM) := mtakeAnswer.ok (fun _ _ _ _ _ _ us hl => match us, hl with | [_, _, _], _ => rfl) fun f fd F => ok_takeAnswer F tl tn tw o_awaited o_know
  have o_takeQ : OkM P w K mg base 4 CL "take_question" ["self", "message", "wanted"] (spTakeQuestion CL CN CW CM) := mtakeQ.ok (fun _ _ _ _ _ _ us hl => match us, hl with | [_, _, _], _ => rfl) fun f fd F => ok_takeQ F tl tn twd tw o_msgInit o_sendMsg o_mayAddr o_know o_room o_add
  have o_takeM : OkM P w K mg base 5 CL "take_message" ["self", "message", "wanted"] (spTakeMessage CL CN CW CM) := mtakeM.ok (fun _ _ _ _ _ _ us hl => match us, hl with | [_, _, _], _ => rfl) fun f fd F => ok_takeM F tl twd tw o_tellOurs o_takeAnswer o_takeQ
  have o_begin : OkM P w K mg base 2 CL "begin" ["self", "link_address", "address"] (spBegin CL CN) := mbegin.ok (fun _ _ _ _ _ _ us hl => match us, hl with | [_, _, _], _ => rfl) fun f fd F => ok_begin F tl o_mayLink o_mayAddr
  have o_tick : OkM P w K mg base 7 CL "tick" ["self", "now"] (spTick CL CN) := mtick.ok (fun _ _ _ _ _ _ us hl => match us, hl with | [_, _], _ => rfl) fun f fd F => ok_tick F tl twd o_refuse o_go o_told
  have o_send : OkM P w K mg base 7 CL "send" ["self", "now", "to", "packet"] (spSend CL CN) := msend.ok (fun _ _ _ _ _ _ us hl => match us, hl with | [_, _, _, _], _ => rfl) fun f fd F => ok_send F tl twd tw o_maySend o_refuse o_go o_hand o_told
  have o_came : OkM P w K mg base 7 CL "came" ["self", "now", "sender", "row"] (spCame K CL CN) := mcame.ok (fun _ _ _ _ _ _ us hl => match us, hl with | [_, _, _, _], _ => rfl) fun f fd F => ok_came F tl twd tw o_read o_refuse o_go o_heeds o_takeM o_told
  have o_rInit : OkI P w K mg base 1 "Reader" CR ["self", "numbers"] (spRInit CR) := iReader.ok (fun _ _ _ _ _ _ us hl => match us, hl with | [_, _], _ => rfl) fun f fd F => ok_rInit F tr
  have o_more : OkM P w K mg base 1 CR "has_more" ["self"] (spMore K CR) := mmore.ok (fun _ _ _ _ _ _ us hl => match us, hl with | [_], _ => rfl) fun f fd F => ok_more F tr
  have o_take : OkM P w K mg base 1 CR "take_number" ["self"] (spTake K CR) := mtake.ok (fun _ _ _ _ _ _ us hl => match us, hl with | [_], _ => rfl) fun f fd F => ok_take F tr
  have o_takeRow : OkM P w K mg base 2 CR "take_row" ["self"] (spTakeRow K CR) := mtakeRow.ok (fun _ _ _ _ _ _ us hl => match us, hl with | [_], _ => rfl) fun f fd F => ok_takeRow F tr o_take
  have o_looked : OkM P w K mg base 1 CN "looked_at" ["self"] (spLooked CN) := mlooked.ok (fun _ _ _ _ _ _ us hl => match us, hl with | [_], _ => rfl) fun f fd F => ok_looked F tn tx
  have o_look : OkM P w K mg base 2 CL "look" ["self", "address"] (spLook CL CN) := mlook.ok (fun _ _ _ _ _ _ us hl => match us, hl with | [_, _], _ => rfl) fun f fd F => ok_look F tl tn o_looked
  have o_heard : OkM P w K mg base 7 CL "heard" ["self", "now", "address"] (spHeard CL CN) := mheard.ok (fun _ _ _ _ _ _ us hl => match us, hl with | [_, _, _], _ => rfl) fun f fd F => ok_heard F tl tn twd o_refuse o_go o_becKnown o_told
  have o_forget : OkM P w K mg base 7 CL "forget" ["self", "now", "address"] (spForget CL CN) := mforget.ok (fun _ _ _ _ _ _ us hl => match us, hl with | [_, _, _], _ => rfl) fun f fd F => ok_forget F tl twd tx o_refuse o_go o_lose o_told
  have o_list : OkM P w K mg base 1 CL "list_addresses" ["self"] (spList CL CN) := mlist.ok (fun _ _ _ _ _ _ us hl => match us, hl with | [_], _ => rfl) fun f fd F => ok_list F tl tx
  have o_aBegin : Ok P w K mg base 3 "answer_begin" ["link", "reader"] (spA2 K CL CR (spBegin CL CN)) := daBegin.ok (fun _ _ _ _ _ _ us hl => match us, hl with | [_, _], _ => rfl) fun f fd F => ok_aBegin F tl tr o_take o_begin
  have o_aHeard : Ok P w K mg base 8 "answer_heard" ["link", "reader"] (spA2 K CL CR (spHeard CL CN)) := daHeard.ok (fun _ _ _ _ _ _ us hl => match us, hl with | [_, _], _ => rfl) fun f fd F => ok_aHeard F tl tr o_take o_heard
  have o_aForget : Ok P w K mg base 8 "answer_forget" ["link", "reader"] (spA2 K CL CR (spForget CL CN)) := daForget.ok (fun _ _ _ _ _ _ us hl => match us, hl with | [_, _], _ => rfl) fun f fd F => ok_aForget F tl tr o_take o_forget
  have o_aSend : Ok P w K mg base 8 "answer_send" ["link", "reader"] (spA3 K CL CR (spSend CL CN)) := daSend.ok (fun _ _ _ _ _ _ us hl => match us, hl with | [_, _], _ => rfl) fun f fd F => ok_aSend F tl tr o_take o_send
  have o_aCame : Ok P w K mg base 8 "answer_came" ["link", "reader"] (spAC K CL CR (spCame K CL CN)) := daCame.ok (fun _ _ _ _ _ _ us hl => match us, hl with | [_, _], _ => rfl) fun f fd F => ok_aCame F tl tr o_take o_takeRow o_came
  have o_call : Ok P w K mg base 9 "answer_call" ["link", "reader"] (spCall K CL CN CR) := dcall.ok (fun _ _ _ _ _ _ us hl => match us, hl with | [_, _], _ => rfl) fun f fd F => ok_call F tl tr td o_take o_aBegin o_aSend o_aCame o_tick o_next o_look o_aHeard o_aForget o_list
  exact ok_answers (by decide) F tr o_lInit o_rInit o_more o_call
end Nb
set_option Elab.async false
set_option linter.all false
namespace PySem.W.Fast
def tw2455137240631164730 : Nat := 0
def tw9452648575796277435 : Nat := 0
def tw10138999070410722298 : Nat := 0
def tw5370934332759697216 : Nat := 0
def tw4300133690112265645 : Nat := 0
def tw1340932779410520059 : Nat := 0
def tw14020769632159479011 : Nat := 0
def tw13058201906288828275 : Nat := 0
def tw129671394323836509 : Nat := 0
def tw8322483370362700247 : Nat := 0
def tw13878866383422390459 : Nat := 0
def tw10323068144647019662 : Nat := 0
def tw10684640500248329043 : Nat := 0
def tw4435437539749760778 : Nat := 0
def tw4306484803344381523 : Nat := 0
def tw6427445607128915160 : Nat := 0
def tw8411271198993169742 : Nat := 0
def tw9149242050078774732 : Nat := 0
def tw11365101574228015416 : Nat := 0
def tw12642748811224663849 : Nat := 0
def tw11387249296146836243 : Nat := 0
def tw6976685564220490089 : Nat := 0
def tw2733576046838499382 : Nat := 0
def tw18332786535803885386 : Nat := 0
def tw10533477929422851570 : Nat := 0
def tw2599408094409490183 : Nat := 0
def tw8054044280536902617 : Nat := 0
def tw16652200927305596363 : Nat := 0
def tw14979278112569503460 : Nat := 0
def tw10675693626574035108 : Nat := 0
def tw11212644233391121916 : Nat := 0
def tw14928040897471371081 : Nat := 0
def tw4659325317690629264 : Nat := 0
def tw14435098795133847037 : Nat := 0
def tw4279983160256395209 : Nat := 0
def tw7712179759760521678 : Nat := 0
def tw13633942689049277328 : Nat := 0
def tw8955147741330441312 : Nat := 0
def tw14445162533776675537 : Nat := 0
def tw10777229923640026863 : Nat := 0
def tw5180052906303926350 : Nat := 0
def tw15146246794871179299 : Nat := 0
def tw9506451777165345900 : Nat := 0
def tw15791195771268371516 : Nat := 0
def tw5424173548603268230 : Nat := 0
def tw1430600743810348183 : Nat := 0
def tw17204786579205475115 : Nat := 0
def tw2886283873370548706 : Nat := 0
def tw3627554186178044519 : Nat := 0
def tw5269001407054564303 : Nat := 0
def tw4593217755552583117 : Nat := 0
def tw16804176758777891896 : Nat := 0
def tw11158909892829094671 : Nat := 0
def tw1068214470348077643 : Nat := 0
def tw9573238684336851090 : Nat := 0
def tw16803471229203866767 : Nat := 0
def tw4123062552047227452 : Nat := 0
def tw2525801818346044992 : Nat := 0
def tw12380191307703947787 : Nat := 0
def tw6062038674253512855 : Nat := 0
def tw15776849163444584270 : Nat := 0
def tw3838802632588751379 : Nat := 0
def tw6921119221533546362 : Nat := 0
def tw14781514478030534099 : Nat := 0
def tw3116986684983128192 : Nat := 0
def tw5358631315752644543 : Nat := 0
def tw16771831698261079054 : Nat := 0
def tw11060198864724951288 : Nat := 0
def tw5698762664578052977 : Nat := 0
def tw3388946837767927825 : Nat := 0
def tw12574054805051661710 : Nat := 0
def tw14494577237810367642 : Nat := 0
def tw8653901544140099544 : Nat := 0
def tw13018436780196535562 : Nat := 0
def tw12851147455978159338 : Nat := 0
def tw17256256830363472188 : Nat := 0
def tw6286969551922702311 : Nat := 0
def tw11886773103256844089 : Nat := 0
end PySem.W.Fast
open PySem PySem.W PyProof.Rows
set_option maxRecDepth 100000 in
set_option maxHeartbeats 0 in
theorem PySem.Challenge.cw_linkneighbours_s01_answers_holds : PySem.Challenge.rw_linkneighbours_s01_answers.Holds := by
  w_on; k_headS; (case hw => exact ⟨[.list [.int 5]], by decide +kernel, by decide +kernel⟩)
  k_fillS
  refine L2.walk_specK (r := PySem.Challenge.rw_linkneighbours_s01_answers) (k := 10) (CX := L2.CX0) (ps := ["calls"]) (sp := Nb.spAnswers) (by decide +kernel) rfl rfl ⟨rfl, by decide, by decide⟩ (fun w h Y => PySem.W.kIn_of Y) ?F ?S (fun _ _ _ _ z => z)
  case F =>
    intro w mg fa h Y KX G hmg
    refine' Nb.all_mk KX G hmg ?iMessage ?iNeighbour ?iWanted ?iLink ?iReader ?tw ?tn ?twd ?tl ?tr ?tx ?td ?dmayLink ?dmayAddr ?dsplit ?djoin ?dwrite ?dread ?mhasDue ?misDue ?mawaited ?mnoteAsked ?mbecKnown ?mbecOld ?mbecAgain ?mtakeWait ?mpass ?mdrop ?mtellKnown ?mtellLost ?mtellOurs ?msendMsg ?mtold ?ddueOrder ?duseOrder ?mrefuse ?mmaySend ?mask ?mlose ?mknow ?mdoDue ?mgo ?mroom ?madd ?mnext ?mletWait ?mhandTo ?mhand ?mheeds ?mtakeAnswer ?mtakeQ ?mtakeM ?mbegin ?mtick ?msend ?mcame ?mmore ?mtake ?mtakeRow ?mlooked ?mlook ?mheard ?mforget ?mlist ?daBegin ?daHeard ?daForget ?daSend ?daCame ?dcall ?dAns
    (case iMessage => (refine' Nb.idef_mk KX G ?iMessage_b ?iMessage_a ?iMessage_i ?iMessage_l ?iMessage_c ?iMessage_k ?iMessage_mk ?iMessage_kc); (case iMessage_b => k_is); (case iMessage_a => k_is); (case iMessage_i => k_is); (case iMessage_l => k_is); (case iMessage_c => k_is); (case iMessage_k => k_is); (case iMessage_mk => k_is); (case iMessage_kc => k_is))
    (case iNeighbour => (refine' Nb.idef_mk KX G ?iNeighbour_b ?iNeighbour_a ?iNeighbour_i ?iNeighbour_l ?iNeighbour_c ?iNeighbour_k ?iNeighbour_mk ?iNeighbour_kc); (case iNeighbour_b => k_is); (case iNeighbour_a => k_is); (case iNeighbour_i => k_is); (case iNeighbour_l => k_is); (case iNeighbour_c => k_is); (case iNeighbour_k => k_is); (case iNeighbour_mk => k_is); (case iNeighbour_kc => k_is))
    (case iWanted => (refine' Nb.idef_mk KX G ?iWanted_b ?iWanted_a ?iWanted_i ?iWanted_l ?iWanted_c ?iWanted_k ?iWanted_mk ?iWanted_kc); (case iWanted_b => k_is); (case iWanted_a => k_is); (case iWanted_i => k_is); (case iWanted_l => k_is); (case iWanted_c => k_is); (case iWanted_k => k_is); (case iWanted_mk => k_is); (case iWanted_kc => k_is))
    (case iLink => (refine' Nb.idef_mk KX G ?iLink_b ?iLink_a ?iLink_i ?iLink_l ?iLink_c ?iLink_k ?iLink_mk ?iLink_kc); (case iLink_b => k_is); (case iLink_a => k_is); (case iLink_i => k_is); (case iLink_l => k_is); (case iLink_c => k_is); (case iLink_k => k_is); (case iLink_mk => k_is); (case iLink_kc => k_is))
    (case iReader => (refine' Nb.idef_mk KX G ?iReader_b ?iReader_a ?iReader_i ?iReader_l ?iReader_c ?iReader_k ?iReader_mk ?iReader_kc); (case iReader_b => k_is); (case iReader_a => k_is); (case iReader_i => k_is); (case iReader_l => k_is); (case iReader_c => k_is); (case iReader_k => k_is); (case iReader_mk => k_is); (case iReader_kc => k_is))
    case tw =>
      refine' ⟨?tw_cl, ?tw_nW, ?tw_nL, ?tw_nA, ?tw_nB, ?tw_everybody, ?tw_everyLink, ?tw_lastPacket, ?tw_bit40, ?tw_asked, ?tw_answered, ?tw_size, ?tw_len, ?tw_range⟩
      (case tw_cl => (refine' ⟨?tw_cl_pg, ?tw_cl_hd, ?tw_cl_po, ?tw_cl_sa⟩); (case tw_cl_pg => k_is); (case tw_cl_hd => k_is); (case tw_cl_po => k_is); (case tw_cl_sa => k_is))
      (case tw_nW => show PySem.W.findIn _ _ _ = _; k_is)
      (case tw_nL => show PySem.W.findIn _ _ _ = _; k_is)
      (case tw_nA => show PySem.W.findIn _ _ _ = _; k_is)
      (case tw_nB => show PySem.W.findIn _ _ _ = _; k_is)
      (case tw_everybody => (refine' Nb.num_of KX G ?tw_everybody_u ?tw_everybody_v); (case tw_everybody_u => k_is); (case tw_everybody_v => rfl))
      (case tw_everyLink => (refine' Nb.num_of KX G ?tw_everyLink_u ?tw_everyLink_v); (case tw_everyLink_u => k_is); (case tw_everyLink_v => rfl))
      (case tw_lastPacket => (refine' Nb.num_of KX G ?tw_lastPacket_u ?tw_lastPacket_v); (case tw_lastPacket_u => k_is); (case tw_lastPacket_v => rfl))
      (case tw_bit40 => (refine' Nb.num_of KX G ?tw_bit40_u ?tw_bit40_v); (case tw_bit40_u => k_is); (case tw_bit40_v => rfl))
      (case tw_asked => (refine' Nb.num_of KX G ?tw_asked_u ?tw_asked_v); (case tw_asked_u => k_is); (case tw_asked_v => rfl))
      (case tw_answered => (refine' Nb.num_of KX G ?tw_answered_u ?tw_answered_v); (case tw_answered_u => k_is); (case tw_answered_v => rfl))
      (case tw_size => (refine' Nb.num_of KX G ?tw_size_u ?tw_size_v); (case tw_size_u => k_is); (case tw_size_v => rfl))
      (case tw_len => (refine' PySem.W.mg_none_of KX G ?tw_len_u); (case tw_len_u => k_is))
      (case tw_range => (refine' PySem.W.mg_none_of KX G ?tw_range_u); (case tw_range_u => k_is))
    case tn =>
      refine' ⟨?tn_cl, ?tn_nA, ?tn_nU, ?tn_nS, ?tn_nL, ?tn_nK, ?tn_nW, ?tn_nD, ?tn_everyLink, ?tn_askedFor, ?tn_known, ?tn_old, ?tn_again, ?tn_knownTime, ?tn_askedTime⟩
      (case tn_cl => (refine' ⟨?tn_cl_pg, ?tn_cl_hd, ?tn_cl_po, ?tn_cl_sa⟩); (case tn_cl_pg => k_is); (case tn_cl_hd => k_is); (case tn_cl_po => k_is); (case tn_cl_sa => k_is))
      (case tn_nA => show PySem.W.findIn _ _ _ = _; k_is)
      (case tn_nU => show PySem.W.findIn _ _ _ = _; k_is)
      (case tn_nS => show PySem.W.findIn _ _ _ = _; k_is)
      (case tn_nL => show PySem.W.findIn _ _ _ = _; k_is)
      (case tn_nK => show PySem.W.findIn _ _ _ = _; k_is)
      (case tn_nW => show PySem.W.findIn _ _ _ = _; k_is)
      (case tn_nD => show PySem.W.findIn _ _ _ = _; k_is)
      (case tn_everyLink => (refine' Nb.num_of KX G ?tn_everyLink_u ?tn_everyLink_v); (case tn_everyLink_u => k_is); (case tn_everyLink_v => rfl))
      (case tn_askedFor => (refine' Nb.num_of KX G ?tn_askedFor_u ?tn_askedFor_v); (case tn_askedFor_u => k_is); (case tn_askedFor_v => rfl))
      (case tn_known => (refine' Nb.num_of KX G ?tn_known_u ?tn_known_v); (case tn_known_u => k_is); (case tn_known_v => rfl))
      (case tn_old => (refine' Nb.num_of KX G ?tn_old_u ?tn_old_v); (case tn_old_u => k_is); (case tn_old_v => rfl))
      (case tn_again => (refine' Nb.num_of KX G ?tn_again_u ?tn_again_v); (case tn_again_u => k_is); (case tn_again_v => rfl))
      (case tn_knownTime => (refine' Nb.num_of KX G ?tn_knownTime_u ?tn_knownTime_v); (case tn_knownTime_u => k_is); (case tn_knownTime_v => rfl))
      (case tn_askedTime => (refine' Nb.num_of KX G ?tn_askedTime_u ?tn_askedTime_v); (case tn_askedTime_u => k_is); (case tn_askedTime_v => rfl))
    case twd =>
      refine' ⟨?twd_cl, ?twd_nT, ?twd_passed, ?twd_sent, ?twd_dropped, ?twd_knownNow, ?twd_lost, ?twd_ours, ?twd_len⟩
      (case twd_cl => (refine' ⟨?twd_cl_pg, ?twd_cl_hd, ?twd_cl_po, ?twd_cl_sa⟩); (case twd_cl_pg => k_is); (case twd_cl_hd => k_is); (case twd_cl_po => k_is); (case twd_cl_sa => k_is))
      (case twd_nT => show PySem.W.findIn _ _ _ = _; k_is)
      (case twd_passed => (refine' Nb.num_of KX G ?twd_passed_u ?twd_passed_v); (case twd_passed_u => k_is); (case twd_passed_v => rfl))
      (case twd_sent => (refine' Nb.num_of KX G ?twd_sent_u ?twd_sent_v); (case twd_sent_u => k_is); (case twd_sent_v => rfl))
      (case twd_dropped => (refine' Nb.num_of KX G ?twd_dropped_u ?twd_dropped_v); (case twd_dropped_u => k_is); (case twd_dropped_v => rfl))
      (case twd_knownNow => (refine' Nb.num_of KX G ?twd_knownNow_u ?twd_knownNow_v); (case twd_knownNow_u => k_is); (case twd_knownNow_v => rfl))
      (case twd_lost => (refine' Nb.num_of KX G ?twd_lost_u ?twd_lost_v); (case twd_lost_u => k_is); (case twd_lost_v => rfl))
      (case twd_ours => (refine' Nb.num_of KX G ?twd_ours_u ?twd_ours_v); (case twd_ours_u => k_is); (case twd_ours_v => rfl))
      (case twd_len => (refine' PySem.W.mg_none_of KX G ?twd_len_u); (case twd_len_u => k_is))
    case tl =>
      refine' ⟨?tl_cl, ?tl_nM, ?tl_nA, ?tl_nN, ?tl_nD, ?tl_firstLink, ?tl_firstAddr, ?tl_lastNow, ?tl_most, ?tl_mostW, ?tl_mostA, ?tl_fine, ?tl_wrong, ?tl_nothing, ?tl_noMessage, ?tl_earlier, ?tl_nobody, ?tl_tooMany, ?tl_noRoom, ?tl_len, ?tl_min, ?tl_sorted⟩
      (case tl_cl => (refine' ⟨?tl_cl_pg, ?tl_cl_hd, ?tl_cl_po, ?tl_cl_sa⟩); (case tl_cl_pg => k_is); (case tl_cl_hd => k_is); (case tl_cl_po => k_is); (case tl_cl_sa => k_is))
      (case tl_nM => show PySem.W.findIn _ _ _ = _; k_is)
      (case tl_nA => show PySem.W.findIn _ _ _ = _; k_is)
      (case tl_nN => show PySem.W.findIn _ _ _ = _; k_is)
      (case tl_nD => show PySem.W.findIn _ _ _ = _; k_is)
      (case tl_firstLink => (refine' Nb.num_of KX G ?tl_firstLink_u ?tl_firstLink_v); (case tl_firstLink_u => k_is); (case tl_firstLink_v => rfl))
      (case tl_firstAddr => (refine' Nb.num_of KX G ?tl_firstAddr_u ?tl_firstAddr_v); (case tl_firstAddr_u => k_is); (case tl_firstAddr_v => rfl))
      (case tl_lastNow => (refine' Nb.num_of KX G ?tl_lastNow_u ?tl_lastNow_v); (case tl_lastNow_u => k_is); (case tl_lastNow_v => rfl))
      (case tl_most => (refine' Nb.num_of KX G ?tl_most_u ?tl_most_v); (case tl_most_u => k_is); (case tl_most_v => rfl))
      (case tl_mostW => (refine' Nb.num_of KX G ?tl_mostW_u ?tl_mostW_v); (case tl_mostW_u => k_is); (case tl_mostW_v => rfl))
      (case tl_mostA => (refine' Nb.num_of KX G ?tl_mostA_u ?tl_mostA_v); (case tl_mostA_u => k_is); (case tl_mostA_v => rfl))
      (case tl_fine => (refine' Nb.num_of KX G ?tl_fine_u ?tl_fine_v); (case tl_fine_u => k_is); (case tl_fine_v => rfl))
      (case tl_wrong => (refine' Nb.num_of KX G ?tl_wrong_u ?tl_wrong_v); (case tl_wrong_u => k_is); (case tl_wrong_v => rfl))
      (case tl_nothing => (refine' Nb.num_of KX G ?tl_nothing_u ?tl_nothing_v); (case tl_nothing_u => k_is); (case tl_nothing_v => rfl))
      (case tl_noMessage => (refine' Nb.num_of KX G ?tl_noMessage_u ?tl_noMessage_v); (case tl_noMessage_u => k_is); (case tl_noMessage_v => rfl))
      (case tl_earlier => (refine' Nb.num_of KX G ?tl_earlier_u ?tl_earlier_v); (case tl_earlier_u => k_is); (case tl_earlier_v => rfl))
      (case tl_nobody => (refine' Nb.num_of KX G ?tl_nobody_u ?tl_nobody_v); (case tl_nobody_u => k_is); (case tl_nobody_v => rfl))
      (case tl_tooMany => (refine' Nb.num_of KX G ?tl_tooMany_u ?tl_tooMany_v); (case tl_tooMany_u => k_is); (case tl_tooMany_v => rfl))
      (case tl_noRoom => (refine' Nb.num_of KX G ?tl_noRoom_u ?tl_noRoom_v); (case tl_noRoom_u => k_is); (case tl_noRoom_v => rfl))
      (case tl_len => (refine' PySem.W.mg_none_of KX G ?tl_len_u); (case tl_len_u => k_is))
      (case tl_min => (refine' PySem.W.mg_none_of KX G ?tl_min_u); (case tl_min_u => k_is))
      (case tl_sorted => (refine' PySem.W.mg_none_of KX G ?tl_sorted_u); (case tl_sorted_u => k_is))
    case tr =>
      refine' ⟨?tr_cl, ?tr_nN, ?tr_nP, ?tr_len⟩
      (case tr_cl => (refine' ⟨?tr_cl_pg, ?tr_cl_hd, ?tr_cl_po, ?tr_cl_sa⟩); (case tr_cl_pg => k_is); (case tr_cl_hd => k_is); (case tr_cl_po => k_is); (case tr_cl_sa => k_is))
      (case tr_nN => show PySem.W.findIn _ _ _ = _; k_is)
      (case tr_nP => show PySem.W.findIn _ _ _ = _; k_is)
      (case tr_len => (refine' PySem.W.mg_none_of KX G ?tr_len_u); (case tr_len_u => k_is))
    case tx =>
      refine' ⟨?tx_forgotten, ?tx_list, ?tx_len⟩
      (case tx_forgotten => (refine' Nb.num_of KX G ?tx_forgotten_u ?tx_forgotten_v); (case tx_forgotten_u => k_is); (case tx_forgotten_v => rfl))
      (case tx_list => (refine' PySem.W.mg_none_of KX G ?tx_list_u); (case tx_list_u => k_is))
      (case tx_len => (refine' PySem.W.mg_none_of KX G ?tx_len_u); (case tx_len_u => k_is))
    case td =>
      refine' ⟨?td_begin_, ?td_send, ?td_came, ?td_tick, ?td_next, ?td_look, ?td_heard, ?td_forget, ?td_list⟩
      (case td_begin_ => (refine' Nb.num_of KX G ?td_begin__u ?td_begin__v); (case td_begin__u => k_is); (case td_begin__v => rfl))
      (case td_send => (refine' Nb.num_of KX G ?td_send_u ?td_send_v); (case td_send_u => k_is); (case td_send_v => rfl))
      (case td_came => (refine' Nb.num_of KX G ?td_came_u ?td_came_v); (case td_came_u => k_is); (case td_came_v => rfl))
      (case td_tick => (refine' Nb.num_of KX G ?td_tick_u ?td_tick_v); (case td_tick_u => k_is); (case td_tick_v => rfl))
      (case td_next => (refine' Nb.num_of KX G ?td_next_u ?td_next_v); (case td_next_u => k_is); (case td_next_v => rfl))
      (case td_look => (refine' Nb.num_of KX G ?td_look_u ?td_look_v); (case td_look_u => k_is); (case td_look_v => rfl))
      (case td_heard => (refine' Nb.num_of KX G ?td_heard_u ?td_heard_v); (case td_heard_u => k_is); (case td_heard_v => rfl))
      (case td_forget => (refine' Nb.num_of KX G ?td_forget_u ?td_forget_v); (case td_forget_u => k_is); (case td_forget_v => rfl))
      (case td_list => (refine' Nb.num_of KX G ?td_list_u ?td_list_v); (case td_list_u => k_is); (case td_list_v => rfl))
    (case dmayLink => (refine' Nb.def_mk KX G ?dmayLink_a ?dmayLink_l ?dmayLink_c ?dmayLink_k); (case dmayLink_a => k_is); (case dmayLink_l => k_is); (case dmayLink_c => k_is); (case dmayLink_k => k_is))
    (case dmayAddr => (refine' Nb.def_mk KX G ?dmayAddr_a ?dmayAddr_l ?dmayAddr_c ?dmayAddr_k); (case dmayAddr_a => k_is); (case dmayAddr_l => k_is); (case dmayAddr_c => k_is); (case dmayAddr_k => k_is))
    (case dsplit => (refine' Nb.def_mk KX G ?dsplit_a ?dsplit_l ?dsplit_c ?dsplit_k); (case dsplit_a => k_is); (case dsplit_l => k_is); (case dsplit_c => k_is); (case dsplit_k => k_is))
    (case djoin => (refine' Nb.def_mk KX G ?djoin_a ?djoin_l ?djoin_c ?djoin_k); (case djoin_a => k_is); (case djoin_l => k_is); (case djoin_c => k_is); (case djoin_k => k_is))
    (case dwrite => (refine' Nb.def_mk KX G ?dwrite_a ?dwrite_l ?dwrite_c ?dwrite_k); (case dwrite_a => k_is); (case dwrite_l => k_is); (case dwrite_c => k_is); (case dwrite_k => k_is))
    (case dread => (refine' Nb.def_mk KX G ?dread_a ?dread_l ?dread_c ?dread_k); (case dread_a => k_is); (case dread_l => k_is); (case dread_c => k_is); (case dread_k => k_is))
    (case mhasDue => (refine' Nb.mdef_mk ?mhasDue_a ?mhasDue_i ?mhasDue_l ?mhasDue_c ?mhasDue_k); (case mhasDue_a => k_is); (case mhasDue_i => k_is); (case mhasDue_l => k_is); (case mhasDue_c => k_is); (case mhasDue_k => k_is))
    (case misDue => (refine' Nb.mdef_mk ?misDue_a ?misDue_i ?misDue_l ?misDue_c ?misDue_k); (case misDue_a => k_is); (case misDue_i => k_is); (case misDue_l => k_is); (case misDue_c => k_is); (case misDue_k => k_is))
    (case mawaited => (refine' Nb.mdef_mk ?mawaited_a ?mawaited_i ?mawaited_l ?mawaited_c ?mawaited_k); (case mawaited_a => k_is); (case mawaited_i => k_is); (case mawaited_l => k_is); (case mawaited_c => k_is); (case mawaited_k => k_is))
    (case mnoteAsked => (refine' Nb.mdef_mk ?mnoteAsked_a ?mnoteAsked_i ?mnoteAsked_l ?mnoteAsked_c ?mnoteAsked_k); (case mnoteAsked_a => k_is); (case mnoteAsked_i => k_is); (case mnoteAsked_l => k_is); (case mnoteAsked_c => k_is); (case mnoteAsked_k => k_is))
    (case mbecKnown => (refine' Nb.mdef_mk ?mbecKnown_a ?mbecKnown_i ?mbecKnown_l ?mbecKnown_c ?mbecKnown_k); (case mbecKnown_a => k_is); (case mbecKnown_i => k_is); (case mbecKnown_l => k_is); (case mbecKnown_c => k_is); (case mbecKnown_k => k_is))
    (case mbecOld => (refine' Nb.mdef_mk ?mbecOld_a ?mbecOld_i ?mbecOld_l ?mbecOld_c ?mbecOld_k); (case mbecOld_a => k_is); (case mbecOld_i => k_is); (case mbecOld_l => k_is); (case mbecOld_c => k_is); (case mbecOld_k => k_is))
    (case mbecAgain => (refine' Nb.mdef_mk ?mbecAgain_a ?mbecAgain_i ?mbecAgain_l ?mbecAgain_c ?mbecAgain_k); (case mbecAgain_a => k_is); (case mbecAgain_i => k_is); (case mbecAgain_l => k_is); (case mbecAgain_c => k_is); (case mbecAgain_k => k_is))
    (case mtakeWait => (refine' Nb.mdef_mk ?mtakeWait_a ?mtakeWait_i ?mtakeWait_l ?mtakeWait_c ?mtakeWait_k); (case mtakeWait_a => k_is); (case mtakeWait_i => k_is); (case mtakeWait_l => k_is); (case mtakeWait_c => k_is); (case mtakeWait_k => k_is))
    (case mpass => (refine' Nb.mdef_mk ?mpass_a ?mpass_i ?mpass_l ?mpass_c ?mpass_k); (case mpass_a => k_is); (case mpass_i => k_is); (case mpass_l => k_is); (case mpass_c => k_is); (case mpass_k => k_is))
    (case mdrop => (refine' Nb.mdef_mk ?mdrop_a ?mdrop_i ?mdrop_l ?mdrop_c ?mdrop_k); (case mdrop_a => k_is); (case mdrop_i => k_is); (case mdrop_l => k_is); (case mdrop_c => k_is); (case mdrop_k => k_is))
    (case mtellKnown => (refine' Nb.mdef_mk ?mtellKnown_a ?mtellKnown_i ?mtellKnown_l ?mtellKnown_c ?mtellKnown_k); (case mtellKnown_a => k_is); (case mtellKnown_i => k_is); (case mtellKnown_l => k_is); (case mtellKnown_c => k_is); (case mtellKnown_k => k_is))
    (case mtellLost => (refine' Nb.mdef_mk ?mtellLost_a ?mtellLost_i ?mtellLost_l ?mtellLost_c ?mtellLost_k); (case mtellLost_a => k_is); (case mtellLost_i => k_is); (case mtellLost_l => k_is); (case mtellLost_c => k_is); (case mtellLost_k => k_is))
    (case mtellOurs => (refine' Nb.mdef_mk ?mtellOurs_a ?mtellOurs_i ?mtellOurs_l ?mtellOurs_c ?mtellOurs_k); (case mtellOurs_a => k_is); (case mtellOurs_i => k_is); (case mtellOurs_l => k_is); (case mtellOurs_c => k_is); (case mtellOurs_k => k_is))
    (case msendMsg => (refine' Nb.mdef_mk ?msendMsg_a ?msendMsg_i ?msendMsg_l ?msendMsg_c ?msendMsg_k); (case msendMsg_a => k_is); (case msendMsg_i => k_is); (case msendMsg_l => k_is); (case msendMsg_c => k_is); (case msendMsg_k => k_is))
    (case mtold => (refine' Nb.mdef_mk ?mtold_a ?mtold_i ?mtold_l ?mtold_c ?mtold_k); (case mtold_a => k_is); (case mtold_i => k_is); (case mtold_l => k_is); (case mtold_c => k_is); (case mtold_k => k_is))
    (case ddueOrder => (refine' Nb.def_mk KX G ?ddueOrder_a ?ddueOrder_l ?ddueOrder_c ?ddueOrder_k); (case ddueOrder_a => k_is); (case ddueOrder_l => k_is); (case ddueOrder_c => k_is); (case ddueOrder_k => k_is))
    (case duseOrder => (refine' Nb.def_mk KX G ?duseOrder_a ?duseOrder_l ?duseOrder_c ?duseOrder_k); (case duseOrder_a => k_is); (case duseOrder_l => k_is); (case duseOrder_c => k_is); (case duseOrder_k => k_is))
    (case mrefuse => (refine' Nb.mdef_mk ?mrefuse_a ?mrefuse_i ?mrefuse_l ?mrefuse_c ?mrefuse_k); (case mrefuse_a => k_is); (case mrefuse_i => k_is); (case mrefuse_l => k_is); (case mrefuse_c => k_is); (case mrefuse_k => k_is))
    (case mmaySend => (refine' Nb.mdef_mk ?mmaySend_a ?mmaySend_i ?mmaySend_l ?mmaySend_c ?mmaySend_k); (case mmaySend_a => k_is); (case mmaySend_i => k_is); (case mmaySend_l => k_is); (case mmaySend_c => k_is); (case mmaySend_k => k_is))
    (case mask => (refine' Nb.mdef_mk ?mask_a ?mask_i ?mask_l ?mask_c ?mask_k); (case mask_a => k_is); (case mask_i => k_is); (case mask_l => k_is); (case mask_c => k_is); (case mask_k => k_is))
    (case mlose => (refine' Nb.mdef_mk ?mlose_a ?mlose_i ?mlose_l ?mlose_c ?mlose_k); (case mlose_a => k_is); (case mlose_i => k_is); (case mlose_l => k_is); (case mlose_c => k_is); (case mlose_k => k_is))
    (case mknow => (refine' Nb.mdef_mk ?mknow_a ?mknow_i ?mknow_l ?mknow_c ?mknow_k); (case mknow_a => k_is); (case mknow_i => k_is); (case mknow_l => k_is); (case mknow_c => k_is); (case mknow_k => k_is))
    (case mdoDue => (refine' Nb.mdef_mk ?mdoDue_a ?mdoDue_i ?mdoDue_l ?mdoDue_c ?mdoDue_k); (case mdoDue_a => k_is); (case mdoDue_i => k_is); (case mdoDue_l => k_is); (case mdoDue_c => k_is); (case mdoDue_k => k_is))
    (case mgo => (refine' Nb.mdef_mk ?mgo_a ?mgo_i ?mgo_l ?mgo_c ?mgo_k); (case mgo_a => k_is); (case mgo_i => k_is); (case mgo_l => k_is); (case mgo_c => k_is); (case mgo_k => k_is))
    (case mroom => (refine' Nb.mdef_mk ?mroom_a ?mroom_i ?mroom_l ?mroom_c ?mroom_k); (case mroom_a => k_is); (case mroom_i => k_is); (case mroom_l => k_is); (case mroom_c => k_is); (case mroom_k => k_is))
    (case madd => (refine' Nb.mdef_mk ?madd_a ?madd_i ?madd_l ?madd_c ?madd_k); (case madd_a => k_is); (case madd_i => k_is); (case madd_l => k_is); (case madd_c => k_is); (case madd_k => k_is))
    (case mnext => (refine' Nb.mdef_mk ?mnext_a ?mnext_i ?mnext_l ?mnext_c ?mnext_k); (case mnext_a => k_is); (case mnext_i => k_is); (case mnext_l => k_is); (case mnext_c => k_is); (case mnext_k => k_is))
    (case mletWait => (refine' Nb.mdef_mk ?mletWait_a ?mletWait_i ?mletWait_l ?mletWait_c ?mletWait_k); (case mletWait_a => k_is); (case mletWait_i => k_is); (case mletWait_l => k_is); (case mletWait_c => k_is); (case mletWait_k => k_is))
    (case mhandTo => (refine' Nb.mdef_mk ?mhandTo_a ?mhandTo_i ?mhandTo_l ?mhandTo_c ?mhandTo_k); (case mhandTo_a => k_is); (case mhandTo_i => k_is); (case mhandTo_l => k_is); (case mhandTo_c => k_is); (case mhandTo_k => k_is))
    (case mhand => (refine' Nb.mdef_mk ?mhand_a ?mhand_i ?mhand_l ?mhand_c ?mhand_k); (case mhand_a => k_is); (case mhand_i => k_is); (case mhand_l => k_is); (case mhand_c => k_is); (case mhand_k => k_is))
    (case mheeds => (refine' Nb.mdef_mk ?mheeds_a ?mheeds_i ?mheeds_l ?mheeds_c ?mheeds_k); (case mheeds_a => k_is); (case mheeds_i => k_is); (case mheeds_l => k_is); (case mheeds_c => k_is); (case mheeds_k => k_is))
    (case mtakeAnswer => (refine' Nb.mdef_mk ?mtakeAnswer_a ?mtakeAnswer_i ?mtakeAnswer_l ?mtakeAnswer_c ?mtakeAnswer_k); (case mtakeAnswer_a => k_is); (case mtakeAnswer_i => k_is); (case mtakeAnswer_l => k_is); (case mtakeAnswer_c => k_is); (case mtakeAnswer_k => k_is))
    (case mtakeQ => (refine' Nb.mdef_mk ?mtakeQ_a ?mtakeQ_i ?mtakeQ_l ?mtakeQ_c ?mtakeQ_k); (case mtakeQ_a => k_is); (case mtakeQ_i => k_is); (case mtakeQ_l => k_is); (case mtakeQ_c => k_is); (case mtakeQ_k => k_is))
    (case mtakeM => (refine' Nb.mdef_mk ?mtakeM_a ?mtakeM_i ?mtakeM_l ?mtakeM_c ?mtakeM_k); (case mtakeM_a => k_is); (case mtakeM_i => k_is); (case mtakeM_l => k_is); (case mtakeM_c => k_is); (case mtakeM_k => k_is))
    (case mbegin => (refine' Nb.mdef_mk ?mbegin_a ?mbegin_i ?mbegin_l ?mbegin_c ?mbegin_k); (case mbegin_a => k_is); (case mbegin_i => k_is); (case mbegin_l => k_is); (case mbegin_c => k_is); (case mbegin_k => k_is))
    (case mtick => (refine' Nb.mdef_mk ?mtick_a ?mtick_i ?mtick_l ?mtick_c ?mtick_k); (case mtick_a => k_is); (case mtick_i => k_is); (case mtick_l => k_is); (case mtick_c => k_is); (case mtick_k => k_is))
    (case msend => (refine' Nb.mdef_mk ?msend_a ?msend_i ?msend_l ?msend_c ?msend_k); (case msend_a => k_is); (case msend_i => k_is); (case msend_l => k_is); (case msend_c => k_is); (case msend_k => k_is))
    (case mcame => (refine' Nb.mdef_mk ?mcame_a ?mcame_i ?mcame_l ?mcame_c ?mcame_k); (case mcame_a => k_is); (case mcame_i => k_is); (case mcame_l => k_is); (case mcame_c => k_is); (case mcame_k => k_is))
    (case mmore => (refine' Nb.mdef_mk ?mmore_a ?mmore_i ?mmore_l ?mmore_c ?mmore_k); (case mmore_a => k_is); (case mmore_i => k_is); (case mmore_l => k_is); (case mmore_c => k_is); (case mmore_k => k_is))
    (case mtake => (refine' Nb.mdef_mk ?mtake_a ?mtake_i ?mtake_l ?mtake_c ?mtake_k); (case mtake_a => k_is); (case mtake_i => k_is); (case mtake_l => k_is); (case mtake_c => k_is); (case mtake_k => k_is))
    (case mtakeRow => (refine' Nb.mdef_mk ?mtakeRow_a ?mtakeRow_i ?mtakeRow_l ?mtakeRow_c ?mtakeRow_k); (case mtakeRow_a => k_is); (case mtakeRow_i => k_is); (case mtakeRow_l => k_is); (case mtakeRow_c => k_is); (case mtakeRow_k => k_is))
    (case mlooked => (refine' Nb.mdef_mk ?mlooked_a ?mlooked_i ?mlooked_l ?mlooked_c ?mlooked_k); (case mlooked_a => k_is); (case mlooked_i => k_is); (case mlooked_l => k_is); (case mlooked_c => k_is); (case mlooked_k => k_is))
    (case mlook => (refine' Nb.mdef_mk ?mlook_a ?mlook_i ?mlook_l ?mlook_c ?mlook_k); (case mlook_a => k_is); (case mlook_i => k_is); (case mlook_l => k_is); (case mlook_c => k_is); (case mlook_k => k_is))
    (case mheard => (refine' Nb.mdef_mk ?mheard_a ?mheard_i ?mheard_l ?mheard_c ?mheard_k); (case mheard_a => k_is); (case mheard_i => k_is); (case mheard_l => k_is); (case mheard_c => k_is); (case mheard_k => k_is))
    (case mforget => (refine' Nb.mdef_mk ?mforget_a ?mforget_i ?mforget_l ?mforget_c ?mforget_k); (case mforget_a => k_is); (case mforget_i => k_is); (case mforget_l => k_is); (case mforget_c => k_is); (case mforget_k => k_is))
    (case mlist => (refine' Nb.mdef_mk ?mlist_a ?mlist_i ?mlist_l ?mlist_c ?mlist_k); (case mlist_a => k_is); (case mlist_i => k_is); (case mlist_l => k_is); (case mlist_c => k_is); (case mlist_k => k_is))
    (case daBegin => (refine' Nb.def_mk KX G ?daBegin_a ?daBegin_l ?daBegin_c ?daBegin_k); (case daBegin_a => k_is); (case daBegin_l => k_is); (case daBegin_c => k_is); (case daBegin_k => k_is))
    (case daHeard => (refine' Nb.def_mk KX G ?daHeard_a ?daHeard_l ?daHeard_c ?daHeard_k); (case daHeard_a => k_is); (case daHeard_l => k_is); (case daHeard_c => k_is); (case daHeard_k => k_is))
    (case daForget => (refine' Nb.def_mk KX G ?daForget_a ?daForget_l ?daForget_c ?daForget_k); (case daForget_a => k_is); (case daForget_l => k_is); (case daForget_c => k_is); (case daForget_k => k_is))
    (case daSend => (refine' Nb.def_mk KX G ?daSend_a ?daSend_l ?daSend_c ?daSend_k); (case daSend_a => k_is); (case daSend_l => k_is); (case daSend_c => k_is); (case daSend_k => k_is))
    (case daCame => (refine' Nb.def_mk KX G ?daCame_a ?daCame_l ?daCame_c ?daCame_k); (case daCame_a => k_is); (case daCame_l => k_is); (case daCame_c => k_is); (case daCame_k => k_is))
    (case dcall => (refine' Nb.def_mk KX G ?dcall_a ?dcall_l ?dcall_c ?dcall_k); (case dcall_a => k_is); (case dcall_l => k_is); (case dcall_c => k_is); (case dcall_k => k_is))
    (case dAns => (refine' Nb.def_mk KX G ?dAns_a ?dAns_l ?dAns_c ?dAns_k); (case dAns_a => k_is); (case dAns_l => k_is); (case dAns_c => k_is); (case dAns_k => k_is))
  case S =>
    intro K H xs a hO hwi hask hx
    cases hx with
    | cons h1 h2 =>
      cases h2
      cases h1 with
      | lst hs ha =>
        have e := L2.ints_dw a.1 _ ha
        subst e
        have q : ((Codec.inLen 0 16000 a.1 && a.1.all (Codec.inInt 0 18446744073709551615)) && true) = true := hwi
        rw [Bool.and_eq_true, Bool.and_eq_true] at q
        refine ⟨_, a.1, rfl, ?_, fun z hz => ?_, hask, fun H' p hp => .lst (L2.SqL.of hp) (L2.dw_ints _)⟩
        · rcases hs with (hs | hs) | hs
          · rcases hO _ with z | ⟨ob, u, z⟩
            · rw [hs] at z
              cases z
            · rw [hs] at z
              cases z
          · exact .inl hs
          · exact .inr hs
        · exact (Codec.inInt_iff.mp (List.all_eq_true.mp q.1.2 z hz)).1
