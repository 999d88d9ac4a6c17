import PyProof.Rows.All
import Wide.All
import OpenK.AllK
import Wide.FinOn
import Lean
import PyProof.EqAt
import PyProof.EqKinds
import PyProof.TupleCall
import PyProof.ExcClass2
import PyProof.StationsW
import PyProof.RulesAs
import PyProof.StrWalks
import PyProof.ConsumeWalk
import PyProof.StrLawsIn
import KE.KTab
import PyProof.CompFree
import PyProof.NeKinds
import PyProof.CompMap
import KE.KDictOf
import KE.KRevIter
import PyProof.WalksEnum
import PyProof.ListRange
import PyProof.ZipIter
import PyProof.Rows.Range3
import PyProof.CompUse
import PyProof.FitsInt
import PySem.Challenge.RW_plainspeak_k18_numbers_reckoned
def PySem.W.Fast.tw5717337519504524896 : Nat := 0
def PySem.W.Fast.tw18290676935020864710 : Nat := 0
def PySem.W.Fast.tw1903442137779162318 : Nat := 0
def PySem.W.Fast.tw5447260770415985213 : Nat := 0
def PySem.W.Fast.tw13377386169666381465 : Nat := 0
def PySem.W.Fast.tw13782590201878949574 : Nat := 0
def PySem.W.Fast.tw6793845095309916034 : Nat := 0
def PySem.W.Fast.tw1164182335537001939 : Nat := 0
def PySem.W.Fast.tw14339661773967124385 : Nat := 0
def PySem.W.Fast.tw8058601915689425102 : Nat := 0
def PySem.W.Fast.tw18110258299636559768 : Nat := 0
def PySem.W.Fast.tw17715984171032568407 : Nat := 0
def PySem.W.Fast.tw2736415469970236062 : Nat := 0
def PySem.W.Fast.tw7330368349772400621 : Nat := 0
def PySem.W.Fast.tw4096879913563060511 : Nat := 0
def PySem.W.Fast.tw191826204621572335 : Nat := 0
def PySem.W.Fast.tw12710353070594294076 : Nat := 0
def PySem.W.Fast.tw11065360867886145947 : Nat := 0
def PySem.W.Fast.tw2276601872280541163 : Nat := 0
def PySem.W.Fast.tw5440795480395209049 : Nat := 0
def PySem.W.Fast.tw10305337930704909157 : Nat := 0
def PySem.W.Fast.tw13196345520205794454 : Nat := 0
def PySem.W.Fast.tw2920353605045806129 : Nat := 0
def PySem.W.Fast.tw17264200935597433381 : Nat := 0
def PySem.W.Fast.tw14279287132348265415 : Nat := 0

set_option Elab.async false
set_option linter.all false
set_option maxRecDepth 100000
namespace L2
open PySem PySem.Spec PyProof.Rows
abbrev Key := Sum Int Str
def keyIs : Key → Value → Bool
  | .inl k, v => Value.isInt k v
  | .inr x, v => Value.isStrOf x v
def keyH (w : World) : Key → Int
  | .inl k => hashInt k
  | .inr x => hashStr w x
theorem keyIs_shape : ∀ {k : Key} {v : Value}, keyIs k v = true → (∃ i t, k = Sum.inl i ∧ v = Value.int i t) ∨ (∃ x t, k = Sum.inr x ∧ v = Value.str x t)
  | .inl i, v, h => by
    obtain ⟨t, e⟩ := Value.isInt_shape (k := i) (v := v) h
    exact .inl ⟨i, t, rfl, e⟩
  | .inr x, v, h => by
    obtain ⟨t, e⟩ := Value.isStrOf_shape (x := x) (v := v) h
    exact .inr ⟨x, t, rfl, e⟩
theorem key_ll (a b : Int) : decide ((Sum.inl a : Key) = Sum.inl b) = (a == b) := by
  by_cases e : a = b
  · subst e; simp
  · have h : ¬ (Sum.inl a : Key) = Sum.inl b := fun q => e (Sum.inl.inj q)
    rw [decide_eq_false h]
    exact (beq_eq_false_iff_ne.mpr e).symm
theorem key_rr (a b : Str) : decide ((Sum.inr a : Key) = Sum.inr b) = decide (a = b) := by
  by_cases e : a = b
  · subst e; simp
  · have h : ¬ (Sum.inr a : Key) = Sum.inr b := fun q => e (Sum.inr.inj q)
    rw [decide_eq_false h, decide_eq_false e]
theorem key_lr (a : Int) (b : Str) : decide ((Sum.inl a : Key) = Sum.inr b) = false := decide_eq_false (fun q => nomatch q)
theorem key_rl (a : Str) (b : Int) : decide ((Sum.inr a : Key) = Sum.inl b) = false := decide_eq_false (fun q => nomatch q)
def mixKind (prog : Program) (w : World) : PySem.KeyKind prog w Key where
  is := keyIs
  hash := keyH w
  inj := fun v a b ha hb => by
    rcases keyIs_shape ha with ⟨i, t, rfl, rfl⟩ | ⟨x, t, rfl, rfl⟩
    · rcases keyIs_shape hb with ⟨j, u, rfl, e⟩ | ⟨y, u, rfl, e⟩
      · injection e with e1 _; rw [e1]
      · exact nomatch e
    · rcases keyIs_shape hb with ⟨j, u, rfl, e⟩ | ⟨y, u, rfl, e⟩
      · exact nomatch e
      · injection e with e1 _; rw [e1]
  byValue := fun k v h => by
    rcases keyIs_shape h with ⟨i, t, rfl, rfl⟩ | ⟨x, t, rfl, rfl⟩ <;> rfl
  pyHash := fun hv h => by
    rcases keyIs_shape hv with ⟨i, t, rfl, rfl⟩ | ⟨x, t, rfl, rfl⟩
    · exact wpAny_pyHash_int h
    · exact wpAny_pyHash_str h
  eqBool := fun hu hv h => by
    rcases keyIs_shape hu with ⟨i, t, rfl, rfl⟩ | ⟨x, t, rfl, rfl⟩
    · rcases keyIs_shape hv with ⟨j, u, rfl, rfl⟩ | ⟨y, u, rfl, rfl⟩
      · rw [key_ll] at h; exact wpAny_eqBool_int h
      · rw [key_lr] at h; exact SeqAt.EqAt.int_str i t y u _ _ _ _ h
    · rcases keyIs_shape hv with ⟨j, u, rfl, rfl⟩ | ⟨y, u, rfl, rfl⟩
      · rw [key_rl] at h; exact SeqAt.EqAt.str_int x t j u _ _ _ _ h
      · rw [key_rr] at h; exact wpAny_eqBool_str h
  «strs» := fun k x t v h => by
    rcases keyIs_shape h with ⟨i, u, rfl, e⟩ | ⟨y, u, rfl, e⟩
    · exact nomatch e
    · injection e with e1 _
      subst e1
      cases v <;> rfl
end L2
namespace L2
open PySem PySem.Spec PyProof.Rows
inductive V where
  | non | bl (b : Bool) | int (i : Int) | str (x : Str) | byt (b : Array UInt8) | flt (b : UInt64) | ref (a : Addr) | ty (n : String)
  deriving DecidableEq
def RelV : V → Value → Prop
  | .non, u => u = Value.none
  | .bl b, u => u = Value.bool b
  | .int i, u => ∃ t, u = Value.int i t
  | .str x, u => ∃ t, u = Value.str x t
  | .byt b, u => ∃ t, u = Value.bytes b t
  | .flt b, u => ∃ t, u = Value.float b t
  | .ref a, u => u = Value.ref a
  | .ty n, u => u = Value.type n
abbrev Vals : List V → List Value → Prop := Paired RelV
theorem Vals.length {xs : List V} {us : List Value} (r : Vals xs us) : xs.length = us.length := Paired.length r
theorem Vals.get : ∀ {xs : List V} {us : List Value} {i : Nat} {x : V}, Vals xs us → xs[i]? = some x → ∃ u, us[i]? = some u ∧ RelV x u
  | _, _, _, _, .nil, e => by simp at e
  | _, _, 0, _, .cons r _, e => by simp at e; subst e; exact ⟨_, rfl, r⟩
  | _, _, i + 1, x, .cons _ t, e => by
    obtain ⟨u, h1, h2⟩ := Vals.get (i := i) (x := x) t (by simpa using e)
    exact ⟨u, by simpa using h1, h2⟩
theorem Vals.set {x : V} {u : Value} (r : RelV x u) : ∀ {xs : List V} {us : List Value} (i : Nat), Vals xs us → Vals (xs.set i x) (us.set i u)
  | _, _, _, .nil => .nil
  | _, _, 0, .cons _ t => .cons r t
  | _, _, i + 1, .cons q t => .cons q (Vals.set r i t)
theorem Vals.append : ∀ {xs ys : List V} {us ws : List Value}, Vals xs us → Vals ys ws → Vals (xs ++ ys) (us ++ ws)
  | _, _, _, _, .nil, s => s
  | _, _, _, _, .cons r t, s => .cons r (Vals.append t s)
theorem Vals.take : ∀ {xs : List V} {us : List Value} (n : Nat), Vals xs us → Vals (xs.take n) (us.take n)
  | _, _, 0, _ => .nil
  | _, _, _ + 1, .nil => .nil
  | _, _, n + 1, .cons r t => .cons r (Vals.take n t)
theorem Vals.drop : ∀ {xs : List V} {us : List Value} (n : Nat), Vals xs us → Vals (xs.drop n) (us.drop n)
  | _, _, 0, r => r
  | _, _, _ + 1, .nil => .nil
  | _, _, n + 1, .cons _ t => Vals.drop n t
theorem Vals.none_of : ∀ {xs : List V} {us : List Value} {i : Nat}, Vals xs us → xs[i]? = none → us[i]? = none := fun {xs us i} r e => by
  have h1 := r.length
  have h2 : xs.length ≤ i := List.getElem?_eq_none_iff.mp e
  exact List.getElem?_eq_none_iff.mpr (by omega)
def RelO : Option V → Option Value → Prop
  | some v, some u => RelV v u
  | none, none => True
  | _, _ => False
def KV {κ : Type} : List (κ × V) → List (κ × Value) → Prop := Paired fun (p : κ × V) (q : κ × Value) => p.1 = q.1 ∧ RelV p.2 q.2
def kV : Key → V
  | .inl i => .int i
  | .inr x => .str x
inductive HO where
  | lst (xs : List V)
  | tup (xs : List V)
  | dK (kvs : List (Key × V)) | dT (kvs : List (List Key × V))
  | set (S : Int → Bool) (n : Nat)
  | ins (C dx : Addr) (fs : List (Str × V))
  | own (x : Addr)
  | xd (fs : List (Str × V))
  | met (f x : Addr)
  | rng (lo hi : Int)
  | frz (o : Obj) (u : HO)
  | tbl (ps : Array Value)
  | ext (φ : Heap → Prop)
abbrev Hp := Addr → Option HO
def upd (H : Hp) (a : Addr) (o : HO) : Hp := fun b => if b = a then some o else H b
theorem upd_same {H : Hp} {a : Addr} {o : HO} : upd H a o a = some o := by unfold upd; rw [if_pos rfl]
theorem upd_ne {H : Hp} {a b : Addr} {o : HO} (h : b ≠ a) : upd H a o b = H b := by unfold upd; rw [if_neg h]
theorem upd_upd {H : Hp} {a : Addr} {o u : HO} : upd (upd H a o) a u = upd H a u := by
  funext b; unfold upd; split <;> rfl
theorem ne_of {H : Hp} {a b : Addr} {o u : HO} (h : H a = some o) (h' : H b = some u) (d : o ≠ u) : a ≠ b := by
  intro e; subst e; rw [h] at h'; exact d (Option.some.inj h')
theorem ne_of_none {H : Hp} {a b : Addr} {o : HO} (h : H a = some o) (h' : H b = none) : a ≠ b := by
  intro e; subst e; rw [h] at h'; cases h'
section
variable (P : Program) (w : World)
def ObjOk (H : Hp) (h : Heap) (a : Addr) : HO → Prop
  | .lst xs => xs.length ≤ sizeLine ∧ ∃ (its : List Value) (n : Nat), Vals xs its ∧ h.get? a = some { cls := .type "list", data := .seq its.toArray n }
  | .tup xs => xs.length ≤ sizeLine ∧ ∃ its : List Value, Vals xs its ∧ IsTup h a its.toArray
  | .dK kvs => kvs.length ≤ sizeLine ∧ (a == sysModules) = false ∧ ∃ vs, KV kvs vs ∧ h.DictOf (mixKind P w) a vs
  | .dT kvs => kvs.length ≤ sizeLine ∧ (a == sysModules) = false ∧ ∃ xs : List (List Key × Addr × Value),
      Paired (fun (p : List Key × V) (q : List Key × Addr × Value) => p.1 = q.1 ∧ H q.2.1 = some (.tup (p.1.map kV)) ∧ RelV p.2 q.2.2) kvs xs ∧
      ∃ o es ep, h.get? a = some o ∧ o.ExactDict ∧ o.data = .dict es ep ∧ es.toList = xs.map (entryOfKey (tupleKind (mixKind P w))) ∧ (xs.map (·.1)).Nodup
  | .set S n => h.SetOf (intKind P w) a S n
  | .ins C dx fs => H dx = some (.own a) ∧ fs.length ≤ 1000 ∧ dx ≠ a ∧ h.get? a = some (PySem.W.instObj C dx) ∧
      ∃ mA, h.Ns1 dx mA ∧ (∀ f, RelO (fs.lookup f) (mA f)) ∧ PySem.Within mA (fs.map (·.1))
  | .own _ => ∃ o, h.get? a = some o
  | .xd fs => ∃ mA, h.Ns1 a mA ∧ ∀ f, RelO (fs.lookup f) (mA f)
  | .rng lo hi => ∃ t u v, h.get? a = some { cls := .type "range", data := .fields #[.int lo t, .int hi u, .int 1 v] }
  | .frz o u => h.get? a = some o ∧ ObjOk H h a u
  | .tbl ps => h.get? a = some { cls := .none, data := .fields ps }
  | .met f x => h.get? a = some (PySem.W.methodObj (.ref f) (.ref x))
  | .ext φ => φ h ∧ (∃ o, h.get? a = some o) ∧ ∀ h1 h2 : Heap, φ h1 → (∀ o, h1.get? a = some o → h2.get? a = some o) → φ h2
def HOk (H : Hp) (h : Heap) : Prop := ∀ a o, H a = some o → ObjOk P w H h a o
end
section
variable {P : Program} {w : World} {H H' : Hp} {h h' : Heap} {a : Addr} {o : HO}
theorem ObjOk.lt (x : ObjOk P w H h a o) : a < h.objs.size := by
  cases o with
  | lst xs => obtain ⟨_, _, _, _, e⟩ := x; exact Heap.lt_size e
  | tup xs => obtain ⟨_, _, _, p⟩ := x; exact p.lt
  | dK kvs => obtain ⟨_, _, _, _, o, _, _, e, _⟩ := x; exact Heap.lt_size e
  | dT kvs => obtain ⟨_, _, _, _, o, _, _, e, _⟩ := x; exact Heap.lt_size e
  | set S n => obtain ⟨o, _, _, _, e, _⟩ := x; exact Heap.lt_size e
  | ins C dx fs => obtain ⟨_, _, _, e, _⟩ := x; exact Heap.lt_size e
  | own y => obtain ⟨_, e⟩ := x; exact Heap.lt_size e
  | xd fs => obtain ⟨_, ⟨_, _, _, e, _⟩, _⟩ := x; exact Heap.lt_size e
  | rng lo hi => obtain ⟨_, _, _, e⟩ := x; exact Heap.lt_size e
  | frz ob u => obtain ⟨e, _⟩ := x; exact Heap.lt_size e
  | tbl ps => exact Heap.lt_size (show h.get? a = some _ from x)
  | met f y => exact Heap.lt_size (show h.get? a = some _ from x)
  | ext φ => obtain ⟨_, ⟨_, e⟩, _⟩ := x; exact Heap.lt_size e
theorem Paired.mapP {α β : Type} {F G : α → β → Prop} : ∀ {l₁ : List α} {l₂ : List β}, Paired F l₁ l₂ → (∀ a b, F a b → G a b) → Paired G l₁ l₂
  | _, _, .nil, _ => .nil
  | _, _, .cons r t, f => .cons (f _ _ r) (Paired.mapP t f)
theorem ObjOk.stay (x : ObjOk P w H h a o) (k : ∀ b u, (b = a ∨ H b = some (.own a)) → h.get? b = some u → h'.get? b = some u)
    (ho : ∀ b, H b = some (.own a) → H' b = some (.own a)) (ht : ∀ b xs, H b = some (.tup xs) → H' b = some (.tup xs)) : ObjOk P w H' h' a o := by
  induction o with
  | lst xs => obtain ⟨z, its, n, r, e⟩ := x; exact ⟨z, its, n, r, k _ _ (.inl rfl) e⟩
  | tup xs => obtain ⟨z, its, r, ob, e, c⟩ := x; exact ⟨z, its, r, ob, k _ _ (.inl rfl) e, c⟩
  | dK kvs => obtain ⟨z, y, vs, r, ob, es, ep, e, c⟩ := x; exact ⟨z, y, vs, r, ob, es, ep, k _ _ (.inl rfl) e, c⟩
  | dT kvs =>
    obtain ⟨z, y, xs, r, ob, es, ep, e, c⟩ := x
    exact ⟨z, y, xs, Paired.mapP r fun p q z => ⟨z.1, ht _ _ z.2.1, z.2.2⟩, ob, es, ep, k _ _ (.inl rfl) e, c⟩
  | set S n => obtain ⟨ob, es, ep, t, e, c⟩ := x; exact ⟨ob, es, ep, t, k _ _ (.inl rfl) e, c⟩
  | ins C dx fs =>
    obtain ⟨d, z, ne, e, mA, ⟨od, es, ep, e2, c⟩, r⟩ := x
    exact ⟨ho _ d, z, ne, k _ _ (.inl rfl) e, mA, ⟨od, es, ep, k _ _ (.inr d) e2, c⟩, r⟩
  | own y => obtain ⟨ob, e⟩ := x; exact ⟨ob, k _ _ (.inl rfl) e⟩
  | xd fs => obtain ⟨mA, ⟨od, es, ep, e, c⟩, r⟩ := x; exact ⟨mA, ⟨od, es, ep, k _ _ (.inl rfl) e, c⟩, r⟩
  | rng lo hi => obtain ⟨t, u, v, e⟩ := x; exact ⟨t, u, v, k _ _ (.inl rfl) e⟩
  | frz ob u ih => obtain ⟨e, q⟩ := x; exact ⟨k _ _ (.inl rfl) e, ih q⟩
  | tbl ps =>
    have e : h.get? a = some { cls := .none, data := .fields ps } := x
    show h'.get? a = some { cls := .none, data := .fields ps }
    exact k a _ (.inl rfl) e
  | met f y =>
    have e : h.get? a = some (PySem.W.methodObj (.ref f) (.ref y)) := x
    show h'.get? a = some (PySem.W.methodObj (.ref f) (.ref y))
    exact k a _ (.inl rfl) e
  | ext φ => obtain ⟨p, ⟨o, e⟩, st⟩ := x; exact ⟨st _ _ p fun o q => k _ _ (.inl rfl) q, ⟨o, k _ _ (.inl rfl) e⟩, st⟩
theorem HOk.lt (x : HOk P w H h) (e : H a = some o) : a < h.objs.size := (x a o e).lt
theorem HOk.fresh (x : HOk P w H h) (e : h.objs.size ≤ a) : H a = none := by
  cases q : H a with
  | none => rfl
  | some u => exact absurd (Nat.lt_of_lt_of_le (x.lt q) e) (Nat.lt_irrefl _)
theorem HOk.kept (x : HOk P w H h) (k : ∀ b u, h.get? b = some u → h'.get? b = some u) : HOk P w H h' := fun a o e =>
  (x a o e).stay (fun b u _ q => k b u q) (fun _ q => q) fun _ _ q => q
theorem HOk.laid (x : HOk P w H h) (k : ∀ b u, h.get? b = some u → h'.get? b = some u) (hp : h.objs.size ≤ a) (new : ObjOk P w (upd H a o) h' a o) : HOk P w (upd H a o) h' := fun b u e => by
  have hn := x.fresh hp
  by_cases hb : b = a
  · subst hb; rw [upd_same] at e; cases e; exact new
  · rw [upd_ne hb] at e
    exact (x b u e).stay (fun c v _ q => k c v q) (fun c q => by rw [upd_ne (ne_of_none q hn)]; exact q) fun c xs q => by rw [upd_ne (ne_of_none q hn)]; exact q
end
def Rd (H : Hp) (a : Addr) (u : HO) : Prop := H a = some u ∨ ∃ o, H a = some (.frz o u)
theorem Rd.of {H : Hp} {a : Addr} {u : HO} (h : H a = some u) : Rd H a u := .inl h
theorem Rd.ok {P : Program} {w : World} {H : Hp} {h : Heap} {a : Addr} {u : HO} (r : Rd H a u) (x : HOk P w H h) : ObjOk P w H h a u := by
  rcases r with r | ⟨o, r⟩
  · exact x a u r
  · obtain ⟨_, q⟩ := x a _ r
    exact q
def Mut : Option HO → Prop
  | some (.lst _) => True
  | some (.dK _) => True
  | some (.dT _) => True
  | some (.set _ _) => True
  | some (.ins _ _ _) => True
  | some (.ext _) => True
  | _ => False
section
variable {P : Program} {w : World} {H : Hp} {h h' : Heap} {x e : Addr} {o' : HO}
theorem HOk.write (ok : HOk P w H h) (mu : Mut (H x)) (he : e = x ∨ H e = some (.own x)) (k : ∀ b u, b ≠ e → h.get? b = some u → h'.get? b = some u) (heo : ∃ u, h'.get? e = some u)
    (new : ObjOk P w (upd H x o') h' x o') : HOk P w (upd H x o') h' := fun b u q => by
  have nown : ∀ c y, H c = some (.own y) → c ≠ x := fun c y r z => by subst z; rw [r] at mu; exact mu
  have ntup : ∀ c xs, H c = some (.tup xs) → c ≠ x := fun c xs r z => by subst z; rw [r] at mu; exact mu
  by_cases hb : b = x
  · subst hb; rw [upd_same] at q; cases q; exact new
  · rw [upd_ne hb] at q
    by_cases hbe : b = e
    · have q' : H b = some (.own x) := by
        rcases he with z | z
        · exact absurd (hbe.trans z) hb
        · rw [hbe]; exact z
      rw [q] at q'; cases q'
      obtain ⟨v, hv⟩ := heo
      exact ⟨v, by rw [hbe]; exact hv⟩
    · refine (ok b u q).stay (fun c v hc r => k c v ?_ r) (fun c r => by rw [upd_ne (nown c b r)]; exact r) fun c xs r => by rw [upd_ne (ntup c xs r)]; exact r
      rcases hc with rfl | hc
      · exact hbe
      · rintro rfl
        rcases he with z | z
        · exact nown c b hc z
        · rw [hc] at z; cases z; exact hb rfl
end
structure Un (fs ex : List Addr) (H H' : Hp) (h h' : Heap) : Prop where
  keep : ∀ b o, h.get? b = some o → H b = none → b ∉ fs → b ∉ ex → h'.get? b = some o
  slot : ∀ b o, h.get? b = some o → H b = none → b ∈ fs → b ∉ ex → ∃ sl, h'.get? b = some { o with slots := sl }
  free : ∀ b o, h.get? b = some o → H b = none → b ∉ ex → H' b = none
  there : ∀ b o, h.get? b = some o → b ∉ ex → ∃ o', h'.get? b = some o'
  tups : ∀ b xs, H b = some (.tup xs) → H' b = some (.tup xs)
  frzs : ∀ b o u, H b = some (.frz o u) → H' b = some (.frz o u)
  tbls : ∀ b ps, H b = some (.tbl ps) → ∃ more, H' b = some (.tbl (ps ++ more))
section
variable {fs fs' ex ex' : List Addr} {H H1 H2 : Hp} {h h1 h2 h' : Heap} {a x e : Addr} {o : HO}
theorem Un.any (u : Un fs ex H H1 h h1) {b : Addr} {ob : Obj} (q : h.get? b = some ob) (n : H b = none) (hx : b ∉ ex) : ∃ sl, h1.get? b = some { ob with slots := sl } := by
  by_cases hb : b ∈ fs
  · exact u.slot b ob q n hb hx
  · exact ⟨ob.slots, u.keep b ob q n hb hx⟩
theorem Un.trans (a : Un fs ex H H1 h h1) (b : Un fs ex H1 H2 h1 h2) : Un fs ex H H2 h h2 where
  keep := fun c ob q n hc hx => b.keep c ob (a.keep c ob q n hc hx) (a.free c ob q n hx) hc hx
  slot := fun c ob q n hc hx => by
    obtain ⟨sl, e1⟩ := a.slot c ob q n hc hx
    obtain ⟨sl', e2⟩ := b.slot c _ e1 (a.free c ob q n hx) hc hx
    exact ⟨sl', e2⟩
  free := fun c ob q n hx => by
    obtain ⟨o', e1⟩ := a.there c ob q hx
    exact b.free c o' e1 (a.free c ob q n hx) hx
  there := fun c ob q hx => by
    obtain ⟨o', e1⟩ := a.there c ob q hx
    exact b.there c o' e1 hx
  tups := fun c xs q => b.tups c xs (a.tups c xs q)
  frzs := fun c ob xs q => b.frzs c ob xs (a.frzs c ob xs q)
  tbls := fun c ps q => by
    obtain ⟨m1, e1⟩ := a.tbls c ps q
    obtain ⟨m2, e2⟩ := b.tbls c _ e1
    exact ⟨m1 ++ m2, by rw [e2, Array.append_assoc]⟩
theorem Un.kept (k : ∀ b u, h.get? b = some u → h'.get? b = some u) : Un fs ex H H h h' :=
  ⟨fun b ob q _ _ _ => k b ob q, fun b ob q _ _ _ => ⟨ob.slots, k b ob q⟩, fun _ _ _ n _ => n, fun b ob q _ => ⟨ob, k b ob q⟩, fun _ _ q => q, fun _ _ _ q => q, fun _ ps q => ⟨#[], by rw [q]; simp⟩⟩
theorem Un.refl : Un fs ex H H h h := Un.kept fun _ _ q => q
theorem Un.laid (k : ∀ b u, h.get? b = some u → h'.get? b = some u) (hp : h.objs.size ≤ a) (hn : H a = none) : Un fs ex H (upd H a o) h h' where
  keep := fun b u q _ _ _ => k b u q
  slot := fun b u q _ _ _ => ⟨u.slots, k b u q⟩
  free := fun b u q n _ => by rw [upd_ne (Nat.ne_of_lt (Nat.lt_of_lt_of_le (Heap.lt_size q) hp))]; exact n
  there := fun b u q _ => ⟨u, k b u q⟩
  tups := fun b xs q => by rw [upd_ne (ne_of_none q hn)]; exact q
  frzs := fun b u xs q => by rw [upd_ne (ne_of_none q hn)]; exact q
  tbls := fun b ps q => ⟨#[], by rw [upd_ne (ne_of_none q hn), q]; simp⟩
theorem Un.write (mu : Mut (H x)) (he : e = x ∨ H e = some (.own x)) (k : ∀ b u, b ≠ e → h.get? b = some u → h'.get? b = some u) (heo : ∃ u, h'.get? e = some u) : Un fs ex H (upd H x o) h h' := by
  have hx : ∀ b, H b = none → b ≠ x := fun b n z => by subst z; rw [n] at mu; exact mu
  have hb : ∀ b, H b = none → b ≠ e := fun b n z => by
    subst z
    rcases he with r | r
    · exact hx b n r
    · rw [n] at r; cases r
  have hm : ∀ b u, H b = some u → ¬ Mut (some u) → b ≠ x := fun b u q nm z => by subst z; rw [q] at mu; exact nm mu
  refine ⟨fun b u q n _ _ => k b u (hb b n) q, fun b u q n _ _ => ⟨u.slots, k b u (hb b n) q⟩, fun b u q n _ => by rw [upd_ne (hx b n)]; exact n, fun b u q _ => ?_,
    fun b xs q => by rw [upd_ne (hm b _ q fun z => z)]; exact q, fun b u xs q => by rw [upd_ne (hm b _ q fun z => z)]; exact q, fun b ps q => ⟨#[], by rw [upd_ne (hm b _ q fun z => z), q]; simp⟩⟩
  by_cases hbe : b = e
  · subst hbe; exact heo
  · exact ⟨u, k b u hbe q⟩
theorem Un.mono (u : Un fs ex H H1 h h1) (hs : ∀ b ∈ fs, b ∈ fs') (hx : ∀ b ∈ ex, b ∈ ex') : Un fs' ex' H H1 h h1 :=
  ⟨fun b ob q n hb he => u.keep b ob q n (fun z => hb (hs b z)) fun z => he (hx b z), fun _ _ q n _ he => u.any q n fun z => he (hx _ z), fun b ob q n he => u.free b ob q n fun z => he (hx b z), fun b ob q he => u.there b ob q fun z => he (hx b z), u.tups, u.frzs, u.tbls⟩
end
def trk (h : Heap) (H : Hp) : List Addr := (List.range h.objs.size).filter fun a => (H a).isSome
def hidT (h : Heap) (H : Hp) : Heap := PySem.W.hideAll h (trk h H)
theorem hidT_size (h : Heap) (H : Hp) : (hidT h H).objs.size = h.objs.size := PySem.W.hideAll_size _ _
theorem hidT_get {h : Heap} {H : Hp} {b : Addr} {o : Obj} (e : h.get? b = some o) (n : H b = none) : (hidT h H).get? b = some o :=
  PySem.W.hideAll_get _ e fun hm => by
    have q : (H b).isSome = true := (List.mem_filter.mp hm).2
    rw [n] at q; simp at q
theorem of_hidT {h : Heap} {H : Hp} {b : Addr} {o : Obj} (e : (hidT h H).get? b = some o) : h.get? b = some o ∧ H b = none := by
  have e' : h.get? b = some o := PySem.W.of_hideAll (trk h H) e
  refine ⟨e', ?_⟩
  cases q : H b with
  | none => rfl
  | some x =>
    have hm : b ∈ trk h H := List.mem_filter.mpr ⟨List.mem_range.mpr (Heap.lt_size e'), by simp [q]⟩
    have z : (hidT h H).get? b = none := PySem.W.hideAll_none (trk h H) hm
    rw [z] at e; cases e
def allNews (g h : Heap) (L : Addr) : List (Addr × Obj) := (List.range h.objs.size).filterMap fun a => if a = L ∨ (g.get? a).isSome = true then none else (h.get? a).map fun o => (a, o)
def rest (g h : Heap) (L d : Addr) : List (Addr × Obj) := (allNews g h L).filter fun p => decide (p.1 ≠ d)
end L2
namespace L2
open PySem PySem.Spec PyProof.Rows
structure Mod (K : PySem.W.Frag) (mg : Str → Option Value) (base : Heap) : Prop where
  kin : K.In base
  glob : base.Ns mainGlobals mg
  blt : ∃ mb, base.Ns builtinsNs mb ∧ ∀ x : Str, x ≠ "__name__" → mb x = bootBuiltins x
  nolimit : base.NoLimit
structure Cx where
  prog : Program
  w : World
  K : PySem.W.Frag
  mg : Str → Option Value
  base : Heap
  A : Around
  N : List Str
  s₀ : Shared
  H₀ : Hp
  env : Env
  outer : List Env
  stack : List Env
  ex : List Addr
  fn : Str → Bool
  calm : Bool
  pn : List (Addr × Obj)
  xe : Value → Shared → Prop
def frs (l : List Env) : List Addr := l.filterMap (·.frame)
abbrev Cx.fs (X : Cx) : List Addr := frs X.outer
def Vis (sc : Scope) (x : Str) : Prop := sc.names.lookup x = some .local ∨ sc.names.lookup x = some .cell ∨ sc.names.lookup x = some .free
def Loc (sc : Scope) (x : Str) : Prop := sc.names.lookup x = some .local ∨ sc.names.lookup x = some .cell
def Look (env : Env) (h : Heap) (m : Str → Option Value) (x : Str) (u : Value) : Prop :=
  (env.kindOf x = some .local ∧ m x = some u) ∨ ((env.kindOf x = some .cell ∨ env.kindOf x = some .free) ∧ ∃ c, env.cells.lookup x = some c ∧ h.IsCell c (some u))
structure Cx.Ok (X : Cx) : Prop where
  mod : Mod X.K X.mg X.base
  kind : X.env.scope.kind = .function
  glob : X.env.globals = mainGlobals
  blt : X.env.builtins = builtinsNs
  above : X.s₀.heap.objs.size ≤ X.env.locals
  inj : ∀ x y c, X.env.cells.lookup x = some c → X.env.cells.lookup y = some c → x = y
  has : ∀ x, (X.env.kindOf x = some .cell ∨ X.env.kindOf x = some .free) → ∃ c, X.env.cells.lookup x = some c
  cab : ∀ x c, X.fn x = true → X.env.cells.lookup x = some c → X.s₀.heap.objs.size ≤ c
  hd : X.calm = true → X.A.handled = none
  frames : X.A.frames = some X.stack
  stk : X.stack = X.outer ∨ (X.stack = X.env :: X.outer ∧ X.env.frame = some X.env.locals)
  exf : ∀ b ∈ X.ex, b ≠ X.env.locals ∧ ∀ x c, X.env.cells.lookup x = some c → c ≠ b
  bs : ∀ b o, X.base.get? b = some o → X.s₀.heap.get? b = some o ∧ X.H₀ b = none
  bsz : X.base.objs.size ≤ X.s₀.heap.objs.size
  noex : ∀ b o, X.base.get? b = some o → b ∉ X.ex
  exfs : ∀ b ∈ X.ex, b ∉ X.fs
  funs : X.s₀.heap.FunFrames X.base X.outer
  frf : ∀ b ∈ X.fs, X.H₀ b = none
structure Inv (X : Cx) (pins : List (Addr × Obj)) (σ : List (Option V)) (H : Hp) (s : Shared) : Prop where
  ok : X.Ok
  os : s.os = X.s₀.os
  bare : AllBare s.gens
  base : Un X.fs X.ex X.H₀ H X.s₀.heap s.heap
  loc : ∃ m, s.heap.Ns X.env.locals m ∧ ∀ (i : Nat) (x : Str) (v : V), X.N[i]? = some x → σ[i]? = some (some v) → Vis X.env.scope x → ∃ u, RelV v u ∧ Look X.env s.heap m x u
  cell : ∀ x c, X.env.cells.lookup x = some c → ∃ v, s.heap.IsCell c v
  free : H X.env.locals = none
  freeC : ∀ x c, X.env.cells.lookup x = some c → H c = none
  pin : ∀ p ∈ X.pn ++ pins, s.heap.get? p.1 = some p.2 ∧ H p.1 = none ∧ p.1 ≠ X.env.locals ∧ p.1 ∉ X.fs ∧ ∀ v, p.2.data ≠ .cell v
  hok : HOk X.prog X.w H s.heap
  len : σ.length = X.N.length
section
variable {X : Cx} {pins : List (Addr × Obj)} {σ : List (Option V)} {H H' : Hp} {s : Shared} {h' : Heap}
theorem Cx.Ok.nofr (ok : X.Ok) {b : Addr} {o : Obj} (e : X.base.get? b = some o) : b ∉ X.fs := fun hb => by
  have := (ok.funs.mem hb).1
  rw [e] at this; cases this
theorem Inv.bs (I : Inv X pins σ H s) : ∀ b o, X.base.get? b = some o → s.heap.get? b = some o ∧ H b = none := fun b o e =>
  ⟨I.base.keep b o (I.ok.bs b o e).1 (I.ok.bs b o e).2 (I.ok.nofr e) (I.ok.noex b o e), I.base.free b o (I.ok.bs b o e).1 (I.ok.bs b o e).2 (I.ok.noex b o e)⟩
theorem Inv.bk (I : Inv X pins σ H s) : ∀ b o, X.base.get? b = some o → s.heap.get? b = some o := fun b o e => (I.bs b o e).1
theorem Inv.mod (I : Inv X pins σ H s) : Mod X.K X.mg X.base := I.ok.mod
theorem Inv.kIn (I : Inv X pins σ H s) : X.K.In s.heap := I.ok.mod.kin.keeps I.bk
theorem Inv.nolimit (I : Inv X pins σ H s) : s.heap.NoLimit := I.ok.mod.nolimit.keeps I.bk
theorem Inv.fr (I : Inv X pins σ H s) : ∃ m, Fr X.base X.env.locals s.heap m :=
  let ⟨m, hn, _⟩ := I.loc
  ⟨m, hn, I.bk, Nat.le_trans I.ok.bsz I.ok.above⟩
theorem Inv.lt (I : Inv X pins σ H s) : X.env.locals < s.heap.objs.size := let ⟨_, hn, _⟩ := I.loc; hn.lt
theorem Inv.sz (I : Inv X pins σ H s) : X.s₀.heap.objs.size ≤ s.heap.objs.size := Nat.le_trans I.ok.above (Nat.le_of_lt I.lt)
theorem Inv.nofs (I : Inv X pins σ H s) {a : Addr} (h : s.heap.objs.size ≤ a) : a ∉ X.fs := fun hb => by
  obtain ⟨_, o, ho, _⟩ := I.ok.funs.mem hb
  exact absurd (Nat.lt_of_lt_of_le (Heap.lt_size ho) (Nat.le_trans I.sz h)) (Nat.lt_irrefl _)
theorem Inv.cne (I : Inv X pins σ H s) : ∀ x c, X.env.cells.lookup x = some c → c ≠ X.env.locals := fun x c e z => by
  obtain ⟨v, o, ho, hd⟩ := I.cell x c e
  obtain ⟨m, ⟨o', es, ep, ho', hd', _⟩, _⟩ := I.loc
  rw [z, ho'] at ho; cases ho; rw [hd'] at hd; cases hd
theorem Inv.funs (I : Inv X pins σ H s) : s.heap.FunFrames X.base X.outer := by
  have all : ∀ (l : List Env), (∀ b ∈ frs l, b ∈ X.fs) → X.s₀.heap.FunFrames X.base l → s.heap.FunFrames X.base l := by
    intro l
    induction l with
    | nil => intro _ _; trivial
    | cons env r ih =>
      intro hs hl
      obtain ⟨hk, ⟨L, o, hf, hn, ho, hd⟩, hr⟩ := hl
      have hL : L ∈ X.fs := hs L (by unfold frs; rw [List.filterMap_cons, hf]; exact List.mem_cons_self)
      obtain ⟨sl, e⟩ := I.base.slot L o ho (I.ok.frf L hL) hL fun z => I.ok.exfs L z hL
      exact ⟨hk, ⟨L, _, hf, hn, e, hd⟩, ih (fun b hb => hs b (by unfold frs; rw [List.filterMap_cons, hf]; exact List.mem_cons_of_mem _ hb)) hr⟩
  exact all X.outer (fun _ hb => hb) I.ok.funs
theorem Inv.stack (I : Inv X pins σ H s) : s.heap.FunFrames X.base X.stack := by
  rcases I.ok.stk with e | ⟨e, hf⟩
  · rw [e]; exact I.funs
  · rw [e]
    obtain ⟨m, hn, _⟩ := I.loc
    refine .cons (by rw [I.ok.kind]; decide) hf hn ?_ I.funs
    exact Heap.get?_none_of_le (Nat.le_trans I.ok.bsz I.ok.above)
theorem Inv.stkSub (I : Inv X pins σ H s) : ∀ b ∈ frs X.stack, b ∈ X.env.locals :: X.fs := fun b hb => by
  rcases I.ok.stk with e | ⟨e, hf⟩
  · rw [e] at hb; exact List.mem_cons_of_mem _ hb
  · rw [e] at hb
    unfold frs at hb
    rw [List.filterMap_cons, hf] at hb
    exact hb
theorem Inv.stkFree (I : Inv X pins σ H s) : ∀ b ∈ frs X.stack, H b = none := fun b hb => by
  rcases List.mem_cons.mp (I.stkSub b hb) with e | hb
  · rw [e]; exact I.free
  · obtain ⟨_, o, ho, _⟩ := I.ok.funs.mem hb
    exact I.base.free b o ho (I.ok.frf b hb) fun z => I.ok.exfs b z hb
theorem Inv.step {g' : Array GenState} {t' : Nat} {d' : Drawn} {ch : List Addr} (I : Inv X pins σ H s)
    (hch : ∀ b ∈ ch, (b ∈ X.ex ∨ X.s₀.heap.objs.size ≤ b) ∧ b ≠ X.env.locals ∧ (∀ x c, X.env.cells.lookup x = some c → c ≠ b) ∧ ∀ p ∈ X.pn ++ pins, p.1 ≠ b)
    (keep : ∀ b o, b ≠ X.env.locals → b ∉ X.fs → b ∉ ch → s.heap.get? b = some o → H b = none → h'.get? b = some o)
    (slot : ∀ b o, b ≠ X.env.locals → b ∈ X.fs → b ∉ ch → s.heap.get? b = some o → H b = none → ∃ sl, h'.get? b = some { o with slots := sl }) (free : ∀ b o, b ∉ ch → s.heap.get? b = some o → H b = none → H' b = none)
    (there : ∀ b o, b ∉ ch → s.heap.get? b = some o → ∃ o', h'.get? b = some o')
    (tups : ∀ b xs, H b = some (.tup xs) → H' b = some (.tup xs)) (frzs : ∀ b o u, H b = some (.frz o u) → H' b = some (.frz o u)) (tbls : ∀ b ps, H b = some (.tbl ps) → ∃ more, H' b = some (.tbl (ps ++ more)))
    (ns : ∀ m, s.heap.Ns X.env.locals m → h'.Ns X.env.locals m) (hok : HOk X.prog X.w H' h') (hg : AllBare g') :
    Inv X pins σ H' { s with heap := h', gens := g', drawn := d', toks := t' } := by
  have neL : ∀ b o, X.s₀.heap.get? b = some o → b ≠ X.env.locals := fun b o e => Nat.ne_of_lt (Nat.lt_of_lt_of_le (Heap.lt_size e) I.ok.above)
  have neC : ∀ b o, X.s₀.heap.get? b = some o → b ∉ X.ex → b ∉ ch := fun b o e hx hb => by
    rcases (hch b hb).1 with z | z
    · exact hx z
    · exact absurd (Nat.lt_of_lt_of_le (Heap.lt_size e) z) (Nat.lt_irrefl _)
  have cellK : ∀ x c, X.env.cells.lookup x = some c → ∀ v, s.heap.IsCell c v → h'.IsCell c v := fun x c e v ⟨o, ho, hd⟩ => by
    have nch : c ∉ ch := fun z => (hch c z).2.2.1 x c e rfl
    by_cases hc : c ∈ X.fs
    · obtain ⟨sl, q⟩ := slot c o (I.cne x c e) hc nch ho (I.freeC x c e)
      exact ⟨_, q, hd⟩
    · exact ⟨o, keep c o (I.cne x c e) hc nch ho (I.freeC x c e), hd⟩
  refine ⟨I.ok, I.os, hg, ⟨fun b o e n hb hx => ?_, fun b o e n hb hx => ?_, fun b o e n hx => ?_, fun b o e hx => ?_, fun b xs e => tups b xs (I.base.tups b xs e), fun b o xs e => frzs b o xs (I.base.frzs b o xs e), fun b ps e => ?_⟩, ?_, fun x c e => ?_, ?_, fun x c e => ?_, fun p hp => ?_, hok, I.len⟩
  · exact keep b o (neL b o e) hb (neC b o e hx) (I.base.keep b o e n hb hx) (I.base.free b o e n hx)
  · obtain ⟨sl, e1⟩ := I.base.slot b o e n hb hx
    obtain ⟨sl', e2⟩ := slot b _ (neL b o e) hb (neC b o e hx) e1 (I.base.free b o e n hx)
    exact ⟨sl', e2⟩
  · obtain ⟨o', e1⟩ := I.base.there b o e hx
    exact free b o' (neC b o e hx) e1 (I.base.free b o e n hx)
  · obtain ⟨o', e1⟩ := I.base.there b o e hx
    exact there b o' (neC b o e hx) e1
  · obtain ⟨m1, e1⟩ := I.base.tbls b ps e
    obtain ⟨m2, e2⟩ := tbls b _ e1
    exact ⟨m1 ++ m2, by rw [e2, Array.append_assoc]⟩
  · obtain ⟨m, hn, hl⟩ := I.loc
    refine ⟨m, ns m hn, fun i x v e1 e2 e3 => ?_⟩
    obtain ⟨u, r, l⟩ := hl i x v e1 e2 e3
    refine ⟨u, r, ?_⟩
    rcases l with l | ⟨k, c, e, z⟩
    · exact .inl l
    · exact .inr ⟨k, c, e, cellK x c e _ z⟩
  · obtain ⟨v, z⟩ := I.cell x c e
    exact ⟨v, cellK x c e v z⟩
  · obtain ⟨m, ⟨o, _, _, ho, _⟩, _⟩ := I.loc
    exact free _ o (fun z => (hch _ z).2.1 rfl) ho I.free
  · obtain ⟨v, o, ho, hd⟩ := I.cell x c e
    exact free c o (fun z => (hch c z).2.2.1 x c e rfl) ho (I.freeC x c e)
  · obtain ⟨e, n, ne, nf, d⟩ := I.pin p hp
    have nch : p.1 ∉ ch := fun z => (hch p.1 z).2.2.2 p hp rfl
    exact ⟨keep p.1 p.2 ne nf nch e n, free p.1 p.2 nch e n, ne, nf, d⟩
theorem Inv.un {t' : Nat} (I : Inv X pins σ H s) (u : Un X.fs [] H H' s.heap h') (hok : HOk X.prog X.w H' h') : Inv X pins σ H' { s with heap := h', toks := t' } := by
  obtain ⟨m, ⟨o, es, ep, ho, r⟩, _⟩ := id I.loc
  obtain ⟨sl, hL⟩ := u.any ho I.free (by simp)
  exact I.step (g' := s.gens) (d' := s.drawn) (ch := []) (fun _ z => nomatch z) (fun b o _ hb _ e n => u.keep b o e n hb (by simp)) (fun b o _ hb _ e n => u.slot b o e n hb (by simp)) (fun b o _ e n => u.free b o e n (by simp)) (fun b o _ e => u.there b o e (by simp)) u.tups u.frzs u.tbls (fun m' hm => by
    obtain ⟨o', es', ep', ho', r'⟩ := hm
    rw [ho] at ho'; cases ho'
    exact ⟨_, es', ep', hL, r'⟩) hok I.bare
theorem Inv.call {g' : Array GenState} {t' : Nat} {d' : Drawn} {ch : List Addr} (I : Inv X pins σ H s) (u : Un (frs X.stack) ch H H' s.heap h') (hok : HOk X.prog X.w H' h') (hg : AllBare g')
    (hch : ∀ b ∈ ch, (b ∈ X.ex ∨ X.s₀.heap.objs.size ≤ b) ∧ b ≠ X.env.locals ∧ (∀ x c, X.env.cells.lookup x = some c → c ≠ b) ∧ ∀ p ∈ X.pn ++ pins, p.1 ≠ b) :
    Inv X pins σ H' { s with heap := h', gens := g', drawn := d', toks := t' } := by
  obtain ⟨m, ⟨o, es, ep, ho, r⟩, _⟩ := id I.loc
  obtain ⟨sl, hL⟩ := u.any ho I.free fun z => (hch _ z).2.1 rfl
  exact I.step (ch := ch) hch (fun b o hL hb hc e n => u.keep b o e n (fun z => (List.mem_cons.mp (I.stkSub b z)).elim hL hb) hc) (fun b o _ _ hc e n => u.any e n hc) (fun b o hc e n => u.free b o e n hc) (fun b o hc e => u.there b o e hc) u.tups u.frzs u.tbls (fun m' hm => by
    obtain ⟨o', es', ep', ho', r'⟩ := hm
    rw [ho] at ho'; cases ho'
    exact ⟨_, es', ep', hL, r'⟩) hok hg
theorem Inv.turned {t' : Nat} {it : Addr} (I : Inv X pins σ H s) (k : ∀ b o, b ≠ it → s.heap.get? b = some o → h'.get? b = some o) (hn : H it = none) (hL : it ≠ X.env.locals)
    (h1 : it ∈ X.ex ∨ X.s₀.heap.objs.size ≤ it) (h2 : ∀ x c, X.env.cells.lookup x = some c → c ≠ it) (h3 : ∀ p ∈ X.pn ++ pins, p.1 ≠ it) : Inv X pins σ H { s with heap := h', toks := t' } := by
  have nit : ∀ b u, H b = some u → b ≠ it := fun b u e z => by rw [z, hn] at e; cases e
  refine I.step (g' := s.gens) (d' := s.drawn) (ch := [it]) (fun b hb => ?_) (fun b o _ _ hc e _ => k b o (fun z => hc (by simp [z])) e) (fun b o _ _ hc e _ => ⟨o.slots, k b o (fun z => hc (by simp [z])) e⟩) (fun _ _ _ _ n => n)
    (fun b o hc e => ⟨o, k b o (fun z => hc (by simp [z])) e⟩) (fun _ _ e => e) (fun _ _ _ e => e) (fun b ps e => ⟨#[], by rw [e]; simp⟩) (fun m hm => ?_) (fun b u e => ?_) I.bare
  · have e : b = it := by simpa using hb
    subst e
    exact ⟨h1, hL, h2, h3⟩
  · obtain ⟨o, es, ep, ho, r⟩ := hm
    exact ⟨o, es, ep, k _ o (Ne.symm hL) ho, r⟩
  · refine (I.hok b u e).stay (fun c v hc q => k c v ?_ q) (fun _ q => q) fun _ _ q => q
    rcases hc with z | z
    · rw [z]; exact nit b u e
    · exact nit c _ z
theorem Inv.tok (I : Inv X pins σ H s) (t : Nat) : Inv X pins σ H { s with toks := t } := I.un (h' := s.heap) (t' := t) Un.refl I.hok
theorem Inv.kept {t' : Nat} (I : Inv X pins σ H s) (k : ∀ b u, s.heap.get? b = some u → h'.get? b = some u) : Inv X pins σ H { s with heap := h', toks := t' } := I.un (Un.kept k) (I.hok.kept k)
theorem Inv.laid {a : Addr} {o : HO} {t' : Nat} (I : Inv X pins σ H s) (k : ∀ b u, s.heap.get? b = some u → h'.get? b = some u) (hp : s.heap.objs.size ≤ a) (new : ObjOk X.prog X.w (upd H a o) h' a o) :
    Inv X pins σ (upd H a o) { s with heap := h', toks := t' } := I.un (Un.laid k hp (I.hok.fresh hp)) (I.hok.laid k hp new)
theorem Inv.write {x e : Addr} {o : HO} {t' : Nat} (I : Inv X pins σ H s) (mu : Mut (H x)) (he : e = x ∨ H e = some (.own x)) (k : ∀ b u, b ≠ e → s.heap.get? b = some u → h'.get? b = some u) (heo : ∃ u, h'.get? e = some u)
    (new : ObjOk X.prog X.w (upd H x o) h' x o) : Inv X pins σ (upd H x o) { s with heap := h', toks := t' } := I.un (Un.write mu he k heo) (I.hok.write mu he k heo new)
theorem Inv.pins_of {pins' : List (Addr × Obj)} (I : Inv X pins σ H s) (h : ∀ p ∈ pins', s.heap.get? p.1 = some p.2 ∧ H p.1 = none ∧ p.1 ≠ X.env.locals ∧ p.1 ∉ X.fs ∧ ∀ v, p.2.data ≠ .cell v) : Inv X pins' σ H s :=
  ⟨I.ok, I.os, I.bare, I.base, I.loc, I.cell, I.free, I.freeC, fun p hp => (List.mem_append.mp hp).elim (fun z => I.pin p (List.mem_append_left _ z)) (h p), I.hok, I.len⟩
theorem nodup_ix {N : List Str} (hN : N.Nodup) {i j : Nat} {x : Str} (a : N[i]? = some x) (b : N[j]? = some x) : i = j := by
  obtain ⟨h1, e1⟩ := List.getElem?_eq_some_iff.mp a
  obtain ⟨h2, e2⟩ := List.getElem?_eq_some_iff.mp b
  exact (List.getElem_inj hN).mp (e1.trans e2.symm)
theorem store_ok2 {M : Model} {A : Around} {E : Value → Shared → Prop} {i : Nat} {x : Str} {v : V} {u : Value} {Q : Unit → Shared → Prop} (I : Inv X pins σ H s) (hN : X.N.Nodup) (hi : X.N[i]? = some x) (hx : Loc X.env.scope x) (r : RelV v u)
    (h : ∀ s', Inv X pins (σ.set i (some v)) H s' → (∃ a, Heap.SameBut a s.heap s'.heap ∧ (a = X.env.locals ∨ X.env.cells.lookup x = some a)) → Q () s') (hf : X.fn x = true ∨ X.env.scope.names.lookup x = some .local := by first | exact .inl rfl | exact .inr rfl | assumption) : wpAny M A (storeName X.env x u) Q E s := by
  obtain ⟨m, hn, hl⟩ := id I.loc
  have hcls : (X.env.scope.kind == .class || (X.env.scope.kind == .module && X.env.locals != X.env.globals)) = false := by rw [I.ok.kind]; rfl
  have hiσ : i < σ.length := by rw [I.len]; exact (List.getElem?_eq_some_iff.mp hi).1
  have cne := I.cne
  have tracked : ∀ {a : Addr} {h' : Heap}, (∃ o, s.heap.get? a = some o ∧ H a = none) → Heap.SameBut a s.heap h' → HOk X.prog X.w H h' := fun {a h'} ha hs b ob e => by
    obtain ⟨_, _, hfree⟩ := ha
    refine (I.hok b ob e).stay (fun c w' hc q => (hs.2 c ?_).trans q) (fun _ q => q) fun _ _ q => q
    rintro rfl
    rcases hc with rfl | hc
    · rw [hfree] at e; cases e
    · rw [hfree] at hc; cases hc
  rcases hx with hk | hk
  · refine wpAny_storeName_local hk hn (fun h' hn' hs => ?_) hcls
    obtain ⟨oL, _, _, hoL, _⟩ := id hn
    refine h _ ⟨I.ok, I.os, I.bare, ⟨fun b o e n hb hx => ?_, fun b o e n hb hx => ?_, I.base.free, fun b o e hx => ?_, I.base.tups, I.base.frzs, I.base.tbls⟩, ⟨_, hn', fun j y v' e1 e2 e3 => ?_⟩, fun y c e => ?_, I.free, I.freeC, fun p hp => ?_, tracked ⟨oL, hoL, I.free⟩ hs, by simpa using I.len⟩ ⟨_, hs, .inl rfl⟩
    · exact (hs.2 b (Nat.ne_of_lt (Nat.lt_of_lt_of_le (Heap.lt_size e) I.ok.above))).trans (I.base.keep b o e n hb hx)
    · obtain ⟨sl, e1⟩ := I.base.slot b o e n hb hx
      exact ⟨sl, (hs.2 b (Nat.ne_of_lt (Nat.lt_of_lt_of_le (Heap.lt_size e) I.ok.above))).trans e1⟩
    · obtain ⟨o', e1⟩ := I.base.there b o e hx
      exact ⟨o', (hs.2 b (Nat.ne_of_lt (Nat.lt_of_lt_of_le (Heap.lt_size e) I.ok.above))).trans e1⟩
    · by_cases hj : j = i
      · subst hj
        rw [hi] at e1; cases e1
        rw [List.getElem?_set_self hiσ] at e2
        cases e2
        exact ⟨u, r, .inl ⟨hk, by simp⟩⟩
      · rw [List.getElem?_set_ne (Ne.symm hj)] at e2
        obtain ⟨u', r', q⟩ := hl j y v' e1 e2 e3
        refine ⟨u', r', ?_⟩
        rcases q with ⟨k, e⟩ | ⟨k, c, e, z⟩
        · refine .inl ⟨k, ?_⟩
          have : y ≠ x := fun e => hj (nodup_ix hN e1 (e ▸ hi))
          simp [this, e]
        · exact .inr ⟨k, c, e, z.sameBut hs (cne y c e)⟩
    · obtain ⟨w', z⟩ := I.cell y c e
      exact ⟨w', z.sameBut hs (cne y c e)⟩
    · obtain ⟨e, n, ne, nf, d⟩ := I.pin p hp
      exact ⟨(hs.2 p.1 ne).trans e, n, ne, nf, d⟩
  · have hfn : X.fn x = true := by
      rcases hf with z | z
      · exact z
      · rw [z] at hk; cases hk
    obtain ⟨c, hc⟩ := I.ok.has x (.inl hk)
    obtain ⟨w', z⟩ := I.cell x c hc
    refine wpAny_storeName_cell I.ok.kind hk hc z (fun h' hc' hs => ?_)
    obtain ⟨oc, hoc, hocd⟩ := id z
    refine h { s with heap := h' } ⟨I.ok, I.os, I.bare, ⟨fun b o e n hb hx => ?_, fun b o e n hb hx => ?_, I.base.free, fun b o e hx => ?_, I.base.tups, I.base.frzs, I.base.tbls⟩, ⟨m, hn.sameBut hs (Ne.symm (cne x c hc)), fun j y v' e1 e2 e3 => ?_⟩, fun y c' e => ?_, I.free, I.freeC, fun p hp => ?_, tracked ⟨oc, hoc, I.freeC x c hc⟩ hs, by simpa using I.len⟩ ⟨c, hs, .inr hc⟩
    · exact (hs.2 b (Nat.ne_of_lt (Nat.lt_of_lt_of_le (Heap.lt_size e) (I.ok.cab x c hfn hc)))).trans (I.base.keep b o e n hb hx)
    · obtain ⟨sl, e1⟩ := I.base.slot b o e n hb hx
      exact ⟨sl, (hs.2 b (Nat.ne_of_lt (Nat.lt_of_lt_of_le (Heap.lt_size e) (I.ok.cab x c hfn hc)))).trans e1⟩
    · obtain ⟨o', e1⟩ := I.base.there b o e hx
      exact ⟨o', (hs.2 b (Nat.ne_of_lt (Nat.lt_of_lt_of_le (Heap.lt_size e) (I.ok.cab x c hfn hc)))).trans e1⟩
    · by_cases hj : j = i
      · subst hj
        rw [hi] at e1; cases e1
        rw [List.getElem?_set_self hiσ] at e2
        cases e2
        exact ⟨u, r, .inr ⟨.inl hk, c, hc, hc'⟩⟩
      · rw [List.getElem?_set_ne (Ne.symm hj)] at e2
        obtain ⟨u', r', q⟩ := hl j y v' e1 e2 e3
        refine ⟨u', r', ?_⟩
        rcases q with q | ⟨k, c', e, z'⟩
        · exact .inl q
        · refine .inr ⟨k, c', e, z'.sameBut hs ?_⟩
          rintro rfl
          exact hj (nodup_ix hN e1 (I.ok.inj _ _ _ e hc ▸ hi))
    · by_cases hcc : c' = c
      · subst hcc; exact ⟨_, hc'⟩
      · obtain ⟨w2, z2⟩ := I.cell y c' e
        exact ⟨w2, z2.sameBut hs hcc⟩
    · obtain ⟨e, n, ne, nf, d⟩ := I.pin p hp
      refine ⟨(hs.2 p.1 ?_).trans e, n, ne, nf, d⟩
      intro q
      rw [q, hoc] at e
      have q' : oc = p.2 := Option.some.inj e
      exact d w' (by rw [← q']; exact hocd)
theorem store_ok {M : Model} {A : Around} {E : Value → Shared → Prop} {i : Nat} {x : Str} {v : V} {u : Value} {Q : Unit → Shared → Prop} (I : Inv X pins σ H s) (hN : X.N.Nodup) (hi : X.N[i]? = some x) (hx : Loc X.env.scope x) (r : RelV v u)
    (h : ∀ s', Inv X pins (σ.set i (some v)) H s' → Q () s') (hf : X.fn x = true ∨ X.env.scope.names.lookup x = some .local := by first | exact .inl rfl | exact .inr rfl | assumption) : wpAny M A (storeName X.env x u) Q E s :=
  store_ok2 I hN hi hx r (fun s' I' _ => h s' I') hf
theorem Inv.call' {s' : Shared} {ch : List Addr} (I : Inv X pins σ H s) (ho : s'.os = s.os) (u : Un (frs X.stack) ch H H' s.heap s'.heap) (hok : HOk X.prog X.w H' s'.heap) (hg : AllBare s'.gens)
    (hch : ∀ b ∈ ch, (b ∈ X.ex ∨ X.s₀.heap.objs.size ≤ b) ∧ b ≠ X.env.locals ∧ (∀ x c, X.env.cells.lookup x = some c → c ≠ b) ∧ ∀ p ∈ X.pn ++ pins, p.1 ≠ b) : Inv X pins σ H' s' := by
  obtain ⟨h', g', d', t', o'⟩ := s'
  have e : o' = s.os := ho
  subst e
  exact I.call (g' := g') (t' := t') (d' := d') u hok hg hch
end
abbrev XK := Value → Option Addr → Hp → Prop
abbrev St := List (Option V)
abbrev VK := V → Hp → Prop
abbrev TE := St → Hp → VK → Prop
abbrev TT := St → Hp → (Bool → Hp → Prop) → Prop
abbrev TA := St → Hp → (List V → Hp → Prop) → Prop
structure Ends where
  nx : St → Hp → Prop
  rt : VK
  bk : St → Hp → Prop := fun _ _ => False
  ct : St → Hp → Prop := fun _ _ => False
abbrev TS := Ends → St → Hp → Prop
def EP (X : Cx) (pins : List (Addr × Obj)) (σ : St) (Q : VK) (u : Value) (s' : Shared) : Prop := ∃ v H', Inv X pins σ H' s' ∧ RelV v u ∧ Q v H'
def TP (X : Cx) (pins : List (Addr × Obj)) (σ : St) (Q : Bool → Hp → Prop) (b : Bool) (s' : Shared) : Prop := ∃ H', Inv X pins σ H' s' ∧ Q b H'
def AP (X : Cx) (pins : List (Addr × Obj)) (σ : St) (Q : List V → Hp → Prop) (us : List Value) (s' : Shared) : Prop := ∃ vs H', Inv X pins σ H' s' ∧ Vals vs us ∧ Q vs H'
def SP (X : Cx) (pins : List (Addr × Obj)) (D : Ends) (f : Flow) (s' : Shared) : Prop :=
  match f with
  | .next => ∃ σ' H', Inv X pins σ' H' s' ∧ D.nx σ' H'
  | .brk => ∃ σ' H', Inv X pins σ' H' s' ∧ D.bk σ' H'
  | .cont => ∃ σ' H', Inv X pins σ' H' s' ∧ D.ct σ' H'
  | .ret u => ∃ v σ' H', Inv X pins σ' H' s' ∧ RelV v u ∧ D.rt v H'
def PE (X : Cx) (e : Expr) (t : TE) : Prop :=
  ∀ (pins : List (Addr × Obj)) (s : Shared) (σ : St) (H : Hp) (Q : VK), Inv X pins σ H s → t σ H Q → wpAny (model X.prog X.w) X.A (eval e X.env) (EP X pins σ Q) X.xe s
def PT (X : Cx) (e : Expr) (t : TT) : Prop :=
  ∀ (pins : List (Addr × Obj)) (s : Shared) (σ : St) (H : Hp) (Q : Bool → Hp → Prop), Inv X pins σ H s → t σ H Q → wpAny (model X.prog X.w) X.A (isTrue e X.env (eval e X.env)) (TP X pins σ Q) X.xe s
def PW (X : Cx) (e : Expr) (t : TT) : Prop :=
  ∀ (whole : Sem Value) (pins : List (Addr × Obj)) (s : Shared) (σ : St) (H : Hp) (Q : Bool → Hp → Prop), Inv X pins σ H s → t σ H Q → wpAny (model X.prog X.w) X.A (isTrue e X.env whole) (TP X pins σ Q) X.xe s
theorem PW.pt {X : Cx} {e : Expr} {t : TT} (h : PW X e t) : PT X e t := h _
def PA (X : Cx) (es : List Expr) (t : TA) : Prop :=
  ∀ (pos : Pos) (pins : List (Addr × Obj)) (s : Shared) (σ : St) (H : Hp) (Q : List V → Hp → Prop), Inv X pins σ H s → t σ H Q → wpAny (model X.prog X.w) X.A (spliced (backTo pos (starEach es X.env))) (AP X pins σ Q) X.xe s
def PS (X : Cx) (st : Stmt) (t : TS) : Prop :=
  ∀ (pins : List (Addr × Obj)) (s : Shared) (σ : St) (H : Hp) (D : Ends), Inv X pins σ H s → t D σ H → wpAny (model X.prog X.w) X.A (exec st X.env) (SP X pins D) X.xe s
def PSs (X : Cx) (st : List Stmt) (t : TS) : Prop :=
  ∀ (pins : List (Addr × Obj)) (s : Shared) (σ : St) (H : Hp) (D : Ends), Inv X pins σ H s → t D σ H → wpAny (model X.prog X.w) X.A (execs st X.env) (SP X pins D) X.xe s
theorem thn {α : Type} {t : Sem α} {Q Q' : α → Shared → Prop} {M : Model} {A : Around} {E : Value → Shared → Prop} {s : Shared} (h : wpAny M A t Q E s) (hQ : ∀ a s, Q a s → Q' a s) : wpAny M A t Q' E s := wpAny_mono h hQ fun _ _ x => x
end L2
namespace L2
open PySem PySem.Spec PyProof.Rows
section
variable {X : Cx}
theorem bin {a b : Expr} {ta tb : TE} (ha : PE X a ta) (hb : PE X b tb) {pins : List (Addr × Obj)} {s : Shared} {σ : St} {H : Hp} {R : V → V → Hp → Prop} (I : Inv X pins σ H s) (h : ta σ H fun x H1 => tb σ H1 fun y H2 => R x y H2)
    {α : Type} {Q : α → Shared → Prop} {f : Value → Value → Sem α}
    (hf : ∀ v u s2 x y H2, Inv X pins σ H2 s2 → RelV x v → RelV y u → R x y H2 → wpAny (model X.prog X.w) X.A (f v u) Q X.xe s2) :
    wpAny (model X.prog X.w) X.A (eval a X.env) (fun v s₁ => wpAny (model X.prog X.w) X.A (eval b X.env) (fun u s₂ => wpAny (model X.prog X.w) X.A (f v u) Q X.xe s₂) X.xe s₁) X.xe s := by
  refine thn (ha pins s σ H _ I h) fun v s1 ⟨x, H1, I1, r1, q1⟩ => ?_
  refine thn (hb pins s1 σ H1 _ I1 q1) fun u s2 ⟨y, H2, I2, r2, q2⟩ => ?_
  exact hf v u s2 x y H2 I2 r1 r2 q2
def tVar (i : Nat) : TE := fun σ H Q => ∃ v, σ[i]? = some (some v) ∧ Q v H
def tC (v : V) : TE := fun _ H Q => Q v H
theorem pe_var {i : Nat} {x : Str} {pos : Pos} (hN : X.N[i]? = some x) (hv : Vis X.env.scope x) (hd : (x == ("__debug__" : Str)) = false := by decide) (hcd : (x == ("__classdict__" : Str)) = false := by decide) : PE X (.Name x pos) (tVar i) := by
  intro pins s σ H Q I h
  obtain ⟨v, e, h⟩ := h
  obtain ⟨m, hn, hl⟩ := I.loc
  obtain ⟨u, r, l⟩ := hl i x v hN e hv
  have fin : EP X pins σ Q u s := ⟨v, H, I, r, h⟩
  rcases l with ⟨hk, hm⟩ | ⟨hk, c, hc, hcell⟩
  · exact wpAny_Name (wpAny_loadName_local I.ok.kind hk hn hm fin) hd
  · rcases hk with hk | hk
    · exact wpAny_Name (wpAny_loadName_cell I.ok.kind hk hc hcell fin) hd
    · exact wpAny_Name (wpAny_loadName_free I.ok.kind hk hc hcell fin hcd) hd
theorem pe_int {i j pos} : PE X (.Constant (.int i) j pos) (tC (.int i)) := fun _ _ _ H _ I h => wpAny_Constant_int ⟨.int i, H, I.tok _, ⟨_, rfl⟩, h⟩
theorem pe_bl {b j pos} : PE X (.Constant (.bool b) j pos) (tC (.bl b)) := fun _ _ _ H _ I h => Constant_bool ⟨.bl b, H, I, rfl, h⟩
theorem pe_str {x j pos} : PE X (.Constant (.str x) j pos) (tC (.str x)) := fun _ _ _ H _ I h => Calls.Constant_str ⟨.str x, H, I.tok _, ⟨_, rfl⟩, h⟩
def Gl (X : Cx) (x : Str) : Prop := X.env.kindOf x = some .globalImplicit
theorem ld_glob {E : Value → Shared → Prop} {pins : List (Addr × Obj)} {s : Shared} {σ : St} {H : Hp} {x : Str} {u : Value} {pos : Pos} {Q : Value → Shared → Prop} (I : Inv X pins σ H s) (hg : Gl X x) (hm : X.mg x = some u) (h : Q u s)
    (hd : (x == ("__debug__" : Str)) = false := by decide) : wpAny (model X.prog X.w) X.A (eval (.Name x pos) X.env) Q E s :=
  Calls.Name_function_global I.ok.kind hg (Calls.loadGlobal_global (by rw [I.ok.glob]; exact I.mod.glob.keeps I.bk) hm h) hd
theorem ld_blt {E : Value → Shared → Prop} {pins : List (Addr × Obj)} {s : Shared} {σ : St} {H : Hp} {x : Str} {u : Value} {pos : Pos} {Q : Value → Shared → Prop} (I : Inv X pins σ H s) (hg : Gl X x) (hm : X.mg x = none) (hv : bootBuiltins x = some u) (h : Q u s)
    (hn : x ≠ "__name__" := by decide) (hd : (x == ("__debug__" : Str)) = false := by decide) : wpAny (model X.prog X.w) X.A (eval (.Name x pos) X.env) Q E s := by
  obtain ⟨mb, h1, h2⟩ := I.mod.blt
  exact Calls.Name_function_global I.ok.kind hg (Calls.loadGlobal_builtin (by rw [I.ok.glob]; exact I.mod.glob.keeps I.bk) hm (by rw [I.ok.blt]; exact h1.keeps I.bk) ((h2 x hn).trans hv) h) hd
theorem pe_glob {x : Str} {v : V} {u : Value} {pos : Pos} (hg : Gl X x) (hm : X.mg x = some u) (r : RelV v u) (hd : (x == ("__debug__" : Str)) = false := by decide) : PE X (.Name x pos) (tC v) :=
  fun _ _ _ H _ I h => ld_glob I hg hm ⟨v, H, I, r, h⟩ hd
theorem pe_bltn {x : Str} {v : V} {u : Value} {pos : Pos} (hg : Gl X x) (hm : X.mg x = none) (hv : bootBuiltins x = some u) (r : RelV v u) (hn : x ≠ "__name__" := by decide) (hd : (x == ("__debug__" : Str)) = false := by decide) : PE X (.Name x pos) (tC v) :=
  fun _ _ _ H _ I h => ld_blt I hg hm hv ⟨v, H, I, r, h⟩ hn hd
variable {a b : Expr} {ta tb : TE} {pos : Pos}
def PC (X : Cx) (op : CmpOp) (a b : Expr) (t : TE) : Prop :=
  ∀ (pins : List (Addr × Obj)) (s : Shared) (σ : St) (H : Hp) (Q : VK), Inv X pins σ H s → t σ H Q →
    wpAny (model X.prog X.w) X.A (eval a X.env) (fun v s₁ => wpAny (model X.prog X.w) X.A (eval b X.env) (fun u s₂ => wpAny (model X.prog X.w) X.A (compareOp op v u) (EP X pins σ Q) X.xe s₂) X.xe s₁) X.xe s
theorem nobehind (b : Expr) {op : CmpOp} (h : op ≠ .In) (h2 : op ≠ .NotIn) : behindInMarks op b = false := by
  have e1 : (op == CmpOp.In) = false := by cases op <;> first | rfl | exact absurd rfl h
  have e2 : (op == CmpOp.NotIn) = false := by cases op <;> first | rfl | exact absurd rfl h2
  cases b <;> simp [behindInMarks, e1, e2]
def tB (t : TE) : TT := fun σ H Q => t σ H fun x H1 => ∃ c, x = .bl c ∧ Q c H1
theorem pt_cmp {op : CmpOp} {t : TE} (h : PC X op a b t) (h1 : behindInMarks op b = false := by first | exact nobehind _ (by decide) (by decide) | rfl) : PT X (.Compare a [op] [b] pos) (tB t) := by
  intro pins s σ H Q I hw
  refine wpAny_isTrue_Compare1 (thn (h pins s σ H _ I hw) fun v s1 h1 => thn h1 fun u s2 h2 => thn h2 fun c s3 ⟨x, H1, I1, r1, q1⟩ => ?_) h1
  obtain ⟨d, rfl, q⟩ := q1
  cases r1
  exact wpAny_truthy_bool ⟨H1, I1, q⟩
theorem pt_val {e : Expr} {t : TE} (h : PE X e t) (he : ∀ whole, isTrue e X.env whole = (do let v ← whole; standAt e.pos; holding [v] (truthy v)) := by intro _; rfl) : PT X e (tB t) := by
  intro pins s σ H Q I hw
  refine isTrue_plain (thn (h pins s σ H _ I hw) fun v s1 ⟨x, H1, I1, r1, q1⟩ => ?_) (he _)
  obtain ⟨d, rfl, q⟩ := q1
  cases r1
  exact wpAny_truthy_bool ⟨H1, I1, q⟩
variable {tA tB' : TT} {rest : List Expr}
def tAnd (t u : TT) : TT := fun σ H Q => t σ H fun c H1 => if c = true then u σ H1 Q else Q false H1
def tOr (t u : TT) : TT := fun σ H Q => t σ H fun c H1 => if c = true then Q true H1 else u σ H1 Q
def tNot (t : TT) : TT := fun σ H Q => t σ H fun c H1 => Q (!c) H1
theorem pw_and1 (ha : PT X a tA) : PW X (.BoolOp .And [a] pos) tA := by
  intro wh pins s σ H Q I h
  refine isTrue_and (thn (ha pins s σ H Q I h) fun c s1 e => ?_)
  cases c with
  | true => exact isTrue_and_nil e
  | false => exact e
theorem pw_or1 (ha : PT X a tA) : PW X (.BoolOp .Or [a] pos) tA := by
  intro wh pins s σ H Q I h
  refine isTrue_or (thn (ha pins s σ H Q I h) fun c s1 e => ?_)
  cases c with
  | false => exact isTrue_or_nil e
  | true => exact e
theorem pw_and (ha : PT X a tA) (hb : PW X (.BoolOp .And (b :: rest) pos) tB') : PW X (.BoolOp .And (a :: b :: rest) pos) (tAnd tA tB') := by
  intro wh pins s σ H Q I h
  refine isTrue_and (thn (ha pins s σ H _ I h) fun c s1 ⟨H1, I1, q1⟩ => ?_)
  cases c with
  | true => exact hb wh pins s1 σ H1 Q I1 q1
  | false => exact ⟨H1, I1, q1⟩
theorem pw_or (ha : PT X a tA) (hb : PW X (.BoolOp .Or (b :: rest) pos) tB') : PW X (.BoolOp .Or (a :: b :: rest) pos) (tOr tA tB') := by
  intro wh pins s σ H Q I h
  refine isTrue_or (thn (ha pins s σ H _ I h) fun c s1 ⟨H1, I1, q1⟩ => ?_)
  cases c with
  | true => exact ⟨H1, I1, q1⟩
  | false => exact hb wh pins s1 σ H1 Q I1 q1
theorem pt_not (ha : PT X a tA) : PT X (.UnaryOp .Not a pos) (tNot tA) := by
  intro pins s σ H Q I h
  exact isTrue_not (ha pins s σ H (fun c H1 => Q (!c) H1) I h)
def tAndV (ta tb : TE) : TE := fun σ H Q => ta σ H fun x H1 => ∃ c, x = .bl c ∧ if c = true then tb σ H1 Q else Q (.bl false) H1
theorem pe_one {op} {t : TE} (h : PE X a t) : PE X (.BoolOp op [a] pos) t := fun pins s σ H Q I hw => BoolOp_one (h pins s σ H Q I hw)
theorem pe_and (ha : PE X a ta) (hb : PE X (.BoolOp .And (b :: rest) pos) tb) : PE X (.BoolOp .And (a :: b :: rest) pos) (tAndV ta tb) := by
  intro pins s σ H Q I h
  refine BoolOp_and (thn (ha pins s σ H _ I h) fun v s1 ⟨x, H1, I1, r1, q1⟩ => ?_)
  obtain ⟨c, rfl, q1⟩ := q1
  cases r1
  refine wpAny_truthy_bool ?_
  cases c with
  | true => exact hb pins s1 σ H1 Q I1 q1
  | false => exact ⟨.bl false, H1, I1, rfl, q1⟩
def tIf (t : TT) (ta tb : TE) : TE := fun σ H Q => t σ H fun c H1 => if c = true then ta σ H1 Q else tb σ H1 Q
theorem pe_ifExp {c : Expr} (hc : PT X c tA) (ha : PE X a ta) (hb : PE X b tb) : PE X (.IfExp c a b pos) (tIf tA ta tb) := by
  intro pins s σ H Q I h
  refine wpAny_IfExp (thn (hc pins s σ H _ I h) fun d s1 ⟨H1, I1, q1⟩ => ?_)
  cases d with
  | true => exact ha pins s1 σ H1 Q I1 q1
  | false => exact hb pins s1 σ H1 Q I1 q1
end
end L2
namespace L2
open PySem PySem.Spec PyProof.Rows
def SqL (K : PySem.W.Frag) (H : Hp) (a : Addr) (xs : List V) : Prop :=
  Rd H a (.lst xs) ∨
    ∃ (o : Obj) (its : Array Value) (n : Nat), K.lookup a = some o ∧ o.cls = .type "list" ∧ o.dict = none ∧ o.data = .seq its n ∧ its.size ≤ sizeLine ∧ Vals xs its.toList
def SqT (K : PySem.W.Frag) (H : Hp) (a : Addr) (xs : List V) : Prop :=
  Rd H a (.tup xs) ∨
    ∃ (o : Obj) (its : Array Value) (n : Nat), K.lookup a = some o ∧ o.cls = .type "tuple" ∧ o.data = .seq its n ∧ its.size ≤ sizeLine ∧ Vals xs its.toList
def absV : Value → Option V
  | .none => some .non
  | .bool b => some (.bl b)
  | .int i _ => some (.int i)
  | .str x _ => some (.str x)
  | .bytes b _ => some (.byt b)
  | .float b _ => some (.flt b)
  | .ref a => some (.ref a)
  | .type n => some (.ty n)
  | _ => none
theorem RelV.abs {x : V} {u : Value} (r : RelV x u) : absV u = some x := by
  cases x with
  | non => cases r; rfl
  | bl _ => cases r; rfl
  | int _ => obtain ⟨t, rfl⟩ := r; rfl
  | str _ => obtain ⟨t, rfl⟩ := r; rfl
  | byt _ => obtain ⟨t, rfl⟩ := r; rfl
  | flt _ => obtain ⟨t, rfl⟩ := r; rfl
  | ref _ => cases r; rfl
  | ty _ => cases r; rfl
theorem RelV.inj {x y : V} {u : Value} (r : RelV x u) (q : RelV y u) : x = y := Option.some.inj (r.abs.symm.trans q.abs)
theorem Vals.inj : ∀ {xs ys : List V} {us : List Value}, Vals xs us → Vals ys us → xs = ys
  | _, _, _, .nil, .nil => rfl
  | _, _, _, .cons r t, .cons r' t' => by rw [r.inj r', Vals.inj t t']
section
variable {X : Cx} {pins : List (Addr × Obj)} {σ : St} {H : Hp} {s : Shared} {a : Addr} {xs ys : List V}
theorem SqL.of {K : PySem.W.Frag} (h : H a = some (.lst xs)) : SqL K H a xs := .inl (.inl h)
theorem SqT.of {K : PySem.W.Frag} (h : H a = some (.tup xs)) : SqT K H a xs := .inl (.inl h)
theorem Inv.list (I : Inv X pins σ H s) (h : SqL X.K H a xs) : ∃ its : List Value, Vals xs its ∧ PlainL s.heap a its.toArray ∧ xs.length ≤ sizeLine := by
  rcases h with h | ⟨o, its, n, hk, hc, hd, hs, hz, r⟩
  · obtain ⟨z, its, n, r, e⟩ := h.ok I.hok
    exact ⟨its, r, ⟨_, n, e, rfl, rfl, rfl⟩, z⟩
  · refine ⟨its.toList, r, ⟨o, n, I.kIn a o hk, hc, hd, by simpa using hs⟩, ?_⟩
    have e := r.length
    simp only [Array.length_toList] at e
    omega
theorem Inv.tuple (I : Inv X pins σ H s) (h : SqT X.K H a xs) : ∃ its : List Value, Vals xs its ∧ IsTup s.heap a its.toArray ∧ xs.length ≤ sizeLine := by
  rcases h with h | ⟨o, its, n, hk, hc, hs, hz, r⟩
  · obtain ⟨z, its, r, p⟩ := h.ok I.hok
    exact ⟨its, r, p, z⟩
  · refine ⟨its.toList, r, ⟨o, I.kIn a o hk, hc, n, by simpa using hs⟩, ?_⟩
    have e := r.length
    simp only [Array.length_toList] at e
    omega
theorem Inv.list_inj (I : Inv X pins σ H s) (h : SqL X.K H a xs) (h' : SqL X.K H a ys) : xs = ys := by
  obtain ⟨its, r, ⟨o, n, e, _, _, d⟩, _⟩ := I.list h
  obtain ⟨its', r', ⟨o', n', e', _, _, d'⟩, _⟩ := I.list h'
  rw [e] at e'; cases e'
  rw [d] at d'
  injection d' with d1 _
  have : its = its' := by simpa using congrArg Array.toList d1
  subst this
  exact r.inj r'
theorem Inv.tuple_inj (I : Inv X pins σ H s) (h : SqT X.K H a xs) (h' : SqT X.K H a ys) : xs = ys := by
  obtain ⟨its, r, ⟨o, e, _, n, d⟩, _⟩ := I.tuple h
  obtain ⟨its', r', ⟨o', e', _, n', d'⟩, _⟩ := I.tuple h'
  rw [e] at e'; cases e'
  rw [d] at d'
  injection d' with d1 _
  have : its = its' := by simpa using congrArg Array.toList d1
  subst this
  exact r.inj r'
end
abbrev Cx.wish (X : Cx) (E : Value → Shared → Prop) : Cx := { X with xe := E }
abbrev Cx.nox (X : Cx) : Cx := X.wish fun _ _ => False
theorem Cx.Ok.wish {X : Cx} (ok : X.Ok) (E : Value → Shared → Prop) : (X.wish E).Ok :=
  ⟨ok.mod, ok.kind, ok.glob, ok.blt, ok.above, ok.inj, ok.has, ok.cab, ok.hd, ok.frames, ok.stk, ok.exf, ok.bs, ok.bsz, ok.noex, ok.exfs, ok.funs, ok.frf⟩
theorem Cx.Ok.unwish {X : Cx} {E : Value → Shared → Prop} (ok : (X.wish E).Ok) : X.Ok :=
  ⟨ok.mod, ok.kind, ok.glob, ok.blt, ok.above, ok.inj, ok.has, ok.cab, ok.hd, ok.frames, ok.stk, ok.exf, ok.bs, ok.bsz, ok.noex, ok.exfs, ok.funs, ok.frf⟩
section
variable {X : Cx} {pins : List (Addr × Obj)} {σ : St} {H : Hp} {s : Shared} {E : Value → Shared → Prop}
theorem Inv.wish (I : Inv X pins σ H s) (E : Value → Shared → Prop) : Inv (X.wish E) pins σ H s := ⟨I.ok.wish E, I.os, I.bare, I.base, I.loc, I.cell, I.free, I.freeC, I.pin, I.hok, I.len⟩
theorem Inv.unwish (I : Inv (X.wish E) pins σ H s) : Inv X pins σ H s := ⟨I.ok.unwish, I.os, I.bare, I.base, I.loc, I.cell, I.free, I.freeC, I.pin, I.hok, I.len⟩
theorem SP.unwish {D : Ends} {f : Flow} {s' : Shared} (h : SP (X.wish E) pins D f s') : SP X pins D f s' := by
  cases f with
  | next => obtain ⟨σ', H', I, q⟩ := h; exact ⟨σ', H', I.unwish, q⟩
  | brk => obtain ⟨σ', H', I, q⟩ := h; exact ⟨σ', H', I.unwish, q⟩
  | cont => obtain ⟨σ', H', I, q⟩ := h; exact ⟨σ', H', I.unwish, q⟩
  | ret u => obtain ⟨v, σ', H', I, r, q⟩ := h; exact ⟨v, σ', H', I.unwish, r, q⟩
theorem PE.nox {e : Expr} {t : TE} (h : PE X.nox e t) : PE X e t := fun pins s σ H Q I hw =>
  wpAny_mono (h pins s σ H Q (I.wish _) hw) (fun _ _ ⟨v, H', I', r, q⟩ => ⟨v, H', I'.unwish, r, q⟩) fun _ _ z => False.elim z
theorem PT.nox {e : Expr} {t : TT} (h : PT X.nox e t) : PT X e t := fun pins s σ H Q I hw =>
  wpAny_mono (h pins s σ H Q (I.wish _) hw) (fun _ _ ⟨H', I', q⟩ => ⟨H', I'.unwish, q⟩) fun _ _ z => False.elim z
theorem PSs.nox {st : List Stmt} {t : TS} (h : PSs X.nox st t) : PSs X st t := fun pins s σ H D I hw =>
  wpAny_mono (h pins s σ H D (I.wish _) hw) (fun _ _ q => q.unwish) fun _ _ z => False.elim z
end
section
variable {X : Cx} {st : Stmt} {rest : List Stmt} {t u : TS} {e : Expr} {te : TE} {pos : Pos}
def tNext : TS := fun D σ H => D.nx σ H
def tSeq (t u : TS) : TS := fun D σ H => t { D with nx := u D } σ H
theorem pss_nil : PSs X [] tNext := fun _ _ σ H _ I h => wpAny_execs_nil ⟨σ, H, I, h⟩
theorem pss_cons (h1 : PS X st t) (h2 : PSs X rest u) : PSs X (st :: rest) (tSeq t u) := by
  intro pins s σ H D I h
  refine wpAny_execs_cons (thn (h1 pins s σ H { D with nx := u D } I h) fun f s1 q => ?_)
  cases f with
  | next =>
    obtain ⟨σ', H', I', q⟩ := q
    exact h2 pins s1 σ' H' D I' q
  | ret v => exact q
  | brk => exact q
  | cont => exact q
theorem pss_one (h1 : PS X st t) : PSs X [st] t := by
  intro pins s σ H D I h
  refine wpAny_execs_cons (thn (h1 pins s σ H D I h) fun f s1 q => ?_)
  cases f with
  | next => exact wpAny_execs_nil q
  | ret v => exact q
  | brk => exact q
  | cont => exact q
theorem Inv.quiet {pins : List (Addr × Obj)} {σ : St} {H : Hp} {s : Shared} (I : Inv X pins σ H s) : interactive X.env = false := by simp [interactive, I.ok.kind]
def tDrop (te : TE) : TS := fun D σ H => te σ H fun _ H1 => D.nx σ H1
theorem ps_expr (he : PE X e te) (hs : swapsWith e none pos.line X.env = pure false := by rfl) : PS X (.Expr e pos) (tDrop te) := by
  intro pins s σ H D I h
  exact wpAny_Expr_any (thn (he pins s σ H _ I h) fun v s1 ⟨x, H1, I1, r1, q1⟩ => ⟨σ, H1, I1, q1⟩) I.quiet hs
def tRet (te : TE) : TS := fun D σ H => te σ H D.rt
theorem ps_ret (he : PE X e te) : PS X (.Return (some e) pos) (tRet te) := by
  intro pins s σ H D I h
  exact wpAny_Return_some (thn (he pins s σ H _ I h) fun v s1 ⟨x, H1, I1, r1, q1⟩ => ⟨x, σ, H1, I1, r1, q1⟩)
def tIfS (c : TT) (t u : TS) : TS := fun D σ H => c σ H fun b H1 => if b = true then t D σ H1 else u D σ H1
theorem ps_if {c : Expr} {a b : List Stmt} {tc : TT} (hc : PT X c tc) (ha : PSs X a t) (hb : PSs X b u) : PS X (.If c a b pos) (tIfS tc t u) := by
  intro pins s σ H D I h
  refine wpAny_If (thn (hc pins s σ H _ I h) fun d s1 ⟨H1, I1, q1⟩ => ?_)
  cases d with
  | true => exact ha pins s1 σ H1 D I1 q1
  | false => exact hb pins s1 σ H1 D I1 q1
def tNever : TS := fun _ _ _ => False
theorem pss_never {sts : List Stmt} : PSs X sts tNever := fun _ _ _ _ _ _ h => h.elim
end
abbrev TG := V → St → Hp → (St → Hp → Prop) → Prop
abbrev TGs := List V → St → Hp → (St → Hp → Prop) → Prop
def PG (X : Cx) (target : Expr) (t : TG) : Prop :=
  ∀ (pins : List (Addr × Obj)) (s : Shared) (σ : St) (H : Hp) (v : V) (u : Value) (Q : St → Hp → Prop), Inv X pins σ H s → RelV v u → t v σ H Q →
    wpAny (model X.prog X.w) X.A (assign target X.env u) (fun _ s' => ∃ σ' H', Inv X pins σ' H' s' ∧ Q σ' H') X.xe s
def PGs (X : Cx) (ts : List Expr) (t : TGs) : Prop :=
  ∀ (pins : List (Addr × Obj)) (s : Shared) (σ : St) (H : Hp) (vs : List V) (us : List Value) (Q : St → Hp → Prop), Inv X pins σ H s → Vals vs us → t vs σ H Q →
    wpAny (model X.prog X.w) X.A (assignInOrder ((assignEach ts X.env).map (·.2)) us) (fun _ s' => ∃ σ' H', Inv X pins σ' H' s' ∧ Q σ' H') X.xe s
abbrev TIp := V → V → Hp → VK → Prop
def PIp (X : Cx) (op : Operator) (t : TIp) : Prop :=
  ∀ (pins : List (Addr × Obj)) (s : Shared) (σ : St) (H : Hp) (x y : V) (v u : Value) (Q : VK), Inv X pins σ H s → RelV x v → RelV y u → t x y H Q →
    wpAny (model X.prog X.w) X.A (inplaceOp op v u) (EP X pins σ Q) X.xe s
section
variable {X : Cx} {pos : Pos}
def gName (i : Nat) : TG := fun v σ H Q => Q (σ.set i (some v)) H
theorem pg_name {i : Nat} {x : Str} (hN : X.N.Nodup) (hi : X.N[i]? = some x) (hx : Loc X.env.scope x) (hf : X.fn x = true ∨ X.env.scope.names.lookup x = some .local := by first | exact .inl rfl | exact .inr rfl | assumption) : PG X (.Name x pos) (gName i) := by
  intro pins s σ H v u Q I r h
  exact wpAny_assign_Name (store_ok I hN hi hx r (fun s' I' => ⟨_, H, I', h⟩) hf)
def gNil : TGs := fun vs σ H Q => vs = [] ∧ Q σ H
def gCons (t : TG) (u : TGs) : TGs := fun vs σ H Q => ∃ v r, vs = v :: r ∧ t v σ H fun σ' H' => u r σ' H' Q
theorem pgs_nil : PGs X [] gNil := by
  intro pins s σ H vs us Q I r h
  obtain ⟨e, h⟩ := h
  subst e
  cases r
  exact assignInOrder_nil ⟨σ, H, I, h⟩
theorem pgs_cons {e : Expr} {es : List Expr} {t : TG} {u : TGs} (h1 : PG X e t) (h2 : PGs X es u)
    (hs : (assignEach (e :: es) X.env).map (·.2) = assign e X.env :: (assignEach es X.env).map (·.2) := by rfl) : PGs X (e :: es) (gCons t u) := by
  intro pins s σ H vs us Q I r h
  obtain ⟨v, vr, e1, h⟩ := h
  subst e1
  cases r with
  | cons r rr =>
    rw [hs]
    refine assignInOrder_cons (thn (h1 pins s σ H _ _ _ I r h) fun _ s1 ⟨σ1, H1, I1, q1⟩ => ?_)
    exact h2 pins s1 σ1 H1 _ _ Q I1 rr q1
def gTup (K : PySem.W.Frag) (n : Nat) (t : TGs) : TG := fun v σ H Q => ∃ a xs, v = .ref a ∧ SqT K H a xs ∧ xs.length = n ∧ t xs σ H Q
theorem pg_tup {es : List Expr} {k : Nat} {t : TGs} {n : Nat} (hc : X.calm = true) (h : PGs X es t)
    (hn : (assignEach es X.env).length = n := by rfl) (hst : (assignEach es X.env).findIdx? (·.1) = none := by rfl) : PG X (.Tuple es k pos) (gTup X.K n t) := by
  intro pins s σ H v u Q I r hw
  obtain ⟨a, xs, e1, hq, hl, hw⟩ := hw
  subst e1
  cases r
  obtain ⟨its, rv, ht, hz⟩ := I.tuple hq
  refine assign_Tuple_tuple (I.ok.hd hc) ht (by simp [hn, ← hl, rv.length]) hst fun h' hx => ?_
  have I1 : Inv X pins σ H { s with heap := h' } := I.kept (t' := s.toks) fun b o e => hx b o (Nat.ne_of_lt (Heap.lt_size e)) e
  exact h pins _ σ H xs _ Q I1 (by simpa using rv) hw
def tAsg (te : TE) (g : TG) : TS := fun D σ H => te σ H fun x H1 => g x σ H1 D.nx
theorem ps_set {i : Nat} {x : Str} {e : Expr} {te : TE} {pos' : Pos} (hN : X.N.Nodup) (hi : X.N[i]? = some x) (hx : Loc X.env.scope x) (he : PE X e te) (hs : swapsWith e (some (.Name x pos')) pos.line X.env = pure false := by rfl) (hf : X.fn x = true ∨ X.env.scope.names.lookup x = some .local := by first | exact .inl rfl | exact .inr rfl | assumption) :
    PS X (.Assign [.Name x pos'] e pos) (tAsg te (gName i)) := by
  intro pins s σ H D I h
  refine wpAny_Assign_Name (thn (he pins s σ H _ I h) fun v s1 ⟨y, H1, I1, r1, q1⟩ => ?_) hs
  exact store_ok I1 hN hi hx r1 (fun s2 I2 => ⟨_, H1, I2, q1⟩) hf
def tAug (i : Nat) (te : TE) (ti : TIp) : TS := fun D σ H => ∃ x, σ[i]? = some (some x) ∧ te σ H fun y H1 => ti x y H1 fun z H2 => D.nx (σ.set i (some z)) H2
theorem ps_aug {i : Nat} {x : Str} {e : Expr} {te : TE} {op : Operator} {ti : TIp} {pos' : Pos} (hN : X.N.Nodup) (hi : X.N[i]? = some x) (hx : Loc X.env.scope x) (he : PE X e te) (ho : PIp X op ti) (hf : X.fn x = true ∨ X.env.scope.names.lookup x = some .local := by first | exact .inl rfl | exact .inr rfl | assumption) :
    PS X (.AugAssign (.Name x pos') op e pos) (tAug i te ti) := by
  intro pins s σ H D I h
  obtain ⟨v, e1, h⟩ := h
  obtain ⟨m, hn, hl⟩ := I.loc
  have vis : Vis X.env.scope x := by rcases hx with k | k; exact .inl k; exact .inr (.inl k)
  obtain ⟨u, r, l⟩ := hl i x v hi e1 vis
  refine wpAny_AugAssign_Name ?_
  have go : wpAny (model X.prog X.w) X.A (eval e X.env) (fun w s₂ => wpAny (model X.prog X.w) X.A (inplaceOp op u w) (fun r s₃ => wpAny (model X.prog X.w) X.A (storeName X.env x r) (fun _ => SP X pins D .next) X.xe s₃) X.xe s₂) X.xe s := by
    refine thn (he pins s σ H _ I h) fun w s1 ⟨y, H1, I1, r1, q1⟩ => ?_
    refine thn (ho pins s1 σ H1 v y u w _ I1 r r1 q1) fun z s2 ⟨zv, H2, I2, r2, q2⟩ => ?_
    exact store_ok I2 hN hi hx r2 (fun s3 I3 => ⟨_, H2, I3, q2⟩) hf
  rcases l with ⟨hk, hm⟩ | ⟨hk, c, hc, hcell⟩
  · exact wpAny_loadName_local I.ok.kind hk hn hm go
  · rcases hk with hk | hk
    · exact wpAny_loadName_cell I.ok.kind hk hc hcell go
    · rcases hx with k | k
      · have : X.env.scope.names.lookup x = some .free := hk
        rw [k] at this; cases this
      · have : X.env.scope.names.lookup x = some .free := hk
        rw [k] at this; cases this
def ipI (f : Int → Int → Int) : TIp := fun x y H Q => ∃ i j, x = .int i ∧ y = .int j ∧ Q (.int (f i j)) H
theorem ip_sub : PIp X .Sub (ipI fun i j => i - j) := by
  intro pins s σ H x y v u Q I r1 r2 h
  obtain ⟨i, j, e1, e2, q⟩ := h
  subst e1; subst e2
  obtain ⟨t, rfl⟩ := r1
  obtain ⟨t', rfl⟩ := r2
  exact isub_int ⟨.int _, H, I.tok _, ⟨_, rfl⟩, q⟩
end
section
variable {X : Cx} {pos : Pos}
def tWhile (c : TT) (tb : TS) : TS := fun D σ H => ∃ W : Nat → St → Hp → Prop, (∃ m, W m σ H) ∧ ∀ m σ H, W m σ H →
  c σ H fun b H1 => if b = true then ∃ N : St → Hp → Prop, (∀ σ' H', N σ' H' → ∃ m', m' < m ∧ W m' σ' H') ∧ tb { D with nx := N, ct := N, bk := D.nx } σ H1 else D.nx σ H1
theorem ps_while {c : Expr} {body : List Stmt} {tc : TT} {tb : TS} (hp : PassesOwn (model X.prog X.w) X.A X.env X.xe) (hc : PT X c tc) (hb : PSs X body tb) : PS X (.While c body [] pos) (tWhile tc tb) := by
  intro pins s σ H D I h
  obtain ⟨W, ⟨m0, w0⟩, turn⟩ := h
  refine wpAny_While (codeAny_whileLoop (fun n s' => ∃ σ' H', Inv X pins σ' H' s' ∧ W n σ' H') ?_ m0 ⟨σ, H, I, w0⟩)
  rintro n s1 ⟨σ1, H1, I1, w1⟩
  refine wpAny_passesOwn hp (thn (hc pins s1 σ1 H1 _ I1 (turn n σ1 H1 w1)) fun b s2 ⟨H2, I2, q2⟩ => ?_)
  cases b with
  | true =>
    obtain ⟨N, hN, q2⟩ := q2
    rw [if_pos rfl]
    refine wpAny_passesOwn hp (thn (hb pins s2 σ1 H2 _ I2 q2) fun f s3 q3 => ?_)
    cases f with
    | next =>
      obtain ⟨σ3, H3, I3, n3⟩ := q3
      obtain ⟨m', hm, w3⟩ := hN σ3 H3 n3
      exact ⟨m', hm, σ3, H3, I3, w3⟩
    | cont =>
      obtain ⟨σ3, H3, I3, n3⟩ := q3
      obtain ⟨m', hm, w3⟩ := hN σ3 H3 n3
      exact ⟨m', hm, σ3, H3, I3, w3⟩
    | brk => exact q3
    | ret v => exact q3
  | false =>
    rw [if_neg Bool.false_ne_true]
    exact wpAny_execs_nil ⟨σ1, H2, I2, q2⟩
end
structure It where
  go : Nat → Hp → Prop
  yld : Nat → Hp → V → Hp → Prop
  stop : Nat → Hp → Prop
def FpOk (X : Cx) (pins : List (Addr × Obj)) (H : Hp) (b : Addr) : Prop :=
  H b = none ∧ b ≠ X.env.locals ∧ b ∉ X.fs ∧ (b ∈ X.ex ∨ X.s₀.heap.objs.size ≤ b) ∧ (∀ x c, X.env.cells.lookup x = some c → c ≠ b) ∧ ∀ p ∈ X.pn ++ pins, p.1 ≠ b
theorem Inv.fpOk {X : Cx} {pins : List (Addr × Obj)} {σ : St} {H H' : Hp} {s : Shared} {b : Addr} (I : Inv X pins σ H s) (hb : s.heap.objs.size ≤ b) (hn : H' b = none) : FpOk X pins H' b := by
  refine ⟨hn, Nat.ne_of_gt (Nat.lt_of_lt_of_le I.lt hb), I.nofs hb, .inr (Nat.le_trans I.sz hb), fun x c e z => ?_, fun p hp z => ?_⟩
  · obtain ⟨v, q⟩ := I.cell x c e
    exact absurd (Nat.lt_of_lt_of_le q.lt (by rw [z]; exact hb)) (Nat.lt_irrefl _)
  · exact absurd (Nat.lt_of_lt_of_le (Heap.lt_size (I.pin p hp).1) (by rw [z]; exact hb)) (Nat.lt_irrefl _)
structure Turn (P : Program) (w : World) (K : PySem.W.Frag) (tg : Expr) (J : It) (fp : List Addr) (it : Addr) (tn : Nat → Heap → Prop) : Prop where
  mem : it ∈ fp
  obj : ∀ i h, tn i h → ∀ b ∈ fp, ∃ o, h.get? b = some o ∧ ∀ v, o.data ≠ .cell v
  keep : ∀ i h h', tn i h → (∀ b ∈ fp, ∀ o, h.get? b = some o → h'.get? b = some o) → tn i h'
  item : ∀ (X : Cx), X.prog = P → X.w = w → X.K = K → X.calm = true → ∀ (i : Nat) (pins : List (Addr × Obj)) (s : Shared) (σ : St) (H : Hp) (E : Value → Shared → Prop), Inv X pins σ H s → (∀ b ∈ fp, FpOk X pins H b) → tn i s.heap → J.go i H →
    wpAny (model P w) X.A (pyNext (.ref it)) (fun r s1 => ∃ u, r = some u ∧
      wpAny (model P w) X.A (letOwnedTupleGo tg (.ref it) u) (fun _ s2 => ∃ x H', Inv X pins σ H' s2 ∧ RelV x u ∧ J.yld i H x H' ∧ tn (i + 1) s2.heap ∧ ∀ b ∈ fp, H' b = none) E s1) E s
  done : ∀ (X : Cx), X.prog = P → X.w = w → X.K = K → X.calm = true → ∀ (i : Nat) (pins : List (Addr × Obj)) (s : Shared) (σ : St) (H : Hp) (E : Value → Shared → Prop), Inv X pins σ H s → (∀ b ∈ fp, FpOk X pins H b) → tn i s.heap → J.stop i H →
    wpAny (model P w) X.A (pyNext (.ref it)) (fun r s1 => r = none ∧ Inv X pins σ H s1) E s
  self : ∀ (A : Around) (i : Nat) (s : Shared) (Q : Value → Shared → Prop) (E : Value → Shared → Prop), tn i s.heap → Q (.ref it) s → wpAny (model P w) A (pyIter (.ref it)) Q E s
abbrev TI := St → Hp → (It → Hp → Prop) → Prop
def PIE (X : Cx) (pins : List (Addr × Obj)) (σ : St) (tg : Expr) (R : It → Hp → Prop) (itv : Value) (s2 : Shared) : Prop :=
  ∃ (it : Addr) (fp : List Addr) (tn : Nat → Heap → Prop) (J : It) (H' : Hp), itv = .ref it ∧ Inv X pins σ H' s2 ∧ Turn X.prog X.w X.K tg J fp it tn ∧ tn 0 s2.heap ∧ (∀ b ∈ fp, FpOk X pins H' b) ∧ R J H'
def PI (X : Cx) (tg iter : Expr) (wi : TI) : Prop :=
  ∀ (pins : List (Addr × Obj)) (s : Shared) (σ : St) (H : Hp) (R : It → Hp → Prop), Inv X pins σ H s → wi σ H R →
    wpAny (model X.prog X.w) X.A (eval iter X.env) (fun v s1 => wpAny (model X.prog X.w) X.A (pyIter v) (PIE X pins σ tg R) X.xe s1) X.xe s
theorem go_of {M : Model} {A : Around} {E : Value → Shared → Prop} {s : Shared} {tg : Expr} {it : Addr} {u : Value} {o : Obj} {n : String} {vs : Array Value} {Q : Unit → Shared → Prop} (ho : s.heap.get? it = some o) (hc : o.cls = .type n) (hd : o.data = .fields vs)
    (hn : ["enumerate", "zip", "dict_itemiterator", "dict_reverseitemiterator", "odict_iterator", "itertools.zip_longest", "itertools.pairwise"].contains n = false) (hQ : Q () s) : wpAny M A (letOwnedTupleGo tg (.ref it) u) Q E s := by
  unfold letOwnedTupleGo
  cases tg <;> first
    | exact wpAny_pure hQ
    | (cases u <;> first
        | exact wpAny_pure hQ
        | (refine wpAny_bind (wpAny_load ho ?_)
           rw [hc, hd]
           show wpAny M A (if (["enumerate", "zip", "dict_itemiterator", "dict_reverseitemiterator", "odict_iterator", "itertools.zip_longest", "itertools.pairwise"].contains n && vs[0]? == some (rawInt _)) = true then _ else _) Q E s
           rw [if_neg (by intro h; rw [hn, Bool.false_and] at h; cases h)]
           exact wpAny_pure hQ))
def Itl (K : PySem.W.Frag) (a : Addr) : It :=
  ⟨fun i H => ∃ xs x, SqL K H a xs ∧ xs[i]? = some x, fun i H x H' => H' = H ∧ ∀ xs, SqL K H a xs → xs[i]? = some x, fun i H => ∃ xs, SqL K H a xs ∧ xs.length ≤ i⟩
theorem turn_list {P : Program} {w : World} {K : PySem.W.Frag} {tg : Expr} (a it : Addr) : Turn P w K tg (Itl K a) [it] it (fun i h => h.IsListIter it a i) where
  mem := by simp
  obj := fun i h st b hb => by
    have e : b = it := by simpa using hb
    subst e
    obtain ⟨o, e, c, d⟩ := st
    exact ⟨o, e, fun v z => by rw [d] at z; cases z⟩
  keep := fun i h h' st k => st.at fun o e => k it (by simp) o e
  item := by
    intro X hP hw hK hc i pins s σ H E I hf st hg
    subst hP hw hK
    obtain ⟨xs, x, hq, hx⟩ := hg
    obtain ⟨its, rv, p, hz⟩ := I.list hq
    obtain ⟨u, hu, ru⟩ := rv.get hx
    obtain ⟨f0, f1, f2, f3, f4, f5⟩ := hf it (by simp)
    refine wpAny_pyNext_list_item st p.isList (x := u) (by simpa using hu) fun h' st' sb => ?_
    have I1 : Inv X pins σ H { s with heap := h' } := I.turned (t' := s.toks) (fun b o hb e => (sb.2 b hb).trans e) f0 f1 f3 f4 f5
    obtain ⟨o, e, c, d⟩ := id st'
    exact ⟨u, rfl, go_of (s := { s with heap := h' }) e c d (by decide) ⟨x, H, I1, ru, ⟨rfl, fun ys hy => by rw [I.list_inj hy hq]; exact hx⟩, st', fun b hb => (hf b hb).1⟩⟩
  done := by
    intro X hP hw hK hc i pins s σ H E I hf st hg
    subst hP hw hK
    obtain ⟨xs, hq, hx⟩ := hg
    obtain ⟨its, rv, p, hz⟩ := I.list hq
    obtain ⟨f0, f1, f2, f3, f4, f5⟩ := hf it (by simp)
    have hl := rv.length
    exact wpAny_pyNext_list_end (I.ok.hd hc) st p.isList (by simp; omega) fun h' eb => ⟨rfl, I.turned (t' := s.toks) (fun b o hb e => eb b o hb e) f0 f1 f3 f4 f5⟩
  self := fun _ _ _ _ _ st h => wpAny_pyIter_listiter st h
end L2
namespace L2
open PySem PySem.Spec PyProof.Rows
section
variable {X : Cx} {tg : Expr}
def iList (K : PySem.W.Frag) (tl : TE) : TI := fun σ H R => tl σ H fun x H1 => ∃ a, x = .ref a ∧ (∃ xs, SqL K H1 a xs) ∧ R (Itl K a) H1
theorem pi_list {l : Expr} {tl : TE} (hl : PE X l tl) : PI X tg l (iList X.K tl) := by
  intro pins s σ H R I h
  refine thn (hl pins s σ H _ I h) fun v s1 ⟨x, H1, I1, r1, q1⟩ => ?_
  obtain ⟨a, e, ⟨xs, hq⟩, q⟩ := q1
  subst e
  cases r1
  obtain ⟨its, rv, p, hz⟩ := I1.list hq
  refine wpAny_pyIter_list p.isList ?_
  refine ⟨s1.heap.objs.size, [s1.heap.objs.size], _, _, H1, rfl, I1.kept (t' := s1.toks) fun b o e => Heap.get?_push_of_some _ e, turn_list a _, ⟨_, Heap.get?_push_size _ rfl, rfl, rfl⟩, fun b hb => ?_, q⟩
  have e : b = s1.heap.objs.size := by simpa using hb
  subst e
  exact I1.fpOk (Nat.le_refl _) (I1.hok.fresh (Nat.le_refl _))
def tFor (wi : TI) (g : TG) (tb : TS) : TS := fun D σ H => wi σ H fun J H1 => ∃ W : Nat → Nat → St → Hp → Prop, (∃ m, W 0 m σ H1) ∧ ∀ i m σ H, W i m σ H →
  (J.stop i H ∧ D.nx σ H) ∨ (J.go i H ∧ ∃ N : St → Hp → Prop, (∀ σ' H', N σ' H' → ∃ m', m' < m ∧ W (i + 1) m' σ' H') ∧ ∀ x H', J.yld i H x H' → g x σ H' fun σ2 H2 => tb { D with nx := N, ct := N, bk := D.nx } σ2 H2)
def pinsAt (fp : List Addr) (h : Heap) : List (Addr × Obj) := fp.filterMap fun b => (h.get? b).map fun o => (b, o)
theorem mem_pinsAt {fp : List Addr} {h : Heap} {b : Addr} {o : Obj} (hb : b ∈ fp) (e : h.get? b = some o) : (b, o) ∈ pinsAt fp h := List.mem_filterMap.mpr ⟨b, hb, by rw [e]; rfl⟩
theorem of_pinsAt {fp : List Addr} {h : Heap} {p : Addr × Obj} (hp : p ∈ pinsAt fp h) : p.1 ∈ fp ∧ h.get? p.1 = some p.2 := by
  obtain ⟨b, hb, e⟩ := List.mem_filterMap.mp hp
  cases q : h.get? b with
  | none => rw [q] at e; cases e
  | some o =>
    rw [q] at e
    have e' : (b, o) = p := Option.some.inj e
    subst e'
    exact ⟨hb, q⟩
theorem Inv.pinned {pins : List (Addr × Obj)} {σ : St} {H : Hp} {s : Shared} {fp : List Addr} (I : Inv X pins σ H s) (hf : ∀ b ∈ fp, FpOk X pins H b) (ho : ∀ b ∈ fp, ∃ o, s.heap.get? b = some o ∧ ∀ v, o.data ≠ .cell v) : Inv X (pins ++ pinsAt fp s.heap) σ H s :=
  I.pins_of fun p hp => (List.mem_append.mp hp).elim (fun z => I.pin p (List.mem_append_right _ z)) fun z => by
    obtain ⟨hb, e⟩ := of_pinsAt z
    obtain ⟨f0, f1, f2, _⟩ := hf p.1 hb
    obtain ⟨o, e', d⟩ := ho p.1 hb
    rw [e] at e'; cases e'
    exact ⟨e, f0, f1, f2, d⟩
theorem Inv.unpinned {pins pl : List (Addr × Obj)} {σ : St} {H : Hp} {s : Shared} (I : Inv X (pins ++ pl) σ H s) : Inv X pins σ H s := I.pins_of fun p hp => I.pin p (List.mem_append_right _ (List.mem_append_left _ hp))
theorem ps_for {iter : Expr} {body : List Stmt} {wi : TI} {g : TG} {tb : TS} {pos : Pos} (hp : PassesOwn (model X.prog X.w) X.A X.env X.xe) (hc : X.calm = true) (hi : PI X tg iter wi) (hg : PG X tg g) (hb : PSs X body tb)
    (hs : ∀ x, foldedSetIterable iter X.env x = pure x := by intro _; rfl) : PS X (.For tg iter body [] pos) (tFor wi g tb) := by
  intro pins s σ H D I h
  refine wpAny_For (thn (hi pins s σ H _ I h) fun v s1 h1 => thn h1 fun itv s2 h2 => ?_) hs
  obtain ⟨it, fp, tn, J, H2, e, I2, T, st2, f2, W, ⟨m0, w0⟩, turn⟩ := h2
  subst e
  have stat : ∀ {H' : Hp}, (∀ b ∈ fp, H' b = none) → ∀ b ∈ fp, FpOk X pins H' b := fun hn b hb => ⟨hn b hb, (f2 b hb).2⟩
  refine codeAny_forLoop_any (fun n s' => ∃ i σ' H', Inv X pins σ' H' s' ∧ tn i s'.heap ∧ (∀ b ∈ fp, H' b = none) ∧ W i n σ' H') ?_ m0 ⟨0, σ, H2, I2, st2, fun b hb => (f2 b hb).1, w0⟩
  rintro n s3 ⟨i, σ3, H3, I3, st3, fr3, w3⟩
  rcases turn i n σ3 H3 w3 with ⟨stop, qn⟩ | ⟨go, N, hN, step⟩
  · refine wpAny_passesOwn hp (thn (T.done X rfl rfl rfl hc i pins s3 σ3 H3 X.xe I3 (stat fr3) st3 stop) fun r s4 ⟨hr, I4⟩ => ?_)
    subst hr
    exact wpAny_execs_nil ⟨σ3, H3, I4, qn⟩
  · refine wpAny_passesOwn hp (thn (T.item X rfl rfl rfl hc i pins s3 σ3 H3 X.xe I3 (stat fr3) st3 go) fun r s4 ⟨u, hr, h4⟩ => ?_)
    subst hr
    refine wpAny_passesOwn hp (thn h4 fun _ s5 ⟨x, H5, I5, r5, y5, st5, fr5⟩ => ?_)
    have I5' := I5.pinned (stat fr5) (T.obj _ _ st5)
    refine wpAny_passesOwn hp (thn (hg _ s5 σ3 H5 x u _ I5' r5 (step x H5 y5)) fun _ s6 ⟨σ6, H6, I6, q6⟩ => ?_)
    refine wpAny_passesOwn hp (thn (hb _ s6 σ6 H6 _ I6 q6) fun f s7 q7 => ?_)
    have again : ∀ {σ7 : St} {H7 : Hp}, Inv X (pins ++ pinsAt fp s5.heap) σ7 H7 s7 → N σ7 H7 → ∃ m, m < n ∧ ∃ i σ' H', Inv X pins σ' H' s7 ∧ tn i s7.heap ∧ (∀ b ∈ fp, H' b = none) ∧ W i m σ' H' := fun {σ7 H7} I7 n7 => by
      obtain ⟨m', hm, w7⟩ := hN σ7 H7 n7
      refine ⟨m', hm, i + 1, σ7, H7, I7.unpinned, T.keep _ _ _ st5 fun b hb o e => (I7.pin (b, o) (List.mem_append_right _ (List.mem_append_right _ (mem_pinsAt hb e)))).1, fun b hb => ?_, w7⟩
      obtain ⟨o, e, d⟩ := T.obj _ _ st5 b hb
      exact (I7.pin (b, o) (List.mem_append_right _ (List.mem_append_right _ (mem_pinsAt hb e)))).2.1
    cases f with
    | next => obtain ⟨σ7, H7, I7, n7⟩ := q7; exact again I7 n7
    | cont => obtain ⟨σ7, H7, I7, n7⟩ := q7; exact again I7 n7
    | brk => obtain ⟨σ7, H7, I7, q7⟩ := q7; exact ⟨σ7, H7, I7.unpinned, q7⟩
    | ret v => obtain ⟨x7, σ7, H7, I7, r7, q7⟩ := q7; exact ⟨x7, σ7, H7, I7.unpinned, r7, q7⟩
end
theorem for_list {K : PySem.W.Frag} {a : Addr} {xs : List V} {g : TG} {tb : TS} {D : Ends} {σ : St} {H : Hp} (Pv : Nat → St → Hp → Prop) (h0 : Pv 0 σ H) (hl : ∀ i σ H, i ≤ xs.length → Pv i σ H → SqL K H a xs)
    (hs : ∀ i x σ H, xs[i]? = some x → Pv i σ H → g x σ H fun σ2 H2 => tb { D with nx := Pv (i + 1), ct := Pv (i + 1), bk := D.nx } σ2 H2) (hd : ∀ σ H, Pv xs.length σ H → D.nx σ H) :
    ∃ W : Nat → Nat → St → Hp → Prop, (∃ m, W 0 m σ H) ∧ ∀ i m σ H, W i m σ H →
      ((Itl K a).stop i H ∧ D.nx σ H) ∨ ((Itl K a).go i H ∧ ∃ N : St → Hp → Prop, (∀ σ' H', N σ' H' → ∃ m', m' < m ∧ W (i + 1) m' σ' H') ∧ ∀ x H', (Itl K a).yld i H x H' → g x σ H' fun σ2 H2 => tb { D with nx := N, ct := N, bk := D.nx } σ2 H2) := by
  refine ⟨fun i m σ H => m = xs.length - i ∧ i ≤ xs.length ∧ Pv i σ H, ⟨xs.length, by simp, Nat.zero_le _, h0⟩, ?_⟩
  rintro i m σ H ⟨rfl, hi, p⟩
  have q := hl i σ H hi p
  by_cases hlt : i < xs.length
  · refine .inr ⟨⟨xs, xs[i], q, by simp [hlt]⟩, Pv (i + 1), fun σ' H' p' => ⟨xs.length - (i + 1), by omega, rfl, hlt, p'⟩, fun x H' y => ?_⟩
    obtain ⟨e, y⟩ := y
    subst e
    exact hs i x σ _ (y xs q) p
  · have e : i = xs.length := by omega
    subst e
    exact .inl ⟨⟨xs, q, Nat.le_refl _⟩, hd σ H p⟩
end L2
namespace L2
open PySem PySem.Spec PyProof.Rows
abbrev R2 := V → V → Hp → VK → Prop
def OpR (X : Cx) (f : Value → Value → Sem Value) (r : R2) : Prop :=
  ∀ (pins : List (Addr × Obj)) (s : Shared) (σ : St) (H : Hp) (x y : V) (v u : Value) (Q : VK), Inv X pins σ H s → RelV x v → RelV y u → r x y H Q →
    wpAny (model X.prog X.w) X.A (f v u) (EP X pins σ Q) X.xe s
def UnR (X : Cx) (f : Value → Sem Value) (r : V → Hp → VK → Prop) : Prop :=
  ∀ (pins : List (Addr × Obj)) (s : Shared) (σ : St) (H : Hp) (x : V) (v : Value) (Q : VK), Inv X pins σ H s → RelV x v → r x H Q →
    wpAny (model X.prog X.w) X.A (f v) (EP X pins σ Q) X.xe s
def CallR (X : Cx) (f : Value) (r : List V → Hp → VK → Prop) : Prop :=
  ∀ (pins : List (Addr × Obj)) (s : Shared) (σ : St) (H : Hp) (xs : List V) (us : List Value) (Q : VK), Inv X pins σ H s → Vals xs us → r xs H Q →
    wpAny (model X.prog X.w) X.A (call f us) (EP X pins σ Q) X.xe s
def TruR (X : Cx) (r : V → Hp → (Bool → Hp → Prop) → Prop) : Prop :=
  ∀ (pins : List (Addr × Obj)) (s : Shared) (σ : St) (H : Hp) (x : V) (v : Value) (Q : Bool → Hp → Prop), Inv X pins σ H s → RelV x v → r x H Q →
    wpAny (model X.prog X.w) X.A (truthy v) (TP X pins σ Q) X.xe s
def tOp (r : R2) (ta tb : TE) : TE := fun σ H Q => ta σ H fun x H1 => tb σ H1 fun y H2 => r x y H2 Q
def tUn (r : V → Hp → VK → Prop) (ta : TE) : TE := fun σ H Q => ta σ H fun x H1 => r x H1 Q
def rI (C : Int → Int → Prop) (g : Int → Int → V) : R2 := fun x y H Q => ∃ i j, x = .int i ∧ y = .int j ∧ C i j ∧ Q (g i j) H
def rI0 (g : Int → Int → V) : R2 := fun x y H Q => ∃ i j, x = .int i ∧ y = .int j ∧ Q (g i j) H
def rU (g : Int → V) : V → Hp → VK → Prop := fun x H Q => ∃ i, x = .int i ∧ Q (g i) H
section
variable {X : Cx} {a b c : Expr} {ta tb tc : TE} {pos : Pos}
theorem binT (ha : PE X a ta) (hb : PE X b tb) {pins : List (Addr × Obj)} {s : Shared} {σ : St} {H : Hp} {R : V → V → Hp → Prop} (I : Inv X pins σ H s)
    (h : ta σ H fun x H1 => tb σ H1 fun y H2 => R x y H2) {Q : Value → Shared → Prop} {f : Value → Value → Sem Value}
    (hf : ∀ v u s2 x y H2, Inv X pins σ H2 s2 → RelV x v → RelV y u → R x y H2 → wpAny (model X.prog X.w) X.A (f v u) Q X.xe s2) :
    wpAny (model X.prog X.w) X.A (eval a X.env) (fun v s₁ => wpAny (model X.prog X.w) X.A (eval b X.env) (fun u s₂ => wpAny (model X.prog X.w) X.A (f v u) Q X.xe s₂) X.xe s₁) X.xe s := by
  refine thn (ha pins s σ H _ I h) fun v s1 ⟨x, H1, I1, r1, q1⟩ => ?_
  refine thn (hb pins s1 σ H1 _ I1 q1) fun u s2 ⟨y, H2, I2, r2, q2⟩ => ?_
  exact hf v u s2 x y H2 I2 r1 r2 q2
theorem pe_op {op : Operator} {r : R2} (ho : OpR X (binaryOp op) r) (ha : PE X a ta) (hb : PE X b tb) : PE X (.BinOp a op b pos) (tOp r ta tb) := by
  intro pins s σ H Q I h
  exact wpAny_BinOp (binT ha hb I h fun v u s2 x y H2 I2 rx ry q => ho pins s2 σ H2 x y v u Q I2 rx ry q)
theorem pe_un {op : UnaryOp} {r : V → Hp → VK → Prop} (ho : UnR X (unaryOp op) r) (ha : PE X a ta) : PE X (.UnaryOp op a pos) (tUn r ta) := by
  intro pins s σ H Q I h
  exact UnaryOp_ (thn (ha pins s σ H _ I h) fun v s1 ⟨x, H1, I1, r1, q1⟩ => ho pins s1 σ H1 x v Q I1 r1 q1)
theorem opI {f : Value → Value → Sem Value} {C : Int → Int → Prop} {g : Int → Int → Int}
    (rule : ∀ (i j : Int) (t u : Tok) (s : Shared) (Q : Value → Shared → Prop) (E : Value → Shared → Prop), C i j → Q (.int (g i j) s.toks) { s with toks := s.toks + 1 } → wpAny (model X.prog X.w) X.A (f (.int i t) (.int j u)) Q E s) :
    OpR X f (rI C fun i j => .int (g i j)) := by
  intro pins s σ H x y v u Q I rx ry h
  obtain ⟨i, j, rfl, rfl, hc, q⟩ := h
  obtain ⟨t, rfl⟩ := rx
  obtain ⟨t', rfl⟩ := ry
  exact rule i j t t' s _ _ hc ⟨.int (g i j), H, I.tok _, ⟨_, rfl⟩, q⟩
theorem opI0 {f : Value → Value → Sem Value} {g : Int → Int → Int}
    (rule : ∀ (i j : Int) (t u : Tok) (s : Shared) (Q : Value → Shared → Prop) (E : Value → Shared → Prop), Q (.int (g i j) s.toks) { s with toks := s.toks + 1 } → wpAny (model X.prog X.w) X.A (f (.int i t) (.int j u)) Q E s) :
    OpR X f (rI0 fun i j => .int (g i j)) := by
  intro pins s σ H x y v u Q I rx ry h
  obtain ⟨i, j, rfl, rfl, q⟩ := h
  obtain ⟨t, rfl⟩ := rx
  obtain ⟨t', rfl⟩ := ry
  exact rule i j t t' s _ _ ⟨.int (g i j), H, I.tok _, ⟨_, rfl⟩, q⟩
theorem opB0 {f : Value → Value → Sem Value} {g : Int → Int → Bool}
    (rule : ∀ (i j : Int) (t u : Tok) (s : Shared) (Q : Value → Shared → Prop) (E : Value → Shared → Prop), Q (.bool (g i j)) s → wpAny (model X.prog X.w) X.A (f (.int i t) (.int j u)) Q E s) :
    OpR X f (rI0 fun i j => .bl (g i j)) := by
  intro pins s σ H x y v u Q I rx ry h
  obtain ⟨i, j, rfl, rfl, q⟩ := h
  obtain ⟨t, rfl⟩ := rx
  obtain ⟨t', rfl⟩ := ry
  exact rule i j t t' s _ _ ⟨.bl (g i j), H, I, rfl, q⟩
def CDiv (i j : Int) : Prop := 0 < j ∧ j < 1073741824
def CPow (i j : Int) : Prop := 0 ≤ j ∧ j ≤ 1000000 ∧ i.natAbs < 2 ^ 64
def CMul (i j : Int) : Prop := (-(2 ^ 64) < i ∧ i < 2 ^ 64) ∨ (-(2 ^ 64) < j ∧ j < 2 ^ 64)
theorem CMul.ok {i j : Int} (h : CMul i j) : IntMulOk i j := by
  rcases h with ⟨h1, h2⟩ | ⟨h1, h2⟩
  · exact .of_left (intBits_le_64 h1 h2)
  · exact .of_right (intBits_le_64 h1 h2)
theorem two_pow_nn (k : Nat) : (0 : Int) ≤ 2 ^ k := by
  rw [two_pow_cast]
  exact Int.natCast_nonneg _
theorem op_add : OpR X (binaryOp .Add) (rI0 fun i j => .int (i + j)) := opI0 fun _ _ _ _ _ _ _ q => add_int q
theorem op_sub : OpR X (binaryOp .Sub) (rI0 fun i j => .int (i - j)) := opI0 fun _ _ _ _ _ _ _ q => sub_int q
theorem op_mul : OpR X (binaryOp .Mult) (rI CMul fun i j => .int (i * j)) := opI fun _ _ _ _ _ _ _ hc q => mul_int q hc.ok
theorem op_fdiv : OpR X (binaryOp .FloorDiv) (rI CDiv fun i j => .int (i / j)) := opI fun i j _ _ _ _ _ hc q => by
  have h1 : (0 : Int) < j := hc.1
  have h2 : j < 1073741824 := hc.2
  exact floordiv_int (by omega) (by rw [Int.fdiv_eq_ediv_of_nonneg i (by omega)]; exact q) (.inl (PyProof.noPylong_small (by omega)))
theorem op_mod : OpR X (binaryOp .Mod) (rI (fun _ j => 0 < j) fun i j => .int (i % j)) := opI fun i j _ _ _ _ _ hc q => by
  have h1 : (0 : Int) < j := hc
  exact mod_int' (by omega) (by rw [Int.fmod_eq_emod_of_nonneg i (by omega)]; exact q)
theorem op_shl : OpR X (binaryOp .LShift) (rI CPow fun i j => .int (i * 2 ^ j.toNat)) := opI fun _ _ _ _ _ _ _ hc q => lshift_int_small hc.1 hc.2.1 hc.2.2 q
theorem unI {f : Value → Sem Value} {g : Int → Int}
    (rule : ∀ (i : Int) (t : Tok) (s : Shared) (Q : Value → Shared → Prop) (E : Value → Shared → Prop), Q (.int (g i) s.toks) { s with toks := s.toks + 1 } → wpAny (model X.prog X.w) X.A (f (.int i t)) Q E s) :
    UnR X f (rU fun i => .int (g i)) := by
  intro pins s σ H x v Q I rx h
  obtain ⟨i, rfl, q⟩ := h
  obtain ⟨t, rfl⟩ := rx
  exact rule i t s _ _ ⟨.int (g i), H, I.tok _, ⟨_, rfl⟩, q⟩
theorem un_neg : UnR X (unaryOp .USub) (rU fun i => .int (-i)) := unI fun _ _ _ _ _ q => neg_int q
end
def scal : V → V → Bool
  | .non, .non => true | .non, .int _ => true | .int _, .non => true | .non, .bl _ => true | .bl _, .non => true | .non, .str _ => true | .str _, .non => true
  | .int _, .int _ => true | .bl _, .bl _ => true | .str _, .str _ => true | .byt _, .byt _ => true
  | .int _, .str _ => true | .str _, .int _ => true | .bl _, .str _ => true | .str _, .bl _ => true
  | _, _ => false
def rEq : R2 := fun x y H Q => scal x y = true ∧ Q (.bl (decide (x = y))) H
def rNe : R2 := fun x y H Q => scal x y = true ∧ Q (.bl (!decide (x = y))) H
theorem dec_int {i j : Int} : decide (V.int i = V.int j) = (i == j) := by
  rw [Bool.eq_iff_iff]
  simp
theorem dec_bl {i j : Bool} : decide (V.bl i = V.bl j) = (i == j) := by
  rw [Bool.eq_iff_iff]
  simp
theorem dec_str {i j : Str} : decide (V.str i = V.str j) = (i == j) := by
  rw [Bool.eq_iff_iff]
  simp
theorem dec_byt {i j : Array UInt8} : decide (V.byt i = V.byt j) = (i.toList == j.toList) := by
  rw [Bool.eq_iff_iff]
  cases i
  cases j
  simp
section
variable {X : Cx} {a b c : Expr} {ta tb tc : TE} {pos : Pos}
theorem fin_bl {pins : List (Addr × Obj)} {σ : St} {H : Hp} {s : Shared} {Q : VK} {k k' : Bool} (I : Inv X pins σ H s) (q : Q (.bl k) H) (e : k = k') : EP X pins σ Q (.bool k') s := by
  subst e
  exact ⟨.bl k, H, I, rfl, q⟩
theorem op_eq : OpR X (compareOp .Eq) rEq := by
  intro pins s σ H x y v u Q I rx ry h
  obtain ⟨hs, q⟩ := h
  cases x with
  | non =>
    cases rx
    cases y with
    | non => cases ry; exact PySem.EqNone.eq_none_none (fin_bl I q (by simp))
    | bl j => cases ry; exact PySem.EqNone.eq_none_bool (fin_bl I q (by simp))
    | int j => obtain ⟨t', rfl⟩ := ry; exact PySem.EqNone.eq_none_int (fin_bl I q (by simp))
    | str j => obtain ⟨t', rfl⟩ := ry; exact PySem.EqNone.eq_none_str (fin_bl I q (by simp))
    | _ => exact absurd (show false = true from hs) Bool.false_ne_true
  | bl i =>
    cases rx
    cases y with
    | non => cases ry; exact PySem.EqNone.eq_bool_none (fin_bl I q (by simp))
    | bl j => cases ry; exact eq_bool (fin_bl I q dec_bl)
    | str j => obtain ⟨t', rfl⟩ := ry; exact PySem.EqMixed.eq_bool_str (fin_bl I q (by simp))
    | _ => exact absurd (show false = true from hs) Bool.false_ne_true
  | int i =>
    obtain ⟨t, rfl⟩ := rx
    cases y with
    | non => cases ry; exact PySem.EqNone.eq_int_none (fin_bl I q (by simp))
    | int j => obtain ⟨t', rfl⟩ := ry; exact eq_int (fin_bl I q dec_int)
    | str j => obtain ⟨t', rfl⟩ := ry; exact PySem.EqMixed.eq_int_str (fin_bl I q (by simp))
    | _ => exact absurd (show false = true from hs) Bool.false_ne_true
  | str i =>
    obtain ⟨t, rfl⟩ := rx
    cases y with
    | non => cases ry; exact PySem.EqNone.eq_str_none (fin_bl I q (by simp))
    | bl j => cases ry; exact PySem.EqMixed.eq_str_bool (fin_bl I q (by simp))
    | int j => obtain ⟨t', rfl⟩ := ry; exact PySem.EqMixed.eq_str_int (fin_bl I q (by simp))
    | str j => obtain ⟨t', rfl⟩ := ry; exact eq_str (fin_bl I q dec_str)
    | _ => exact absurd (show false = true from hs) Bool.false_ne_true
  | byt i =>
    obtain ⟨t, rfl⟩ := rx
    cases y with
    | byt j => obtain ⟨t', rfl⟩ := ry; exact PySem.W.eq_bytes (fin_bl I q dec_byt)
    | _ => exact absurd (show false = true from hs) Bool.false_ne_true
  | _ => cases y <;> exact absurd (show false = true from hs) Bool.false_ne_true
theorem op_ne : OpR X (compareOp .NotEq) rNe := by
  intro pins s σ H x y v u Q I rx ry h
  obtain ⟨hs, q⟩ := h
  cases x with
  | non =>
    cases rx
    cases y with
    | non => cases ry; exact PySem.EqNone.ne_none_none (fin_bl I q (by simp))
    | bl j => cases ry; exact PySem.EqNone.ne_none_bool (fin_bl I q (by simp))
    | int j => obtain ⟨t', rfl⟩ := ry; exact PySem.EqNone.ne_none_int (fin_bl I q (by simp))
    | str j => obtain ⟨t', rfl⟩ := ry; exact PySem.EqNone.ne_none_str (fin_bl I q (by simp))
    | _ => exact absurd (show false = true from hs) Bool.false_ne_true
  | bl i =>
    cases rx
    cases y with
    | non => cases ry; exact PySem.EqNone.ne_bool_none (fin_bl I q (by simp))
    | bl j => cases ry; exact ne_bool (fin_bl I q (congrArg not dec_bl))
    | str j => obtain ⟨t', rfl⟩ := ry; exact PySem.EqMixed.ne_bool_str (fin_bl I q (by simp))
    | _ => exact absurd (show false = true from hs) Bool.false_ne_true
  | int i =>
    obtain ⟨t, rfl⟩ := rx
    cases y with
    | non => cases ry; exact PySem.EqNone.ne_int_none (fin_bl I q (by simp))
    | int j => obtain ⟨t', rfl⟩ := ry; exact ne_int (fin_bl I q (congrArg not dec_int))
    | str j => obtain ⟨t', rfl⟩ := ry; exact PySem.EqMixed.ne_int_str (fin_bl I q (by simp))
    | _ => exact absurd (show false = true from hs) Bool.false_ne_true
  | str i =>
    obtain ⟨t, rfl⟩ := rx
    cases y with
    | non => cases ry; exact PySem.EqNone.ne_str_none (fin_bl I q (by simp))
    | bl j => cases ry; exact PySem.EqMixed.ne_str_bool (fin_bl I q (by simp))
    | int j => obtain ⟨t', rfl⟩ := ry; exact PySem.EqMixed.ne_str_int (fin_bl I q (by simp))
    | str j => obtain ⟨t', rfl⟩ := ry; exact ne_str (fin_bl I q (congrArg not dec_str))
    | _ => exact absurd (show false = true from hs) Bool.false_ne_true
  | byt i =>
    obtain ⟨t, rfl⟩ := rx
    cases y with
    | byt j => obtain ⟨t', rfl⟩ := ry; exact PySem.W.ne_bytes (fin_bl I q (congrArg not dec_byt))
    | _ => exact absurd (show false = true from hs) Bool.false_ne_true
  | _ => cases y <;> exact absurd (show false = true from hs) Bool.false_ne_true
theorem op_lt : OpR X (compareOp .Lt) (rI0 fun i j => .bl (decide (i < j))) := opB0 fun _ _ _ _ _ _ _ q => lt_int q
theorem op_gt : OpR X (compareOp .Gt) (rI0 fun i j => .bl (decide (j < i))) := opB0 fun _ _ _ _ _ _ _ q => gt_int q
theorem OpR.or {f : Value → Value → Sem Value} {r r' : R2} (h : OpR X f r) (h' : OpR X f r') : OpR X f (fun x y H Q => r x y H Q ∨ r' x y H Q) := by
  intro pins s σ H x y v u Q I rx ry q
  rcases q with q | q
  · exact h pins s σ H x y v u Q I rx ry q
  · exact h' pins s σ H x y v u Q I rx ry q
theorem nomark (b : Expr) {op : CmpOp} (h : op ≠ .In := by decide) (h2 : op ≠ .NotIn := by decide) : behindInMarks op b = false := by
  have e1 : (op == CmpOp.In) = false := by cases op <;> first | rfl | exact absurd rfl h
  have e2 : (op == CmpOp.NotIn) = false := by cases op <;> first | rfl | exact absurd rfl h2
  cases b <;> simp [behindInMarks, e1, e2]
theorem pe_cmpR {op : CmpOp} {r : R2} (ho : OpR X (compareOp op) r) (ha : PE X a ta) (hb : PE X b tb) (hm : behindInMarks op b = false) : PE X (.Compare a [op] [b] pos) (tOp r ta tb) := by
  intro pins s σ H Q I h
  exact wpAny_Compare1 (binT ha hb I h fun v u s2 x y H2 I2 rx ry q => ho pins s2 σ H2 x y v u Q I2 rx ry q) hm
def tTest (t : TE) : TT := fun σ H Q => t σ H fun x H' => ∃ k, x = .bl k ∧ Q k H'
theorem pt_cmpR {op : CmpOp} {r : R2} (ho : OpR X (compareOp op) r) (ha : PE X a ta) (hb : PE X b tb) (hm : behindInMarks op b = false) : PT X (.Compare a [op] [b] pos) (tTest (tOp r ta tb)) := by
  intro pins s σ H Q I h
  refine wpAny_isTrue_Compare1 (thn (ha pins s σ H _ I h) fun v s1 ⟨x, H1, I1, r1, q1⟩ => thn (hb pins s1 σ H1 _ I1 q1) fun u s2 ⟨y, H2, I2, r2, q2⟩ =>
    thn (ho pins s2 σ H2 x y v u _ I2 r1 r2 q2) fun c s3 ⟨z, H3, I3, r3, k, e, q3⟩ => ?_) hm
  subst e
  cases r3
  exact wpAny_truthy_bool ⟨H3, I3, q3⟩
def TruV (K : PySem.W.Frag) (x : V) (H : Hp) (k : Bool) : Prop :=
  match x with
  | .non => k = false
  | .bl b => k = b
  | .int i => k = (i != 0)
  | .str y => y.length ≤ sizeLine ∧ k = ((y.length : Int) != 0)
  | .byt y => y.size ≤ sizeLine ∧ k = ((y.size : Int) != 0)
  | .ref p => (∃ xs, SqL K H p xs ∧ k = !xs.isEmpty) ∨ (∃ xs, SqT K H p xs ∧ k = !xs.isEmpty) ∨ ∃ kvs, H p = some (.dK kvs) ∧ k = !kvs.isEmpty
  | _ => False
theorem isEmpty_kv {κ : Type} {kvs : List (κ × V)} {vs : List (κ × Value)} (r : KV kvs vs) : (!vs.isEmpty) = !kvs.isEmpty := by
  cases r <;> rfl
theorem isEmpty_of {xs : List V} {its : List Value} (r : Vals xs its) : (!its.toArray.isEmpty) = !xs.isEmpty := by
  cases r <;> simp
theorem line63 : (sizeLine : Nat) < 2 ^ 63 := by rw [sizeLine_eq]; decide
theorem tru_ok : TruR X (fun x H Q => ∃ k, TruV X.K x H k ∧ Q k H) := by
  intro pins s σ H x v Q I rx h
  obtain ⟨k, e, q⟩ := h
  have hl := line63
  have hs : sizeLine = 16777216 := sizeLine_eq
  cases x with
  | non =>
    cases rx
    have e' : k = false := e
    subst e'
    exact truthy_none ⟨H, I, q⟩
  | bl b =>
    cases rx
    have e' : k = b := e
    subst e'
    exact wpAny_truthy_bool ⟨H, I, q⟩
  | int i =>
    obtain ⟨t, rfl⟩ := rx
    have e' : k = (i != 0) := e
    subst e'
    exact PySem.P.truthy_int ⟨H, I, q⟩
  | str y =>
    obtain ⟨t, rfl⟩ := rx
    obtain ⟨hy, e'⟩ : y.length ≤ sizeLine ∧ k = ((y.length : Int) != 0) := e
    subst e'
    exact PySem.P.truthy_str (by omega) ⟨H, I.tok _, q⟩
  | byt y =>
    obtain ⟨t, rfl⟩ := rx
    obtain ⟨hy, e'⟩ : y.size ≤ sizeLine ∧ k = ((y.size : Int) != 0) := e
    subst e'
    exact PySem.W.truthy_bytes (by omega) ⟨H, I.tok _, q⟩
  | ref p =>
    cases rx
    have e' : (∃ xs, SqL X.K H p xs ∧ k = !xs.isEmpty) ∨ (∃ xs, SqT X.K H p xs ∧ k = !xs.isEmpty) ∨ ∃ kvs, H p = some (.dK kvs) ∧ k = !kvs.isEmpty := e
    rcases e' with ⟨xs, hx, e'⟩ | ⟨xs, hx, e'⟩ | ⟨kvs, hx, e'⟩
    · subst e'
      obtain ⟨its, r, pl, hz⟩ := I.list hx
      have hlen := r.length
      exact wpAny_truthy_list pl.isList (by simp only [List.size_toArray]; omega) ⟨H, I.tok _, by rw [isEmpty_of r]; exact q⟩
    · subst e'
      obtain ⟨its, r, pl, hz⟩ := I.tuple hx
      have hlen := r.length
      exact truthy_tuple pl (by simp only [List.size_toArray]; omega) ⟨H, I.tok _, by rw [isEmpty_of r]; exact q⟩
    · subst e'
      obtain ⟨hz, hS, vs, r, m⟩ : kvs.length ≤ sizeLine ∧ (p == sysModules) = false ∧ ∃ vs, KV kvs vs ∧ s.heap.DictOf (mixKind X.prog X.w) p vs := I.hok p _ hx
      have hlen : kvs.length = vs.length := Paired.length r
      exact wpAny_truthy_dict hS m (by omega) ⟨H, I.tok _, by rw [isEmpty_kv r]; exact q⟩
  | _ => exact (show False from e).elim
theorem pt_truth (ha : PE X a ta) (he : ∀ whole, isTrue a X.env whole = (do let v ← whole; standAt a.pos; holding [v] (truthy v))) :
    PT X a (fun σ H Q => ta σ H fun x H' => ∃ k, TruV X.K x H' k ∧ Q k H') := by
  intro pins s σ H Q I h
  exact isTrue_plain (thn (ha pins s σ H _ I h) fun v s1 ⟨x, H1, I1, r1, q1⟩ => tru_ok pins s1 σ H1 x v Q I1 r1 q1) (he _)
theorem vals1 {x : V} {us : List Value} (r : Vals [x] us) : ∃ u, us = [u] ∧ RelV x u := by
  cases r with
  | cons r1 r2 => cases r2; exact ⟨_, rfl, r1⟩
theorem vals2 {x y : V} {us : List Value} (r : Vals [x, y] us) : ∃ u w', us = [u, w'] ∧ RelV x u ∧ RelV y w' := by
  cases r with
  | cons r1 r2 =>
    cases r2 with
    | cons r3 r4 => cases r4; exact ⟨_, _, rfl, r1, r3⟩
theorem call_abs : CallR X (.builtin "abs") (fun xs H Q => ∃ i, xs = [.int i] ∧ Q (.int (if i < 0 then -i else i)) H) := by
  intro pins s σ H xs us Q I r h
  obtain ⟨i, rfl, q⟩ := h
  obtain ⟨u, rfl, t, rfl⟩ := vals1 r
  exact call_abs_int fun u tk => ⟨.int (if i < 0 then -i else i), H, I.tok _, ⟨_, rfl⟩, q⟩
theorem call_max2 (hc : X.calm = true) : CallR X (.builtin "max") (fun xs H Q => ∃ i j, xs = [.int i, .int j] ∧ Q (.int (if j > i then j else i)) H) := by
  intro pins s σ H xs us Q I r h
  obtain ⟨i, j, rfl, q⟩ := h
  obtain ⟨u, w', rfl, ⟨t, rfl⟩, ⟨t', rfl⟩⟩ := vals2 r
  refine max_two_ints (I.ok.hd hc) fun h' tk k => ⟨_, H, I.kept k, ?_, q⟩
  by_cases hj : j > i
  · rw [if_pos hj, if_pos hj]; exact ⟨_, rfl⟩
  · rw [if_neg hj, if_neg hj]; exact ⟨_, rfl⟩
theorem call_min2 (hc : X.calm = true) : CallR X (.builtin "min") (fun xs H Q => ∃ i j, xs = [.int i, .int j] ∧ Q (.int (if j < i then j else i)) H) := by
  intro pins s σ H xs us Q I r h
  obtain ⟨i, j, rfl, q⟩ := h
  obtain ⟨u, w', rfl, ⟨t, rfl⟩, ⟨t', rfl⟩⟩ := vals2 r
  refine min_two_ints (I.ok.hd hc) fun h' tk k => ⟨_, H, I.kept k, ?_, q⟩
  by_cases hj : j < i
  · rw [if_pos hj, if_pos hj]; exact ⟨_, rfl⟩
  · rw [if_neg hj, if_neg hj]; exact ⟨_, rfl⟩
theorem call_int1 : CallR X (.type "int") (fun xs H Q => (∃ i, xs = [.int i] ∧ Q (.int i) H) ∨ ∃ k, xs = [.bl k] ∧ Q (.int (if k then 1 else 0)) H) := by
  intro pins s σ H xs us Q I r h
  rcases h with ⟨i, rfl, q⟩ | ⟨k, rfl, q⟩
  · obtain ⟨u, rfl, t, rfl⟩ := vals1 r
    exact call_int_int ⟨.int i, H, I, ⟨_, rfl⟩, q⟩
  · obtain ⟨u, rfl, r1⟩ := vals1 r
    cases r1
    exact call_int_bool ⟨.int (if k then 1 else 0), H, I.tok _, ⟨_, rfl⟩, q⟩
theorem call_str_int : CallR X (.type "str") (fun xs H Q => ∃ i, xs = [.int i] ∧ i.natAbs.log2 < 1920 ∧ Q (.str (toString i)) H) := by
  intro pins s σ H xs us Q I r h
  obtain ⟨i, rfl, hz, q⟩ := h
  obtain ⟨u, rfl, t, rfl⟩ := vals1 r
  exact PySem.P.str_of_int hz ⟨.str _, H, I.tok _, ⟨_, rfl⟩, q⟩
end
end L2
namespace L2
open PySem PySem.Spec PyProof.Rows
structure ObjM (h : Heap) (x dx C : Addr) (mA : Str → Option Value) : Prop where
  obj : h.get? x = some (PySem.W.instObj C dx)
  ns : h.Ns1 dx mA
  ne : dx ≠ x
theorem lookIn_ns {h : Heap} {dx : Addr} {mA : Str → Option Value} (n : h.Ns1 dx mA) : ∃ od, h.get? dx = some od ∧ ∀ name, PySem.W.lookIn name od = some (mA name) := by
  obtain ⟨o, es, ep, ho, hd, hk, _, hm⟩ := n
  refine ⟨o, ho, fun name => ?_⟩
  have e := hm name
  unfold nsFind findBy at e
  rw [← Array.find?_toList] at e
  unfold PySem.W.lookIn
  rw [hd]
  dsimp only
  split
  · rename_i y q
    rw [q] at e
    exact congrArg some e
  · rename_i q
    rw [q] at e
    have a : es.toList.any (·.refKey) = false := by
      rw [List.any_eq_false]
      intro y hy
      obtain ⟨z, t, hkey⟩ := hk y (Array.mem_toList_iff.mp hy)
      simp [DictEntry.refKey, hkey]
    have a' : ¬ es.toList.any (·.refKey) = true := by rw [a]; exact Bool.false_ne_true
    rw [if_neg a']
    exact congrArg some e
theorem ObjM.look {h : Heap} {x dx C : Addr} {mA : Str → Option Value} (I : ObjM h x dx C mA) : ∃ od, PySem.W.InstAt h x (PySem.W.instObj C dx) C (some od) ∧ ∀ name, PySem.W.lookIn name od = some (mA name) :=
  let ⟨od, ho, hl⟩ := lookIn_ns I.ns
  ⟨od, ⟨I.obj, rfl, rfl, ho⟩, hl⟩
section
variable {prog : Program} {w : World} {A : Around} {E : Value → Shared → Prop} {s : Shared} {K : PySem.W.Frag} {x dx C f : Addr} {mA : Str → Option Value} {name : Str} {v : Value}
theorem get_map {expr : Bool} {Q : Value → Shared → Prop} (X : K.In s.heap) (I : ObjM s.heap x dx C mA) (hg : PySem.W.plainGet K C name = true) (hh : PySem.W.hasDictIn K C = true)
    (ha : PySem.W.findIn K (.ref C) name = some none) (hv : mA name = some v) (hv' : PySem.W.handedIn v = true) (h : Q v { s with toks := s.toks + 1 }) :
    wpAny (model prog w) A (getAttr (.ref x) name expr) Q E s := by
  obtain ⟨od, J, hl⟩ := I.look
  exact PySem.W.get_value X J (PySem.W.plainGet_of hg).1 (PySem.W.findObj_own hh ha rfl (by rw [hl, hv])) hv' h
theorem get_meth {pl : Sem Bool} {Q : Value × List Value → Shared → Prop} (X : K.In s.heap) (I : ObjM s.heap x dx C mA) (hg : PySem.W.plainGet K C name = true)
    (hf : PySem.W.findIn K (.ref C) name = some (some (.ref f))) (ht : PySem.W.isFn K (.ref f) = true) (hv : mA name = none) (h : Q (.ref f, [.ref x]) s) :
    wpAny (model prog w) A (getMethod (.ref x) name pl) Q E s := by
  obtain ⟨od, J, hl⟩ := I.look
  exact PySem.W.method_fn X J (PySem.W.plainGet_of hg).1 (PySem.W.plainGet_of hg).2 hf (beq_iff_eq.mp ht) (by show (PySem.W.lookIn name od).map (·.isSome) = some false; rw [hl, hv]; rfl) h
theorem set_map {ns : List Str} {Q : Unit → Shared → Prop} (X : K.In s.heap) (I : ObjM s.heap x dx C mA)
    (hs : PySem.W.findIn K (.ref C) "__setattr__" = some (some (.builtin "object.__setattr__"))) (hp : PySem.W.plainOver K C = true) (ht : PySem.W.takerIn K C name = some none) (hh : PySem.W.hasDictIn K C = true)
    (hw : PySem.Within mA ns) (hsz : ns.length ≤ sizeLine)
    (h : ∀ h', ObjM h' x dx C (fun y => if y = name then some v else mA y) → Heap.SameBut dx s.heap h' → Q () { s with heap := h', toks := s.toks + 2 }) :
    wpAny (model prog w) A (setAttr (.ref x) name v) Q E s := by
  obtain ⟨od, J, hl⟩ := I.look
  refine PySem.W.set_plain X J hs (PySem.W.osa_open (s := { s with toks := s.toks + 1 }) (r := none) X J hp ht fun b => ?_)
  obtain ⟨cd, hc, hd'⟩ := PySem.W.any_some hh
  have hx : s.heap.get? x = some ⟨.ref C, some dx, .plain, #[]⟩ := I.obj
  refine wpAny_bind (wpAny_pure (wpAny_bind (wpAny_bind (wpAny_loadPart hx (wpAny_bind (PySem.W.Looks.here (s := { s with toks := s.toks + 1 }) (PySem.W.looks_clsIn X hc) ?_))))))
  rw [hd']
  refine wpAny_pure (a := some dx) (wpAny_bind (wpAny_pure (wpAny_bind ?_)))
  refine wpAny_nsSet1 (s := { s with toks := s.toks + 1 }) I.ns fun h' hn2 hs2 => ?_
  obtain ⟨oD, esD, epD, hoD, hdD, hcD⟩ := hn2.count (PySem.Within.cons name v hw)
  refine wpAny_bind (wpAny_lookBehind hoD (by rw [hdD]; exact pastItsLine_dict (Nat.le_trans hcD (by rw [List.length_cons]; omega))) ?_)
  exact wpAny_pure (h _ ⟨(hs2.2 _ (Ne.symm I.ne)).trans I.obj, hn2, I.ne⟩ hs2)
theorem make_map {R : Result → Shared → Prop} {vs : List Value} {kw : List (Str × Value)} (X : K.In s.heap) (hm : PySem.W.makesIn K C = true)
    (hi : PySem.W.findIn K (.ref C) "__init__" = some (some (.ref f))) (hf : PySem.W.typeIn K (.ref f) = some (.type "function"))
    (h : codeAny (model prog w) (A.under (.builtin "type.__call__" ⟨.ref C :: vs, kw⟩)) (.call (.ref f) ⟨.ref (s.heap.objs.size + 1) :: vs, kw⟩) (PySem.W.InitBack (s.heap.objs.size + 1) R)
      { s with heap := (s.heap.push PySem.W.emptyDict).push (PySem.W.instObj C s.heap.objs.size) }) :
    codeAny (model prog w) A (.call (.ref C) ⟨vs, kw⟩) R s := by
  obtain ⟨hh, g, d, t, os⟩ := s
  exact PySem.W.make_core (PySem.W.makes_of X hm) (PySem.W.looks_findIn X hi) (fun self => PySem.W.bind_fn X self hf) (.inl rfl) h
end
def putF (f : Str) (v : V) : List (Str × V) → List (Str × V)
  | [] => [(f, v)]
  | (g, x) :: r => if g = f then (g, v) :: r else (g, x) :: putF f v r
theorem lookup_putF (f g : Str) (v : V) : ∀ fs : List (Str × V), (putF f v fs).lookup g = if g = f then some v else fs.lookup g
  | [] => by
    show List.lookup g [(f, v)] = _
    by_cases h : g = f
    · have hb : (g == f) = true := beq_iff_eq.mpr h
      simp only [List.lookup, hb, if_pos h]
    · have hb : (g == f) = false := beq_eq_false_iff_ne.mpr h
      simp only [List.lookup, hb, if_neg h]
  | (k, x) :: r => by
    have ih := lookup_putF f g v r
    rw [show putF f v ((k, x) :: r) = (if k = f then (k, v) :: r else (k, x) :: putF f v r) from rfl]
    by_cases hk : k = f
    · rw [if_pos hk]
      by_cases h : g = k
      · have hb : (g == k) = true := beq_iff_eq.mpr h
        simp only [List.lookup, hb, if_pos (h.trans hk)]
      · have hb : (g == k) = false := beq_eq_false_iff_ne.mpr h
        simp only [List.lookup, hb, if_neg (fun e : g = f => h (e.trans hk.symm))]
    · rw [if_neg hk]
      by_cases h : g = k
      · have hb : (g == k) = true := beq_iff_eq.mpr h
        simp only [List.lookup, hb, if_neg (fun e : g = f => hk (h.symm.trans e))]
      · have hb : (g == k) = false := beq_eq_false_iff_ne.mpr h
        simp only [List.lookup, hb]
        exact ih
theorem keys_putF (f : Str) (v : V) : ∀ fs : List (Str × V), f ∈ (putF f v fs).map (·.1) ∧ ∀ g, g ∈ fs.map (·.1) → g ∈ (putF f v fs).map (·.1)
  | [] => ⟨by simp [putF], fun g h => by simp at h⟩
  | (k, x) :: r => by
    obtain ⟨i1, i2⟩ := keys_putF f v r
    rw [show putF f v ((k, x) :: r) = (if k = f then (k, v) :: r else (k, x) :: putF f v r) from rfl]
    by_cases hk : k = f
    · rw [if_pos hk]
      subst hk
      exact ⟨by simp, fun g h => by simpa using h⟩
    · rw [if_neg hk]
      refine ⟨?_, fun g h => ?_⟩
      · rw [List.map_cons]
        exact List.mem_cons_of_mem _ i1
      · rw [List.map_cons] at h ⊢
        rcases List.mem_cons.mp h with e | e
        · exact List.mem_cons.mpr (.inl e)
        · exact List.mem_cons_of_mem _ (i2 g e)
theorem length_putF (f : Str) (v : V) : ∀ fs : List (Str × V), (putF f v fs).length ≤ fs.length + 1
  | [] => by simp [putF]
  | (k, x) :: r => by
    have ih := length_putF f v r
    rw [show putF f v ((k, x) :: r) = (if k = f then (k, v) :: r else (k, x) :: putF f v r) from rfl]
    by_cases hk : k = f
    · rw [if_pos hk, List.length_cons, List.length_cons]; omega
    · rw [if_neg hk, List.length_cons, List.length_cons]; omega
theorem RelO.some_of {v : V} {o : Option Value} (r : RelO (some v) o) : ∃ u, o = some u ∧ RelV v u := by
  cases o with
  | none => exact (show False from r).elim
  | some u => exact ⟨u, rfl, r⟩
theorem RelO.none_of {o : Option Value} (r : RelO none o) : o = none := by
  cases o with
  | none => rfl
  | some u => exact (show False from r).elim
theorem handed_of {v : V} {u : Value} (r : RelV v u) : PySem.W.handedIn u = true := by
  cases v with
  | non => cases (show u = Value.none from r); rfl
  | bl b => cases (show u = Value.bool b from r); rfl
  | int i => obtain ⟨t, e⟩ := (show ∃ t, u = Value.int i t from r); cases e; rfl
  | str x => obtain ⟨t, e⟩ := (show ∃ t, u = Value.str x t from r); cases e; rfl
  | byt b => obtain ⟨t, e⟩ := (show ∃ t, u = Value.bytes b t from r); cases e; rfl
  | flt b => obtain ⟨t, e⟩ := (show ∃ t, u = Value.float b t from r); cases e; rfl
  | ref a => cases (show u = Value.ref a from r); rfl
  | ty n => cases (show u = Value.type n from r); rfl
section
variable {P : Program} {w : World} {H H' : Hp} {h h' : Heap} {a C dx : Addr} {fs fs' : List (Str × V)}
theorem ins_get (hok : HOk P w H h) (e : H a = some (.ins C dx fs)) : ∃ mA, ObjM h a dx C mA ∧ (∀ f, RelO (fs.lookup f) (mA f)) ∧ PySem.Within mA (fs.map (·.1)) ∧ fs.length ≤ 1000 ∧ H dx = some (.own a) := by
  obtain ⟨d, z, ne, ob, mA, n, r, q⟩ := (show ObjOk P w H h a (.ins C dx fs) from hok a _ e)
  exact ⟨mA, ⟨ob, n, ne⟩, r, q, z, d⟩
end
structure Cls (K : PySem.W.Frag) (C : Addr) : Prop where
  pg : PySem.W.plainGet K C Str.empty = true
  hd : PySem.W.hasDictIn K C = true
  po : PySem.W.plainOver K C = true
  sa : PySem.W.findIn K (.ref C) "__setattr__" = some (some (.builtin "object.__setattr__"))
theorem Cls.get {K : PySem.W.Frag} {C : Addr} (c : Cls K C) (f : Str) : PySem.W.plainGet K C f = true := c.pg
def NoAttr (K : PySem.W.Frag) (C : Addr) (f : Str) : Prop := PySem.W.findIn K (.ref C) f = some none
theorem NoAttr.taker {K : PySem.W.Frag} {C : Addr} {f : Str} (n : NoAttr K C f) : PySem.W.takerIn K C f = some none := by
  unfold PySem.W.takerIn
  rw [show PySem.W.findIn K (.ref C) f = some none from n]
  rfl
structure Meth (K : PySem.W.Frag) (C : Addr) (m : Str) (f : Addr) : Prop where
  at_ : PySem.W.findIn K (.ref C) m = some (some (.ref f))
  fn : PySem.W.isFn K (.ref f) = true
  kp : PySem.W.keepIn K (.ref f) = true
section
variable {X : Cx} {pins : List (Addr × Obj)} {σ : St} {H : Hp} {s : Shared} {a C dx : Addr} {fs : List (Str × V)} {f : Str} {v : V} {A : Around} {E : Value → Shared → Prop}
theorem getattr_ok {b : Bool} {Q : Value → Shared → Prop} (I : Inv X pins σ H s) (e : H a = some (.ins C dx fs)) (c : Cls X.K C) (n : NoAttr X.K C f) (l : fs.lookup f = some v)
    (h : ∀ u s', Inv X pins σ H s' → RelV v u → Q u s') : wpAny (model X.prog X.w) A (getAttr (.ref a) f b) Q E s := by
  obtain ⟨mA, O, r, _, _, _⟩ := ins_get I.hok e
  obtain ⟨u, hu, ru⟩ := RelO.some_of (v := v) (o := mA f) (by rw [← l]; exact r f)
  exact get_map I.kIn O (c.get f) c.hd n hu (handed_of ru) (h u _ (I.tok _) ru)
theorem getmeth_ok {m : Str} {g : Addr} {pl : Sem Bool} {Q : Value × List Value → Shared → Prop} (I : Inv X pins σ H s) (e : H a = some (.ins C dx fs)) (c : Cls X.K C) (k : Meth X.K C m g) (l : fs.lookup m = none)
    (h : Q (.ref g, [.ref a]) s) : wpAny (model X.prog X.w) A (getMethod (.ref a) m pl) Q E s := by
  obtain ⟨mA, O, r, _, _, _⟩ := ins_get I.hok e
  have hn : mA m = none := RelO.none_of (by rw [← l]; exact r m)
  exact get_meth I.kIn O (c.get m) k.at_ k.fn hn h
theorem setattr_ok {y : V} {u : Value} {Q : Unit → Shared → Prop} (I : Inv X pins σ H s) (e : H a = some (.ins C dx fs)) (c : Cls X.K C) (n : NoAttr X.K C f) (hl : fs.length < 1000) (ry : RelV y u)
    (h : ∀ s', Inv X pins σ (upd H a (.ins C dx (putF f y fs))) s' → Q () s') : wpAny (model X.prog X.w) A (setAttr (.ref a) f u) Q E s := by
  obtain ⟨mA, O, r, wi, _, ho⟩ := ins_get I.hok e
  have hz : (fs.map (·.1)).length ≤ sizeLine := by rw [List.length_map, sizeLine_eq]; omega
  refine set_map I.kIn O c.sa c.po n.taker c.hd wi hz fun h' O' sb => h _ ?_
  have hd : ∃ o, h'.get? dx = some o := let ⟨o, _, _, e', _⟩ := O'.ns; ⟨o, e'⟩
  refine I.write (x := a) (e := dx) (by rw [e]; exact True.intro) (.inr ho) (fun b q hb z => (sb.2 b hb).trans z) hd ?_
  refine ⟨by rw [upd_ne O.ne]; exact ho, ?_, O.ne, O'.obj, _, O'.ns, fun g => ?_, fun g hg => ?_⟩
  · have := length_putF f y fs; omega
  · show RelO ((putF f y fs).lookup g) (if g = f then some u else mA g)
    rw [lookup_putF]
    by_cases q : g = f
    · rw [if_pos q, if_pos q]; exact ry
    · rw [if_neg q, if_neg q]; exact r g
  · by_cases q : g = f
    · rw [q]; exact (keys_putF f y fs).1
    · refine (keys_putF f y fs).2 g (wi g fun z => hg ?_)
      show (if g = f then some u else mA g) = none
      rw [if_neg q]; exact z
theorem Inv.made (I : Inv X pins σ H s) : Inv X pins σ (upd (upd H s.heap.objs.size (.own (s.heap.objs.size + 1))) (s.heap.objs.size + 1) (.ins C s.heap.objs.size []))
    { s with heap := (s.heap.push PySem.W.emptyDict).push (PySem.W.instObj C s.heap.objs.size) } := by
  have e1 : (s.heap.push PySem.W.emptyDict).get? s.heap.objs.size = some PySem.W.emptyDict := Heap.get?_push_size s.heap rfl
  have e2 : ((s.heap.push PySem.W.emptyDict).push (PySem.W.instObj C s.heap.objs.size)).get? (s.heap.objs.size + 1) = some (PySem.W.instObj C s.heap.objs.size) := by
    have := Heap.get?_push_size (s.heap.push PySem.W.emptyDict) (o := PySem.W.instObj C s.heap.objs.size) rfl
    rwa [Heap.size_push] at this
  have e3 : (s.heap.push PySem.W.emptyDict).Ns s.heap.objs.size (fun _ => none) := ⟨PySem.W.emptyDict, #[], _, e1, rfl, (fun e he => absurd he (by simp)), fun _ => rfl⟩
  have I1 := I.laid (a := s.heap.objs.size) (o := .own (s.heap.objs.size + 1)) (h' := s.heap.push PySem.W.emptyDict) (t' := s.toks) (fun b u q => Heap.get?_push_of_some _ q) (Nat.le_refl _) ⟨_, e1⟩
  refine I1.laid (a := s.heap.objs.size + 1) (o := .ins C s.heap.objs.size []) (t' := s.toks) (fun b u q => Heap.get?_push_of_some _ q) (Nat.le_of_eq (Heap.size_push _ _)) ?_
  have ne : s.heap.objs.size ≠ s.heap.objs.size + 1 := Nat.ne_of_lt (Nat.lt_succ_self _)
  refine ⟨by rw [upd_ne ne, upd_same], Nat.zero_le _, ne, e2, fun _ => none, (Heap.Ns1.of_empty e3).at fun o q => Heap.get?_push_of_some _ q, fun _ => True.intro, fun y hy => absurd rfl hy⟩
theorem attr_of {prog : Program} {w : World} {env : Env} {e : Expr} {f : Str} {pos : Pos} {s : Shared} {Q : Value → Shared → Prop} (hb : attributeBase e f env (eval e env) = eval e env)
    (h : wpAny (model prog w) A (eval e env) (fun o s₁ => wpAny (model prog w) A (getAttr o f true) Q E s₁) E s) : wpAny (model prog w) A (eval (.Attribute e f pos) env) Q E s :=
  Attribute_any_ h (by rw [arm_eval_Attribute, hb])
end
def tFld (K : PySem.W.Frag) (ta : TE) (f : Str) : TE := fun σ H Q => ta σ H fun x H1 => ∃ a C dx fs v, x = .ref a ∧ H1 a = some (.ins C dx fs) ∧ Cls K C ∧ NoAttr K C f ∧ fs.lookup f = some v ∧ Q v H1
def sFld (K : PySem.W.Frag) (ta tv : TE) (f : Str) : TS := fun D σ H => tv σ H fun y H1 => ta σ H1 fun x H2 => ∃ a C dx fs, x = .ref a ∧ H2 a = some (.ins C dx fs) ∧ Cls K C ∧ NoAttr K C f ∧ fs.length < 1000 ∧
  D.nx σ (upd H2 a (.ins C dx (putF f y fs)))
def InOp (X : Cx) (op : Operator) (rd : V → V → Hp → VK → Prop) : Prop :=
  ∀ (pins : List (Addr × Obj)) (s : Shared) (σ : St) (H : Hp) (x y : V) (u v : Value) (Q : VK), Inv X pins σ H s → RelV x u → RelV y v → rd x y H Q → wpAny (model X.prog X.w) X.A (inplaceOp op u v) (EP X pins σ Q) X.xe s
def sFldAug (K : PySem.W.Frag) (ta tv : TE) (rd : V → V → Hp → VK → Prop) (f : Str) : TS := fun D σ H => ta σ H fun x H1 => ∃ a C dx fs v, x = .ref a ∧ H1 a = some (.ins C dx fs) ∧ Cls K C ∧ NoAttr K C f ∧ fs.lookup f = some v ∧
  tv σ H1 fun y H2 => rd v y H2 fun z H3 => ∃ dx' fs', H3 a = some (.ins C dx' fs') ∧ fs'.length < 1000 ∧ D.nx σ (upd H3 a (.ins C dx' (putF f z fs')))
section
variable {X : Cx} {o e value : Expr} {f : Str} {pos pos' tpos : Pos} {ta tv : TE}
theorem pe_fld (he : PE X e ta) (hb : attributeBase e f X.env (eval e X.env) = eval e X.env) : PE X (.Attribute e f pos) (tFld X.K ta f) := by
  intro pins s σ H Q I h
  refine attr_of hb (thn (he pins s σ H _ I h) fun u s1 ⟨x, H1, I1, rx, a, C, dx, fs, v, ex, ea, c, n, l, q⟩ => ?_)
  subst ex
  obtain rfl : u = Value.ref a := rx
  exact getattr_ok I1 ea c n l fun u' s2 I2 ru => ⟨v, H1, I2, ru, q⟩
theorem ps_fld (ha : PE X o ta) (hv : PE X value tv) (hs : swapsWith value (some (.Attribute o f pos')) pos.line X.env = pure false) : PS X (.Assign [.Attribute o f pos'] value pos) (sFld X.K ta tv f) := by
  intro pins s σ H D I h
  refine plainObj_wpAny_Assign_Attribute (thn (hv pins s σ H _ I h) fun u s1 ⟨y, H1, I1, ry, q⟩ => thn (ha pins s1 σ H1 _ I1 q) fun ov s2 ⟨x, H2, I2, rx, a, C, dx, fs, ex, ea, c, n, l, q2⟩ => ?_) hs
  subst ex
  obtain rfl : ov = Value.ref a := rx
  exact setattr_ok I2 ea c n l ry fun s3 I3 => ⟨σ, _, I3, q2⟩
theorem ps_fldaug {op : Operator} {rd : V → V → Hp → VK → Prop} (ha : PE X o ta) (hv : PE X value tv) (hop : InOp X op rd) : PS X (.AugAssign (.Attribute o f tpos) op value pos) (sFldAug X.K ta tv rd f) := by
  intro pins s σ H D I h
  refine wpAny_AugAssign_AttributeAny (thn (ha pins s σ H _ I h) fun ov s1 ⟨x, H1, I1, rx, a, C, dx, fs, v, ex, ea, c, n, l, q⟩ => ?_)
  subst ex
  obtain rfl : ov = Value.ref a := rx
  refine getattr_ok I1 ea c n l fun u s2 I2 ru => thn (hv pins s2 σ H1 _ I2 q) fun w3 s3 ⟨y, H2, I3, ry, q3⟩ => thn (hop pins s3 σ H2 v y u w3 _ I3 ru ry q3) fun w4 s4 ⟨z, H3, I4, rz, dx', fs', ea', l', q4⟩ => ?_
  exact setattr_ok I4 ea' c n l' rz fun s5 I5 => ⟨σ, _, I5, q4⟩
def rAdd : V → V → Hp → VK → Prop := fun x y H Q => ∃ i j, x = .int i ∧ y = .int j ∧ Q (.int (i + j)) H
theorem in_add : InOp X .Add rAdd := by
  rintro pins s σ H x y u v Q I rx ry ⟨i, j, rfl, rfl, q⟩
  obtain ⟨t, rfl⟩ := (show ∃ t, u = Value.int i t from rx)
  obtain ⟨t', rfl⟩ := (show ∃ t', v = Value.int j t' from ry)
  exact PyProof.Rows.iadd_int ⟨.int (i + j), H, I.tok _, ⟨_, rfl⟩, q⟩
theorem methcall_of {pl : Sem Bool} {m : Str} {apos : Pos} {args : List Expr} {pins : List (Addr × Obj)} {s : Shared} {σ : St} {H : Hp} {Q : Value → Shared → Prop} {te : TE} (he : PE X e te) (I : Inv X pins σ H s)
    (h : te σ H fun x H1 => ∃ a C dx fs g, x = .ref a ∧ H1 a = some (.ins C dx fs) ∧ Cls X.K C ∧ Meth X.K C m g ∧ fs.lookup m = none ∧
      ∀ s1, Inv X pins σ H1 s1 → wpAny (model X.prog X.w) X.A (callWith pos (.ref g) [.ref a] (backTo pos (starEach args X.env)) (backToKw pos (keywordEach [] X.env))) Q X.xe s1)
    (ht : eval (.Call (.Attribute e m apos) args [] pos) X.env = (do
      let ov ← eval e X.env
      standAt apos.atName
      let (f, first) ← holding [ov] (getMethod ov m pl)
      callWith pos f first (backTo pos (starEach args X.env)) (backToKw pos (keywordEach [] X.env)))) :
    wpAny (model X.prog X.w) X.A (eval (.Call (.Attribute e m apos) args [] pos) X.env) Q X.xe s := by
  refine PySem.W.methodCall_KW (pl := pl) (thn (he pins s σ H _ I h) fun u s1 ⟨x, H1, I1, rx, a, C, dx, fs, g, ex, ea, c, k, l, q⟩ => ?_) ht
  subst ex
  obtain rfl : u = Value.ref a := rx
  exact getmeth_ok I1 ea c k l (q s1 I1)
end
section
variable {X : Cx} {pins : List (Addr × Obj)} {σ : St} {H : Hp} {s : Shared} {A : Around} {E : Value → Shared → Prop} {Q : Value → Shared → Prop} {c : Value} {b : Bool}
end
end L2
namespace L2
open PySem PySem.Spec PyProof.Rows
structure Room (k : Nat) (A : Around) : Prop where
  hd : A.handled = none
  dp : A.depth + 3 * k + 5 < recursionLimit
  un : A.units + 16 * k + 200 < cLine
theorem Room.mono {j k : Nat} {A : Around} (r : Room k A) (h : j ≤ k) : Room j A := ⟨r.hd, by have := r.dp; omega, by have := r.un; omega⟩
theorem Room.deeper {k : Nat} {A : Around} (r : Room (k + 1) A) (env : Env) : Room k (A.deeper env) :=
  ⟨r.hd, by have := r.dp; show A.depth + 1 + 3 * k + 5 < _; omega, by have := r.un; show A.units + 3 + 16 * k + 200 < _; omega⟩
theorem Room.in1 {k : Nat} {A : Around} (r : Room (k + 1) A) : Room k A.in1 :=
  ⟨r.hd, by have := r.dp; show A.depth + 3 * k + 5 < _; omega, by have := r.un; show A.units + 1 + 16 * k + 200 < _; omega⟩
theorem make_depth {A : Around} {C : Addr} {us : List Value} {kw : List (Str × Value)} : (A.under (.builtin "type.__call__" ⟨.ref C :: us, kw⟩)).depth = A.depth + 1 := by
  first | rfl | simp [Around.under, Code.weight, Code.isCreation, Code.isGuard, Code.isCaller, Code.frames, Code.isFrame, guardIds]
theorem make_units {A : Around} {C : Addr} {us : List Value} {kw : List (Str × Value)} : (A.under (.builtin "type.__call__" ⟨.ref C :: us, kw⟩)).units = A.units + 1 := by
  first | rfl | simp [Around.under, Code.cUnits, Code.frames, Code.isFrame]
theorem Room.make {k : Nat} {A : Around} (r : Room (k + 1) A) (C : Addr) (us : List Value) (kw : List (Str × Value)) : Room k (A.under (.builtin "type.__call__" ⟨.ref C :: us, kw⟩)) :=
  ⟨r.hd, by have := r.dp; rw [make_depth]; omega, by have := r.un; rw [make_units]; omega⟩
theorem Room.depth {k : Nat} {A : Around} (r : Room k A) : A.depth < recursionLimit := by have := r.dp; omega
theorem Room.units {k : Nat} {A : Around} (r : Room k A) : A.units + 64 < cLine := by have := r.un; omega
theorem Room.units0 {k : Nat} {A : Around} (r : Room k A) : A.units < cLine := by have := r.un; omega
def tNil : TA := fun _ H Q => Q [] H
def tCons (ta : TE) (tr : TA) : TA := fun σ H Q => ta σ H fun x H1 => tr σ H1 fun xs H2 => Q (x :: xs) H2
section
variable {X : Cx} {e : Expr} {es : List Expr} {te : TE} {t : TA} {pos : Pos}
theorem pa_nil : PA X [] tNil := fun _ _ _ _ H Q I h => Calls.spliced_nil ⟨[], H, I, .nil, h⟩
theorem pa_cons (ha : PE X e te) (hr : PA X es t) (hs : starEach (e :: es) X.env = (false, eval e X.env) :: starEach es X.env := by rfl) : PA X (e :: es) (tCons te t) := by
  intro pos pins s σ H Q I h
  rw [hs]
  show wpAny _ _ (spliced ((false, eval e X.env) :: backTo pos (starEach es X.env))) _ _ s
  refine Calls.spliced_cons (thn (ha pins s σ H _ I h) fun u s1 ⟨x, H1, I1, r1, q1⟩ => ?_)
  exact thn (hr pos pins s1 σ H1 _ I1 q1) fun us s2 ⟨xs, H2, I2, r2, q2⟩ => ⟨x :: xs, H2, I2, .cons r1 r2, q2⟩
def tTup (t : TA) : TE := fun σ H Q => t σ H fun xs H1 => xs.length ≤ sizeLine ∧ ∀ p, H1 p = none → Q (.ref p) (upd H1 p (.tup xs))
def tLst (t : TA) : TE := fun σ H Q => t σ H fun xs H1 => xs.length ≤ sizeLine ∧ ∀ p, H1 p = none → Q (.ref p) (upd H1 p (.lst xs))
theorem pe_tup {x1} (h : PA X es t) : PE X (.Tuple es x1 pos) (tTup t) := by
  intro pins s σ H Q I hq
  refine wpAny_Tuple_spliced (thn (h pos pins s σ H _ I hq) fun us s1 ⟨xs, H1, I1, r, z, q⟩ => ⟨by rw [← r.length]; exact z, ?_⟩)
  have hf : H1 s1.heap.objs.size = none := I1.hok.fresh (Nat.le_refl _)
  refine ⟨.ref s1.heap.objs.size, upd H1 s1.heap.objs.size (.tup xs), I1.laid (t' := s1.toks) (fun b u e => Heap.get?_push_of_some _ e) (Nat.le_refl _) ?_, rfl, q _ hf⟩
  exact ⟨z, us, r, ⟨_, Heap.get?_push_size _ rfl, rfl, _, rfl⟩⟩
theorem pe_lst (h : PA X es t) : PE X (.List es pos) (tLst t) := by
  intro pins s σ H Q I hq
  refine wpAny_List_spliced (thn (h pos pins s σ H _ I hq) fun us s1 ⟨xs, H1, I1, r, z, q⟩ => ⟨by rw [← r.length]; exact z, ?_⟩)
  have hf : H1 s1.heap.objs.size = none := I1.hok.fresh (Nat.le_refl _)
  refine ⟨.ref s1.heap.objs.size, upd H1 s1.heap.objs.size (.lst xs), I1.laid (t' := s1.toks) (fun b u e => Heap.get?_push_of_some _ e) (Nat.le_refl _) ?_, rfl, q _ hf⟩
  exact ⟨z, us, 0, r, Heap.get?_push_size _ rfl⟩
end
abbrev Sp := List V → Hp → VK → XK → Prop
abbrev CXT := List Env → Hp → Shared → XK → Value → Shared → Prop
structure Env0 (P : Program) (w : World) (K : PySem.W.Frag) (mg : Str → Option Value) (base : Heap) (A : Around) (outer : List Env) (s : Shared) (H : Hp) : Prop where
  frames : A.frames = some outer
  mod : Mod K mg base
  bs : ∀ b o, base.get? b = some o → s.heap.get? b = some o ∧ H b = none
  bsz : base.objs.size ≤ s.heap.objs.size
  funs : s.heap.FunFrames base outer
  frf : ∀ b ∈ frs outer, H b = none
  hok : HOk P w H s.heap
  bare : AllBare s.gens
def CE (outer : List Env) (P : Program) (w : World) (H : Hp) (s : Shared) (Q : VK) (u : Value) (s' : Shared) : Prop :=
  ∃ v H', s'.os = s.os ∧ AllBare s'.gens ∧ Un (frs outer) [] H H' s.heap s'.heap ∧ HOk P w H' s'.heap ∧ RelV v u ∧ Q v H'
def CR (CX : CXT) (outer : List Env) (P : Program) (w : World) (H : Hp) (s : Shared) (Q : VK) (E : XK) (r : Result) (s' : Shared) : Prop :=
  match r with
  | .ok (.ret u) => CE outer P w H s Q u s'
  | .ok _ => False
  | .error e => CX outer H s E e s'
structure FnOk (P : Program) (w : World) (K : PySem.W.Frag) (mg : Str → Option Value) (base : Heap) (CX : CXT) (k : Nat) (f : Addr) (fd : FuncData) (ps : List Str) (sp : Sp) : Prop where
  len : ∀ vs H Q E, sp vs H Q E → vs.length = ps.length
  run : ∀ (A : Around) (outer : List Env) (s : Shared) (H : Hp) (args : Args) (us : List Value) (vs : List V) (Q : VK) (E : XK), Room k A → Env0 P w K mg base A outer s H → BindsTo s fd args (ps.zip us) → Vals vs us → sp vs H Q E →
    codeAny (model P w) A (.call (.ref f) args) (CR CX outer P w H s Q E) s
theorem FnOk.mono {P : Program} {w : World} {K : PySem.W.Frag} {mg : Str → Option Value} {base : Heap} {CX : CXT} {j k : Nat} {f : Addr} {fd : FuncData} {ps : List Str} {sp : Sp} (F : FnOk P w K mg base CX j f fd ps sp) (h : j ≤ k) :
    FnOk P w K mg base CX k f fd ps sp := ⟨F.len, fun A outer s H args us vs Q E hr => F.run A outer s H args us vs Q E (hr.mono h)⟩
theorem FnOk.imp {P : Program} {w : World} {K : PySem.W.Frag} {mg : Str → Option Value} {base : Heap} {CX : CXT} {k : Nat} {f : Addr} {fd : FuncData} {ps : List Str} {sp sp' : Sp} (F : FnOk P w K mg base CX k f fd ps sp)
    (h : ∀ vs H Q E, sp' vs H Q E → sp vs H Q E) : FnOk P w K mg base CX k f fd ps sp' :=
  ⟨fun vs H Q E q => F.len vs H Q E (h _ _ _ _ q), fun A outer s H args us vs Q E hr he hb hv hs => F.run A outer s H args us vs Q E hr he hb hv (h _ _ _ _ hs)⟩
theorem Env0.make {P : Program} {w : World} {K : PySem.W.Frag} {mg : Str → Option Value} {base : Heap} {A : Around} {outer : List Env} {s : Shared} {H : Hp} (e : Env0 P w K mg base A outer s H) (C : Addr) (us : List Value) (kw : List (Str × Value)) :
    Env0 P w K mg base (A.under (.builtin "type.__call__" ⟨.ref C :: us, kw⟩)) outer s H := ⟨by first | exact e.frames | (simpa [Around.under, Code.envs, Code.isFrame, pushEnvs] using e.frames), e.mod, e.bs, e.bsz, e.funs, e.frf, e.hok, e.bare⟩
theorem Env0.in1 {P : Program} {w : World} {K : PySem.W.Frag} {mg : Str → Option Value} {base : Heap} {A : Around} {outer : List Env} {s : Shared} {H : Hp} (e : Env0 P w K mg base A outer s H) :
    Env0 P w K mg base A.in1 outer s H := ⟨e.frames, e.mod, e.bs, e.bsz, e.funs, e.frf, e.hok, e.bare⟩
section
variable {X : Cx} {pins : List (Addr × Obj)} {σ : St} {H : Hp} {s s' : Shared}
theorem Inv.env0 (I : Inv X pins σ H s) : Env0 X.prog X.w X.K X.mg X.base X.A X.stack s H :=
  ⟨I.ok.frames, I.ok.mod, I.bs, Nat.le_trans I.ok.bsz I.sz, I.stack, I.stkFree, I.hok, I.bare⟩
theorem Inv.after {Q : VK} {u : Value} (I : Inv X pins σ H s) (h : CE X.stack X.prog X.w H s Q u s') : EP X pins σ Q u s' := by
  obtain ⟨v, H', os, bare, un, hok, r, q⟩ := h
  obtain ⟨hh, g, d, t, os'⟩ := s'
  obtain rfl : os' = s.os := os
  exact ⟨v, H', I.call (h' := hh) (g' := g) (d' := d) (t' := t) (ch := []) un hok bare (fun b z => absurd z (by simp)), r, q⟩
end
def tCall (sp : Sp) (dvs : List V) (E : XK) (t : TA) : TE := fun σ H Q => t σ H fun vs H1 => sp (vs ++ dvs) H1 Q E
def tMeth (C : Addr) (m : Str) (sp : Sp) (dvs : List V) (E : XK) (ta : TE) (t : TA) : TE := fun σ H Q => ta σ H fun x H1 => ∃ a dx fs, x = .ref a ∧ H1 a = some (.ins C dx fs) ∧ fs.lookup m = none ∧
  t σ H1 fun vs H2 => sp (x :: (vs ++ dvs)) H2 Q E
def tMake (C : Addr) (sp : Sp) (dvs : List V) (E : XK) (t : TA) : TE := fun σ H Q => t σ H fun vs H1 => ∀ x dx, H1 x = none → H1 dx = none → dx ≠ x →
  sp (.ref x :: (vs ++ dvs)) (upd (upd H1 dx (.own x)) x (.ins C dx [])) (fun v H2 => v = .non ∧ Q (.ref x) H2) E
def Binds (K : PySem.W.Frag) (fd : FuncData) (ps : List Str) (ds : List Value) : Prop :=
  ∀ (s : Shared) (us : List Value), K.In s.heap → (us ++ ds).length = ps.length → BindsTo s fd ⟨us, []⟩ (ps.zip (us ++ ds))
theorem Binds.all {K : PySem.W.Frag} {fd : FuncData} {ps : List Str} (h : ∀ us : List Value, us.length = ps.length → bindArgs fd ⟨us, []⟩ = pure (ps.zip us)) : Binds K fd ps [] := fun s us _ hl => by
  rw [List.append_nil] at hl ⊢
  exact .of_eq (h us hl)
def Passes (CX : CXT) (X : Cx) (E : XK) : Prop := ∀ (pins : List (Addr × Obj)) (σ : St) (H : Hp) (s : Shared) (e : Value) (s' : Shared), Inv X pins σ H s → CX X.stack H s E e s' → X.xe e s'
section
variable {X : Cx} {CX : CXT} {k : Nat} {f C : Addr} {fd : FuncData} {ps : List Str} {sp : Sp} {dvs : List V} {ds : List Value} {E : XK} {x m : Str} {p pos apos : Pos} {e o : Expr} {es : List Expr} {ta : TE} {t : TA}
theorem run_fn {pins : List (Addr × Obj)} {σ : St} {H : Hp} {s : Shared} {Q : VK} {us : List Value} {vs : List V} (F : FnOk X.prog X.w X.K X.mg X.base CX k f fd ps sp) (hr : Room k X.A) (hb : Binds X.K fd ps ds) (hd : Vals dvs ds) (hx : Passes CX X E)
    (I : Inv X pins σ H s) (r : Vals vs us) (h : sp (vs ++ dvs) H Q E) : wpAny (model X.prog X.w) X.A (call (.ref f) us) (EP X pins σ Q) X.xe s := by
  have r2 : Vals (vs ++ dvs) (us ++ ds) := r.append hd
  have hl : (us ++ ds).length = ps.length := by rw [← r2.length]; exact F.len _ _ _ _ h
  refine wpAny_call (codeAny_mono (F.run X.A X.stack s H ⟨us, []⟩ (us ++ ds) (vs ++ dvs) Q E hr I.env0 (hb s us I.kIn hl) r2 h) fun r s' hq => ?_)
  cases r with
  | error e => exact hx pins σ H s e s' I hq
  | ok fl =>
    cases fl with
    | ret u => exact I.after hq
    | next => exact False.elim hq
    | brk => exact False.elim hq
    | cont => exact False.elim hq
theorem pe_call (F : FnOk X.prog X.w X.K X.mg X.base CX k f fd ps sp) (hr : Room k X.A) (hg : Gl X x) (hm : X.mg x = some (.ref f)) (hk : PySem.W.keepIn X.K (.ref f) = true) (hb : Binds X.K fd ps ds) (hd : Vals dvs ds) (hx : Passes CX X E)
    (ha : PA X (e :: es) t) (hdb : (x == ("__debug__" : Str)) = false := by decide) (he : starEach (e :: es) X.env = (false, eval e X.env) :: starEach es X.env := by rfl) (hpl : (backTo pos (starEach es X.env)).any (·.1) = false := by rfl) :
    PE X (.Call (.Name x p) (e :: es) [] pos) (tCall sp dvs E t) := by
  intro pins s σ H Q I h
  refine wpAny_Call_Name_kw (ld_glob I hg hm ?_ hdb)
  refine PySem.W.callWith_K (h₀ := X.base) I.ok.mod.kin hk (thn (ha pos pins s σ H _ I h) fun us s1 ⟨vs, H1, I1, r, q⟩ => ⟨I1.kIn, ?_⟩) he hpl
  exact run_fn F hr hb hd hx I1 r q
theorem pe_meth {pl : Sem Bool} (he : PE X o ta) (c : Cls X.K C) (hm : Meth X.K C m f) (F : FnOk X.prog X.w X.K X.mg X.base CX k f fd ps sp) (hr : Room k X.A) (hb : Binds X.K fd ps ds) (hd : Vals dvs ds) (hx : Passes CX X E) (ha : PA X (e :: es) t)
    (hst : starEach (e :: es) X.env = (false, eval e X.env) :: starEach es X.env := by rfl) (hpl : (backTo pos (starEach es X.env)).any (·.1) = false := by rfl)
    (ht : eval (.Call (.Attribute o m apos) (e :: es) [] pos) X.env = (do
      let ov ← eval o X.env
      standAt apos.atName
      let (f, first) ← holding [ov] (getMethod ov m pl)
      callWith pos f first (backTo pos (starEach (e :: es) X.env)) (backToKw pos (keywordEach [] X.env))) := by rfl) :
    PE X (.Call (.Attribute o m apos) (e :: es) [] pos) (tMeth C m sp dvs E ta t) := by
  intro pins s σ H Q I h
  refine PySem.W.methodCall_KW (pl := pl) (thn (he pins s σ H _ I h) fun u s1 ⟨x, H1, I1, rx, a, dx, fs, ex, ea, l, q⟩ => ?_) ht
  subst ex
  obtain rfl : u = Value.ref a := rx
  refine getmeth_ok I1 ea c hm l ?_
  refine PySem.W.callWith_K (first := [.ref a]) (h₀ := X.base) I.ok.mod.kin hm.kp (thn (ha pos pins s1 σ H1 _ I1 q) fun us s2 ⟨vs, H2, I2, r, q2⟩ => ⟨I2.kIn, ?_⟩) hst hpl
  exact run_fn (us := .ref a :: us) (vs := .ref a :: vs) F hr hb hd hx I2 (.cons rfl r) q2
theorem pe_meth0 {pl : Sem Bool} (he : PE X o ta) (c : Cls X.K C) (hm : Meth X.K C m f) (F : FnOk X.prog X.w X.K X.mg X.base CX k f fd ps sp) (hr : Room k X.A) (hb : Binds X.K fd ps ds) (hd : Vals dvs ds) (hx : Passes CX X E)
    (ht : eval (.Call (.Attribute o m apos) [] [] pos) X.env = (do
      let ov ← eval o X.env
      standAt apos.atName
      let (f, first) ← holding [ov] (getMethod ov m pl)
      callWith pos f first (backTo pos (starEach [] X.env)) (backToKw pos (keywordEach [] X.env))) := by rfl) :
    PE X (.Call (.Attribute o m apos) [] [] pos) (tMeth C m sp dvs E ta tNil) := by
  intro pins s σ H Q I h
  refine PySem.W.methodCall_KW (pl := pl) (thn (he pins s σ H _ I h) fun u s1 ⟨x, H1, I1, rx, a, dx, fs, ex, ea, l, q⟩ => ?_) ht
  subst ex
  obtain rfl : u = Value.ref a := rx
  refine getmeth_ok I1 ea c hm l ?_
  exact PySem.W.callWith_K0 (first := [.ref a]) I1.kIn hm.kp (run_fn (us := [.ref a]) (vs := [.ref a]) F hr hb hd hx I1 (.cons rfl .nil) q)
structure Mk (K : PySem.W.Frag) (C f : Addr) : Prop where
  makes : PySem.W.makesIn K C = true
  init : PySem.W.findIn K (.ref C) "__init__" = some (some (.ref f))
  fn : PySem.W.isFn K (.ref f) = true
  kp : PySem.W.keepIn K (.ref C) = true
theorem run_make {pins : List (Addr × Obj)} {σ : St} {H : Hp} {s : Shared} {Q : VK} {us : List Value} {vs : List V} (M : Mk X.K C f) (F : FnOk X.prog X.w X.K X.mg X.base CX k f fd ps sp) (hr : Room (k + 1) X.A) (hb : Binds X.K fd ps ds) (hd : Vals dvs ds)
    (hx : Passes CX X E) (I : Inv X pins σ H s) (r : Vals vs us)
    (h : ∀ x dx, H x = none → H dx = none → dx ≠ x → sp (.ref x :: (vs ++ dvs)) (upd (upd H dx (.own x)) x (.ins C dx [])) (fun v H2 => v = .non ∧ Q (.ref x) H2) E) :
    wpAny (model X.prog X.w) X.A (call (.ref C) us) (EP X pins σ Q) X.xe s := by
  have hq := h (s.heap.objs.size + 1) s.heap.objs.size (I.hok.fresh (Nat.le_succ _)) (I.hok.fresh (Nat.le_refl _)) (Nat.ne_of_lt (Nat.lt_succ_self _))
  have I2 := Inv.made (C := C) I
  have r2 : Vals (V.ref (s.heap.objs.size + 1) :: (vs ++ dvs)) (Value.ref (s.heap.objs.size + 1) :: (us ++ ds)) := .cons rfl (r.append hd)
  have hl : (Value.ref (s.heap.objs.size + 1) :: us ++ ds).length = ps.length := by
    have e := r2.length
    rw [F.len _ _ _ _ hq] at e
    exact e.symm
  refine wpAny_call (make_map (f := f) I.kIn M.makes M.init (beq_iff_eq.mp M.fn) (codeAny_mono (F.run _ X.stack _ _ ⟨Value.ref (s.heap.objs.size + 1) :: us, []⟩ (Value.ref (s.heap.objs.size + 1) :: (us ++ ds)) _ _ E (hr.make C us [])
    (I2.env0.make C us []) (hb _ (Value.ref (s.heap.objs.size + 1) :: us) I2.kIn hl) r2 hq) fun r s' hq' => ?_))
  cases r with
  | error e => exact hx pins σ _ _ e s' I2 hq'
  | ok fl =>
    cases fl with
    | ret u =>
      obtain ⟨v, H', I3, rv, ev, q3⟩ := I2.after hq'
      subst ev
      exact ⟨rv, ⟨V.ref (s.heap.objs.size + 1), H', I3, rfl, q3⟩⟩
    | next => exact False.elim hq'
    | brk => exact False.elim hq'
    | cont => exact False.elim hq'
theorem pe_make (M : Mk X.K C f) (F : FnOk X.prog X.w X.K X.mg X.base CX k f fd ps sp) (hr : Room (k + 1) X.A) (hg : Gl X x) (hm : X.mg x = some (.ref C)) (hb : Binds X.K fd ps ds) (hd : Vals dvs ds) (hx : Passes CX X E)
    (ha : PA X (e :: es) t) (hdb : (x == ("__debug__" : Str)) = false := by decide) (he : starEach (e :: es) X.env = (false, eval e X.env) :: starEach es X.env := by rfl) (hpl : (backTo pos (starEach es X.env)).any (·.1) = false := by rfl) :
    PE X (.Call (.Name x p) (e :: es) [] pos) (tMake C sp dvs E t) := by
  intro pins s σ H Q I h
  refine wpAny_Call_Name_kw (ld_glob I hg hm ?_ hdb)
  refine PySem.W.callWith_K (h₀ := X.base) I.ok.mod.kin M.kp (thn (ha pos pins s σ H _ I h) fun us s1 ⟨vs, H1, I1, r, q⟩ => ⟨I1.kIn, ?_⟩) he hpl
  exact run_make M F hr hb hd hx I1 r q
end
section
variable {X : Cx} {CX : CXT} {k : Nat} {f C : Addr} {fd : FuncData} {ps ks : List Str} {sp : Sp} {E : XK} {x m : Str} {p pos apos kpos : Pos} {e o : Expr} {es : List Expr} {kws : List Keyword} {te ta : TE} {t tk : TA} {nm : Option Str}
variable {g : List Value → List Value → List Value} {gV : List V → List V → List V}
end
structure FnScope (N P : List Str) (sc : Scope) : Prop where
  kind : sc.kind = .function
  co : sc.isCoroutine = false
  gen : sc.isGenerator = false
  nd : N.Nodup
  pre : N.take P.length = P
  par : ∀ x ∈ P, sc.names.lookup x = some .local ∨ sc.names.lookup x = some .cell
  nofree : ∀ y ∈ sc.names, y.2 ≠ .free
theorem bindL_out {kindOf : Str → Option NameKind} {x : Str} : ∀ {binds : List (Str × Value)} {m : Str → Option Value}, (∀ v, (x, v) ∉ binds) → bindL kindOf binds m x = m x
  | [], _, _ => rfl
  | (n, v) :: r, m, h => by
    unfold bindL
    rw [bindL_out fun w hw => h w (List.mem_cons_of_mem _ hw)]
    split
    · have : x ≠ n := by rintro rfl; exact h v List.mem_cons_self
      simp [this]
    · rfl
theorem bindC_out {kindOf : Str → Option NameKind} {x : Str} : ∀ {binds : List (Str × Value)} {m : Str → Option Value}, (∀ v, (x, v) ∉ binds) → bindC kindOf binds m x = m x
  | [], _, _ => rfl
  | (n, v) :: r, m, h => by
    unfold bindC
    rw [bindC_out fun w hw => h w (List.mem_cons_of_mem _ hw)]
    split
    · rfl
    · have : x ≠ n := by rintro rfl; exact h v List.mem_cons_self
      simp [this]
theorem bindL_get {kindOf : Str → Option NameKind} {x : Str} {v : Value} : ∀ {P : List Str} {vs : List Value} {i : Nat} {m : Str → Option Value}, P.Nodup → P[i]? = some x → vs[i]? = some v → kindOf x = some .local →
    bindL kindOf (P.zip vs) m x = some v
  | [], _, _, _, _, h, _, _ => by simp at h
  | _ :: _, [], _, _, _, _, h, _ => by simp at h
  | p :: P, w :: vs, 0, m, nd, h1, h2, hk => by
    simp at h1 h2; subst h1; subst h2
    show bindL kindOf ((p, w) :: P.zip vs) m p = _
    unfold bindL
    rw [bindL_out fun v hv => (List.nodup_cons.mp nd).1 (List.of_mem_zip hv).1, if_pos hk]
    simp
  | p :: P, w :: vs, i + 1, m, nd, h1, h2, hk => by
    show bindL kindOf ((p, w) :: P.zip vs) m x = _
    unfold bindL
    exact bindL_get (i := i) (List.nodup_cons.mp nd).2 (by simpa using h1) (by simpa using h2) hk
theorem bindC_get {kindOf : Str → Option NameKind} {x : Str} {v : Value} : ∀ {P : List Str} {vs : List Value} {i : Nat} {m : Str → Option Value}, P.Nodup → P[i]? = some x → vs[i]? = some v → kindOf x ≠ some .local →
    bindC kindOf (P.zip vs) m x = some v
  | [], _, _, _, _, h, _, _ => by simp at h
  | _ :: _, [], _, _, _, _, h, _ => by simp at h
  | p :: P, w :: vs, 0, m, nd, h1, h2, hk => by
    simp at h1 h2; subst h1; subst h2
    show bindC kindOf ((p, w) :: P.zip vs) m p = _
    unfold bindC
    rw [bindC_out fun v hv => (List.nodup_cons.mp nd).1 (List.of_mem_zip hv).1, if_neg hk]
    simp
  | p :: P, w :: vs, i + 1, m, nd, h1, h2, hk => by
    show bindC kindOf ((p, w) :: P.zip vs) m x = _
    unfold bindC
    exact bindC_get (i := i) (List.nodup_cons.mp nd).2 (by simpa using h1) (by simpa using h2) hk
def start (N : List Str) (vs : List V) : St := vs.map some ++ List.replicate (N.length - vs.length) none
def cxOf (CX : CXT) (P : Program) (w : World) (K : PySem.W.Frag) (mg : Str → Option Value) (base : Heap) (N : List Str) (qual : Str) (scope : Scope) (f : Addr) (cd : Value) (A : Around) (outer : List Env) (s : Shared) (H : Hp) (E : XK) : Cx where
  prog := P
  w := w
  K := K
  mg := mg
  base := base
  A := A.deeper (envOfC qual scope s.heap.objs.size f cd)
  N := N
  s₀ := s
  H₀ := H
  env := envOfC qual scope s.heap.objs.size f cd
  outer := outer
  stack := envOfC qual scope s.heap.objs.size f cd :: outer
  ex := []
  calm := true
  fn := fun _ => true
  pn := []
  xe := fun e s' => wpAny (model P w) (A.deeper (envOfC qual scope s.heap.objs.size f cd)) (leaving (envOfC qual scope s.heap.objs.size f cd) e) (fun _ s'' => CX outer H s E e s'') (fun e' s'' => CX outer H s E e' s'') s'
theorem cell_has {sc : Scope} {n : Nat} {x : Str} (h : sc.names.lookup x = some .cell) : ∃ c, (cellsFrom n sc.names []).lookup x = some c := by
  have q := PySem.W.cellsFrom_some sc.names n [] (.inl h)
  exact Option.isSome_iff_exists.mp q
theorem inv_start {CX : CXT} {P : Program} {w : World} {K : PySem.W.Frag} {mg : Str → Option Value} {base : Heap} {N ps : List Str} {qual : Str} {scope : Scope} {f : Addr} {cd : Value} {A : Around} {outer : List Env} {s s1 : Shared} {H : Hp} {E : XK} {us : List Value} {vs : List V}
    (S : FnScope N ps scope) (hd : A.handled = none) (e0 : Env0 P w K mg base A outer s H) (hl : vs.length = ps.length) (r : Vals vs us)
    (x : InCallC s s.heap.objs.size (bindL (envOfC qual scope s.heap.objs.size f cd).kindOf (ps.zip us) fun _ => none) (cellsFrom (s.heap.objs.size + 1) scope.names []) (bindC (envOfC qual scope s.heap.objs.size f cd).kindOf (ps.zip us) fun _ => none) s1) :
    Inv (cxOf CX P w K mg base N qual scope f cd A outer s H E) [] (start N vs) H s1 := by
  have hpl : ps.length ≤ N.length := by have := congrArg List.length S.pre; rw [List.length_take] at this; omega
  obtain ⟨h1, tk, rfl, hk⟩ := x.done
  have noA : ∀ b : Addr, b ∉ (cxOf CX P w K mg base N qual scope f cd A outer s H E).ex := fun b z => absurd (show b ∈ ([] : List Addr) from z) (by simp)
  refine ⟨⟨e0.mod, S.kind, rfl, rfl, Nat.le_refl _, fun y z c h1 h2 => ?_, fun y hy => ?_, fun y c _ h => ?_, fun _ => hd, Around.frames_deeper e0.frames, .inr ⟨rfl, rfl⟩, fun b z => absurd z (noA b), e0.bs, e0.bsz, fun b _ _ => noA b, fun b z => absurd z (noA b), e0.funs, e0.frf⟩,
    rfl, e0.bare, Un.kept hk, ⟨_, x.toInCall.ns, fun i y v h1 h2 h3 => ?_⟩, fun y c h => ⟨_, x.cell y c h⟩, e0.hok.fresh (Nat.le_refl _), fun y c h => ?_, fun p hp => absurd (show p ∈ ([] : List (Addr × Obj)) from hp) (by simp), e0.hok.kept hk, ?_⟩
  · exact name_of_addr x.apart (PySem.mem_of_lookup h1) (PySem.mem_of_lookup h2)
  · have hy : scope.names.lookup y = some .cell ∨ scope.names.lookup y = some .free := hy
    rcases hy with hy | hy
    · exact cell_has hy
    · exact absurd rfl (S.nofree _ (PySem.mem_of_lookup hy))
  · exact Nat.le_of_lt (x.above y c (PySem.mem_of_lookup h))
  · have hi : i < vs.length := by
      unfold start at h2
      by_cases hi : i < vs.length
      · exact hi
      · rw [List.getElem?_append_right (by simpa using hi)] at h2
        rw [List.getElem?_replicate] at h2
        split at h2 <;> cases h2
    have ha : vs[i]? = some v := by
      unfold start at h2
      rw [List.getElem?_append_left (by simpa using hi), List.getElem?_map] at h2
      cases e : vs[i]? with
      | none => rw [e] at h2; cases h2
      | some a => rw [e] at h2; cases h2; rfl
    obtain ⟨u, hu, rv⟩ := r.get ha
    have hp : ps[i]? = some y := by
      rw [← S.pre, List.getElem?_take_of_lt (by omega)]; exact h1
    have ndP : ps.Nodup := by rw [← S.pre]; exact S.nd.sublist (List.take_sublist _ _)
    refine ⟨u, rv, ?_⟩
    rcases S.par y (List.mem_of_getElem? hp) with k | k
    · exact .inl ⟨k, bindL_get ndP hp hu k⟩
    · obtain ⟨c, e⟩ := cell_has (n := s.heap.objs.size + 1) k
      refine .inr ⟨.inl k, c, e, ?_⟩
      have q := x.cell y c e
      rw [bindC_get ndP hp hu (by show scope.names.lookup y ≠ _; rw [k]; decide)] at q
      exact q
  · exact e0.hok.fresh (Nat.le_of_lt (x.above y c (PySem.mem_of_lookup h)))
  · unfold start
    show _ = N.length
    rw [List.length_append, List.length_map, List.length_replicate]
    omega
theorem fn_of {CX : CXT} {P : Program} {w : World} {K : PySem.W.Frag} {mg : Str → Option Value} {base : Heap} {k : Nat} {f : Addr} {name qual : Str} {params : Arguments} {body : List Stmt} {scope : Scope} {dV kV doc pm cdv ct oc : Value} {an od : Option Addr}
    {osl : Array (Option Value)} {N ps : List Str} {sp : Sp} (lk : K.lookup f = some ⟨oc, od, .func (PySem.W.fnOf name qual params body scope dV kV doc pm an cdv ct), osl⟩) (hcd : PySem.W.codeIn K cdv qual = true) (S : FnScope N ps scope)
    (len : ∀ vs H Q E, sp vs H Q E → vs.length = ps.length)
    (hbody : ∀ (A : Around) (outer : List Env) (s : Shared) (H : Hp) (vs : List V) (Q : VK) (E : XK), Room k (A.deeper (envOfC qual scope s.heap.objs.size f cdv)) → sp vs H Q E →
      ∃ t, PSs (cxOf CX P w K mg base N qual scope f cdv A outer s H E) body t ∧ t { nx := fun _ H' => Q .non H', rt := Q } (start N vs) H) :
    FnOk P w K mg base CX (k + 1) f (PySem.W.fnOf name qual params body scope dV kV doc pm an cdv ct) ps sp := by
  refine ⟨len, fun A outer s H args us vs Q E hr e0 hb r hsp => ?_⟩
  have hl := len _ _ _ _ hsp
  have KX : K.In s.heap := e0.mod.kin.keeps fun b o e => (e0.bs b o e).1
  have lim : s.heap.NoLimit := e0.mod.nolimit.keeps fun b o e => (e0.bs b o e).1
  have hkind : ∀ y ∈ ps.zip us, scope.names.lookup y.1 = some .local ∨ (scope.names.lookup y.1 = some .cell ∧ ((cellsFrom (s.heap.objs.size + 1) scope.names []).lookup y.1).isSome = true) := fun ⟨n, v⟩ hy => by
    rcases S.par n (List.of_mem_zip hy).1 with q | q
    · exact .inl q
    · exact .inr ⟨q, PySem.W.cellsFrom_some _ _ _ (.inl q)⟩
  refine codeAny_call_function hr.depth (KX _ _ lk) rfl S.co S.gen rfl (PySem.W.codeRec_of KX hcd) (hb _ _ _ _ ?_)
  refine wpAny_newFunctionEnv_cells S.kind hkind fun env he s1 x => ?_
  subst he
  refine ⟨lim.keeps x.toInCall.keep, codeAny_func ?_⟩
  obtain ⟨t, ht, hq⟩ := hbody A outer s H vs Q E (hr.deeper _) hsp
  have I : Inv (cxOf CX P w K mg base N qual scope f cdv A outer s H E) [] (start N vs) H s1 := inv_start S hr.hd e0 hl r x
  refine wpAny_mono (ht [] s1 (start N vs) H _ I hq) (fun fl s' hs => ?_) fun e s' hs => hs
  have fin : ∀ {σ' : St} {H' : Hp} {v : V} {u : Value}, Inv (cxOf CX P w K mg base N qual scope f cdv A outer s H E) [] σ' H' s' → RelV v u → Q v H' → CE outer P w H s Q u s' :=
    fun {σ' H' v u} J rv q => ⟨v, H', J.os, J.bare, J.base, J.hok, rv, q⟩
  cases fl with
  | ret u =>
    obtain ⟨v, σ', H', J, rv, q⟩ := hs
    exact fin J rv q
  | next =>
    obtain ⟨σ', H', J, q⟩ := hs
    exact fin (v := V.non) (u := Value.none) J rfl q
  | brk =>
    obtain ⟨_, _, _, q⟩ := hs
    exact False.elim q
  | cont =>
    obtain ⟨_, _, _, q⟩ := hs
    exact False.elim q
end L2
namespace L2
open PySem PySem.Spec PyProof.Rows
section
variable {X : Cx} {x : Str} {p pos : Pos} {e : Expr} {es : List Expr} {t : TA} {id T : String} {r : List V → Hp → VK → Prop}
def tCB (r : List V → Hp → VK → Prop) (t : TA) : TE := fun σ H Q => t σ H fun vs H1 => r vs H1 Q
theorem pe_callB (hc : CallR X (.builtin id) r) (hg : Gl X x) (hm : X.mg x = none) (hv : bootBuiltins x = some (.builtin id)) (ha : PA X (e :: es) t) (hn : x ≠ "__name__" := by decide) (hdb : (x == ("__debug__" : Str)) = false := by decide)
    (he : starEach (e :: es) X.env = (false, eval e X.env) :: starEach es X.env := by rfl) (hpl : (backTo pos (starEach es X.env)).any (·.1) = false := by rfl) : PE X (.Call (.Name x p) (e :: es) [] pos) (tCB r t) := by
  intro pins s σ H Q I h
  refine wpAny_Call_Name_kw (ld_blt I hg hm hv ?_ hn hdb)
  exact PyProof.Rows.callWith_builtin1 (thn (ha pos pins s σ H _ I h) fun us s1 ⟨vs, H1, I1, r1, q1⟩ => hc pins s1 σ H1 vs us Q I1 r1 q1) he hpl
theorem pe_callTy (hc : CallR X (.type T) r) (hg : Gl X x) (hm : X.mg x = none) (hv : bootBuiltins x = some (.type T)) (ha : PA X (e :: es) t) (hn : x ≠ "__name__" := by decide) (hdb : (x == ("__debug__" : Str)) = false := by decide)
    (he : starEach (e :: es) X.env = (false, eval e X.env) :: starEach es X.env := by rfl) (hpl : (backTo pos (starEach es X.env)).any (·.1) = false := by rfl) : PE X (.Call (.Name x p) (e :: es) [] pos) (tCB r t) := by
  intro pins s σ H Q I h
  refine wpAny_Call_Name_kw (ld_blt I hg hm hv ?_ hn hdb)
  exact PyProof.Rows.callWith_type1 (thn (ha pos pins s σ H _ I h) fun us s1 ⟨vs, H1, I1, r1, q1⟩ => hc pins s1 σ H1 vs us Q I1 r1 q1) he hpl
end
end L2
namespace HT
open PySem PyProof.Rows
section
open PySem.SeqAt
open PySem.AutoSeq1 (wpAny_loadPart')
open PySem.MeetsSeq PySem.MeetsSeq2 PySem.MeetsSeq3
end
section
variable {prog : Program} {w : World} {A : Around} {E : Value → Shared → Prop} {s : Shared}
def sIx (n d : Nat) : Option Int → Nat
  | none => d
  | some v => if v < 0 then (v + (n : Int)).toNat else min v.toNat n
theorem sIx_none (n d : Nat) : sIx n d none = d := rfl
theorem sIx_le (n d : Nat) (hd : d ≤ n) (o : Option Int) : sIx n d o ≤ n := by
  cases o with
  | none => exact hd
  | some v =>
    show (if v < 0 then (v + (n : Int)).toNat else min v.toNat n) ≤ n
    by_cases hv : v < 0
    · rw [if_pos hv]; omega
    · rw [if_neg hv]; exact Nat.min_le_right _ _
theorem clip_eq (v : Int) (n d : Nat) : (if v < 0 then max (v + (n : Int)) 0 else min v (n : Int)) = ((sIx n d (some v) : Nat) : Int) := by
  show (if v < 0 then max (v + (n : Int)) 0 else min v (n : Int)) = (((if v < 0 then (v + (n : Int)).toNat else min v.toNat n) : Nat) : Int)
  by_cases hv : v < 0
  · simp only [if_pos hv]; omega
  · simp only [if_neg hv]; omega
theorem adjust_gen (lo hi : Option Int) (n : Nat) : Builtin.Slice.sliceAdjust lo hi 1 (n : Int) = (((sIx n 0 lo : Nat) : Int), ((sIx n n hi : Nat) : Int)) := by
  have h1 : ¬ ((1 : Int) < 0) := by omega
  unfold Builtin.Slice.sliceAdjust
  simp only [h1, if_false]
  refine Prod.ext ?_ ?_
  · cases lo with
    | none => rfl
    | some v => exact clip_eq v n 0
  · cases hi with
    | none => rfl
    | some v => exact clip_eq v n n
theorem places_gen (i j : Nat) : Builtin.Slice.slicePlaces (i : Int) (j : Int) 1 = j - i := by
  unfold Builtin.Slice.slicePlaces
  have h1 : (1 : Int) > 0 := by omega
  simp only [h1, if_true, Int.ediv_one]
  split <;> omega
theorem slicePart_ {v : Value} {o : Option Int} {Q : Option Int → Shared → Prop} (p : IsPart v o) (h : Q o s) : wpAny (model prog w) A (Builtin.Slice.slicePartIndex v) Q E s := by
  cases p with
  | none => exact slicePart_none h
  | int i t => exact slicePart_int h
theorem sliceApplied_gen {sl : Addr} {vl vu : Value} {lo hi : Option Int} {n : Nat} {Q : Int × Int × Nat → Shared → Prop} (hs : s.heap.IsSliceOf sl vl vu .none) (pl : IsPart vl lo) (pu : IsPart vu hi)
    (h : Q (((sIx n 0 lo : Nat) : Int), 1, sIx n n hi - sIx n 0 lo) s) : wpAny (model prog w) A (Builtin.Slice.sliceApplied (.ref sl) (pure (n : Int))) Q E s := by
  obtain ⟨os, hos, hcs, hds⟩ := id hs
  unfold Builtin.Slice.sliceApplied Builtin.Slice.sliceFields
  refine wpAny_bind (wpAny_bind (wpAny_field hos hds (x := vl) rfl (wpAny_bind (wpAny_field hos hds (x := vu) rfl (wpAny_bind (wpAny_field hos hds (x := .none) rfl (wpAny_pure ?_)))))))
  refine wpAny_bind (slicePart_none ?_)
  show wpAny _ _ (if ((1 : Int) == 0) = true then _ else _) _ _ s
  rw [if_neg (by decide)]
  refine wpAny_bind (slicePart_ pl (wpAny_bind (slicePart_ pu (wpAny_bind (wpAny_pure ?_)))))
  show wpAny _ _ (match Builtin.Slice.sliceAdjust lo hi 1 (n : Int) with | (lo, hi) => pure (lo, (1 : Int), Builtin.Slice.slicePlaces lo hi 1)) _ _ s
  rw [adjust_gen lo hi n]
  show wpAny _ _ (pure (((sIx n 0 lo : Nat) : Int), (1 : Int), Builtin.Slice.slicePlaces ((sIx n 0 lo : Nat) : Int) ((sIx n n hi : Nat) : Int) 1)) _ _ s
  rw [places_gen]
  exact wpAny_pure h
theorem pick_gen (xs : Array Value) (i k : Nat) : ((List.range k).filterMap fun (m : Nat) => xs[((i : Int) + (m : Int) * 1).toNat]?).toArray = ((xs.toList.drop i).take k).toArray := by
  have e : (fun (m : Nat) => xs[((i : Int) + (m : Int) * 1).toNat]?) = fun m => xs[i + m]? := by
    funext m
    have : ((i : Int) + (m : Int) * 1).toNat = i + m := by omega
    rw [this]
  rw [e]
  have := pick_run xs i k
  rw [List.filterMap_map] at this
  have e2 : ((fun x => xs[x]?) ∘ fun x => i + x) = fun m => xs[i + m]? := rfl
  rw [e2] at this
  rw [this]
theorem getItem_tuple_cut {t sl : Addr} {items : Array Value} {vl vu : Value} {lo hi : Option Int} {Q : Value → Shared → Prop} (ht : IsTup s.heap t items) (hs : s.heap.IsSliceOf sl vl vu .none) (pl : IsPart vl lo) (pu : IsPart vu hi)
    (hw : ¬ (sIx items.size 0 lo = 0 ∧ sIx items.size items.size hi = items.size))
    (h : Q (.ref s.heap.objs.size) { s with heap := s.heap.push { cls := .type "tuple", data := .seq ((items.toList.drop (sIx items.size 0 lo)).take (sIx items.size items.size hi - sIx items.size 0 lo)).toArray } })
    (hsz : items.size ≤ sizeLine) : wpAny (model prog w) A (getItem (.ref t) (.ref sl)) Q E s := by
  have htake : sizeOk (.seq ((items.toList.drop (sIx items.size 0 lo)).take (sIx items.size items.size hi - sIx items.size 0 lo)).toArray) := by
    show ((items.toList.drop (sIx items.size 0 lo)).take (sIx items.size items.size hi - sIx items.size 0 lo)).toArray.size ≤ sizeLine
    rw [List.size_toArray, List.length_take, List.length_drop, Array.length_toList]
    omega
  have hj : sIx items.size items.size hi ≤ items.size := sIx_le _ _ (Nat.le_refl _) hi
  obtain ⟨os, hos, hcs, hds⟩ := id hs
  have hTs : s.TypeIs (.ref sl) "slice" := ⟨os, hos, hcs⟩
  unfold getItem
  try with_reducible refine wpAny_holding ?_
  first | refine wpAny_bind (wpAny_pure ?_) | skip
  refine wpAny_bind (wpAny_sequenceKey ht.typeIs (by decide) ?_)
  refine wpAny_bind (wpAny_callSpecial?_slot (name := Str.ofString "__getitem__") ht.typeIs PyProof.Rows.slot_tuple_getitem
    (wpAny_call_entry PyProof.Rows.slot_tuple_getitem ht.typeIs entry_tuple_getitem ?_ (args_tuple_getitem _ _)))
  show wpAny _ _ (Builtin.Tuple.tupleItemsOf (.ref t) >>= _) _ _ s
  refine wpAny_bind (tupleItemsOf_ ht ?_)
  refine wpAny_bind (wpAny_typeOf hTs ?_)
  rw [if_pos (by decide)]
  refine wpAny_bind (sliceApplied_gen hs pl pu ?_)
  have hno : ¬ ((((sIx items.size 0 lo : Nat) : Int) == 0 && (1 : Int) == 1 && (sIx items.size items.size hi - sIx items.size 0 lo) == items.size) = true) := by
    intro q
    rw [Bool.and_eq_true, Bool.and_eq_true] at q
    have q1 : ((sIx items.size 0 lo : Nat) : Int) = 0 := eq_of_beq q.1.1
    have q2 : sIx items.size items.size hi - sIx items.size 0 lo = items.size := eq_of_beq q.2
    exact hw ⟨by omega, by omega⟩
  show wpAny _ _ (if (((sIx items.size 0 lo : Nat) : Int) == 0 && (1 : Int) == 1 && (sIx items.size items.size hi - sIx items.size 0 lo) == items.size) = true then _ else _) _ _ s
  rw [if_neg hno, pick_gen]
  first
    | exact wpAny_bind (m := Builtin.Tuple.tupleExact _) (wpAny_newObj_type (wpAny_pure ⟨_, rfl, wpAny_pure h⟩) htake)
    | exact wpAny_bind (m := Builtin.Tuple.tupleExact _) (wpAny_newObj_type (wpAny_bind (wpAny_pure (wpAny_pure ⟨_, rfl, wpAny_pure h⟩))) htake)
    | exact wpAny_bind (wpAny_bind (m := Builtin.Tuple.tupleExact _) (wpAny_newObj_type (wpAny_pure (wpAny_pure ⟨_, rfl, wpAny_pure h⟩)) htake))
    | exact wpAny_bind (wpAny_bind (m := Builtin.Tuple.tupleExact _) (wpAny_newObj_type (wpAny_pure ⟨_, rfl, wpAny_pure h⟩) htake))
end
end HT
namespace L2
open PySem PySem.Spec PyProof.Rows
abbrev TO := St → Hp → (Option Int → Hp → Prop) → Prop
def PO (X : Cx) (e : Option Expr) (t : TO) : Prop :=
  ∀ (pins : List (Addr × Obj)) (s : Shared) (σ : St) (H : Hp) (Q : Option Int → Hp → Prop), Inv X pins σ H s → t σ H Q →
    wpAny (model X.prog X.w) X.A (evalPart e X.env) (fun u s' => ∃ o H', Inv X pins σ H' s' ∧ IsPart u o ∧ Q o H') X.xe s
def tNoPart : TO := fun _ H Q => Q none H
def tPart (t : TE) : TO := fun σ H Q => t σ H fun x H1 => ∃ i, x = .int i ∧ Q (some i) H1
section
variable {X : Cx} {e : Expr} {te : TE} {lo hi : Option Expr} {tl th : TO} {pos p2 : Pos}
theorem po_none : PO X none tNoPart := by
  intro pins s σ H Q I h
  rw [evalPart_none]
  exact wpAny_pure ⟨none, H, I, .none, h⟩
theorem po_some (h : PE X e te) : PO X (some e) (tPart te) := by
  intro pins s σ H Q I hw
  rw [evalPart_some]
  refine thn (h pins s σ H _ I hw) fun u s1 ⟨x, H1, I1, r1, q1⟩ => ?_
  obtain ⟨i, rfl, q⟩ := q1
  obtain ⟨t, rfl⟩ := r1
  exact ⟨some i, H1, I1, .int i t, q⟩
def SlR (X : Cx) (r : V → Option Int → Option Int → Hp → VK → Prop) : Prop :=
  ∀ (pins : List (Addr × Obj)) (s : Shared) (σ : St) (H : Hp) (x : V) (v vl vu : Value) (lo hi : Option Int) (sl : Addr) (Q : VK), Inv X pins σ H s → RelV x v → s.heap.IsSliceOf sl vl vu .none → IsPart vl lo → IsPart vu hi → r x lo hi H Q →
    ∃ T id, typeLookup (.type T) "__getitem__" = pure (some (.builtin id)) ∧ s.TypeIs v T ∧ wpAny (model X.prog X.w) X.A (getItem v (.ref sl)) (EP X pins σ Q) X.xe s
theorem SlR.or {r r' : V → Option Int → Option Int → Hp → VK → Prop} (h : SlR X r) (h' : SlR X r') : SlR X (fun x lo hi H Q => r x lo hi H Q ∨ r' x lo hi H Q) := by
  intro pins s σ H x v vl vu lo hi sl Q I rx hs pl pu q
  rcases q with q | q
  · exact h pins s σ H x v vl vu lo hi sl Q I rx hs pl pu q
  · exact h' pins s σ H x v vl vu lo hi sl Q I rx hs pl pu q
def tSl (r : V → Option Int → Option Int → Hp → VK → Prop) (te : TE) (tl th : TO) : TE := fun σ H Q => te σ H fun x H1 => tl σ H1 fun l H2 => th σ H2 fun u H3 => r x l u H3 Q
theorem pe_slice {r : V → Option Int → Option Int → Hp → VK → Prop} (hr : SlR X r) (he : PE X e te) (hl : PO X lo tl) (hu : PO X hi th) : PE X (.Subscript e (.Slice lo hi none p2) pos) (tSl r te tl th) := by
  intro pins s σ H Q I h
  refine Subscript_ (thn (he pins s σ H _ I h) fun v s1 ⟨x, H1, I1, r1, q1⟩ => ?_)
  refine wpAny_Slice (thn (hl pins s1 σ H1 _ I1 q1) fun vl s2 ⟨l, H2, I2, pl, q2⟩ => thn (hu pins s2 σ H2 _ I2 q2) fun vu s3 ⟨u, H3, I3, pu, q3⟩ => ?_)
  rw [evalPart_none]
  refine wpAny_pure ?_
  have I4 : Inv X pins σ H3 { s3 with heap := s3.heap.push { cls := .type "slice", data := .fields #[vl, vu, .none] } } := I3.kept (t' := s3.toks) fun b ob q => Heap.get?_push_of_some _ q
  obtain ⟨T, id, hT, ht, hg⟩ := hr pins { s3 with heap := s3.heap.push { cls := .type "slice", data := .fields #[vl, vu, .none] } } σ H3 x v vl vu l u s3.heap.objs.size Q I4 r1 (Heap.IsSliceOf.new ..) pl pu q3
  show wpAny (model X.prog X.w) X.A (subscriptTail e (.Slice lo hi none p2) v (.ref s3.heap.objs.size)) (EP X pins σ Q) X.xe { s3 with heap := s3.heap.push { cls := .type "slice", data := .fields #[vl, vu, .none] } }
  exact tail_any (ops := [.ref s3.heap.objs.size, v]) ht hT hg (by with_unfolding_all rfl)
def cutV (xs : List V) (lo hi : Option Int) : List V := (xs.drop (HT.sIx xs.length 0 lo)).take (HT.sIx xs.length xs.length hi - HT.sIx xs.length 0 lo)
theorem cutV_length (xs : List V) (lo hi : Option Int) : (cutV xs lo hi).length ≤ xs.length := by
  unfold cutV
  rw [List.length_take, List.length_drop]
  omega
def rSlT (K : PySem.W.Frag) : V → Option Int → Option Int → Hp → VK → Prop := fun x lo hi H Q => ∃ a xs, x = .ref a ∧ SqT K H a xs ∧
  ¬ (HT.sIx xs.length 0 lo = 0 ∧ HT.sIx xs.length xs.length hi = xs.length) ∧ ∀ p, H p = none → Q (.ref p) (upd H p (.tup (cutV xs lo hi)))
theorem sl_tup : SlR X (rSlT X.K) := by
  intro pins s σ H x v vl vu lo hi sl Q I rx hs pl pu h
  obtain ⟨a, xs, rfl, hx, hw, q⟩ := h
  cases rx
  obtain ⟨its, r, ht, hz⟩ := I.tuple hx
  have hlen : its.toArray.size = xs.length := by rw [List.size_toArray]; exact r.length.symm
  refine ⟨"tuple", _, PyProof.Rows.slot_tuple_getitem.lookup, ht.typeIs, ?_⟩
  refine HT.getItem_tuple_cut ht hs pl pu (by rw [hlen]; exact hw) ?_ (by rw [hlen]; exact hz)
  rw [hlen]
  refine ⟨.ref s.heap.objs.size, _, I.laid (t' := s.toks) (o := .tup (cutV xs lo hi)) (fun b ob q => Heap.get?_push_of_some _ q) (Nat.le_refl _) ?_, rfl, q _ (I.hok.fresh (Nat.le_refl _))⟩
  exact ⟨Nat.le_trans (cutV_length xs lo hi) hz, _, (r.drop (HT.sIx xs.length 0 lo)).take (HT.sIx xs.length xs.length hi - HT.sIx xs.length 0 lo), IsTup.new _ _⟩
end
end L2
namespace L2
open PySem PySem.Spec PyProof.Rows
def ixN (n : Nat) (i : Int) : Option Nat := if 0 ≤ i then (if i < n then some i.toNat else none) else if -(n : Int) ≤ i then some (i + n).toNat else none
def atI {α : Type} (xs : List α) (i : Int) : Option α := (ixN xs.length i).bind fun j => xs[j]?
theorem ixN_seq {n : Nat} {i : Int} {j : Nat} (h : ixN n i = some j) : seqIndex? i n = some j ∧ j < n ∧ -(n : Int) ≤ i ∧ i < n := by
  unfold ixN at h
  by_cases h0 : 0 ≤ i
  · rw [if_pos h0] at h
    by_cases h1 : i < n
    · rw [if_pos h1] at h
      have e : i.toNat = j := Option.some.inj h
      exact ⟨by rw [seqIndex_of h0 h1, e], by omega, by omega, h1⟩
    · rw [if_neg h1] at h; cases h
  · rw [if_neg h0] at h
    by_cases h1 : -(n : Int) ≤ i
    · rw [if_pos h1] at h
      have e : (i + n).toNat = j := Option.some.inj h
      exact ⟨by rw [seqIndex_neg (by omega) h1, e], by omega, h1, by omega⟩
    · rw [if_neg h1] at h; cases h
theorem atI_get {α : Type} {xs : List α} {i : Int} {v : α} (h : atI xs i = some v) : ∃ j, seqIndex? i xs.length = some j ∧ xs[j]? = some v ∧ j < xs.length ∧ -(xs.length : Int) ≤ i ∧ i < xs.length := by
  unfold atI at h
  cases e : ixN xs.length i with
  | none => rw [e] at h; cases h
  | some j =>
    rw [e] at h
    obtain ⟨h1, h2, h3, h4⟩ := ixN_seq e
    exact ⟨j, h1, h, h2, h3, h4⟩
theorem atI_nat {α : Type} {xs : List α} {j : Nat} {v : α} (h : xs[j]? = some v) : atI xs (j : Int) = some v := by
  have hj : j < xs.length := (List.getElem?_eq_some_iff.mp h).1
  have e : ixN xs.length (j : Int) = some j := by
    unfold ixN
    rw [if_pos (by omega), if_pos (by omega)]; simp
  unfold atI; rw [e]; exact h
def PlainIx (b : Expr) : Prop := ∀ o i, subscripted b false o i = operate [o, i] (getItem o i)
def IxR (X : Cx) (r : R2) : Prop :=
  ∀ (value slice : Expr) (pins : List (Addr × Obj)) (s : Shared) (σ : St) (H : Hp) (x y : V) (v u : Value) (Q : VK), Inv X pins σ H s → RelV x v → RelV y u → r x y H Q →
    subscripted slice false v u = operate [v, u] (getItem v u) → wpAny (model X.prog X.w) X.A (subscriptTail value slice v u) (EP X pins σ Q) X.xe s
def MtR (X : Cx) (id : String) (r : V → List V → Hp → VK → Prop) : Prop :=
  ∀ (pins : List (Addr × Obj)) (s : Shared) (σ : St) (H : Hp) (x : V) (xs : List V) (v : Value) (us : List Value) (Q : VK), Inv X pins σ H s → RelV x v → Vals xs us → r x xs H Q →
    wpAny (model X.prog X.w) X.A (call (.builtin id) (v :: us)) (EP X pins σ Q) X.xe s
section
variable {X : Cx} {a b : Expr} {ta tb : TE} {pos : Pos}
theorem IxR.or {r r' : R2} (h : IxR X r) (h' : IxR X r') : IxR X (fun x y H Q => r x y H Q ∨ r' x y H Q) := by
  intro value slice pins s σ H x y v u Q I rx ry q hs
  rcases q with q | q
  · exact h value slice pins s σ H x y v u Q I rx ry q hs
  · exact h' value slice pins s σ H x y v u Q I rx ry q hs
theorem MtR.or {id : String} {r r' : V → List V → Hp → VK → Prop} (h : MtR X id r) (h' : MtR X id r') : MtR X id (fun x xs H Q => r x xs H Q ∨ r' x xs H Q) := by
  intro pins s σ H x xs v us Q I rx rs q
  rcases q with q | q
  · exact h pins s σ H x xs v us Q I rx rs q
  · exact h' pins s σ H x xs v us Q I rx rs q
theorem pe_ix {r : R2} (hr : IxR X r) (ha : PE X a ta) (hb : PE X b tb) (hs : PlainIx b) : PE X (.Subscript a b pos) (tOp r ta tb) := by
  intro pins s σ H Q I h
  exact Subscript_ (binT ha hb I h fun v u s2 x y H2 I2 rx ry q => hr a b pins s2 σ H2 x y v u Q I2 rx ry q (hs _ _))
def rIxL (K : PySem.W.Frag) : R2 := fun x y H Q => ∃ p xs i v, x = .ref p ∧ y = .int i ∧ SqL K H p xs ∧ atI xs i = some v ∧ Q v H
def rIxT (K : PySem.W.Frag) : R2 := fun x y H Q => ∃ p xs i v, x = .ref p ∧ y = .int i ∧ SqT K H p xs ∧ atI xs i = some v ∧ Q v H
theorem ix_list : IxR X (rIxL X.K) := by
  intro value slice pins s σ H x y v u Q I rx ry h hs
  obtain ⟨p, xs, i, z, rfl, rfl, hq, he, q⟩ := h
  cases rx
  obtain ⟨t, rfl⟩ := ry
  obtain ⟨its, r, pl, hz⟩ := I.list hq
  obtain ⟨j, h1, h2, h3, h4, h5⟩ := atI_get he
  obtain ⟨w, ew, rw'⟩ := r.get h2
  have hl := r.length
  have hn := line63
  have fin : EP X pins σ Q w s := ⟨z, H, I, rw', q⟩
  by_cases h0 : 0 ≤ i
  · have hj : i.toNat = j := by
      rw [seqIndex_of h0 h5] at h1
      exact Option.some.inj h1
    exact item_listR pl.isList h0 (by omega) (by rw [hj]; simpa using ew) fin hs
  · have hj : (i + (its.toArray.size : Int)).toNat = j := by
      rw [seqIndex_neg (by omega) h4] at h1
      rw [List.size_toArray, ← hl]
      exact Option.some.inj h1
    exact subscriptTail_builtinR (x := w) pl.isList.typeIs slot_list_getitem.lookup
      (wpAny_getItem_list_neg (Q := fun r s' => r = w ∧ EP X pins σ Q r s') pl.isList (by omega) (by rw [List.size_toArray] <;> omega) (by omega) (by rw [hj]; simpa using ew) ⟨rfl, fin⟩) hs
theorem ix_tup : IxR X (rIxT X.K) := by
  intro value slice pins s σ H x y v u Q I rx ry h hs
  obtain ⟨p, xs, i, z, rfl, rfl, hq, he, q⟩ := h
  cases rx
  obtain ⟨t, rfl⟩ := ry
  obtain ⟨its, r, pl, hz⟩ := I.tuple hq
  obtain ⟨j, h1, h2, h3, h4, h5⟩ := atI_get he
  obtain ⟨w, ew, rw'⟩ := r.get h2
  have hl := r.length
  have hn := line63
  have fin : EP X pins σ Q w s := ⟨z, H, I, rw', q⟩
  exact subscriptTail_builtinR (x := w) pl.typeIs slot_tuple_getitem.lookup
    (getItem_tuple (j := j) (Q := fun r s' => r = w ∧ EP X pins σ Q r s') pl (by omega) (by omega) (by rw [List.size_toArray, ← hl]; exact h1) (by simpa using ew) ⟨rfl, fin⟩) hs
theorem Inv.lst {pins : List (Addr × Obj)} {σ : St} {H : Hp} {s : Shared} {p : Addr} {xs : List V} (I : Inv X pins σ H s) (h : H p = some (.lst xs)) :
    ∃ (its : List Value) (n : Nat), Vals xs its ∧ s.heap.get? p = some { cls := .type "list", data := .seq its.toArray n } ∧ xs.length ≤ sizeLine := by
  obtain ⟨z, its, n, r, e⟩ := I.hok p _ h
  exact ⟨its, n, r, e, z⟩
theorem slice_bounds (lo hi : Option Int) (n : Nat) : (sliceBounds lo hi none n).1 = ((HT.sIx n 0 lo : Nat) : Int) ∧ (sliceBounds lo hi none n).2.1 = ((HT.sIx n n hi : Nat) : Int) ∧ (sliceBounds lo hi none n).2.2 = 1 := by
  refine ⟨?_, ?_, rfl⟩
  · cases lo with
    | none => simp [sliceBounds, HT.sIx]
    | some i =>
      simp only [sliceBounds, HT.sIx, Option.getD_none, show (1 : Int) > 0 by decide, if_true]
      by_cases h : i < 0
      · simp only [h, if_true] <;> omega
      · simp only [h, if_false] <;> omega
  · cases hi with
    | none => simp [sliceBounds, HT.sIx]
    | some i =>
      simp only [sliceBounds, HT.sIx, Option.getD_none, show (1 : Int) > 0 by decide, if_true]
      by_cases h : i < 0
      · simp only [h, if_true] <;> omega
      · simp only [h, if_false] <;> omega
theorem slicePick_cut (its : List Value) (lo hi : Option Int) : slicePick its.toArray lo hi none = ((its.drop (HT.sIx its.length 0 lo)).take (HT.sIx its.length its.length hi - HT.sIx its.length 0 lo)).toArray := by
  obtain ⟨h1, h2, h3⟩ := slice_bounds lo hi its.toArray.size
  unfold slicePick
  rw [h1, h2, h3]
  simp only [sliceRange_one, pick_run, List.size_toArray] <;> rfl
def rSlL (K : PySem.W.Frag) : V → Option Int → Option Int → Hp → VK → Prop := fun x lo hi H Q => ∃ a xs, x = .ref a ∧ SqL K H a xs ∧ ∀ p, H p = none → Q (.ref p) (upd H p (.lst (cutV xs lo hi)))
theorem sl_list : SlR X (rSlL X.K) := by
  intro pins s σ H x v vl vu lo hi sl Q I rx hs pl pu h
  obtain ⟨a, xs, rfl, hx, q⟩ := h
  cases rx
  obtain ⟨its, r, ht, hz⟩ := I.list hx
  have hlen := r.length
  refine ⟨"list", _, slot_list_getitem.lookup, ht.isList.typeIs, ?_⟩
  refine wpAny_getItem_list_slice ht.isList hs pl pu .none (by simp) ?_ (by rw [List.size_toArray] <;> omega)
  rw [slicePick_cut, ← hlen]
  refine ⟨.ref s.heap.objs.size, _, I.laid (t' := s.toks) (o := .lst (cutV xs lo hi)) (fun b ob q => Heap.get?_push_of_some _ q) (Nat.le_refl _) ?_, rfl, q _ (I.hok.fresh (Nat.le_refl _))⟩
  exact ⟨Nat.le_trans (cutV_length xs lo hi) hz, _, 0, (r.drop (HT.sIx xs.length 0 lo)).take (HT.sIx xs.length xs.length hi - HT.sIx xs.length 0 lo), Heap.get?_push_size _ rfl⟩
def flatV : V → Bool
  | .non => true
  | .bl _ => true
  | .int _ => true
  | .str _ => true
  | _ => false
def eqV : V → V → Bool
  | .non, .non => true
  | .bl a, .bl b => a == b
  | .bl a, .int b => (if a then 1 else 0) == b
  | .int a, .bl b => a == (if b then 1 else 0)
  | .int a, .int b => a == b
  | .str a, .str b => a == b
  | _, _ => false
theorem eqAt_V {A : Around} {s : Shared} {y x : V} {u v : Value} (ry : RelV y u) (rx : RelV x v) (fy : flatV y = true) (fx : flatV x = true) : SeqAt.EqAt A s u v (eqV y x) := by
  cases y with
  | non =>
    cases ry
    cases x with
    | non => cases rx; exact SeqAt.EqAt.same _
    | bl b => cases rx; exact SeqAt.EqAt.none_bool b
    | int b => obtain ⟨t, rfl⟩ := rx; exact SeqAt.EqAt.none_int b t
    | str b => obtain ⟨t, rfl⟩ := rx; exact SeqAt.EqAt.none_str b t
    | _ => exact absurd (show false = true from fx) Bool.false_ne_true
  | bl a =>
    cases ry
    cases x with
    | non => cases rx; exact SeqAt.EqAt.bool_none a
    | bl b => cases rx; exact SeqAt.EqAt.bool_bool a b
    | int b => obtain ⟨t, rfl⟩ := rx; exact SeqAt.EqAt.bool_int a b t
    | str b => obtain ⟨t, rfl⟩ := rx; exact SeqAt.EqAt.bool_str a b t
    | _ => exact absurd (show false = true from fx) Bool.false_ne_true
  | int a =>
    obtain ⟨t', rfl⟩ := ry
    cases x with
    | non => cases rx; exact SeqAt.EqAt.int_none a t'
    | bl b => cases rx; exact SeqAt.EqAt.int_bool a t' b
    | int b => obtain ⟨t, rfl⟩ := rx; exact SeqAt.EqAt.int_int a t' b t
    | str b => obtain ⟨t, rfl⟩ := rx; exact SeqAt.EqAt.int_str a t' b t
    | _ => exact absurd (show false = true from fx) Bool.false_ne_true
  | str a =>
    obtain ⟨t', rfl⟩ := ry
    cases x with
    | non => cases rx; exact SeqAt.EqAt.str_none a t'
    | bl b => cases rx; exact SeqAt.EqAt.str_bool a t' b
    | int b => obtain ⟨t, rfl⟩ := rx; exact SeqAt.EqAt.str_int a t' b t
    | str b => obtain ⟨t, rfl⟩ := rx; exact SeqAt.EqAt.str_str a t' b t
    | _ => exact absurd (show false = true from fx) Bool.false_ne_true
  | _ => exact absurd (show false = true from fy) Bool.false_ne_true
def eqU (x : V) (u : Value) : Bool := match u with
  | .none => eqV .non x
  | .bool b => eqV (.bl b) x
  | .int i _ => eqV (.int i) x
  | .str z _ => eqV (.str z) x
  | _ => false
theorem eqU_of {x y : V} {u : Value} (r : RelV y u) (f : flatV y = true) : eqU x u = eqV y x := by
  cases y with
  | non => cases r; rfl
  | bl b => cases r; rfl
  | int i => obtain ⟨t, rfl⟩ := r; rfl
  | str z => obtain ⟨t, rfl⟩ := r; rfl
  | _ => exact absurd (show false = true from f) Bool.false_ne_true
theorem any_eqU {x : V} : ∀ {xs : List V} {us : List Value}, Vals xs us → xs.all flatV = true → us.any (eqU x) = xs.any fun y => eqV y x
  | _, _, .nil, _ => rfl
  | y :: xs, u :: us, .cons r t, f => by
    rw [List.all_cons, Bool.and_eq_true] at f
    rw [List.any_cons, List.any_cons, eqU_of r f.1, any_eqU t f.2]
theorem mem_eqAt {A : Around} {s : Shared} {x : V} {v : Value} (rx : RelV x v) (fx : flatV x = true) : ∀ {xs : List V} {us : List Value}, Vals xs us → xs.all flatV = true → ∀ u ∈ us, SeqAt.EqAt A s u v (eqU x u)
  | _, _, .nil, _ => fun u hu => by cases hu
  | y :: xs, u :: us, .cons r t, f => fun u' hu => by
    rw [List.all_cons, Bool.and_eq_true] at f
    rcases List.mem_cons.mp hu with rfl | hu
    · rw [eqU_of r f.1]; exact eqAt_V r rx f.1 fx
    · exact mem_eqAt rx fx t f.2 u' hu
def inV (x : V) (xs : List V) : Bool := xs.any fun y => eqV y x
def rIn (K : PySem.W.Frag) (neg : Bool) : R2 := fun x y H Q => ∃ p xs, y = .ref p ∧ (SqL K H p xs ∨ SqT K H p xs) ∧ flatV x = true ∧ xs.all flatV = true ∧ Q (.bl (if neg then !inV x xs else inV x xs)) H
theorem op_in_seq : OpR X (compareOp .In) (rIn X.K false) := by
  intro pins s σ H x y v u Q I rx ry h
  obtain ⟨p, xs, rfl, hq, fx, fs, q⟩ := h
  cases ry
  rcases hq with hq | hq
  · obtain ⟨its, r, pl, hz⟩ := I.list hq
    refine SeqAt.in_listAt (eqU x) pl.isList (fun w hw => mem_eqAt rx fx r fs w (by simpa using hw)) ⟨.bl _, H, I, rfl, ?_⟩
    rw [show its.toArray.any (eqU x) = its.any (eqU x) by simp, any_eqU r fs]
    exact q
  · obtain ⟨its, r, pl, hz⟩ := I.tuple hq
    refine SeqAt.in_tupleAt (eqU x) pl (fun w hw => mem_eqAt rx fx r fs w (by simpa using hw)) ⟨.bl _, H, I, rfl, ?_⟩
    rw [show its.toArray.any (eqU x) = its.any (eqU x) by simp, any_eqU r fs]
    exact q
theorem call_len_seq : CallR X (.builtin "len") (fun xs H Q => ∃ p ys, xs = [.ref p] ∧ (SqL X.K H p ys ∨ SqT X.K H p ys) ∧ Q (.int ys.length) H) := by
  intro pins s σ H xs us Q I r h
  obtain ⟨p, ys, rfl, hq, q⟩ := h
  obtain ⟨u, rfl, rx⟩ := vals1 r
  cases rx
  have hn := line63
  rcases hq with hq | hq
  · obtain ⟨its, r', pl, hz⟩ := I.list hq
    have hlen := r'.length
    exact Calls.call_len_list pl.isList (by simp only [List.size_toArray] <;> omega) ⟨.int ys.length, H, I.tok _, ⟨s.toks + 1, by rw [List.size_toArray, hlen]⟩, q⟩
  · obtain ⟨its, r', pl, hz⟩ := I.tuple hq
    have hlen := r'.length
    exact len_tuple pl (by simp only [List.size_toArray] <;> omega) ⟨.int ys.length, H, I.tok _, ⟨s.toks + 1, by rw [List.size_toArray, hlen]⟩, q⟩
theorem call_len_str : CallR X (.builtin "len") (fun xs H Q => ∃ z, xs = [.str z] ∧ z.length ≤ sizeLine ∧ Q (.int z.length) H) := by
  intro pins s σ H xs us Q I r h
  obtain ⟨z, rfl, hz, q⟩ := h
  obtain ⟨u, rfl, t, rfl⟩ := vals1 r
  have hn := line63
  exact len_str (by omega) ⟨.int z.length, H, I.tok _, ⟨_, rfl⟩, q⟩
theorem CallR.or {f : Value} {r r' : List V → Hp → VK → Prop} (h : CallR X f r) (h' : CallR X f r') : CallR X f (fun xs H Q => r xs H Q ∨ r' xs H Q) := by
  intro pins s σ H xs us Q I rs q
  rcases q with q | q
  · exact h pins s σ H xs us Q I rs q
  · exact h' pins s σ H xs us Q I rs q
theorem call_list_of : CallR X (.type "list") (fun xs H Q => ∃ p ys, xs = [.ref p] ∧ (SqL X.K H p ys ∨ SqT X.K H p ys) ∧ ∀ l, H l = none → Q (.ref l) (upd H l (.lst ys))) := by
  intro pins s σ H xs us Q I r h
  obtain ⟨p, ys, rfl, hq, q⟩ := h
  obtain ⟨u, rfl, rx⟩ := vals1 r
  cases rx
  have fin : ∀ (its : List Value), Vals ys its → ys.length ≤ sizeLine → ∀ (h' : Heap) (c' : Nat), (∀ b o', s.heap.get? b = some o' → h'.get? b = some o') →
      h'.get? s.heap.objs.size = some { cls := .type "list", dict := none, data := .seq its.toArray c', slots := #[] } → EP X pins σ Q (.ref s.heap.objs.size) { s with heap := h' } := fun its r' hz h' c' kp e =>
    ⟨.ref s.heap.objs.size, _, I.laid (t' := s.toks) kp (Nat.le_refl _) (show ObjOk X.prog X.w _ h' _ (.lst ys) from ⟨hz, its, c', r', e⟩), rfl, q _ (I.hok.fresh (Nat.le_refl _))⟩
  rcases hq with hq | hq
  · obtain ⟨its, r', pl, hz⟩ := I.list hq
    have hlen := r'.length
    obtain ⟨o, ho, hc, n, hd⟩ := pl.isList
    exact call_list_seq p (.inl rfl) ho hc hd (fun h' c' kp e => fin its r' hz h' c' kp e) (by simp only [List.size_toArray] <;> omega)
  · obtain ⟨its, r', pl, hz⟩ := I.tuple hq
    have hlen := r'.length
    obtain ⟨o, ho, hc, n, hd⟩ := pl
    exact call_list_seq p (.inr rfl) ho hc hd (fun h' c' kp e => fin its r' hz h' c' kp e) (by simp only [List.size_toArray] <;> omega)
def tyV (K : PySem.W.Frag) (T : String) (x : V) (H : Hp) : Prop := match x with
  | .str _ => T = "str"
  | .int _ => T = "int"
  | .ref p => (T = "list" ∧ ∃ xs, SqL K H p xs) ∨ (T = "tuple" ∧ ∃ o, K.lookup p = some o ∧ o.cls = .type "tuple" ∧ o.dict = none) ∨
      (T = "dict" ∧ ((∃ kvs, H p = some (.dK kvs)) ∨ ∃ kvs, H p = some (.dT kvs))) ∨ (T = "set" ∧ ∃ S n, H p = some (.set S n))
  | _ => False
theorem tyV_is {pins : List (Addr × Obj)} {σ : St} {H : Hp} {s : Shared} {T : String} {x : V} {v : Value} (I : Inv X pins σ H s) (r : RelV x v) (ty : tyV X.K T x H) :
    s.TypeIs v T ∧ ∀ a, v = .ref a → ∃ ob, s.heap.get? a = some ob ∧ ob.dict = none := by
  cases x with
  | str z =>
    obtain ⟨t, rfl⟩ := r
    cases (show T = "str" from ty)
    exact ⟨typeIs_str s z t, fun _ e => nomatch e⟩
  | int i =>
    obtain ⟨t, rfl⟩ := r
    cases (show T = "int" from ty)
    exact ⟨typeIs_int s i t, fun _ e => nomatch e⟩
  | ref p =>
    cases r
    rcases ty with ⟨rfl, xs, hq⟩ | ⟨rfl, o, hk, hc, hd⟩ | ⟨rfl, hk⟩ | ⟨rfl, S, n, hk⟩
    · obtain ⟨its, _, pl, _⟩ := I.list hq
      refine ⟨pl.isList.typeIs, fun a e => ?_⟩
      cases e
      obtain ⟨o, n, e, c, hd, _⟩ := pl
      exact ⟨o, e, hd⟩
    · refine ⟨⟨o, I.kIn p o hk, hc⟩, fun a e => ?_⟩
      cases e
      exact ⟨o, I.kIn _ o hk, hd⟩
    · have z : ∃ o, s.heap.get? p = some o ∧ o.ExactDict := by
        rcases hk with ⟨kvs, hk⟩ | ⟨kvs, hk⟩
        · obtain ⟨_, _, _, _, o, _, _, e, ex, _⟩ := I.hok p _ hk
          exact ⟨o, e, ex⟩
        · obtain ⟨_, _, _, _, o, _, _, e, ex, _⟩ := I.hok p _ hk
          exact ⟨o, e, ex⟩
      obtain ⟨o, e, ex⟩ := z
      refine ⟨⟨o, e, ex.1⟩, fun a e2 => ?_⟩
      cases e2
      exact ⟨o, e, ex.2.1⟩
    · obtain ⟨o, _, _, _, e, ex, _⟩ := I.hok p _ hk
      refine ⟨⟨o, e, ex.1⟩, fun a e2 => ?_⟩
      cases e2
      exact ⟨o, e, ex.2.1⟩
  | _ => exact False.elim ty
def tBM0 (K : PySem.W.Frag) (T : String) (r : V → List V → Hp → VK → Prop) (to : TE) : TE := fun σ H Q => to σ H fun x H1 => tyV K T x H1 ∧ r x [] H1 Q
def tBM (K : PySem.W.Frag) (T : String) (r : V → List V → Hp → VK → Prop) (to : TE) (t : TA) : TE := fun σ H Q => to σ H fun x H1 => tyV K T x H1 ∧ t σ H1 fun xs H2 => r x xs H2 Q
variable {o e : Expr} {es : List Expr} {to : TE} {t : TA} {name : Str} {apos cpos : Pos} {T id : String} {r : V → List V → Hp → VK → Prop}
theorem pe_bm0 (pa : PlainAttrs T) (slot : Slot T name id) (hty : typeOf (.builtin id) = pure (.type "method_descriptor")) (hm : MtR X id r) (ho : PE X o to)
    (hbase : attributeBase o name X.env (eval o X.env) = eval o X.env := by rfl) (hline : (apos.endLine == cpos.line) = true := by rfl) : PE X (.Call (.Attribute o name apos) [] [] cpos) (tBM0 X.K T r to) := by
  intro pins s σ H Q I h
  refine wpAny_Call_method0_late hbase hline (thn (ho pins s σ H _ I h) fun v s1 ⟨x, H1, I1, r1, ty, q1⟩ => ?_)
  obtain ⟨h1, h2⟩ := tyV_is I1 r1 ty
  exact ⟨T, id, pa, slot, hty, h1, h2, Calls.callWith_builtin rfl (PySem.evalArgs_none (hm pins s1 σ H1 x [] v [] Q I1 r1 .nil q1))⟩
theorem pe_bm (pa : PlainAttrs T) (slot : Slot T name id) (hty : typeOf (.builtin id) = pure (.type "method_descriptor")) (hm : MtR X id r) (ho : PE X o to) (ha : PA X (e :: es) t)
    (hbase : attributeBase o name X.env (eval o X.env) = eval o X.env := by rfl)
    (hfew : ((backTo cpos (starEach (e :: es) X.env)).all (fun x => !x.1) && (backToKw cpos (keywordEach [] X.env)).all (fun x => x.1.isSome)
      && decide ((e :: es).length + ([] : List Keyword).length + (if ([] : List Keyword).isEmpty then 0 else 1) < 30)) = true := by rfl)
    (hline : (apos.endLine == cpos.line) = true := by rfl) (hs : starEach (e :: es) X.env = (false, eval e X.env) :: starEach es X.env := by rfl) (hplain : (backTo cpos (starEach es X.env)).any (·.1) = false := by rfl) :
    PE X (.Call (.Attribute o name apos) (e :: es) [] cpos) (tBM X.K T r to t) := by
  intro pins s σ H Q I h
  refine wpAny_Call_method_late hbase hfew hline rfl (thn (ho pins s σ H _ I h) fun v s1 ⟨x, H1, I1, r1, ty, q1⟩ => ?_)
  obtain ⟨h1, h2⟩ := tyV_is I1 r1 ty
  refine ⟨T, id, pa, slot, hty, h1, h2, ?_⟩
  have hA := ha cpos pins s1 σ H1 _ I1 q1
  rw [hs] at hA ⊢
  refine Calls.callWith_builtin (by show (false || (backTo cpos (starEach es X.env)).any (·.1)) = false; rw [hplain] <;> rfl) (Calls.evalArgs_plain ?_)
  exact thn hA fun us s2 ⟨vs, H2, I2, r2, q2⟩ => hm pins s2 σ H2 x vs v us Q I2 r1 r2 q2
end
end L2
namespace L2
open PySem PySem.Spec PyProof.Rows
def MtM (X : Cx) (id : String) (r : V → List V → Hp → VK → Prop) : Prop :=
  ∀ (pins : List (Addr × Obj)) (s : Shared) (σ : St) (H : Hp) (x : V) (xs : List V) (v : Value) (us : List Value) (Q : VK), Inv X pins σ H s → RelV x v → Vals xs us → r x xs H Q →
    wpAny (model X.prog X.w) X.A (call (.builtin id) (v :: us)) (EP X pins σ Q) X.xe s
theorem Vals.one : ∀ {x : V} {us : List Value}, Vals [x] us → ∃ u, us = [u] ∧ RelV x u
  | _, _, .cons r .nil => ⟨_, rfl, r⟩
theorem Vals.two : ∀ {x y : V} {us : List Value}, Vals [x, y] us → ∃ u v, us = [u, v] ∧ RelV x u ∧ RelV y v
  | _, _, _, .cons r (.cons q .nil) => ⟨_, _, rfl, r, q⟩
theorem Vals.zero : ∀ {us : List Value}, Vals [] us → us = []
  | _, .nil => rfl
theorem Vals.dropLast {xs : List V} {us : List Value} (h : Vals xs us) : Vals xs.dropLast us.dropLast := by
  induction h with
  | nil => exact .nil
  | cons r t ih =>
    cases t with
    | nil => exact .nil
    | cons q t' => exact .cons r ih
theorem Vals.eraseIdx : ∀ {xs : List V} {us : List Value} (i : Nat), Vals xs us → Vals (xs.eraseIdx i) (us.eraseIdx i)
  | _, _, _, .nil => .nil
  | _, _, 0, .cons _ t => t
  | _, _, i + 1, .cons r t => .cons r (Vals.eraseIdx i t)
theorem Vals.reverse {xs : List V} {us : List Value} (h : Vals xs us) : Vals xs.reverse us.reverse := by
  induction h with
  | nil => exact .nil
  | cons r t ih => rw [List.reverse_cons, List.reverse_cons]; exact Vals.append ih (.cons r .nil)
theorem erase_last {α : Type} (l : List α) : l.eraseIdx (l.length - 1) = l.dropLast := by
  induction l with
  | nil => rfl
  | cons a r ih =>
    cases r with
    | nil => rfl
    | cons b r =>
      have e : (a :: b :: r).length - 1 = ((b :: r).length - 1) + 1 := by
        have h1 : (a :: b :: r).length = r.length + 2 := rfl
        have h2 : (b :: r).length = r.length + 1 := rfl
        omega
      rw [e, List.eraseIdx_cons_succ, ih]
      all_goals rfl
section
variable {X : Cx} {pins : List (Addr × Obj)} {σ : St} {H : Hp} {s : Shared} {l b : Addr} {xs ys zs : List V}
theorem Inv.lset {its its' : List Value} {n : Nat} {f : Array Value → Array Value} {t' : Nat} (I : Inv X pins σ H s) (hH : H l = some (.lst xs))
    (e : s.heap.get? l = some { cls := .type "list", data := .seq its.toArray n }) (hf : f its.toArray = its'.toArray) (hv : Vals ys its') (hz : ys.length ≤ sizeLine) :
    Inv X pins σ (upd H l (.lst ys)) { s with heap := s.heap.update l (Obj.mapSeq f), toks := t' } := by
  have q := PySem.IsL.update e f
  rw [hf] at q
  refine I.write (x := l) (e := l) (by rw [hH]; exact trivial) (.inl rfl) (fun b' u hb hu => (Heap.get?_update_other s.heap (Obj.mapSeq f) (Ne.symm hb)).trans hu) ⟨_, q⟩ ?_
  exact ⟨hz, its', _, hv, q⟩
theorem Inv.lnew {its : List Value} {t' : Nat} (I : Inv X pins σ H s) (hv : Vals ys its) (hz : ys.length ≤ sizeLine) :
    Inv X pins σ (upd H s.heap.objs.size (.lst ys)) { s with heap := s.heap.push { cls := .type "list", data := .seq its.toArray }, toks := t' } :=
  I.laid (fun _ _ q => Heap.get?_push_of_some _ q) (Nat.le_refl _) ⟨hz, its, 0, hv, Heap.get?_push_size _ rfl⟩
theorem Inv.fresh (I : Inv X pins σ H s) : H s.heap.objs.size = none := I.hok.fresh (Nat.le_refl _)
theorem Inv.lstM (I : Inv X pins σ H s) (hH : H l = some (.lst xs)) : xs.length ≤ sizeLine ∧ ∃ (its : List Value) (n : Nat), Vals xs its ∧ xs.length = its.length ∧ s.heap.get? l = some { cls := .type "list", data := .seq its.toArray n } := by
  obtain ⟨z, its, n, r, e⟩ := I.hok l _ hH
  exact ⟨z, its, n, r, r.length, e⟩
theorem notLongL {n : Nat} (h : n ≤ sizeLine) : Builtin.List.listTooLong n = false := by
  unfold Builtin.List.listTooLong
  exact decide_eq_false (by omega)
end
section
variable {X : Cx}
def rAppend : V → List V → Hp → VK → Prop := fun x vs H Q => ∃ l xs y, x = .ref l ∧ vs = [y] ∧ H l = some (.lst xs) ∧ xs.length < sizeLine ∧ Q .non (upd H l (.lst (xs ++ [y])))
theorem mt_append : MtM X "list.append" rAppend := by
  intro pins s σ H x vs v us Q I rx rv h
  obtain ⟨l, xs, y, rfl, rfl, hH, hz, q⟩ := h
  cases rx
  obtain ⟨u, rfl, ru⟩ := rv.one
  obtain ⟨z, its, n, r, hl, e⟩ := I.lstM hH
  refine call_meets F.slot_list_append ⟨_, e, rfl⟩ F.entry_list_append (F.args_list_append_2 _ _) (PySem.list_append l its.toArray n u (by rw [List.size_toArray]; omega)) ⟨e, ?_⟩
  refine ⟨.non, _, I.lset (its' := its ++ [u]) hH e (by simp) (r.append (.cons ru .nil)) ?_, rfl, q⟩
  rw [List.length_append, List.length_singleton]
  omega
def rExtend : V → List V → Hp → VK → Prop := fun x vs H Q => ∃ l b xs zs, x = .ref l ∧ vs = [.ref b] ∧ H l = some (.lst xs) ∧ H b = some (.lst zs) ∧ xs.length + zs.length ≤ sizeLine ∧ Q .non (upd H l (.lst (xs ++ zs)))
theorem mt_extend : MtM X "list.extend" rExtend := by
  intro pins s σ H x vs v us Q I rx rv h
  obtain ⟨l, b, xs, zs, rfl, rfl, hH, hB, hz, q⟩ := h
  cases rx
  obtain ⟨u, rfl, ru⟩ := rv.one
  cases ru
  obtain ⟨z, its, n, r, hl, e⟩ := I.lstM hH
  obtain ⟨z2, its2, n2, r2, hl2, e2⟩ := I.lstM hB
  have hsz : its.toArray.size + its2.toArray.size ≤ sizeLine := by rw [List.size_toArray, List.size_toArray]; omega
  have hlong : ¬ (!its.toArray.isEmpty && Builtin.List.listTooLong (its.toArray.size + its2.toArray.size)) = true := by
    rw [notLongL hsz, Bool.and_false]
    exact Bool.false_ne_true
  refine call_meets F.slot_list_extend ⟨_, e, rfl⟩ F.entry_list_extend (F.args_list_extend_2 _ _)
    (AutoSeq1.list_extend_list_list_0 l its.toArray n b its2.toArray n2 hlong (by rw [List.size_toArray]; omega) (by omega)) ⟨e, e2, ?_⟩
  refine ⟨.non, _, I.lset (its' := its ++ its2) hH e (by simp) (r.append r2) ?_, rfl, q⟩
  rw [List.length_append]
  omega
def rPop : V → List V → Hp → VK → Prop := fun x vs H Q => ∃ l xs y, x = .ref l ∧ vs = [] ∧ H l = some (.lst xs) ∧ xs[xs.length - 1]? = some y ∧ Q y (upd H l (.lst xs.dropLast))
theorem mt_pop : MtM X "list.pop" rPop := by
  intro pins s σ H x vs v us Q I rx rv h
  obtain ⟨l, xs, y, rfl, rfl, hH, hy, q⟩ := h
  cases rx
  have hus := rv.zero
  subst hus
  obtain ⟨z, its, n, r, hl, e⟩ := I.lstM hH
  obtain ⟨u, hu, ru⟩ := r.get hy
  have hy' : its.toArray[its.toArray.size - 1]? = some u := by
    show its.toArray[its.length - 1]? = some u
    rw [← Array.getElem?_toList, ← hl]
    exact hu
  refine call_meets F.slot_list_pop ⟨_, e, rfl⟩ F.entry_list_pop (F.args_list_pop_1 _) (MeetsSeq.list_pop_last l its.toArray n u hy' (by rw [List.size_toArray]; omega)) ⟨e, ?_⟩
  refine ⟨y, _, I.lset (its' := its.dropLast) hH e ?_ r.dropLast ?_, ru, q⟩
  · show its.toArray.eraseIdxIfInBounds (its.toArray.size - 1) = its.dropLast.toArray
    rw [List.size_toArray, List.eraseIdxIfInBounds_toArray, erase_last]
  · rw [List.length_dropLast]
    omega
def rCat : R2 := fun x y H Q => ∃ l b xs zs, x = .ref l ∧ y = .ref b ∧ H l = some (.lst xs) ∧ H b = some (.lst zs) ∧ xs.length + zs.length ≤ sizeLine ∧ ∀ p, H p = none → Q (.ref p) (upd H p (.lst (xs ++ zs)))
theorem op_cat : OpR X (binaryOp .Add) rCat := by
  intro pins s σ H x y v u Q I rx ry h
  obtain ⟨l, b, xs, zs, rfl, rfl, hH, hB, hz, q⟩ := h
  cases rx
  cases ry
  obtain ⟨z, its, n, r, hl, e⟩ := I.lstM hH
  obtain ⟨z2, its2, n2, r2, hl2, e2⟩ := I.lstM hB
  refine PySem.P.add_list e e2 ?_ (by rw [List.size_toArray, List.size_toArray]; omega)
  have ea : its.toArray ++ its2.toArray = (its ++ its2).toArray := by simp
  rw [ea]
  exact ⟨.ref _, _, I.lnew (t' := s.toks) (r.append r2) (by rw [List.length_append]; omega), rfl, q _ I.fresh⟩
end
section
variable {prog : Program} {w : World} {A : Around} {E : Value → Shared → Prop} {s : Shared}
set_option maxRecDepth 100000 in
end
section
variable {X : Cx}
end
end L2
namespace Att
open PySem PySem.W PySem.Calls PyProof.Rows
theorem ints_of_wellAll {P : Params} {h : Heap} : ∀ (ns : List Int) (vs : List Value), WellAll P h vs (ns.map WData.int) → IntsAre vs ns := by
  intro ns
  induction ns with
  | nil =>
    intro vs w
    rw [List.map_nil] at w
    cases w
    exact .nil
  | cons n ns ih =>
    intro vs w
    rw [List.map_cons] at w
    cases w with
    | cons a b =>
      cases a
      exact .cons _ _ (ih _ b)
theorem script_of {l : OpenLaw} {n : Nat} (hn : l.most = some n) {P : Params} {h : Heap} {args : List WData} {vals : List Value}
    (hpre : l.row.toRowW.claim.pre args = true) (hwl : WellAll P h vals args) :
    ∃ a vs ns, vals = [Value.ref a] ∧ args = [WData.list (ns.map WData.int)] ∧ h.get? a = some { cls := .type "list", data := .seq vs.toArray } ∧ IntsAre vs ns ∧ ns.length ≤ n := by
  have hsh : WShape.hasAll [] args [.list .int] = true := (pre_splitW hpre).1
  have hc : l.pre.holds [] { args := args } = true := (pre_splitW hpre).2
  obtain ⟨d, r, rfl, h1, h2⟩ := hasAllW_cons hsh
  obtain rfl := hasAllW_nil h2
  obtain ⟨xs, rfl, h3⟩ := hasW_list h1
  obtain ⟨ns, rfl⟩ := items_int h3
  have hlen : ns.length ≤ n := by
    unfold OpenLaw.pre at hc
    have h4 : (WTm.not (.lt (.lit (.int (n : Int))) (.len (.arg 0)))).holds [] { args := [.list (ns.map .int)] } = true := by
      have h4 := (holds_andW hc).1
      rw [hn] at h4
      exact h4
    have h5 := condW_of h4 (w_not (w_lt w_lit (w_len_list (w_arg rfl))))
    rw [List.length_map] at h5
    refine Nat.le_of_not_lt fun q => ?_
    have q' : (n : Int) < ((ns.length : Nat) : Int) := by omega
    first
      | (rw [decide_eq_true q'] at h5; exact absurd h5 (by decide))
      | (simp at h5; omega)
  cases hwl with
  | cons w1 w2 =>
    cases w2
    cases w1 with
    | list ho hall => exact ⟨_, _, ns, rfl, rfl, ho, ints_of_wellAll ns _ hall, hlen⟩
theorem post_true (l : OpenLaw) (args : List WData) : l.row.toRowW.claim.post args (.bool true) args = true :=
  postW_of (r := l.row.toRowW) (X := (true == true))
    (show WShape.has [] (.bool true) .bool = true by first | rfl | decide | simp [WShape.has, WShape.arms, WShape.armsAll])
    (show (WTm.eq .res (.lit (.bool true))).value [] { args := args, res := some (.bool true), after := args } = some (.bool (true == true)) from w_eq_bool (w_res rfl) w_lit) rfl
theorem attach_call {l : OpenLaw} {n : Nat} {q : Program} {loose : List Str} {XP : (Str → Option Value) → Heap → Prop} {YP : World → Heap → Prop} {d : DefRec}
    (hn : l.most = some n) (hdf : d.params.defaults = [])
    (call : ∀ (w : World) (s₀ s₁ : Shared) (mg mb : Str → Option Value) (fa : Addr) (o : Obj) (pm cd doc : Value) (a : Addr) (vs : List Value) (ns : List Int),
      Ground q loose [] XP w s₀ mg mb s₁.heap → YP w s₁.heap →
      s₁.heap.get? fa = some o → o.data = .func (docDef d.name d.params d.body d.scope pm cd doc) → s₁.heap.CodeRec cd d.name → mg d.name = some (.ref fa) →
      s₁.heap.get? a = some { cls := .type "list", data := .seq vs.toArray } → IntsAre vs ns → ns.length ≤ n → s₁.gens = #[] →
      codeAny (model l.prog w) callerA (.call (.ref fa) ⟨[.ref a], []⟩) (fun r s' => r = .ok (.ret (.bool true)) ∧ OldK s₁.heap s'.heap ∧ s'.os = s₁.os ∧ AllBare s'.gens) s₁) :
    WalkO q loose XP YP l.row.toRowW d [] (fun f vs => PySem.call f vs) := by
  intro w s₀ s₁ mg mb G Y fa o pm cd doc dV kV ho hd hcd hD hmg hg args vals as hpre hlay hrd hwl hlo
  obtain rfl : dV = .none := Dflts.none hD hdf
  obtain rfl : kV = .none := Dflts.noKw hD
  obtain ⟨a, vs, ns, rfl, rfl, hobj, hints, hlen⟩ := script_of hn hpre hwl
  refine enter_call (codeAny_mono (call w s₀ s₁ mg mb fa o pm cd doc a vs ns G Y ho (fd_plain hd) hcd hmg hobj hints hlen hg) fun r s' hq => ?_)
  obtain ⟨rfl, h2, h3, h4⟩ := hq
  exact ⟨.inl ⟨.bool true, .bool true, [], rfl, fun _ => rfl, .bool true, post_true l _, fun _ => ⟨List.Pairwise.nil, fun _ hm => (nomatch hm)⟩⟩, h2, h3, h4⟩
section
variable {prog : Program} {w : World} {A : Around} {E : Value → Shared → Prop} {s : Shared} {K : Frag}
end
end Att
namespace L2
open PySem PySem.Spec PyProof.Rows
theorem vals_ints : ∀ {vs : List Value} {ns : List Int}, IntsAre vs ns → Vals (ns.map V.int) vs
  | _, _, .nil => .nil
  | _, _, .cons n t h => .cons ⟨t, rfl⟩ (vals_ints h)
def Only (H : Hp) : Prop := ∀ b, H b = none ∨ ∃ o xs, H b = some (.frz o (.lst xs))
theorem law_call {P : Program} {w : World} {K : PySem.W.Frag} {mg mb : Str → Option Value} {CX : CXT} {k : Nat} {fa a : Addr} {fd : FuncData} {x : Str} {sp : Sp} {s₁ : Shared} {vs : List Value} {ns : List Int}
    (KX : K.In s₁.heap) (hns : s₁.heap.Ns mainGlobals mg) (hb : s₁.heap.Ns builtinsNs mb) (hbb : ∀ x : Str, x ≠ "__name__" → mb x = bootBuiltins x) (hlim : s₁.heap.NoLimit) (hg : s₁.gens = #[])
    (ha : s₁.heap.get? a = some { cls := .type "list", data := .seq vs.toArray }) (hi : IntsAre vs ns) (hl : ns.length ≤ sizeLine) (hr : Room k callerA)
    (F : ∀ base : Heap, K.In base → base.Ns mainGlobals mg → FnOk P w K mg base CX k fa fd [x] sp) (hbind : ∀ (s : Shared) (u : Value), BindsTo s fd ⟨[u], []⟩ [(x, u)])
    (hsp : ∀ H : Hp, Only H → SqL K H a (ns.map V.int) → sp [.ref a] H (fun v _ => v = .bl true) fun _ _ _ => False)
    (hCX : ∀ H e s', CX [] H s₁ (fun _ _ _ => False) e s' → False) :
    codeAny (model P w) callerA (.call (.ref fa) ⟨[.ref a], []⟩) (fun r s' => r = .ok (.ret (.bool true)) ∧ OldK s₁.heap s'.heap ∧ s'.os = s₁.os ∧ AllBare s'.gens) s₁ := by
  have rv := vals_ints hi
  have lenV := hi.length
  have core : ∀ H : Hp, Only H → SqL K H a (ns.map V.int) → HOk P w H s₁.heap → (∀ b, H b ≠ none → b = a) → (H a ≠ none → K.lookup a = none) →
      codeAny (model P w) callerA (.call (.ref fa) ⟨[.ref a], []⟩) (fun r s' => r = .ok (.ret (.bool true)) ∧ OldK s₁.heap s'.heap ∧ s'.os = s₁.os ∧ AllBare s'.gens) s₁ := by
    intro H hO hS hok hA hK
    have base_of : ∀ {b : Addr} {o : Obj}, s₁.heap.get? b = some o → H b = none → (hidT s₁.heap H).get? b = some o := fun e n => hidT_get e n
    have noA : ∀ {b : Addr} {o : Obj} {es : Array DictEntry} {ep : Nat}, s₁.heap.get? b = some o → o.data = .dict es ep → H b = none := fun {b o es ep} e d => by
      cases q : H b with
      | none => rfl
      | some u =>
        have e' : b = a := hA b (by rw [q]; simp)
        subst e'
        rw [ha] at e; cases e
        have d' : Data.seq vs.toArray _ = Data.dict es ep := d
        cases d'
    have nsK : ∀ {b : Addr} {m : Str → Option Value}, s₁.heap.Ns b m → (hidT s₁.heap H).Ns b m := fun {b m} ⟨o, es, ep, e, d, r⟩ => ⟨o, es, ep, base_of e (noA e d), d, r⟩
    have hKb : K.In (hidT s₁.heap H) := fun b o e => base_of (KX b o e) (by
      cases q : H b with
      | none => rfl
      | some u =>
        have e' : b = a := hA b (by rw [q]; simp)
        subst e'
        rw [hK (by rw [q]; simp)] at e; cases e)
    have hM : Mod K mg (hidT s₁.heap H) := ⟨hKb, nsK hns, ⟨mb, nsK hb, hbb⟩, let ⟨mc, h1, h2⟩ := hlim; ⟨mc, nsK h1, h2⟩⟩
    have e0 : Env0 P w K mg (hidT s₁.heap H) callerA [] s₁ H := ⟨rfl, hM, fun b o e => of_hidT e, Nat.le_of_eq (hidT_size _ _), trivial, fun b hb => absurd (show b ∈ ([] : List Addr) from hb) (by simp), hok, .of_eq hg⟩
    refine codeAny_mono ((F _ hKb (nsK hns)).run callerA [] s₁ H ⟨[.ref a], []⟩ [.ref a] [.ref a] _ _ hr e0 (hbind s₁ (.ref a)) (.cons rfl .nil) (hsp H hO hS)) fun r s' h => ?_
    cases r with
    | error e => exact (hCX H e s' h).elim
    | ok fl =>
      cases fl with
      | next => exact False.elim h
      | brk => exact False.elim h
      | cont => exact False.elim h
      | ret u =>
        obtain ⟨v, H', os, bare, un, hok', r', q⟩ := h
        have q' : v = .bl true := q
        subst q'
        obtain rfl : u = Value.bool true := r'
        refine ⟨rfl, OldK.of_keep fun b o e => ?_, os, bare⟩
        cases q : H b with
        | none => exact un.keep b o e q (by intro z; exact absurd (show b ∈ ([] : List Addr) from z) (by simp)) (by simp)
        | some u =>
          rcases hO b with z | ⟨ob, xs, z⟩
          · rw [q] at z; cases z
          · have z2 := un.frzs b ob _ z
            obtain ⟨e1, _⟩ := hok b _ z
            obtain ⟨e2, _⟩ := hok' b _ z2
            rw [e] at e1; cases e1
            exact e2
  cases hk : K.lookup a with
  | some o =>
    have e := KX a o hk
    rw [ha] at e
    cases e
    refine core (fun _ => none) (fun _ => .inl rfl) (.inr ⟨_, vs.toArray, _, hk, rfl, rfl, rfl, by rw [List.size_toArray, lenV]; exact hl, by simpa using rv⟩) (fun b u z => by have z' : (none : Option HO) = some u := z; cases z') (fun b z => absurd rfl z) fun z => absurd rfl z
  | none =>
    refine core (fun b => if b = a then some (.frz { cls := .type "list", data := .seq vs.toArray } (.lst (ns.map V.int))) else none) (fun b => ?_) (.inl (.inr ⟨{ cls := .type "list", data := .seq vs.toArray }, if_pos rfl⟩)) (fun b u z => ?_) (fun b z => ?_) fun _ => hk
    · by_cases hb : b = a
      · exact .inr ⟨_, _, if_pos hb⟩
      · exact .inl (if_neg hb)
    · by_cases hb : b = a
      · have z' := (if_pos hb).symm.trans z
        cases z'
        subst hb
        exact ⟨ha, by rw [List.length_map]; exact hl, vs, _, rv, ha⟩
      · have z' := (if_neg hb).symm.trans z
        cases z'
    · by_cases hb : b = a
      · exact hb
      · exact absurd (if_neg hb) z
end L2
namespace L2
open PySem PySem.Spec PyProof.Rows
theorem walk_of {l : PySem.W.OpenLaw} {n k : Nat} {q : Program} {loose : List Str} {XP : (Str → Option Value) → Heap → Prop} {YP : World → Heap → Prop} {d : DefRec} {K : Params → PySem.W.Frag} {CX : World → CXT} {sp : World → Sp} {x : Str}
    (hn : l.most = some n) (hn2 : n ≤ sizeLine) (hdf : d.params.defaults = []) (hr : Room k callerA)
    (hY : ∀ (w : World) (h : Heap), YP w h → (K w.params).In h)
    (F : ∀ (w : World) (mg : Str → Option Value) (fa : Addr) (h : Heap), (K w.params).In h → h.Ns mainGlobals mg → mg d.name = some (.ref fa) →
      ∃ fd : FuncData, (∀ (s : Shared) (u : Value), BindsTo s fd ⟨[u], []⟩ [(x, u)]) ∧
        ∀ base : Heap, (K w.params).In base → base.Ns mainGlobals mg → FnOk l.prog w (K w.params) mg base (CX w) k fa fd [x] (sp w))
    (hsp : ∀ (w : World) (H : Hp) (a : Addr) (ns : List Int), ns.length ≤ n → Only H → SqL (K w.params) H a (ns.map V.int) → sp w [.ref a] H (fun v _ => v = .bl true) fun _ _ _ => False)
    (hCX : ∀ (w : World) (H : Hp) (s : Shared) (e : Value) (s' : Shared), CX w [] H s (fun _ _ _ => False) e s' → False) :
    PySem.W.WalkO q loose XP YP l.row.toRowW d [] (fun f vs => PySem.call f vs) := by
  refine Att.attach_call hn hdf fun w s₀ s₁ mg mb fa o pm cd doc a vs ns G Y ho hd hcd hmg hobj hints hlen hg => ?_
  have KX := hY w _ Y
  obtain ⟨fd, hb, hF⟩ := F w mg fa _ KX G.T.g hmg
  exact law_call KX G.T.g G.T.b G.T.builtins G.T.nolimit hg hobj hints (Nat.le_trans hlen hn2) hr hF hb (fun H hO hS => hsp w H a ns hlen hO hS) fun H e s' => hCX w H s₁ e s'
end L2
namespace L2
open PySem PySem.Spec PyProof.Rows
def inClass (s : Stmt) (j : Nat) : Stmt := match s with
  | .ClassDef _ _ _ body _ _ _ _ _ _ _ => body.getD j (.Pass ⟨0, 0, 0, 0⟩)
  | _ => .Pass ⟨0, 0, 0, 0⟩
def defArgs (s : Stmt) : Arguments := match s with
  | .FunctionDef _ a _ _ _ _ _ _ _ _ => a
  | _ => { posonlyargs := [], args := [], vararg := none, kwonlyargs := [], kw_defaults := [], kwarg := none, defaults := [] }
def defBody (s : Stmt) : List Stmt := match s with
  | .FunctionDef _ _ b _ _ _ _ _ _ _ => b
  | _ => []
def defScope (s : Stmt) : Scope := match s with
  | .FunctionDef _ _ _ _ _ _ sc _ _ _ => sc
  | _ => { kind := .function, names := [], isGenerator := false, isCoroutine := false }
abbrev CX0 : CXT := fun _ _ _ _ _ _ => False
abbrev E0 : XK := fun _ _ _ => False
structure Fun (K : PySem.W.Frag) (x qual : Str) (st : Stmt) (f : Addr) (fd : FuncData) : Prop where
  ex : ∃ (oc : Value) (od : Option Addr) (kV doc pm : Value) (an : Option Addr) (cdv ct : Value) (osl : Array (Option Value)),
    fd = PySem.W.fnOf x qual (defArgs st) (defBody st) (defScope st) .none kV doc pm an cdv ct ∧ K.lookup f = some ⟨oc, od, .func fd, osl⟩ ∧ PySem.W.codeIn K cdv qual = true
  kp : PySem.W.keepIn K (.ref f) = true
section
variable {P : Program} {w : World} {K : PySem.W.Frag} {mg : Str → Option Value} {base : Heap}
theorem Fun.ok {x qual : Str} {st : Stmt} {f : Addr} {fd : FuncData} {N ps : List Str} {k : Nat} {sp : Sp} (F : Fun K x qual st f fd) (S : FnScope N ps (defScope st)) (len : ∀ vs H Q E, sp vs H Q E → vs.length = ps.length)
    (hbody : ∀ (cdv : Value) (A : Around) (outer : List Env) (s : Shared) (H : Hp) (vs : List V) (Q : VK) (E : XK), Room k (A.deeper (envOfC qual (defScope st) s.heap.objs.size f cdv)) → sp vs H Q E →
      ∃ t, PSs (cxOf CX0 P w K mg base N qual (defScope st) f cdv A outer s H E).nox (defBody st) t ∧ t { nx := fun _ H' => Q .non H', rt := Q } (start N vs) H) : FnOk P w K mg base CX0 (k + 1) f fd ps sp := by
  obtain ⟨oc, od, kV, doc, pm, an, cdv, ct, osl, rfl, lk, hcd⟩ := F.ex
  refine fn_of lk hcd S len fun A outer s H vs Q E hr hsp => ?_
  obtain ⟨t, h, q⟩ := hbody cdv A outer s H vs Q E hr hsp
  exact ⟨t, h.nox, q⟩
theorem Fun.binds {x qual : Str} {st : Stmt} {f : Addr} {fd : FuncData} {ps : List Str} (F : Fun K x qual st f fd)
    (h : ∀ (kV doc pm : Value) (an : Option Addr) (cdv ct : Value) (us : List Value), us.length = ps.length → bindArgs (PySem.W.fnOf x qual (defArgs st) (defBody st) (defScope st) .none kV doc pm an cdv ct) ⟨us, []⟩ = pure (ps.zip us)) : Binds K fd ps [] := by
  obtain ⟨oc, od, kV, doc, pm, an, cdv, ct, osl, rfl, lk, hcd⟩ := F.ex
  exact .all (h kV doc pm an cdv ct)
end
section
variable {X : Cx}
theorem pv (i : Nat) {x : Str} {pos : Pos} (hN : X.N[i]? = some x := by rfl) (hv : Vis X.env.scope x := by first | exact Or.inl rfl | exact Or.inr (Or.inl rfl) | exact Or.inr (Or.inr rfl)) (hd : (x == ("__debug__" : Str)) = false := by decide)
    (hcd : (x == ("__classdict__" : Str)) = false := by decide) : PE X (.Name x pos) (tVar i) := pe_var hN hv hd hcd
end
theorem iteF {A B : Prop} (h : B) : if false = true then A else B := by
  rw [if_neg Bool.false_ne_true]
  exact h
theorem iteT {A B : Prop} (h : A) : if true = true then A else B := by
  rw [if_pos rfl]
  exact h
theorem ite2 {c A B : Prop} [Decidable c] (h1 : c → A) (h2 : ¬ c → B) : if c then A else B := by
  by_cases h : c
  · rw [if_pos h]
    exact h1 h
  · rw [if_neg h]
    exact h2 h
theorem iteNS {c A B : Prop} [Decidable c] (hc : c) (h : B) : if (!decide c) = true then A else B := by
  rw [decide_eq_true hc]
  exact iteF h
def Same (H H' : Hp) : Prop := ∀ b o, H b = some o → H' b = some o
theorem Same.refl (H : Hp) : Same H H := fun _ _ h => h
theorem Same.trans {H H1 H2 : Hp} (a : Same H H1) (b : Same H1 H2) : Same H H2 := fun c o h => b c o (a c o h)
theorem Same.free {H H' : Hp} (e : Same H H') {l : Addr} (h : H' l = Option.none) : H l = Option.none := by
  cases q : H l with
  | none => rfl
  | some o =>
    rw [e l o q] at h
    cases h
theorem Same.seq {K : PySem.W.Frag} {H H' : Hp} {a : Addr} {xs : List V} (e : Same H H') (h : SqL K H a xs) : SqL K H' a xs := by
  rcases h with (h | ⟨o, h⟩) | h
  · exact .inl (.inl (e _ _ h))
  · exact .inl (.inr ⟨o, e _ _ h⟩)
  · exact .inr h
end L2

set_option maxRecDepth 100000
set_option linter.all false
set_option Elab.async false
namespace XA
open PySem
def Lk {α : Type} (M : Model) (h : Heap) (t : Sem α) (r : α) : Prop :=
  ∀ (A : Around) (Q : α → Shared → Prop) (E : Value → Shared → Prop) (s : Shared), (∀ b o, h.get? b = some o → s.heap.get? b = some o) → Q r s → wpAny M A t Q E s
theorem Lk.here {α : Type} {M : Model} {A : Around} {t : Sem α} {r : α} {Q : α → Shared → Prop} {E : Value → Shared → Prop} {s : Shared} (x : Lk M s.heap t r) (q : Q r s) : wpAny M A t Q E s := x A Q E s (fun _ _ e => e) q
theorem Lk.at {α : Type} {M : Model} {A : Around} {t : Sem α} {r : α} {Q : α → Shared → Prop} {E : Value → Shared → Prop} {h : Heap} {g d tk os} (x : Lk M h t r) (q : Q r ⟨h, g, d, tk, os⟩) : wpAny M A t Q E ⟨h, g, d, tk, os⟩ := x A Q E _ (fun _ _ e => e) q
theorem Lk.keeps {α : Type} {M : Model} {h h' : Heap} {t : Sem α} {r : α} (x : Lk M h t r) (k : ∀ b o, h.get? b = some o → h'.get? b = some o) : Lk M h' t r :=
  fun A Q E s k' q => x A Q E s (fun b o e => k' _ _ (k _ _ e)) q
section
variable {prog : Program} {w : World} {A : Around} {E : Value → Shared → Prop} {h : Heap} {g : Array GenState} {d : Drawn} {t : Nat} {os : OsState}
variable {nm q : Str} {C N : Addr} {bs bm bmB : List Value} {hdct : Bool} {sn : List Str} {sub : List Value} {ab : Bool} {col : Option Bool} {dd : Option Addr} {k0 k1 k2 k3 k5 : Option Value} {B newId initId : String}
end
end XA

set_option maxRecDepth 100000
set_option linter.all false
set_option Elab.async false
namespace XA
open PySem
structure Fly (h : Heap) (e : Addr) (c : Value) (d : Option Addr) (a0 : Value) (ot : Option Addr) (fl : Value) : Prop where
  obj : ∃ vs sl, h.get? e = some { cls := c, dict := d, data := .fields vs, slots := sl } ∧ vs.size = 6 ∧ vs[0]? = some a0 ∧ vs[1]? = some (ot.elim Value.none Value.ref)
  tb : ∀ T, ot = some T → T ≠ e ∧ ∃ oT ts, h.get? T = some oT ∧ oT.data = .fields ts ∧ ts[3]? = some fl
section
variable {M : Model} {A : Around} {E : Value → Shared → Prop} {s : Shared} {e : Addr} {c a0 fl : Value} {d ot : Option Addr} {T : Addr}
end
end XA

set_option maxRecDepth 100000
set_option linter.all false
set_option Elab.async false
namespace XA
open PySem
section
variable {M : Model} {A : Around} {E : Value → Shared → Prop} {env : Env}
variable {nm q : Str} {C N : Addr} {bs bm bmB : List Value} {hdct : Bool} {sn : List Str} {sub : List Value} {ab : Bool} {col : Option Bool} {dd : Option Addr} {k0 k1 k2 k3 k5 : Option Value} {B newId initId : String}
end
end XA

set_option maxRecDepth 100000
set_option linter.all false
set_option Elab.async false
namespace XA
open PySem
section
variable {M : Model} {A : Around} {E : Value → Shared → Prop}
variable {nm q : Str} {C N : Addr} {bs bm : List Value} {hdct : Bool} {sn : List Str} {sub : List Value} {ab : Bool} {col : Option Bool} {dd : Option Addr} {k0 k1 k2 k3 k5 : Option Value} {newId : String}
variable {nm' q' : Str} {D N' : Addr} {bs' bm' : List Value} {hdct' : Bool} {sn' : List Str} {sub' : List Value} {ab' : Bool} {col' : Option Bool} {dd' : Option Addr} {j0 j1 j2 j3 j5 : Option Value} {newId' : String}
end
section
variable {prog : Program} {w : World} {A : Around} {E : Value → Shared → Prop} {s : Shared} {env : Env}
end
end XA

set_option maxRecDepth 100000
set_option linter.all false
set_option Elab.async false
set_option maxHeartbeats 4000000
namespace L2
open PySem PySem.Spec PyProof.Rows
def ExO (nw : Bool) (C t : Addr) (d : Option Addr) (e : Addr) : HO := .ext fun h =>
  ∃ vs sl, h.get? e = some { cls := .ref C, dict := d, data := .fields vs, slots := sl } ∧ vs.size = 6 ∧ vs[0]? = some (.ref t) ∧ (nw = true → vs[1]? = some .none)
def CXE (P : Program) (w : World) : CXT := fun outer H s E x s' => ∃ (e C t T : Addr) (d : Option Addr) (H' : Hp), x = .ref e ∧ s'.os = s.os ∧ AllBare s'.gens ∧ Un (frs outer) [] H H' s.heap s'.heap ∧ HOk P w H' s'.heap ∧
  H' e = some (ExO false C t d e) ∧ s.heap.get? e = none ∧ s.heap.objs.size ≤ T ∧ H' T = none ∧ XA.Fly s'.heap e (.ref C) d (.ref t) (some T) .none ∧ E (.ref C) (some e) H'
section
variable {P : Program} {w : World} {K : PySem.W.Frag} {mg : Str → Option Value} {base : Heap} {N : List Str} {qual : Str} {scope : Scope} {f : Addr} {cd : Value} {A : Around} {outer : List Env} {s0 : Shared} {H0 : Hp} {E : XK}
end
end L2

set_option maxRecDepth 100000
set_option linter.all false
set_option Elab.async false
set_option maxHeartbeats 4000000
namespace L2
open PySem PySem.Spec PyProof.Rows PyProof
section
variable {X : Cx}
theorem op_mulI : OpR X (binaryOp .Mult) (rI IntMulOk fun i j => .int (i * j)) := opI fun _ _ _ _ _ _ _ hc q => mul_int q hc
def CRep (z : Str) (n : Int) : Prop := 0 ≤ n ∧ n ≤ 1000 ∧ z.length ≤ 1000
theorem CRep.ok {z : Str} {n : Int} (h : CRep z n) : MulOk z n := by
  obtain ⟨h0, h1, h2⟩ := h
  refine ⟨?_, fun hn _ hc => ?_, fun _ _ => ?_⟩
  · rw [decide_eq_false (by omega), decide_eq_false (by omega)]; rfl
  · have e1 : ((2 : Int) ^ 63 - 1) / n ≥ 1001 := (Int.le_ediv_iff_mul_le (by omega)).mpr (by omega)
    omega
  · have h3 : z.length * n.toNat ≤ 1000 * 1000 := Nat.mul_le_mul h2 (by omega)
    show decide (z.length * n.toNat > sizeLine) = false
    rw [sizeLine_eq]
    exact decide_eq_false (by omega)
theorem strsAre_of {ys : List Str} : ∀ {us : List Value}, Vals (ys.map V.str) us → StrsAre us ys := by
  induction ys with
  | nil => intro us r; rw [List.map_nil] at r; cases r; exact .nil
  | cons n ns ih =>
    intro us r
    rw [List.map_cons] at r
    cases r with
    | cons r1 r2 =>
      obtain ⟨t, e⟩ := r1
      subst e
      exact .cons n t (ih r2)
theorem mt_join : MtR X "str.join" (fun x xs H Q => ∃ (z : Str) (p : Addr) (ys : List Str), x = .str z ∧ xs = [.ref p] ∧ SqL X.K H p (ys.map V.str) ∧ z.length ≤ 16 ∧ (ys.map (·.length)).sum + ys.length ≤ 1048576 ∧ Q (.str (Txt.join z ys)) H) := by
  intro pins s σ H x xs v us Q I rx rs h
  obtain ⟨z, p, ys, rfl, rfl, hq, h1, h2, q⟩ := h
  obtain ⟨t, rfl⟩ := rx
  obtain ⟨u, rfl, e⟩ := vals1 rs
  cases e
  obtain ⟨its, r, pl, hz⟩ := I.list hq
  exact join_listW pl.isList (strsAre_of r) h1 h2 fun t' k => ⟨.str _, H, I.tok _, ⟨_, rfl⟩, q⟩
theorem op_eqNil (hu : X.A.units < cLine) : OpR X (compareOp .Eq) (fun x y H Q => ∃ p q xs, x = .ref p ∧ y = .ref q ∧ SqL X.K H p xs ∧ SqL X.K H q [] ∧ Q (.bl xs.isEmpty) H) := by
  intro pins s σ H x y v u Q I rx ry h
  obtain ⟨p, q', xs, rfl, rfl, h1, h2, q⟩ := h
  cases rx
  cases ry
  obtain ⟨its, r1, p1, _⟩ := I.list h1
  obtain ⟨its2, r2, p2, _⟩ := I.list h2
  cases r2
  cases r1 with
  | nil => exact SeqAt.eq_listAt (e := fun _ => true) p1.isList p2.isList rfl hu (fun j h _ => absurd h (by simp)) ⟨.bl true, H, I, rfl, q⟩
  | cons a b => exact SeqAt.eq_list_lengthsAt p1.isList p2.isList (by simp) hu ⟨.bl false, H, I, rfl, q⟩
end
end L2

set_option maxRecDepth 100000
set_option linter.all false
set_option Elab.async false
set_option maxHeartbeats 4000000
namespace L2
open PySem PySem.Spec PyProof.Rows PyProof
def TabS (K : PySem.W.Frag) (a : Addr) (D : List (Str × V)) : Prop :=
  (a == sysModules) = false ∧ ∃ o es ep, K.lookup a = some o ∧ o.ExactDict ∧ o.data = .dict es ep ∧ KTD.Rows RelV es.toList D
section
variable {prog : Program} {w : World} {A : Around} {E : Value → Shared → Prop} {s : Shared} {a : Addr} {o : Obj} {es : Array DictEntry} {ep : Nat} {D : List (Str × V)} {k : Str} {tk : Tok}
theorem look_tab {Q : Option Value → Shared → Prop} (ho : s.heap.get? a = some o) (hd : o.data = .dict es ep) (hr : KTD.Rows RelV es.toList D)
    (yes : ∀ v u, KTD.datumAt k D = some v → RelV v u → Q (some u) { s with toks := s.toks + 1 }) (no : KTD.datumAt k D = none → Q none { s with toks := s.toks + 1 }) :
    wpAny (model prog w) A (dictGet a (.str k tk)) Q E s := by
  have all : (es.all fun e => isExactStrKey e.key) = true := by
    obtain ⟨l⟩ := es
    simpa using hr.exact
  have val : Q ((es.toList.find? fun e => e.key.isStr k).map (·.val)) { s with toks := s.toks + 1 } := by
    cases q : KTD.datumAt k D with
    | some v =>
      obtain ⟨u, hu, ru⟩ := hr.find_some q
      rw [hu]; exact yes v u q ru
    | none => rw [hr.find_none q]; exact no q
  have same : (es.toList.find? fun e => e.key.isStr k).map (·.val) = findBy (fun k v => v.isStr k) es k := by
    obtain ⟨l⟩ := es
    simp [findBy]
  rw [same, findBy_of_findIdx?] at val
  unfold dictGet
  with_reducible refine wpAny_holding ?_
  refine wpAny_bind (wpAny_pyHash_str (wpAny_bind ?_))
  refine KTD.kt_dictFind_strs (s := { s with toks := s.toks + 1 }) ho hd all ?_
  cases q : es.findIdx? fun e => e.key.isStr k with
  | none =>
    rw [q] at val
    exact wpAny_pure val
  | some i =>
    rw [q] at val
    exact wpAny_bind (wpAny_dictEntries (s := { s with toks := s.toks + 1 }) ho hd (wpAny_pure val))
theorem has_tab {Q : Value → Shared → Prop} (lo : (a == sysModules) = false) (ho : s.heap.get? a = some o) (hc : o.ExactDict) (hd : o.data = .dict es ep) (hr : KTD.Rows RelV es.toList D)
    (h : Q (.bool (KTD.inKeys k D)) { s with toks := s.toks + 1 }) : wpAny (model prog w) A (call (.builtin "dict.__contains__") [.ref a, .str k tk]) Q E s := by
  refine wpAny_call_entry slot_dict_contains ⟨o, ho, hc.1⟩ entry_dict_contains ?_ (args_dict_contains _ _)
  show wpAny _ _ (dictGet a (.str k tk) >>= _) _ _ s
  refine wpAny_bind (look_tab ho hd hr (fun v u e _ => ?_) fun e => ?_)
  · have hb : KTD.inKeys k D = true := by rw [← KTD.isSome_datumAt, e]; rfl
    rw [hb] at h
    exact wpAny_pure ⟨_, rfl, h⟩
  · have hb : KTD.inKeys k D = false := by rw [← KTD.isSome_datumAt, e]; rfl
    rw [hb] at h
    show wpAny _ _ (Builtin.Dict.pendingKey? a (.str k tk) >>= _) _ _ _
    exact wpAny_bind (wpAny_pendingKey_other lo (wpAny_pure ⟨_, rfl, h⟩))
end
section
variable {X : Cx}
theorem op_inTab : OpR X (compareOp .In) (fun x y H Q => ∃ k a D, x = .str k ∧ y = .ref a ∧ TabS X.K a D ∧ Q (.bl (KTD.inKeys k D)) H) := by
  intro pins s σ H x y v u Q I rx ry h
  obtain ⟨k, a, D, rfl, rfl, ⟨lo, o, es, ep, lk, hc, hd, hr⟩, q⟩ := h
  obtain ⟨t, rfl⟩ := rx
  cases ry
  have ho := I.kIn _ _ lk
  exact In_slot ⟨o, ho, hc.1⟩ slot_dict_contains (has_tab lo ho hc hd hr (wpAny_truthy_bool ⟨.bl _, H, I.tok _, rfl, q⟩))
theorem ix_tab : IxR X (fun x y H Q => ∃ k a D v, x = .ref a ∧ y = .str k ∧ TabS X.K a D ∧ KTD.datumAt k D = some v ∧ Q v H) := by
  intro value slice pins s σ H x y v u Q I rx ry h hs
  obtain ⟨k, a, D, z, rfl, rfl, ⟨lo, o, es, ep, lk, hc, hd, hr⟩, hk, q⟩ := h
  cases rx
  obtain ⟨t, rfl⟩ := ry
  have ho := I.kIn _ _ lk
  obtain ⟨u0, hu0, ru0⟩ := hr.find_some hk
  refine subscriptTail_builtinR (x := u0) (T := "dict") ⟨o, ho, hc.1⟩ slot_dict_getitem.lookup (getItem_slot (T := "dict") ⟨o, ho, hc.1⟩ (by decide) slot_dict_getitem ?_) hs
  refine wpAny_call_entry slot_dict_getitem ⟨o, ho, hc.1⟩ entry_dict_getitem ?_ (args_dict_getitem _ _)
  show wpAny _ _ (dictGet a (.str k t) >>= _) _ _ s
  have all : (es.all fun e => isExactStrKey e.key) = true := by
    obtain ⟨l⟩ := es
    simpa using hr.exact
  have same : (es.toList.find? fun e => e.key.isStr k).map (·.val) = findBy (fun k v => v.isStr k) es k := by
    obtain ⟨l⟩ := es
    simp [findBy]
  rw [same, findBy_of_findIdx?] at hu0
  refine wpAny_bind ?_
  unfold dictGet
  with_reducible refine wpAny_holding ?_
  refine wpAny_bind (wpAny_pyHash_str (wpAny_bind ?_))
  refine KTD.kt_dictFind_strs (s := { s with toks := s.toks + 1 }) ho hd all ?_
  cases e : es.findIdx? fun e => e.key.isStr k with
  | none => rw [e] at hu0; cases hu0
  | some i =>
    rw [e] at hu0
    refine wpAny_bind (wpAny_dictEntries (s := { s with toks := s.toks + 1 }) ho hd (wpAny_pure ?_))
    have e2 : es[i]?.map (·.val) = some u0 := hu0
    rw [e2]
    exact wpAny_pure ⟨_, rfl, rfl, z, H, I.tok _, ru0, q⟩
end
end L2

set_option maxRecDepth 100000
set_option linter.all false
set_option Elab.async false
set_option maxHeartbeats 4000000
namespace L2
open PySem PySem.Spec PyProof.Rows PyProof
def cxC (X : Cx) (scope : Scope) (cl : List (Str × Addr)) (Nb : List Str) (C : Addr) (s : Shared) (H : Hp) (fp : List Addr) (pins : List (Addr × Obj)) : Cx :=
  { X with env := compEnvC scope cl C X.env, N := Nb, s₀ := s, H₀ := H, outer := X.stack, ex := fp, fn := fun _ => false, pn := X.pn ++ pins, xe := fun _ _ => False }
section
variable {X : Cx} {scope : Scope} {cl : List (Str × Addr)} {x : Str} {rest : List Str} {ix : List Nat}
theorem lookup_mapk (g : Str → NameKind → NameKind) : ∀ (names : List (Str × NameKind)) (y : Str), (names.map fun p => (p.1, g p.1 p.2)).lookup y = (names.lookup y).map (g y)
  | [], _ => rfl
  | (n, k) :: r, y => by
    have ih := lookup_mapk g r y
    rw [List.map_cons]
    cases hy : y == n with
    | true =>
      have e : y = n := beq_iff_eq.mp hy
      subst e
      simp only [List.lookup_cons, beq_self_eq_true, Option.map_some]
    | false => simp only [List.lookup_cons, hy]; exact ih
theorem relabel_lookup (env : Env) (names : List (Str × NameKind)) (y : Str) :
    (names.map fun (n, k) => if (k == NameKind.free && env.scope.kind == .function && env.kindOf n == some .cell) then (n, NameKind.cell) else (n, k)).lookup y =
      (names.lookup y).map fun k => if (k == NameKind.free && env.scope.kind == .function && env.kindOf y == some .cell) then NameKind.cell else k := by
  rw [← lookup_mapk (fun y k => if (k == NameKind.free && env.scope.kind == .function && env.kindOf y == some .cell) then NameKind.cell else k)]
  congr 1
  refine List.map_congr_left fun p _ => ?_
  obtain ⟨n, k⟩ := p
  dsimp only
  split <;> rfl
theorem relabel_kind {C : Addr} {y : Str} {k : NameKind} (h : (compEnvC scope cl C X.env).kindOf y = some k) (hk : k = .cell ∨ k = .free) (hcell : ∀ y ∈ scope.names, y.2 ≠ .cell) : scope.names.lookup y = some .free := by
  have e : (compEnvC scope cl C X.env).kindOf y = (scope.names.lookup y).map fun k => if (k == NameKind.free && X.env.scope.kind == .function && X.env.kindOf y == some .cell) then NameKind.cell else k := relabel_lookup X.env scope.names y
  rw [e] at h
  cases q : scope.names.lookup y with
  | none => rw [q] at h; cases h
  | some k0 =>
    rw [q] at h
    simp only [Option.map_some, Option.some.injEq] at h
    by_cases hc : (k0 == NameKind.free && X.env.scope.kind == .function && X.env.kindOf y == some .cell) = true
    · have : k0 = .free := by
        rw [Bool.and_eq_true, Bool.and_eq_true] at hc
        exact beq_iff_eq.mp hc.1.1
      rw [this]
    · rw [if_neg hc] at h
      subst h
      rcases hk with rfl | rfl
      · exact absurd rfl (hcell (y, .cell) (PySem.mem_of_lookup q))
      · rfl
theorem getD_map_ix {σ : St} : ∀ {ix : List Nat} {j i : Nat}, ix[j]? = some i → (ix.map fun i => σ.getD i none)[j]? = some (σ.getD i none) := fun {ix j i} h => by
  rw [List.getElem?_map, h]; rfl
end
end L2

set_option maxRecDepth 100000
set_option linter.all false
set_option Elab.async false
set_option maxHeartbeats 4000000
namespace L2
open PySem PySem.Spec PyProof.Rows PyProof
structure RoomS (k : Nat) (A : Around) : Prop where
  dp : A.depth + 3 * k + 5 < recursionLimit
  un : A.units + 16 * k + 200 < cLine
theorem Room.s {k : Nat} {A : Around} (r : Room k A) : RoomS k A := ⟨r.dp, r.un⟩
theorem RoomS.mono {j k : Nat} {A : Around} (r : RoomS k A) (h : j ≤ k) : RoomS j A := ⟨by have := r.dp; omega, by have := r.un; omega⟩
theorem RoomS.deeper {k : Nat} {A : Around} (r : RoomS (k + 1) A) (env : Env) : RoomS k (A.deeper env) :=
  ⟨by have := r.dp; show A.depth + 1 + 3 * k + 5 < _; omega, by have := r.un; show A.units + 3 + 16 * k + 200 < _; omega⟩
structure FnOkS (P : Program) (w : World) (K : PySem.W.Frag) (mg : Str → Option Value) (base : Heap) (CX : CXT) (k : Nat) (f : Addr) (fd : FuncData) (ps : List Str) (sp : Sp) : Prop where
  len : ∀ vs H Q E, sp vs H Q E → vs.length = ps.length
  run : ∀ (A : Around) (outer : List Env) (s : Shared) (H : Hp) (args : Args) (us : List Value) (vs : List V) (Q : VK) (E : XK), RoomS k A → Env0 P w K mg base A outer s H → BindsTo s fd args (ps.zip us) → Vals vs us → sp vs H Q E →
    codeAny (model P w) A (.call (.ref f) args) (CR CX outer P w H s Q E) s
theorem FnOkS.fn {P : Program} {w : World} {K : PySem.W.Frag} {mg : Str → Option Value} {base : Heap} {CX : CXT} {k : Nat} {f : Addr} {fd : FuncData} {ps : List Str} {sp : Sp} (F : FnOkS P w K mg base CX k f fd ps sp) : FnOk P w K mg base CX k f fd ps sp :=
  ⟨F.len, fun A outer s H args us vs Q E hr => F.run A outer s H args us vs Q E hr.s⟩
section
variable {X : Cx} {CX : CXT} {k : Nat} {f C : Addr} {fd : FuncData} {ps : List Str} {sp : Sp} {dvs : List V} {ds : List Value} {E : XK} {x m : Str} {p pos apos : Pos} {e o : Expr} {es : List Expr} {ta : TE} {t : TA}
end
structure FunD (K : PySem.W.Frag) (x qual : Str) (st : Stmt) (dV : Value) (f : Addr) (fd : FuncData) : Prop where
  ex : ∃ (oc : Value) (od : Option Addr) (kV doc pm : Value) (an : Option Addr) (cdv ct : Value) (osl : Array (Option Value)),
    fd = PySem.W.fnOf x qual (defArgs st) (defBody st) (defScope st) dV kV doc pm an cdv ct ∧ K.lookup f = some ⟨oc, od, .func fd, osl⟩ ∧ PySem.W.codeIn K cdv qual = true
  kp : PySem.W.keepIn K (.ref f) = true
theorem Fun.d {K : PySem.W.Frag} {x qual : Str} {st : Stmt} {f : Addr} {fd : FuncData} (F : Fun K x qual st f fd) : FunD K x qual st .none f fd := ⟨F.ex, F.kp⟩
section
variable {P : Program} {w : World} {K : PySem.W.Frag} {mg : Str → Option Value} {base : Heap} {x qual : Str} {st : Stmt} {dV : Value} {f : Addr} {fd : FuncData} {N ps : List Str} {k : Nat} {sp : Sp}
theorem passE0 {X : Cx} : Passes (CXE P w) X E0 := fun _ _ _ _ _ _ _ h => by
  obtain ⟨_, _, _, _, _, _, _, _, _, _, _, _, _, _, _, _, z⟩ := h
  exact z.elim
theorem FunD.okE (F : FunD K x qual st dV f fd) (S : FnScope N ps (defScope st)) (len : ∀ vs H Q E, sp vs H Q E → vs.length = ps.length)
    (hbody : ∀ (cdv : Value) (A : Around) (outer : List Env) (s : Shared) (H : Hp) (vs : List V) (Q : VK) (E : XK), Room k (A.deeper (envOfC qual (defScope st) s.heap.objs.size f cdv)) → sp vs H Q E →
      ∃ t, PSs (cxOf (CXE P w) P w K mg base N qual (defScope st) f cdv A outer s H E) (defBody st) t ∧ t { nx := fun _ H' => Q .non H', rt := Q } (start N vs) H) : FnOk P w K mg base (CXE P w) (k + 1) f fd ps sp := by
  obtain ⟨oc, od, kV, doc, pm, an, cdv, ct, osl, rfl, lk, hcd⟩ := F.ex
  exact fn_of lk hcd S len fun A outer s H vs Q E hr hsp => hbody cdv A outer s H vs Q E hr hsp
theorem FunD.ok0 (F : FunD K x qual st dV f fd) (S : FnScope N ps (defScope st)) (len : ∀ vs H Q E, sp vs H Q E → vs.length = ps.length)
    (hbody : ∀ (cdv : Value) (A : Around) (outer : List Env) (s : Shared) (H : Hp) (vs : List V) (Q : VK) (E : XK), Room k (A.deeper (envOfC qual (defScope st) s.heap.objs.size f cdv)) → sp vs H Q E →
      ∃ t, PSs (cxOf (CXE P w) P w K mg base N qual (defScope st) f cdv A outer s H E).nox (defBody st) t ∧ t { nx := fun _ H' => Q .non H', rt := Q } (start N vs) H) : FnOk P w K mg base (CXE P w) (k + 1) f fd ps sp :=
  F.okE S len fun cdv A outer s H vs Q E hr hsp => let ⟨t, h, q⟩ := hbody cdv A outer s H vs Q E hr hsp; ⟨t, h.nox, q⟩
theorem FunD.binds {ds : List Value} (F : FunD K x qual st dV f fd)
    (h : ∀ (kV doc pm : Value) (an : Option Addr) (cdv ct : Value) (s : Shared) (us : List Value), K.In s.heap → (us ++ ds).length = ps.length → BindsTo s (PySem.W.fnOf x qual (defArgs st) (defBody st) (defScope st) dV kV doc pm an cdv ct) ⟨us, []⟩ (ps.zip (us ++ ds))) : Binds K fd ps ds := by
  obtain ⟨oc, od, kV, doc, pm, an, cdv, ct, osl, rfl, lk, hcd⟩ := F.ex
  exact fun s us X hl => h kV doc pm an cdv ct s us X hl
end
end L2

set_option Elab.async false
set_option linter.all false
set_option maxRecDepth 100000
namespace L2
open PySem PySem.Spec PyProof.Rows
section
variable {κ : Type} [DecidableEq κ]
def valV (kvs : List (κ × V)) (k : κ) : Option V := (kvs.find? fun kv => decide (kv.1 = k)).map (·.2)
def putK (kvs : List (κ × V)) (k : κ) (v : V) : List (κ × V) :=
  if (kvs.any fun kv => decide (kv.1 = k)) = true then kvs.map (fun kv => if kv.1 = k then (kv.1, v) else kv) else kvs ++ [(k, v)]
def dropK (kvs : List (κ × V)) (k : κ) : List (κ × V) := kvs.filter fun kv => decide (kv.1 ≠ k)
theorem valV_pos {p : κ × V} {r : List (κ × V)} {k : κ} (e : p.1 = k) : valV (p :: r) k = some p.2 := by simp [valV, List.find?_cons, e]
theorem valV_neg {p : κ × V} {r : List (κ × V)} {k : κ} (e : ¬ p.1 = k) : valV (p :: r) k = valV r k := by simp [valV, List.find?_cons, e]
theorem valV_any (k : κ) : ∀ kvs : List (κ × V), (kvs.any fun kv => decide (kv.1 = k)) = (valV kvs k).isSome
  | [] => rfl
  | p :: r => by
    rw [List.any_cons]
    by_cases e : p.1 = k
    · simp only [valV_pos e, decide_eq_true e, Bool.true_or, Option.isSome_some]
    · rw [valV_neg e, decide_eq_false e, Bool.false_or]; exact valV_any k r
theorem RelO.isSome_eq {o : Option V} {u : Option Value} (r : RelO o u) : o.isSome = u.isSome := by
  cases o with
  | none => cases u with
    | none => rfl
    | some _ => exact (show False from r).elim
  | some _ => cases u with
    | none => exact (show False from r).elim
    | some _ => rfl
theorem RelO.getD {o : Option V} {u : Option Value} {d : V} {d' : Value} (r : RelO o u) (rd : RelV d d') : RelV (o.getD d) (u.getD d') := by
  cases o with
  | none => cases u with
    | none => exact rd
    | some _ => exact (show False from r).elim
  | some _ => cases u with
    | none => exact (show False from r).elim
    | some _ => exact r
theorem KV.val {kvs : List (κ × V)} {vs : List (κ × Value)} (r : KV kvs vs) (k : κ) : RelO (valV kvs k) (valueAt vs k) := by
  unfold KV at r
  induction r with
  | nil => exact True.intro
  | @cons p q ps qs h t ih =>
    obtain ⟨h1, h2⟩ := h
    by_cases e : p.1 = k
    · have e' : q.1 = k := h1.symm.trans e
      have b : valueAt (q :: qs) k = some q.2 := by simp [valueAt, List.find?_cons, e']
      rw [valV_pos e, b]; exact h2
    · have e' : ¬ q.1 = k := fun z => e (h1.trans z)
      have b : valueAt (q :: qs) k = valueAt qs k := by simp [valueAt, List.find?_cons, e']
      rw [valV_neg e, b]; exact ih
theorem KV.any {kvs : List (κ × V)} {vs : List (κ × Value)} (r : KV kvs vs) (k : κ) : (kvs.any fun kv => decide (kv.1 = k)) = vs.any fun kv => decide (kv.1 = k) := by
  unfold KV at r
  induction r with
  | nil => rfl
  | cons h t ih => rw [List.any_cons, List.any_cons, ih, h.1]
theorem KV.repl {kvs : List (κ × V)} {vs : List (κ × Value)} (r : KV kvs vs) (k : κ) {y : V} {u : Value} (ry : RelV y u) :
    KV (kvs.map fun kv => if kv.1 = k then (kv.1, y) else kv) (vs.map fun kv => if kv.1 = k then (kv.1, u) else kv) := by
  unfold KV at r ⊢
  induction r with
  | nil => exact .nil
  | @cons p q ps qs h t ih =>
    rw [List.map_cons, List.map_cons]
    refine .cons ?_ ih
    obtain ⟨h1, h2⟩ := h
    by_cases e : p.1 = k
    · rw [if_pos e, if_pos (h1.symm.trans e)]; exact ⟨h1, ry⟩
    · rw [if_neg e, if_neg (fun z => e (h1.trans z))]; exact ⟨h1, h2⟩
theorem KV.put {kvs : List (κ × V)} {vs : List (κ × Value)} (r : KV kvs vs) (k : κ) {y : V} {u : Value} (ry : RelV y u) : KV (putK kvs k y) (stored vs k u) := by
  unfold putK stored
  rw [r.any k]
  by_cases e : (vs.any fun kv => decide (kv.1 = k)) = true
  · rw [if_pos e, if_pos e]; exact r.repl k ry
  · rw [if_neg e, if_neg e]; exact Paired.snoc r ⟨rfl, ry⟩
theorem KV.drop {kvs : List (κ × V)} {vs : List (κ × Value)} (r : KV kvs vs) (k : κ) : KV (dropK kvs k) (without vs k) := by
  unfold KV at r ⊢
  unfold dropK without
  induction r with
  | nil => exact .nil
  | @cons p q ps qs h t ih =>
    obtain ⟨h1, h2⟩ := h
    rw [List.filter_cons, List.filter_cons]
    by_cases e : p.1 = k
    · have a : ¬ decide (p.1 ≠ k) = true := by simp [e]
      have b : ¬ decide (q.1 ≠ k) = true := by simp [h1.symm.trans e]
      rw [if_neg a, if_neg b]; exact ih
    · have e' : ¬ q.1 = k := fun z => e (h1.trans z)
      have a : decide (p.1 ≠ k) = true := by simp [e]
      have b : decide (q.1 ≠ k) = true := by simp [e']
      rw [if_pos a, if_pos b]; exact .cons ⟨h1, h2⟩ ih
theorem KV.length {kvs : List (κ × V)} {vs : List (κ × Value)} (r : KV kvs vs) : kvs.length = vs.length := Paired.length r
end
abbrev KT (H : Hp) : List (List Key × V) → List (List Key × Addr × Value) → Prop := Paired fun p q => p.1 = q.1 ∧ H q.2.1 = some (.tup (p.1.map kV)) ∧ RelV p.2 q.2.2
theorem KT.val {H : Hp} {kvs : List (List Key × V)} {xs : List (List Key × Addr × Value)} (r : KT H kvs xs) (k : List Key) : RelO (valV kvs k) ((atKey xs k).map (·.2)) := by
  induction r with
  | nil => exact True.intro
  | @cons p q ps qs h t ih =>
    obtain ⟨h1, _, h2⟩ := h
    by_cases e : p.1 = k
    · have e' : q.1 = k := h1.symm.trans e
      have b : atKey (q :: qs) k = some q.2 := by simp [atKey, List.find?_cons, e']
      rw [valV_pos e, b]; exact h2
    · have e' : ¬ q.1 = k := fun z => e (h1.trans z)
      have b : atKey (q :: qs) k = atKey qs k := by simp [atKey, List.find?_cons, e']
      rw [valV_neg e, b]; exact ih
theorem KT.repl {H : Hp} {kvs : List (List Key × V)} {xs : List (List Key × Addr × Value)} (r : KT H kvs xs) (k : List Key) {y : V} {u : Value} (ry : RelV y u) :
    KT H (kvs.map fun kv => if kv.1 = k then (kv.1, y) else kv) (xs.map (putAt k u)) := by
  induction r with
  | nil => exact .nil
  | @cons p q ps qs h t ih =>
    rw [List.map_cons, List.map_cons]
    refine .cons ?_ ih
    obtain ⟨h1, h2, h3⟩ := h
    unfold putAt
    by_cases e : p.1 = k
    · rw [if_pos e, if_pos (h1.symm.trans e)]; exact ⟨h1, h2, ry⟩
    · rw [if_neg e, if_neg (fun z => e (h1.trans z))]; exact ⟨h1, h2, h3⟩
theorem KT.put {H : Hp} {kvs : List (List Key × V)} {xs : List (List Key × Addr × Value)} (r : KT H kvs xs) (k : List Key) {b : Addr} {y : V} {u : Value} (hb : H b = some (.tup (k.map kV))) (ry : RelV y u) :
    KT H (putK kvs k y) (storedH xs k b u) := by
  have e : (kvs.any fun kv => decide (kv.1 = k)) = (atKey xs k).isSome := by
    rw [valV_any, (r.val k).isSome_eq, Option.isSome_map]
  unfold putK storedH
  rw [e]
  by_cases q : (atKey xs k).isSome = true
  · rw [if_pos q, if_pos q]; exact r.repl k ry
  · rw [if_neg q, if_neg q]; exact Paired.snoc r ⟨rfl, hb, ry⟩
theorem KT.keeps {H H' : Hp} {kvs : List (List Key × V)} {xs : List (List Key × Addr × Value)} (r : KT H kvs xs) (ht : ∀ b ys, H b = some (.tup ys) → H' b = some (.tup ys)) : KT H' kvs xs :=
  Paired.mapP r fun _ _ z => ⟨z.1, ht _ _ z.2.1, z.2.2⟩
section
variable {P : Program} {w : World} {H : Hp} {h : Heap} {a : Addr}
end
def DGet (H : Hp) (a : Addr) (y : V) (r : Option V) : Prop :=
  (∃ kvs k, Rd H a (.dK kvs) ∧ y = kV k ∧ r = valV kvs k) ∨ ∃ kvs k b, Rd H a (.dT kvs) ∧ y = .ref b ∧ H b = some (.tup (k.map kV)) ∧ r = valV kvs k
def DPut (H : Hp) (a : Addr) (y v : V) (H' : Hp) : Prop :=
  (∃ kvs k, H a = some (.dK kvs) ∧ y = kV k ∧ kvs.length < sizeLine ∧ H' = upd H a (.dK (putK kvs k v))) ∨
  ∃ kvs k b, H a = some (.dT kvs) ∧ y = .ref b ∧ H b = some (.tup (k.map kV)) ∧ kvs.length < sizeLine ∧ H' = upd H a (.dT (putK kvs k v))
theorem DGet.k {H : Hp} {a : Addr} {kvs : List (Key × V)} {k : Key} (e : H a = some (.dK kvs)) : DGet H a (kV k) (valV kvs k) := .inl ⟨kvs, k, .inl e, rfl, rfl⟩
theorem DGet.t {H : Hp} {a b : Addr} {kvs : List (List Key × V)} {k : List Key} (e : H a = some (.dT kvs)) (eb : H b = some (.tup (k.map kV))) : DGet H a (.ref b) (valV kvs k) := .inr ⟨kvs, k, b, .inl e, rfl, eb, rfl⟩
theorem DPut.k {H : Hp} {a : Addr} {kvs : List (Key × V)} {k : Key} {v : V} (e : H a = some (.dK kvs)) (hl : kvs.length < sizeLine) : DPut H a (kV k) v (upd H a (.dK (putK kvs k v))) := .inl ⟨kvs, k, e, rfl, hl, rfl⟩
theorem DPut.t {H : Hp} {a b : Addr} {kvs : List (List Key × V)} {k : List Key} {v : V} (e : H a = some (.dT kvs)) (eb : H b = some (.tup (k.map kV))) (hl : kvs.length < sizeLine) :
    DPut H a (.ref b) v (upd H a (.dT (putK kvs k v))) := .inr ⟨kvs, k, b, e, rfl, eb, hl, rfl⟩
section
variable {X : Cx} {pins : List (Addr × Obj)} {σ : St} {H : Hp} {s : Shared} {a : Addr} {y v : V} {u r : Value} {o : Option V} {A : Around} {E : Value → Shared → Prop}
theorem Inv.big (I : Inv X pins σ H s) : sysModules < s.heap.objs.size := by
  have h : mainGlobals < s.heap.objs.size := (I.mod.glob.keeps I.bk).lt
  exact Nat.lt_trans (by decide) h
end
section
variable {X : Cx} {pins : List (Addr × Obj)} {σ : St} {H : Hp} {s : Shared} {a : Addr} {kvs : List (Key × V)} {k : Key} {u : Value} {A : Around} {E : Value → Shared → Prop}
end
section
variable {X : Cx} {o i e value : Expr} {pos pos' tpos : Pos} {td ty tv : TE}
end
theorem dk_empty {P : Program} {w : World} {H : Hp} (h : Heap) (hb : sysModules < h.objs.size) : ObjOk P w H (h.push { cls := .type "dict", data := .dict #[] }) h.objs.size (.dK []) :=
  ⟨Nat.zero_le _, beq_eq_false_iff_ne.mpr (Ne.symm (Nat.ne_of_lt hb)), [], .nil, Heap.DictOf.new h⟩
def tDNewK : TE := fun _ H Q => ∀ p, H p = none → Q (.ref p) (upd H p (.dK []))
section
variable {X : Cx} {pos : Pos}
theorem pe_dnewK : PE X (.Dict [] [] pos) tDNewK := fun pins s σ H Q I h =>
  wpAny_Dict_empty ⟨.ref s.heap.objs.size, _, I.laid (a := s.heap.objs.size) (o := .dK []) (t' := s.toks) (fun _ _ q => Heap.get?_push_of_some _ q) (Nat.le_refl _) (dk_empty s.heap I.big), rfl, h _ (I.hok.fresh (Nat.le_refl _))⟩
end
section
variable {X : Cx} {pins : List (Addr × Obj)} {σ : St} {H : Hp} {s : Shared} {a : Addr} {y d : V} {u r : Value} {o : Option V} {A : Around} {E : Value → Shared → Prop}
end
section
variable {X : Cx} {o e f : Expr} {apos cpos : Pos} {td ty tx : TE}
end
section
variable {X : Cx} {pins : List (Addr × Obj)} {σ : St} {H : Hp} {s : Shared} {a : Addr} {kvs : List (Key × V)} {A : Around} {E : Value → Shared → Prop}
end
section
variable {X : Cx} {pins : List (Addr × Obj)} {σ : St} {H : Hp} {s : Shared} {a : Addr} {y : V} {u : Value} {A : Around} {E : Value → Shared → Prop}
end
section
variable {X : Cx}
end
section
variable {κ : Type} [DecidableEq κ]
end
end L2

set_option maxRecDepth 100000
set_option linter.all false
set_option Elab.async false
set_option maxHeartbeats 4000000
inductive Dt where
  | non | bl (b : Bool) | int (i : Int) | str (x : PySem.Str) | tup (ds : List Dt)
namespace Dt
open PySem
mutual
def eqD : Dt → Dt → Bool
  | .non, .non => true
  | .bl a, .bl b => a == b
  | .bl a, .int b => (if a then 1 else 0) == b
  | .int a, .bl b => a == (if b then 1 else 0)
  | .int a, .int b => a == b
  | .str a, .str b => a == b
  | .tup xs, .tup ys => eqDs xs ys
  | _, _ => false
def eqDs : List Dt → List Dt → Bool
  | [], [] => true
  | x :: xs, y :: ys => eqD x y && eqDs xs ys
  | _, _ => false
end
mutual
def dep : Dt → Nat
  | .tup xs => deps xs + 1
  | _ => 0
def deps : List Dt → Nat
  | [] => 0
  | x :: xs => max (dep x) (deps xs)
end
mutual
theorem eqD_refl : ∀ d : Dt, eqD d d = true
  | .non => rfl
  | .bl a => by simp [eqD]
  | .int a => by simp [eqD]
  | .str a => by simp [eqD]
  | .tup xs => by rw [eqD]; exact eqDs_refl xs
theorem eqDs_refl : ∀ ds : List Dt, eqDs ds ds = true
  | [] => rfl
  | x :: xs => by rw [eqDs, eqD_refl x, eqDs_refl xs]; rfl
end
theorem eqDs_length : ∀ {xs ys : List Dt}, eqDs xs ys = true → xs.length = ys.length
  | [], [], _ => rfl
  | [], _ :: _, h => by simp [eqDs] at h
  | _ :: _, [], h => by simp [eqDs] at h
  | x :: xs, y :: ys, h => by
    rw [eqDs, Bool.and_eq_true] at h
    rw [List.length_cons, List.length_cons, eqDs_length h.2]
theorem eqDs_all (z : Dt) : ∀ (xs ys : List Dt), ((List.range (min xs.length ys.length)).all (fun j => eqD (xs.getD j z) (ys.getD j z)) && xs.length == ys.length) = eqDs xs ys
  | [], [] => rfl
  | [], _ :: _ => by simp [eqDs]
  | _ :: _, [] => by simp [eqDs]
  | x :: xs, y :: ys => by
    rw [eqDs, ← eqDs_all z xs ys]
    have e : min (x :: xs).length (y :: ys).length = min xs.length ys.length + 1 := by simp only [List.length_cons]; omega
    rw [e, List.range_succ_eq_map, List.all_cons, List.all_map]
    have e2 : ((x :: xs).length == (y :: ys).length) = (xs.length == ys.length) := by
      rw [Bool.eq_iff_iff, beq_iff_eq, beq_iff_eq, List.length_cons, List.length_cons]; omega
    rw [e2, Bool.and_assoc]
    rfl
end Dt
namespace L2
open PySem PySem.Spec PyProof.Rows PyProof Dt
mutual
def DtAt (K : PySem.W.Frag) (H : Hp) : Dt → V → Prop
  | .non, v => v = .non
  | .bl b, v => v = .bl b
  | .int i, v => v = .int i
  | .str x, v => v = .str x
  | .tup ds, v => ∃ a vs, v = .ref a ∧ SqT K H a vs ∧ DtsAt K H ds vs
def DtsAt (K : PySem.W.Frag) (H : Hp) : List Dt → List V → Prop
  | [], vs => vs = []
  | d :: ds, vs => ∃ v r, vs = v :: r ∧ DtAt K H d v ∧ DtsAt K H ds r
end
theorem SqT.mono {K : PySem.W.Frag} {H H' : Hp} {a : Addr} {xs : List V} (e : Same H H') (h : SqT K H a xs) : SqT K H' a xs := by
  rcases h with (h | ⟨o, h⟩) | h
  · exact .inl (.inl (e _ _ h))
  · exact .inl (.inr ⟨o, e _ _ h⟩)
  · exact .inr h
mutual
theorem DtAt.mono {K : PySem.W.Frag} {H H' : Hp} (e : Same H H') : ∀ {d : Dt} {v : V}, DtAt K H d v → DtAt K H' d v
  | .non, _, h => by rw [DtAt] at h ⊢; exact h
  | .bl _, _, h => by rw [DtAt] at h ⊢; exact h
  | .int _, _, h => by rw [DtAt] at h ⊢; exact h
  | .str _, _, h => by rw [DtAt] at h ⊢; exact h
  | .tup ds, _, h => by
    rw [DtAt] at h ⊢
    obtain ⟨a, vs, h1, h2, h3⟩ := h
    exact ⟨a, vs, h1, h2.mono e, DtsAt.mono e h3⟩
theorem DtsAt.mono {K : PySem.W.Frag} {H H' : Hp} (e : Same H H') : ∀ {ds : List Dt} {vs : List V}, DtsAt K H ds vs → DtsAt K H' ds vs
  | [], _, h => by rw [DtsAt] at h ⊢; exact h
  | d :: ds, _, h => by
    rw [DtsAt] at h ⊢
    obtain ⟨v, r, h1, h2, h3⟩ := h
    exact ⟨v, r, h1, DtAt.mono e h2, DtsAt.mono e h3⟩
end
theorem DtsAt.length {K : PySem.W.Frag} {H : Hp} : ∀ {ds : List Dt} {vs : List V}, DtsAt K H ds vs → vs.length = ds.length
  | [], _, h => by rw [DtsAt] at h; rw [h]; rfl
  | d :: ds, _, h => by
    rw [DtsAt] at h
    obtain ⟨v, r, rfl, _, h3⟩ := h
    rw [List.length_cons, List.length_cons, DtsAt.length h3]
theorem DtsAt.get {K : PySem.W.Frag} {H : Hp} : ∀ {ds : List Dt} {vs : List V} {i : Nat} {d : Dt}, DtsAt K H ds vs → ds[i]? = some d → ∃ v, vs[i]? = some v ∧ DtAt K H d v
  | [], _, _, _, _, e => by simp at e
  | d :: ds, _, 0, d', h, e => by
    rw [DtsAt] at h
    obtain ⟨v, r, rfl, h2, _⟩ := h
    have : d = d' := by simpa using e
    subst this
    exact ⟨v, rfl, h2⟩
  | d :: ds, _, i + 1, d', h, e => by
    rw [DtsAt] at h
    obtain ⟨v, r, rfl, _, h3⟩ := h
    obtain ⟨v', h4, h5⟩ := DtsAt.get (i := i) h3 (by simpa using e)
    exact ⟨v', by simpa using h4, h5⟩
theorem DtsAt.drop {K : PySem.W.Frag} {H : Hp} : ∀ {ds : List Dt} {vs : List V} (n : Nat), DtsAt K H ds vs → DtsAt K H (ds.drop n) (vs.drop n)
  | _, _, 0, h => h
  | [], _, n + 1, h => by rw [DtsAt] at h; subst h; simp [DtsAt]
  | d :: ds, _, n + 1, h => by
    rw [DtsAt] at h
    obtain ⟨v, r, rfl, _, h3⟩ := h
    exact DtsAt.drop n h3
theorem DtsAt.append {K : PySem.W.Frag} {H : Hp} : ∀ {ds es : List Dt} {vs ws : List V}, DtsAt K H ds vs → DtsAt K H es ws → DtsAt K H (ds ++ es) (vs ++ ws)
  | [], _, _, _, h, g => by rw [DtsAt] at h; subst h; exact g
  | d :: ds, _, _, _, h, g => by
    rw [DtsAt] at h
    obtain ⟨v, r, rfl, h2, h3⟩ := h
    rw [List.cons_append, DtsAt]
    exact ⟨v, r ++ _, rfl, h2, DtsAt.append h3 g⟩
section
variable {X : Cx} {pins : List (Addr × Obj)} {σ : St} {H : Hp} {s : Shared}
mutual
theorem dt_inj (I : Inv X pins σ H s) : ∀ {d e : Dt} {v : V}, DtAt X.K H d v → DtAt X.K H e v → d = e
  | .non, e, v, h, g => by
    rw [DtAt] at h
    subst h
    cases e with
    | non => first | rfl | (rw [DtAt] at g; cases g)
    | bl c => rw [DtAt] at g; cases g; all_goals rfl
    | int c => rw [DtAt] at g; cases g; all_goals rfl
    | str c => rw [DtAt] at g; cases g; all_goals rfl
    | tup es => rw [DtAt] at g; obtain ⟨_, _, z, _⟩ := g; cases z
  | .bl b, e, v, h, g => by
    rw [DtAt] at h
    subst h
    cases e with
    | non => first | rfl | (rw [DtAt] at g; cases g)
    | bl c => rw [DtAt] at g; cases g; all_goals rfl
    | int c => rw [DtAt] at g; cases g; all_goals rfl
    | str c => rw [DtAt] at g; cases g; all_goals rfl
    | tup es => rw [DtAt] at g; obtain ⟨_, _, z, _⟩ := g; cases z
  | .int i, e, v, h, g => by
    rw [DtAt] at h
    subst h
    cases e with
    | non => first | rfl | (rw [DtAt] at g; cases g)
    | bl c => rw [DtAt] at g; cases g; all_goals rfl
    | int c => rw [DtAt] at g; cases g; all_goals rfl
    | str c => rw [DtAt] at g; cases g; all_goals rfl
    | tup es => rw [DtAt] at g; obtain ⟨_, _, z, _⟩ := g; cases z
  | .str x, e, v, h, g => by
    rw [DtAt] at h
    subst h
    cases e with
    | non => first | rfl | (rw [DtAt] at g; cases g)
    | bl c => rw [DtAt] at g; cases g; all_goals rfl
    | int c => rw [DtAt] at g; cases g; all_goals rfl
    | str c => rw [DtAt] at g; cases g; all_goals rfl
    | tup es => rw [DtAt] at g; obtain ⟨_, _, z, _⟩ := g; cases z
  | .tup ds, e, v, h, g => by
    rw [DtAt] at h
    obtain ⟨a, vs, rfl, h2, h3⟩ := h
    cases e with
    | tup es =>
      rw [DtAt] at g
      obtain ⟨a', vs', e1, g2, g3⟩ := g
      cases e1
      have e2 := I.tuple_inj h2 g2
      subst e2
      rw [dts_inj I h3 g3]
    | _ => rw [DtAt] at g; cases g
theorem dts_inj (I : Inv X pins σ H s) : ∀ {ds es : List Dt} {vs : List V}, DtsAt X.K H ds vs → DtsAt X.K H es vs → ds = es
  | [], es, vs, h, g => by
    rw [DtsAt] at h
    subst h
    cases es with
    | nil => rfl
    | cons e es => rw [DtsAt] at g; obtain ⟨_, _, z, _⟩ := g; cases z
  | d :: ds, es, vs, h, g => by
    rw [DtsAt] at h
    obtain ⟨v, r, rfl, h2, h3⟩ := h
    cases es with
    | nil => rw [DtsAt] at g; cases g
    | cons e es =>
      rw [DtsAt] at g
      obtain ⟨v', r', z, g2, g3⟩ := g
      cases z
      rw [dt_inj I h2 g2, dts_inj I h3 g3]
end
theorem tup_is (I : Inv X pins σ H s) {ds : List Dt} {v : V} {u : Value} (h : DtAt X.K H (.tup ds) v) (r : RelV v u) : ∃ a its, u = .ref a ∧ s.heap.IsTuple a its ∧ v = .ref a := by
  rw [DtAt] at h
  obtain ⟨a, vs, rfl, h2, _⟩ := h
  obtain ⟨its, _, ht, _⟩ := I.tuple h2
  exact ⟨a, _, r, ht, rfl⟩
mutual
theorem eqAt_D (I : Inv X pins σ H s) : ∀ (d e : Dt) (A : Around) (x y : V) (u v : Value), A.units + dep d < cLine → DtAt X.K H d x → DtAt X.K H e y → RelV x u → RelV y v → SeqAt.EqAt A s u v (eqD d e)
  | .non, e, A, x, y, u, v, hu, h, g, r1, r2 => by
    have hu' : A.units < cLine := by omega
    rw [DtAt] at h; subst h; cases r1
    cases e with
    | non => rw [DtAt] at g; subst g; cases r2; exact SeqAt.EqAt.same _
    | bl b => rw [DtAt] at g; subst g; cases r2; exact SeqAt.EqAt.none_bool b
    | int b => rw [DtAt] at g; subst g; obtain ⟨t, rfl⟩ := r2; exact SeqAt.EqAt.none_int b t
    | str b => rw [DtAt] at g; subst g; obtain ⟨t, rfl⟩ := r2; exact SeqAt.EqAt.none_str b t
    | tup es => obtain ⟨a, its, rfl, ht, _⟩ := tup_is I g r2; exact SeqAt.EqAt.none_tuple ht hu'
  | .bl b, e, A, x, y, u, v, hu, h, g, r1, r2 => by
    have hu' : A.units < cLine := by omega
    rw [DtAt] at h; subst h; cases r1
    cases e with
    | non => rw [DtAt] at g; subst g; cases r2; exact SeqAt.EqAt.bool_none b
    | bl c => rw [DtAt] at g; subst g; cases r2; exact SeqAt.EqAt.bool_bool b c
    | int c => rw [DtAt] at g; subst g; obtain ⟨t, rfl⟩ := r2; exact SeqAt.EqAt.bool_int b c t
    | str c => rw [DtAt] at g; subst g; obtain ⟨t, rfl⟩ := r2; exact SeqAt.EqAt.bool_str b c t
    | tup es => obtain ⟨a, its, rfl, ht, _⟩ := tup_is I g r2; exact SeqAt.EqAt.bool_tuple b ht hu'
  | .int i, e, A, x, y, u, v, hu, h, g, r1, r2 => by
    have hu' : A.units < cLine := by omega
    rw [DtAt] at h; subst h; obtain ⟨t', rfl⟩ := r1
    cases e with
    | non => rw [DtAt] at g; subst g; cases r2; exact SeqAt.EqAt.int_none i t'
    | bl c => rw [DtAt] at g; subst g; cases r2; exact SeqAt.EqAt.int_bool i t' c
    | int c => rw [DtAt] at g; subst g; obtain ⟨t, rfl⟩ := r2; exact SeqAt.EqAt.int_int i t' c t
    | str c => rw [DtAt] at g; subst g; obtain ⟨t, rfl⟩ := r2; exact SeqAt.EqAt.int_str i t' c t
    | tup es => obtain ⟨a, its, rfl, ht, _⟩ := tup_is I g r2; exact SeqAt.EqAt.int_tuple i t' ht hu'
  | .str i, e, A, x, y, u, v, hu, h, g, r1, r2 => by
    have hu' : A.units < cLine := by omega
    rw [DtAt] at h; subst h; obtain ⟨t', rfl⟩ := r1
    cases e with
    | non => rw [DtAt] at g; subst g; cases r2; exact SeqAt.EqAt.str_none i t'
    | bl c => rw [DtAt] at g; subst g; cases r2; exact SeqAt.EqAt.str_bool i t' c
    | int c => rw [DtAt] at g; subst g; obtain ⟨t, rfl⟩ := r2; exact SeqAt.EqAt.str_int i t' c t
    | str c => rw [DtAt] at g; subst g; obtain ⟨t, rfl⟩ := r2; exact SeqAt.EqAt.str_str i t' c t
    | tup es => obtain ⟨a, its, rfl, ht, _⟩ := tup_is I g r2; exact SeqAt.EqAt.str_tuple i t' ht hu'
  | .tup ds, e, A, x, y, u, v, hu, h, g, r1, r2 => by
    rw [dep] at hu
    have hu' : A.units < cLine := by omega
    cases e with
    | non => obtain ⟨a, its, rfl, ht, _⟩ := tup_is I h r1; rw [DtAt] at g; subst g; cases r2; exact SeqAt.EqAt.tuple_none ht hu'
    | bl c => obtain ⟨a, its, rfl, ht, _⟩ := tup_is I h r1; rw [DtAt] at g; subst g; cases r2; exact SeqAt.EqAt.tuple_bool c ht hu'
    | int c => obtain ⟨a, its, rfl, ht, _⟩ := tup_is I h r1; rw [DtAt] at g; subst g; obtain ⟨t, rfl⟩ := r2; exact SeqAt.EqAt.tuple_int c t ht hu'
    | str c => obtain ⟨a, its, rfl, ht, _⟩ := tup_is I h r1; rw [DtAt] at g; subst g; obtain ⟨t, rfl⟩ := r2; exact SeqAt.EqAt.tuple_str c t ht hu'
    | tup es =>
      have h0 := h
      have g0 := g
      rw [DtAt] at h g
      obtain ⟨a, vs, rfl, h2, h3⟩ := h
      obtain ⟨b, ws, rfl, g2, g3⟩ := g
      cases r1
      cases r2
      by_cases hab : a = b
      · subst hab
        have e0 := dt_inj I h0 g0
        rw [e0, eqD_refl]
        exact SeqAt.EqAt.same _
      · obtain ⟨its, rv, ht, _⟩ := I.tuple h2
        obtain ⟨its2, rw', ht2, _⟩ := I.tuple g2
        refine SeqAt.EqAt.of_refs hab ?_
        have l1 : its.length = ds.length := by rw [← rv.length, h3.length]
        have l2 : its2.length = es.length := by rw [← rw'.length, g3.length]
        have key := SeqAt.RcAt.tuples (e := fun j => eqD (ds.getD j .non) (es.getD j .non)) (show s.heap.IsTuple a its.toArray from ht) (show s.heap.IsTuple b its2.toArray from ht2) hu' fun j h1 h2' => by
          have := eqAts_D I ds es A.in1 vs ws its its2 (by show A.units + 1 + deps ds < cLine; omega) h3 g3 rv rw' j (by simpa using h1) (by simpa using h2')
          simpa using this
        rw [List.size_toArray, List.size_toArray, l1, l2, eqDs_all] at key
        rw [eqD]
        exact key
theorem eqAts_D (I : Inv X pins σ H s) : ∀ (ds es : List Dt) (A : Around) (xs ys : List V) (us vs : List Value), A.units + deps ds < cLine → DtsAt X.K H ds xs → DtsAt X.K H es ys → Vals xs us → Vals ys vs →
    ∀ (j : Nat) (h1 : j < us.length) (h2 : j < vs.length), SeqAt.EqAt A s us[j] vs[j] (eqD (ds.getD j .non) (es.getD j .non))
  | [], es, A, xs, ys, us, vs, hu, h, g, r1, r2, j, h1, h2 => by
    rw [DtsAt] at h; subst h; cases r1; simp at h1
  | d :: ds, [], A, xs, ys, us, vs, hu, h, g, r1, r2, j, h1, h2 => by
    rw [DtsAt] at g; subst g; cases r2; simp at h2
  | d :: ds, e :: es, A, xs, ys, us, vs, hu, h, g, r1, r2, j, h1, h2 => by
    rw [deps] at hu
    rw [DtsAt] at h g
    obtain ⟨x, xr, rfl, h3, h4⟩ := h
    obtain ⟨y, yr, rfl, g3, g4⟩ := g
    cases r1 with
    | cons p1 q1 =>
      cases r2 with
      | cons p2 q2 =>
        cases j with
        | zero => exact eqAt_D I d e A x y _ _ (by omega) h3 g3 p1 p2
        | succ j =>
          have := eqAts_D I ds es A xr yr _ _ (by omega) h4 g4 q1 q2 j (by simpa using h1) (by simpa using h2)
          simpa using this
end
end
end L2

set_option maxRecDepth 100000
set_option linter.all false
set_option Elab.async false
set_option maxHeartbeats 4000000
namespace L2
open PySem PySem.Spec PyProof.Rows PyProof Dt
section
variable {X : Cx} {pins : List (Addr × Obj)} {σ : St} {H : Hp} {s : Shared}
end
end L2

set_option maxRecDepth 100000
set_option linter.all false
set_option Elab.async false
set_option maxHeartbeats 4000000
namespace L2
open PySem PySem.Spec PyProof.Rows PyProof
def blkG (ix : List Nat) (o : List (Option V)) (σ : St) : St := o ++ ix.map fun i => σ.getD i none
def ifT : Option TT → TT
  | none => fun _ H Q => Q true H
  | some t => t
def PIf (X : Cx) (ifs : List Expr) (t : Option TT) : Prop := match ifs, t with
  | [], none => True
  | [c], some tc => PT X c tc
  | _, _ => False
def tLCG (wi : TI) (g : TG) (tc : Option TT) (te : TE) (n : Nat) (ix : List Nat) : TE := fun σ H Q => wi σ H fun J H1 => ∀ D, H1 D = none → ∃ W : Nat → Nat → List V → Hp → Prop, (∃ m, W 0 m [] (upd H1 D (.lst []))) ∧ ∀ i m ys H2, W i m ys H2 →
  (J.stop i H2 ∧ Q (.ref D) H2) ∨ (J.go i H2 ∧ ∀ (o : List (Option V)) v H3, o.length = n → J.yld i H2 v H3 → g v (blkG ix o σ) H3 fun σ2 H4 => (∃ o' : List (Option V), σ2 = blkG ix o' σ ∧ o'.length = n) ∧
    ifT tc σ2 H4 fun b H5 => if b = true then te σ2 H5 fun y H6 => H6 D = some (.lst ys) ∧ ys.length < sizeLine ∧ ∃ m', m' < m ∧ W (i + 1) m' (ys ++ [y]) (upd H6 D (.lst (ys ++ [y]))) else ∃ m', m' < m ∧ W (i + 1) m' ys H5)
structure CmpG (X : Cx) (scope : Scope) (cl : List (Str × Addr)) (own rest : List Str) (ix : List Nat) : Prop where
  clos : closureFor scope X.env = pure cl
  cell : ∀ y ∈ scope.names, y.2 ≠ .cell
  kind : scope.kind = .function
  names : ∀ y ∈ scope.names, y.2 = .local → scope.names.lookup y.1 = some .local
  cls : ∀ y c, cl.lookup y = some c → X.env.cells.lookup y = some c
  fr : ∀ y, scope.names.lookup y = some .free → ∃ c, cl.lookup y = some c
  nd : (own ++ rest).Nodup
  at_ : ∀ (j : Nat) (y : Str), rest[j]? = some y → ∃ i : Nat, ix[j]? = some i ∧ X.N[i]? = some y
  len : ix.length = rest.length
  out : ∀ y ∈ rest, scope.names.lookup y = some .free ∧ (X.env.kindOf y = some .cell ∨ X.env.kindOf y = some .free)
section
variable {X : Cx} {scope : Scope} {cl : List (Str × Addr)} {own rest : List Str} {ix : List Nat}
theorem cmpG_ok (ok : CmpG X scope cl own rest ix) {pins : List (Addr × Obj)} {σ : St} {H : Hp} {s : Shared} {fp : List Addr} (I : Inv X pins σ H s) (hf : ∀ b ∈ fp, FpOk X pins H b) (hb : ∀ b ∈ fp, b < s.heap.objs.size) :
    (cxC X scope cl (own ++ rest) s.heap.objs.size s H fp pins).Ok where
  mod := I.ok.mod
  kind := ok.kind
  glob := I.ok.glob
  blt := I.ok.blt
  above := Nat.le_refl _
  inj := fun y z c h1 h2 => I.ok.inj y z c (ok.cls y c h1) (ok.cls z c h2)
  has := fun y hy => by
    rcases hy with hy | hy
    · exact ok.fr y (relabel_kind hy (.inl rfl) ok.cell)
    · exact ok.fr y (relabel_kind hy (.inr rfl) ok.cell)
  cab := fun y c h _ => by cases h
  hd := I.ok.hd
  frames := I.ok.frames
  stk := .inl rfl
  exf := fun b hb' => ⟨Nat.ne_of_lt (hb b hb'), fun y c h => (hf b hb').2.2.2.2.1 y c (ok.cls y c h)⟩
  bs := I.bs
  bsz := Nat.le_trans I.ok.bsz I.sz
  noex := fun b o e hb' => by
    rcases (hf b hb').2.2.2.1 with z | z
    · exact I.ok.noex b o e z
    · exact absurd (Nat.lt_of_lt_of_le (Nat.lt_of_lt_of_le (Heap.lt_size e) I.ok.bsz) z) (Nat.lt_irrefl _)
  exfs := fun b hb' hm => by
    rcases List.mem_cons.mp (I.stkSub b hm) with z | z
    · exact (hf b hb').2.1 z
    · exact (hf b hb').2.2.1 z
  funs := I.stack
  frf := I.stkFree
theorem cmpG_start (ok : CmpG X scope cl own rest ix) {pins : List (Addr × Obj)} {σ : St} {H : Hp} {s : Shared} {fp : List Addr} {h₁ : Heap} {tk : Nat} {o : Obj} (I : Inv X pins σ H s) (hf : ∀ b ∈ fp, FpOk X pins H b) (hb : ∀ b ∈ fp, b < s.heap.objs.size)
    (hn : h₁.Ns s.heap.objs.size fun _ => none) (hs : Heap.SameBut s.heap.objs.size (s.heap.push o) h₁) :
    Inv (cxC X scope cl (own ++ rest) s.heap.objs.size s H fp pins) [] (blkG ix (List.replicate own.length none) σ) H { s with heap := h₁, toks := tk } := by
  have kp : ∀ b u, s.heap.get? b = some u → h₁.get? b = some u := fun b u e => (hs.2 b (Nat.ne_of_lt (Heap.lt_size e))).trans (Heap.get?_push_of_some _ e)
  refine ⟨cmpG_ok ok I hf hb, rfl, I.bare, Un.kept kp, ⟨_, hn, fun j y v e1 e2 e3 => ?_⟩, fun y c h => ?_, I.hok.fresh (Nat.le_refl _), fun y c h => I.freeC y c (ok.cls y c h), fun p hp => ?_, I.hok.kept kp, ?_⟩
  · have e1' : (own ++ rest)[j]? = some y := e1
    have e2' : (List.replicate own.length none ++ ix.map fun i => σ.getD i none)[j]? = some (some v) := e2
    by_cases hj : j < own.length
    · rw [List.getElem?_append_left (by simpa using hj), List.getElem?_replicate] at e2'
      split at e2' <;> cases e2'
    · rw [List.getElem?_append_right (by omega)] at e1'
      rw [List.getElem?_append_right (by simpa using hj), List.length_replicate] at e2'
      obtain ⟨i, hi, hN⟩ := ok.at_ _ y e1'
      rw [getD_map_ix hi] at e2'
      have hσ : σ[i]? = some (some v) := by
        have e4 : σ.getD i none = some v := Option.some.inj e2'
        rw [List.getD_eq_getElem?_getD] at e4
        cases q : σ[i]? with
        | none => rw [q] at e4; cases e4
        | some w => rw [q] at e4; exact congrArg some e4
      obtain ⟨hfree, hout⟩ := ok.out y (List.mem_of_getElem? e1')
      obtain ⟨m, hm, hl⟩ := I.loc
      obtain ⟨u, ru, lk⟩ := hl i y v hN hσ (by rcases hout with z | z; exact .inr (.inl z); exact .inr (.inr z))
      refine ⟨u, ru, .inr ⟨?_, ?_⟩⟩
      · have e : (compEnvC scope cl s.heap.objs.size X.env).kindOf y = (scope.names.lookup y).map fun k => if (k == NameKind.free && X.env.scope.kind == .function && X.env.kindOf y == some .cell) then NameKind.cell else k := relabel_lookup X.env scope.names y
        show (compEnvC scope cl s.heap.objs.size X.env).kindOf y = some .cell ∨ (compEnvC scope cl s.heap.objs.size X.env).kindOf y = some .free
        rw [e, hfree, Option.map_some]
        by_cases hc : (NameKind.free == NameKind.free && X.env.scope.kind == .function && X.env.kindOf y == some .cell) = true
        · rw [if_pos hc]; exact .inl rfl
        · rw [if_neg hc]; exact .inr rfl
      · obtain ⟨c, hc⟩ := ok.fr y hfree
        have hc2 := ok.cls y c hc
        rcases lk with ⟨z, _⟩ | ⟨_, c', e', ce⟩
        · rcases hout with z' | z' <;> (rw [z] at z'; cases z')
        · rw [hc2] at e'; cases e'
          obtain ⟨oc, hoc, hd⟩ := ce
          exact ⟨c, hc, oc, kp _ _ hoc, hd⟩
  · obtain ⟨v, oc, hoc, hd⟩ := I.cell y c (ok.cls y c h)
    exact ⟨v, oc, kp _ _ hoc, hd⟩
  · have hp' : p ∈ X.pn ++ pins := by simpa [cxC] using hp
    obtain ⟨e, n, ne, nf, d⟩ := I.pin p hp'
    refine ⟨kp _ _ e, n, Nat.ne_of_lt (Heap.lt_size e), fun hm => ?_, d⟩
    rcases List.mem_cons.mp (I.stkSub _ hm) with z | z
    · exact ne z
    · exact nf z
  · show (blkG ix (List.replicate own.length none) σ).length = (own ++ rest).length
    simp [blkG, ok.len]
theorem if_ok {Xb : Cx} {ifs : List Expr} {tc : Option TT} (h : PIf Xb ifs tc) {pins : List (Addr × Obj)} {s : Shared} {σ : St} {H : Hp} {Q : Bool → Hp → Prop} (I : Inv Xb pins σ H s) (q : ifT tc σ H Q) :
    wpAny (model Xb.prog Xb.w) Xb.A (forIn ifs true fun c r => if r = true then do let ok ← isTrue c Xb.env (eval c Xb.env); pure (ForInStep.yield ok) else pure (ForInStep.yield r)) (TP Xb pins σ Q) Xb.xe s := by
  cases ifs with
  | nil =>
    cases tc with
    | none => exact wpAny_pure ⟨H, I, q⟩
    | some tc => exact h.elim
  | cons c r =>
    cases tc with
    | none => cases r <;> exact h.elim
    | some tc =>
      cases r with
      | cons c2 r => exact h.elim
      | nil =>
        have hp : PT Xb c tc := h
        simp only [List.forIn_cons, List.forIn_nil, if_true]
        refine wpAny_bind (wpAny_bind (thn (hp pins s σ H Q I q) fun b s1 z => wpAny_pure (wpAny_pure z)))
theorem lcG_loop {elt iter tg : Expr} {ifs : List Expr} {pos : Pos} {te : TE} {g : TG} {tc : Option TT} {pins : List (Addr × Obj)} {σ : St} {H : Hp} {s s4 : Shared} {fp : List Addr} {it D : Addr} {tn : Nat → Heap → Prop} {J : It} {Q : VK} {W : Nat → Nat → List V → Hp → Prop} {m0 : Nat}
    (ok : CmpG X scope cl own rest ix) (hc : X.calm = true) (he : ∀ (C : Addr) (s : Shared) (H : Hp) (fp : List Addr) (pins : List (Addr × Obj)), PE (cxC X scope cl (own ++ rest) C s H fp pins) elt te) (hg : ∀ (C : Addr) (s : Shared) (H : Hp) (fp : List Addr) (pins : List (Addr × Obj)), PG (cxC X scope cl (own ++ rest) C s H fp pins) tg g)
    (hif : ∀ (C : Addr) (s : Shared) (H : Hp) (fp : List Addr) (pins : List (Addr × Obj)), PIf (cxC X scope cl (own ++ rest) C s H fp pins) ifs tc)
    (I : Inv X pins σ H s) (T : Turn X.prog X.w X.K tg J fp it tn) (hf : ∀ b ∈ fp, FpOk X pins H b) (hb : ∀ b ∈ fp, b < s.heap.objs.size)
    (J4 : Inv (cxC X scope cl (own ++ rest) s.heap.objs.size s H fp pins) [] (blkG ix (List.replicate own.length none) σ) H s4) (st : tn 0 s4.heap) (w0 : W 0 m0 [] H)
    (turn : ∀ i m ys H2, W i m ys H2 → (J.stop i H2 ∧ Q (.ref D) H2) ∨ (J.go i H2 ∧ ∀ (o : List (Option V)) v H3, o.length = own.length → J.yld i H2 v H3 → g v (blkG ix o σ) H3 fun σ2 H4 => (∃ o' : List (Option V), σ2 = blkG ix o' σ ∧ o'.length = own.length) ∧
      ifT tc σ2 H4 fun b H5 => if b = true then te σ2 H5 fun y H6 => H6 D = some (.lst ys) ∧ ys.length < sizeLine ∧ ∃ m', m' < m ∧ W (i + 1) m' (ys ++ [y]) (upd H6 D (.lst (ys ++ [y]))) else ∃ m', m' < m ∧ W (i + 1) m' ys H5)) :
    codeAny (model X.prog X.w) X.A (.compLoop (.ListComp elt [⟨tg, iter, ifs, 0⟩] scope pos) 0 (.ref it) (.ref D) (compEnvC scope cl s.heap.objs.size X.env)) (compPost (model X.prog X.w) X.A X.xe none (EP X pins σ Q) (.ref D) s.heap.objs.size) s4 := by
  have stat : ∀ {H' : Hp}, (∀ b ∈ fp, H' b = none) → ∀ b ∈ fp, FpOk (cxC X scope cl (own ++ rest) s.heap.objs.size s H fp pins) [] H' b := fun hn b hm => by
    obtain ⟨g0, g1, g2, g3, g4, g5⟩ := hf b hm
    refine ⟨hn b hm, Nat.ne_of_lt (hb b hm), fun z => ?_, .inl hm, fun y c h => g4 y c (ok.cls y c h), fun p hp => g5 p (by simpa [cxC] using hp)⟩
    rcases List.mem_cons.mp (I.stkSub b z) with z | z
    · exact g1 z
    · exact g2 z
  refine codeAny_loop rfl (fun n s' => ∃ i ys o H', o.length = own.length ∧ Inv (cxC X scope cl (own ++ rest) s.heap.objs.size s H fp pins) [] (blkG ix o σ) H' s' ∧ tn i s'.heap ∧ (∀ b ∈ fp, H' b = none) ∧ W i n ys H') (fun n s' hI => ?_) m0 ⟨0, [], List.replicate own.length none, H, by simp, J4, st, fun b hm => (hf b hm).1, w0⟩
  obtain ⟨i, ys, o, H', ho, I', st', fr', w'⟩ := hI
  show wpAny _ _ ((compTurn (.ListComp elt [⟨tg, iter, ifs, 0⟩] scope pos) 0 (.ref it) (.ref D) (compEnvC scope cl s.heap.objs.size X.env)).onRaise (fun x => do noteFrame x (compEnvC scope cl s.heap.objs.size X.env); theTreesLotGoes x)) _ _ s'
  refine wpAny_noted ?_
  rw [compTurn_list]
  refine wpAny_bind (wpAny_standAt (wpAny_bind ?_))
  rcases turn i n ys H' w' with ⟨stop, q⟩ | ⟨go, step⟩
  · refine thn (T.done (cxC X scope cl (own ++ rest) s.heap.objs.size s H fp pins) rfl rfl rfl hc i [] s' _ H' _ I' (stat fr') st' stop) fun r s5 ⟨hr, I5⟩ => ?_
    subst hr
    refine wpAny_pure ?_
    obtain ⟨m, hn, _⟩ := I5.loc
    refine ⟨m, hn, fun h'' hs => ⟨.ref D, H', ?_, rfl, q⟩⟩
    have B := I5.base
    have ne : ∀ b u, s.heap.get? b = some u → b ≠ s.heap.objs.size := fun b u e => Nat.ne_of_lt (Heap.lt_size e)
    have un : Un (frs X.stack) fp H H' s.heap h'' :=
      ⟨fun b u e n hx hy => (hs.2 b (ne b u e)).trans (B.keep b u e n hx hy), fun b u e n hx hy => (let ⟨sl, z⟩ := B.slot b u e n hx hy; ⟨sl, (hs.2 b (ne b u e)).trans z⟩), B.free,
       fun b u e hy => (let ⟨u', z⟩ := B.there b u e hy; ⟨u', (hs.2 b (ne b u e)).trans z⟩), B.tups, B.frzs, B.tbls⟩
    have hok : HOk X.prog X.w H' h'' := fun b u e => (I5.hok b u e).stay (fun c v hc' z => (hs.2 c (fun zz => by
      have fz : H' s.heap.objs.size = none := I5.free
      rcases hc' with y | y
      · rw [← y, zz, fz] at e; cases e
      · rw [zz, fz] at y; cases y)).trans z) (fun _ z => z) fun _ _ z => z
    refine I.call' (s' := { s5 with heap := h'' }) (ch := fp) I5.os un hok I5.bare fun b hm => ?_
    obtain ⟨g0, g1, g2, g3, g4, g5⟩ := hf b hm
    exact ⟨g3, g1, g4, g5⟩
  · refine thn (T.item (cxC X scope cl (own ++ rest) s.heap.objs.size s H fp pins) rfl rfl rfl hc i [] s' _ H' _ I' (stat fr') st' go) fun r s5 ⟨u, hr, h5⟩ => ?_
    subst hr
    refine wpAny_bind (thn h5 fun _ s6 ⟨xv, H6, I6, r6, y6, st6, fr6⟩ => ?_)
    have I6' := I6.pinned (stat fr6) (T.obj _ _ st6)
    refine wpAny_bind (wpAny_mono (hg _ _ _ _ _ _ s6 (blkG ix o σ) H6 xv u _ I6' r6 (step o xv H6 ho y6)) (fun _ s7 ⟨σ7, H7, I7, ⟨o', e7, ho'⟩, q7⟩ => ?_) fun _ _ z => z.elim)
    subst e7
    have again : ∀ {H9 : Hp} {s9 : Shared} {ys9 : List V} {m' : Nat}, Inv (cxC X scope cl (own ++ rest) s.heap.objs.size s H fp pins) ([] ++ pinsAt fp s6.heap) (blkG ix o' σ) H9 s9 → m' < n → W (i + 1) m' ys9 H9 →
        ∃ m, m < n ∧ ∃ i ys o H', o.length = own.length ∧ Inv (cxC X scope cl (own ++ rest) s.heap.objs.size s H fp pins) [] (blkG ix o σ) H' s9 ∧ tn i s9.heap ∧ (∀ b ∈ fp, H' b = none) ∧ W i m ys H' := fun {H9 s9 ys9 m'} I9 hm w9 => by
      refine ⟨m', hm, i + 1, ys9, o', H9, ho', I9.unpinned, ?_, fun b hm => ?_, w9⟩
      · exact T.keep _ _ _ st6 fun b hm ob e => (I9.pin (b, ob) (List.mem_append_right _ (List.mem_append_right _ (mem_pinsAt hm e)))).1
      · obtain ⟨ob, e, d⟩ := T.obj _ _ st6 b hm
        exact (I9.pin (b, ob) (List.mem_append_right _ (List.mem_append_right _ (mem_pinsAt hm e)))).2.1
    refine wpAny_bind (wpAny_mono (if_ok (hif _ _ _ _ _) I7 q7) (fun b s8 ⟨H8, I8, q8⟩ => ?_) fun _ _ z => z.elim)
    cases b with
    | false =>
      obtain ⟨m', hm', w8⟩ := (show ∃ m', m' < n ∧ W (i + 1) m' ys H8 from q8)
      exact wpAny_pure ⟨rfl, again I8 hm' w8⟩
    | true =>
      refine wpAny_bind (wpAny_bind (wpAny_mono (he _ _ _ _ _ _ s8 _ _ _ I8 q8) (fun yv s9 ⟨y, H9, I9, r9, hD, hz, m', hm', w9⟩ => ?_) fun _ _ z => z.elim))
      refine wpAny_bind (wpAny_mono (mt_append (X := cxC X scope cl (own ++ rest) s.heap.objs.size s H fp pins) _ s9 _ H9 (.ref D) [y] (.ref D) [yv] (fun _ H10 => H10 = upd H9 D (.lst (ys ++ [y]))) I9 rfl (.cons r9 .nil) ⟨D, ys, y, rfl, rfl, hD, hz, rfl⟩) (fun _ s10 ⟨_, H10, I10, _, e10⟩ => ?_) fun _ _ z => z.elim)
      subst e10
      exact wpAny_pure (wpAny_pure ⟨rfl, again I10 hm' w9⟩)
theorem pe_lcG {elt iter tg : Expr} {ifs : List Expr} {pos : Pos} {wi : TI} {te : TE} {g : TG} {tc : Option TT} (ok : CmpG X scope cl own rest ix) (hc : X.calm = true) (hi : PI X tg iter wi)
    (he : ∀ (C : Addr) (s : Shared) (H : Hp) (fp : List Addr) (pins : List (Addr × Obj)), PE (cxC X scope cl (own ++ rest) C s H fp pins) elt te) (hg : ∀ (C : Addr) (s : Shared) (H : Hp) (fp : List Addr) (pins : List (Addr × Obj)), PG (cxC X scope cl (own ++ rest) C s H fp pins) tg g)
    (hif : ∀ (C : Addr) (s : Shared) (H : Hp) (fp : List Addr) (pins : List (Addr × Obj)), PIf (cxC X scope cl (own ++ rest) C s H fp pins) ifs tc)
    (hs : ∀ x, foldedSetIterable iter X.env x = pure x := by intro _; rfl) : PE X (.ListComp elt [⟨tg, iter, ifs, 0⟩] scope pos) (tLCG wi g tc te own.length ix) := by
  intro pins s σ H Q I h
  rw [eval_ListComp]
  refine wpAny_comprehension_free (use := none) rfl hs ok.clos ok.kind ok.names (thn (hi pins s σ H _ I h) fun v s1 h1 => thn h1 fun itv s2 h2 => ?_)
  obtain ⟨it, fp, tn, J, H1, e, I2, T, st2, f2, hq⟩ := h2
  subst e
  refine wpAny_newObj_type (wpAny_newFunctionEnv ok.cell (by intro y hy; simp at hy) (fun h₁ hns hsb => ?_) ok.kind)
  dsimp only at hns hsb ⊢
  have na : H1 s2.heap.objs.size = none := I2.hok.fresh (Nat.le_refl _)
  obtain ⟨W, ⟨m0, w0⟩, turn⟩ := hq s2.heap.objs.size na
  have I3 := I2.laid (t' := s2.toks) (o := .lst []) (h' := s2.heap.push { cls := .type "list", dict := none, data := .seq ([] : List Value).toArray }) (fun b u e => Heap.get?_push_of_some _ e) (Nat.le_refl _) ⟨by decide, [], 0, .nil, Heap.get?_push_size _ rfl⟩
  have fa : ∀ b ∈ fp, b < s2.heap.objs.size := fun b hb => by
    obtain ⟨o, ho, _⟩ := T.obj 0 _ st2 b hb
    exact Heap.lt_size ho
  generalize hs3 : ({ s2 with heap := s2.heap.push { cls := .type "list", dict := none, data := .seq ([] : List Value).toArray } } : Shared) = s3 at hns hsb I3 ⊢
  have z3 : s3.heap.objs.size = s2.heap.objs.size + 1 := by rw [← hs3]; exact Heap.size_push _ _
  have k3 : ∀ b u, s2.heap.get? b = some u → s3.heap.get? b = some u := fun b u e => by rw [← hs3]; exact Heap.get?_push_of_some _ e
  have fa3 : ∀ b ∈ fp, b < s3.heap.objs.size := fun b hb => by rw [z3]; exact Nat.lt_succ_of_lt (fa b hb)
  have f3 : ∀ b ∈ fp, FpOk X pins (upd H1 s2.heap.objs.size (.lst [])) b := fun b hb => by
    obtain ⟨g0, g1⟩ := f2 b hb
    exact ⟨by rw [upd_ne (Nat.ne_of_lt (fa b hb))]; exact g0, g1⟩
  subst hs3
  have J4 := cmpG_start ok (tk := s2.toks + ([] : List (Str × Value)).length) I3 f3 fa3 hns hsb
  have st4 : tn 0 h₁ := T.keep _ _ _ st2 fun b hm o e => (hsb.2 b (Nat.ne_of_lt (fa3 b hm))).trans (Heap.get?_push_of_some _ (k3 b o e))
  have loop := lcG_loop (elt := elt) (iter := iter) (pos := pos) (s4 := { s2 with heap := h₁, toks := s2.toks + ([] : List (Str × Value)).length }) ok hc he hg hif I3 T f3 fa3 J4 st4 w0 turn
  exact codeAny_compStart_list loop (T.self _ 0 _ _ _ st4 loop)
end
end L2

set_option maxRecDepth 100000
set_option linter.all false
set_option Elab.async false
set_option maxHeartbeats 4000000
namespace L2
open PySem PySem.Spec PyProof.Rows PyProof Dt
section
variable {X : Cx} {CX : CXT} {e func : Expr} {es : List Expr} {tf : TE} {t : TA} {pos : Pos}
def tCallV (X : Cx) (CX : CXT) (tf : TE) (t : TA) : TE := fun σ H Q => tf σ H fun x H1 => ∃ (f : Addr) (fd : FuncData) (ps : List Str) (sp : Sp) (dvs : List V) (ds : List Value) (E : XK) (k : Nat), x = .ref f ∧ FnOk X.prog X.w X.K X.mg X.base CX k f fd ps sp ∧ Room k X.A ∧
  PySem.W.keepIn X.K (.ref f) = true ∧ Binds X.K fd ps ds ∧ Vals dvs ds ∧ Passes CX X E ∧ t σ H1 fun vs H2 => sp (vs ++ dvs) H2 Q E
theorem pe_callV (hf : PE X func tf) (ha : PA X (e :: es) t) (hc : eval (.Call func (e :: es) [] pos) X.env = (do callWith pos (← eval func X.env) [] (backTo pos (starEach (e :: es) X.env)) (backToKw pos (keywordEach [] X.env))) := by rfl)
    (he : starEach (e :: es) X.env = (false, eval e X.env) :: starEach es X.env := by rfl) (hpl : (backTo pos (starEach es X.env)).any (·.1) = false := by rfl) :
    PE X (.Call func (e :: es) [] pos) (tCallV X CX tf t) := by
  intro pins s σ H Q I h
  refine Call_ (thn (hf pins s σ H _ I h) fun u s0 ⟨x, H0, I0, rx, f, fd, ps, sp, dvs, ds, E, k, ex, F, hr, hk, hb, hd, hx, q⟩ => ?_) hc
  subst ex
  obtain rfl : u = Value.ref f := rx
  exact PySem.W.callWith_K (h₀ := X.base) I.ok.mod.kin hk (thn (ha pos pins s0 σ H0 _ I0 q) fun us s1 ⟨vs, H1, I1, r, q1⟩ => ⟨I1.kIn, run_fn F hr hb hd hx I1 r q1⟩) he hpl
theorem op_eqL : OpR X (compareOp .Eq) (fun x y H Q => ∃ p q xs ys ds es, x = .ref p ∧ y = .ref q ∧ SqL X.K H p xs ∧ SqL X.K H q ys ∧ DtsAt X.K H ds xs ∧ DtsAt X.K H es ys ∧ X.A.units + 1 + deps ds < cLine ∧ Q (.bl (eqDs ds es)) H) := by
  intro pins s σ H x y v u Q I rx ry h
  obtain ⟨p, q', xs, ys, ds, es, rfl, rfl, h1, h2, d1, d2, hu, q⟩ := h
  cases rx
  cases ry
  obtain ⟨its, r1, p1, _⟩ := I.list h1
  obtain ⟨its2, r2, p2, _⟩ := I.list h2
  have l1 : its.length = ds.length := by rw [← r1.length, d1.length]
  have l2 : its2.length = es.length := by rw [← r2.length, d2.length]
  have hu' : X.A.units < cLine := by omega
  by_cases hl : ds.length = es.length
  · have key := SeqAt.eq_listAt (prog := X.prog) (w := X.w) (A := X.A) (E := X.xe) (Q := EP X pins σ Q) (e := fun j => eqD (ds.getD j .non) (es.getD j .non)) p1.isList p2.isList (by simp; omega) hu' (fun j h1 h2' => by
      have := eqAts_D I ds es X.A.in1 xs ys its its2 (by show X.A.units + 1 + deps ds < cLine; omega) d1 d2 r1 r2 j (by simpa using h1) (by simpa using h2')
      simpa using this)
    refine key ⟨.bl (eqDs ds es), H, I, ?_, q⟩
    rw [List.size_toArray, l1, ← eqDs_all .non ds es, hl, Nat.min_self]
    simp
    rfl
  · refine SeqAt.eq_list_lengthsAt p1.isList p2.isList (by simp; omega) hu' ⟨.bl false, H, I, rfl, ?_⟩
    have : eqDs ds es = false := by
      cases e : eqDs ds es with
      | false => rfl
      | true => exact absurd (eqDs_length e) hl
    rw [this] at q
    exact q
def tyD : Dt → String
  | .non => "NoneType"
  | .bl _ => "bool"
  | .int _ => "int"
  | .str _ => "str"
  | .tup _ => "tuple"
theorem call_isD : CallR X (.builtin "isinstance") (fun xs H Q => ∃ d x n b, xs = [x, .ty n] ∧ DtAt X.K H d x ∧ PySem.W.kitOne X.K (.type (tyD d)) (.type n) = some b ∧ Q (.bl b) H) := by
  intro pins s σ H xs us Q I r h
  obtain ⟨d, x, n, b, rfl, hd, ko, q⟩ := h
  obtain ⟨u, u2, rfl, r1, r2⟩ := vals2 r
  cases r2
  have fin : ∀ tk, EP X pins σ Q (.bool b) { s with toks := tk } := fun tk => ⟨.bl b, H, I.tok tk, rfl, q⟩
  cases d with
  | non => rw [DtAt] at hd; subst hd; cases r1; exact PySem.W.kia_one PySem.W.kitx_none I.kIn True.intro ko (fun z => nomatch z) fin
  | bl y => rw [DtAt] at hd; subst hd; cases r1; exact PySem.W.kia_one PySem.W.kitx_bool I.kIn True.intro ko (fun z => nomatch z) fin
  | int y => rw [DtAt] at hd; subst hd; obtain ⟨t, rfl⟩ := r1; exact PySem.W.kia_one PySem.W.kitx_int I.kIn True.intro ko (fun z => nomatch z) fin
  | str y => rw [DtAt] at hd; subst hd; obtain ⟨t, rfl⟩ := r1; exact PySem.W.kia_one PySem.W.kitx_str I.kIn True.intro ko (fun z => nomatch z) fin
  | tup ds =>
    obtain ⟨a, its, rfl, ht, _⟩ := tup_is I hd r1
    obtain ⟨o, h1, h2, _⟩ := ht
    exact PySem.W.kia_one PySem.W.kitx_tuple I.kIn ⟨o, h1, h2⟩ ko (fun z => nomatch z) fin
end
end L2

set_option maxRecDepth 100000
set_option linter.all false
set_option Elab.async false
set_option maxHeartbeats 4000000
namespace L2
open PySem PySem.Spec PyProof.Rows PyProof
theorem Inv.turnedL {X : Cx} {pins : List (Addr × Obj)} {σ : St} {H : Hp} {s : Shared} {h' : Heap} {t' : Nat} {ch : List Addr} (I : Inv X pins σ H s) (k : ∀ b o, b ∉ ch → s.heap.get? b = some o → h'.get? b = some o) (f : ∀ b ∈ ch, FpOk X pins H b) :
    Inv X pins σ H { s with heap := h', toks := t' } := by
  have nit : ∀ b u, H b = some u → b ∉ ch := fun b u e z => by rw [(f b z).1] at e; cases e
  have nl : X.env.locals ∉ ch := fun z => (f _ z).2.1 rfl
  refine I.step (g' := s.gens) (d' := s.drawn) (ch := ch) (fun b hb => let ⟨_, a2, _, a4, a5, a6⟩ := f b hb; ⟨a4, a2, a5, a6⟩) (fun b o _ _ hc e _ => k b o hc e) (fun b o _ _ hc e _ => ⟨o.slots, k b o hc e⟩) (fun _ _ _ _ n => n)
    (fun b o hc e => ⟨o, k b o hc e⟩) (fun _ _ e => e) (fun _ _ _ e => e) (fun b ps e => ⟨#[], by rw [e]; simp⟩) (fun m hm => ?_) (fun b u e => ?_) I.bare
  · obtain ⟨o, es, ep, ho, r⟩ := hm
    exact ⟨o, es, ep, k _ o nl ho, r⟩
  · refine (I.hok b u e).stay (fun c v hc q => k c v ?_ q) (fun _ q => q) fun _ _ q => q
    rcases hc with z | z
    · rw [z]; exact nit b u e
    · exact nit c _ z
def tGetT (K : PySem.W.Frag) (to : TE) (t : TA) : TE := fun σ H Q => to σ H fun x H1 => ∃ a D, x = .ref a ∧ TabS K a D ∧ t σ H1 fun xs H2 => ∃ k dv, xs = [.str k, dv] ∧ Q ((KTD.datumAt k D).getD dv) H2
theorem pe_getT {X : Cx} {o e d : Expr} {to : TE} {t : TA} {apos cpos : Pos} (ho : PE X o to) (ha : PA X [e, d] t)
    (hbase : attributeBase o "get" X.env (eval o X.env) = eval o X.env := by rfl)
    (hfew : ((backTo cpos (starEach [e, d] X.env)).all (fun x => !x.1) && (backToKw cpos (keywordEach [] X.env)).all (fun x => x.1.isSome) && decide ([e, d].length + ([] : List Keyword).length + (if ([] : List Keyword).isEmpty then 0 else 1) < 30)) = true := by rfl)
    (hline : (apos.endLine == cpos.line) = true := by rfl) (hs : starEach [e, d] X.env = (false, eval e X.env) :: starEach [d] X.env := by rfl) (hplain : (backTo cpos (starEach [d] X.env)).any (·.1) = false := by rfl) :
    PE X (.Call (.Attribute o "get" apos) [e, d] [] cpos) (tGetT X.K to t) := by
  intro pins s σ H Q I h
  refine wpAny_Call_method_late hbase hfew hline rfl (thn (ho pins s σ H _ I h) fun v s1 ⟨x, H1, I1, r1, q1⟩ => ?_)
  obtain ⟨a, D, rfl, ⟨lo, ob, es, ep, lk, hc, hd, hr⟩, q1⟩ := q1
  cases r1
  refine ⟨"dict", "dict.get", PySem.F.plainAttrs_dict, PySem.F.slot_dict_get, PySem.F.type_dict_get, ⟨ob, I1.kIn _ _ lk, hc.1⟩, fun b z => ?_, ?_⟩
  · cases z
    exact ⟨ob, I1.kIn _ _ lk, hc.2.1⟩
  have hA := ha cpos pins s1 σ H1 _ I1 q1
  rw [hs] at hA ⊢
  refine Calls.callWith_builtin (by show (false || (backTo cpos (starEach [d] X.env)).any (·.1)) = false; rw [hplain] <;> rfl) (Calls.evalArgs_plain (thn hA fun us s2 ⟨vs, H2, I2, r2, q2⟩ => ?_))
  obtain ⟨k, dv, rfl, q⟩ := q2
  obtain ⟨u1, u2, rfl, ⟨tk, rfl⟩, rd⟩ := Vals.two r2
  have hob := I2.kIn _ _ lk
  refine wpAny_call_entry PySem.F.slot_dict_get ⟨ob, hob, hc.1⟩ PySem.F.entry_dict_get ?_ (PySem.F.args_dict_get_3 _ _ _)
  show wpAny _ _ (dictGet a (.str k tk) >>= _) _ _ s2
  refine wpAny_bind (look_tab hob hd hr (fun v u e ru => ?_) fun e => ?_)
  · rw [e] at q
    exact wpAny_pure ⟨_, rfl, v, H2, I2.tok _, ru, q⟩
  · rw [e] at q
    show wpAny _ _ (Builtin.Dict.missed a (.str k tk) >>= _) _ _ _
    exact wpAny_bind (wpAny_missed_other lo (wpAny_pure ⟨_, rfl, dv, H2, I2.tok _, rd, q⟩))
def Ite (K : PySem.W.Frag) (l : Addr) : It := ⟨fun i H => ∃ xs x, SqL K H l xs ∧ xs[i]? = some x,
  fun i H v H' => ∃ T x, H T = none ∧ v = .ref T ∧ H' = upd H T (.tup [.int i, x]) ∧ ∀ ys, SqL K H l ys → ys[i]? = some x,
  fun i H => ∃ xs, SqL K H l xs ∧ xs.length ≤ i⟩
theorem lt_of_rd {h : Heap} {a : Addr} {o : Obj} (e : h.get? a = some o) : a ≠ h.objs.size := Nat.ne_of_lt (Heap.lt_size e)
theorem turn_enum {P : Program} {w : World} {K : PySem.W.Frag} {es : List Expr} {k0} {pos : Pos} (l e it : Addr) (ne : e ≠ it) : Turn P w K (.Tuple es k0 pos) (Ite K l) [e, it] e (fun i h => (∃ old, IsEnum h e it i old) ∧ h.IsListIter it l i) where
  mem := by simp
  obj := fun i h st b hb => by
    obtain ⟨⟨old, e1⟩, o, e2, c2, d2⟩ := st
    rcases List.mem_cons.mp hb with z | z
    · rw [z]; exact ⟨_, e1, fun v z => by cases z⟩
    · rw [List.mem_singleton.mp z]; exact ⟨o, e2, fun v z => by rw [d2] at z; cases z⟩
  keep := fun i h h' st k => ⟨st.1.imp fun old q => k e (by simp) _ q, st.2.at fun o q => k it (by simp) o q⟩
  item := by
    intro X hP hw hK hc i pins s σ H E I hf st hg
    subst hP hw hK
    obtain ⟨xs, x, hq, hx⟩ := hg
    obtain ⟨its, rv, p, hz⟩ := I.list hq
    obtain ⟨u, hu, ru⟩ := rv.get hx
    obtain ⟨⟨old, e1⟩, e2⟩ := st
    refine wpAny_pyNext_enum_item e1 e2 p.isList (x := u) (by simpa using hu) ne fun h1 o1 i1 t1 z1 k1 => ⟨_, rfl, wpAny_letOwnedTupleGo_enum o1 fun h2 o2 b2 => ?_⟩
    have e3 : e ≠ s.heap.objs.size := lt_of_rd e1
    have e4 : it ≠ s.heap.objs.size := by obtain ⟨o, q, _⟩ := e2; exact lt_of_rd q
    have nT : H s.heap.objs.size = none := I.hok.fresh (Nat.le_refl _)
    have t2 : h2.get? s.heap.objs.size = some { cls := .type "tuple", data := .seq #[.int i s.toks, u] } := (b2.2 _ (Ne.symm e3)).trans t1
    have I1 : Inv X pins σ (upd H s.heap.objs.size (.tup [.int i, x])) { s with heap := s.heap.push { cls := .type "tuple", data := .seq #[.int i s.toks, u] }, toks := s.toks + 1 } :=
      I.laid (fun b v q => Heap.get?_push_of_some _ q) (Nat.le_refl _) ⟨by show 2 ≤ sizeLine; decide, [.int i s.toks, u], .cons ⟨_, rfl⟩ (.cons ru .nil), ⟨_, Heap.get?_push_size _ rfl, rfl, _, rfl⟩⟩
    have I2 : Inv X pins σ (upd H s.heap.objs.size (.tup [.int i, x])) { s with heap := h2, toks := s.toks + 1 } := by
      refine Inv.turnedL (s := { s with heap := s.heap.push { cls := .type "tuple", data := .seq #[.int i s.toks, u] }, toks := s.toks + 1 }) (ch := [e, it]) (t' := s.toks + 1) I1 (fun b o hb q => ?_) fun b hb => ?_
      · have b1 : b ≠ e := fun z => hb (by simp [z])
        have b3 : b ≠ it := fun z => hb (by simp [z])
        by_cases bT : b = s.heap.objs.size
        · subst bT
          have z : (s.heap.push { cls := .type "tuple", data := .seq #[.int i s.toks, u] }).get? s.heap.objs.size = some _ := Heap.get?_push_size _ rfl
          rw [z] at q
          exact t2.trans q
        · have q' : s.heap.get? b = some o := by rw [← q]; exact (Heap.get?_push_ne _ _ _ bT).symm
          exact (b2.2 b b1).trans (k1 b o b1 b3 q')
      · obtain ⟨f0, f1⟩ := hf b hb
        refine ⟨?_, f1⟩
        rw [upd_ne ?_]
        · exact f0
        · rcases List.mem_cons.mp hb with z | z
          · rw [z]; exact e3
          · rw [List.mem_singleton.mp z]; exact e4
    refine ⟨.ref s.heap.objs.size, _, I2, rfl, ⟨s.heap.objs.size, x, nT, rfl, rfl, fun ys hy => by rw [I.list_inj hy hq]; exact hx⟩, ⟨⟨u, by simpa using o2⟩, i1.at fun o q => (b2.2 it (Ne.symm ne)).trans q⟩, fun b hb => ?_⟩
    rw [upd_ne ?_]
    · exact (hf b hb).1
    · rcases List.mem_cons.mp hb with z | z
      · rw [z]; exact e3
      · rw [List.mem_singleton.mp z]; exact e4
  done := by
    intro X hP hw hK hc i pins s σ H E I hf st hg
    subst hP hw hK
    obtain ⟨xs, hq, hx⟩ := hg
    obtain ⟨its, rv, p, hz⟩ := I.list hq
    have hl := rv.length
    obtain ⟨⟨old, e1⟩, e2⟩ := st
    exact wpAny_pyNext_enum_end (I.ok.hd hc) e1 e2 p.isList (by simp; omega) fun h' eb => ⟨rfl, I.turnedL (t' := s.toks) (ch := [e, it]) (fun b o hb q => eb b o (fun z => hb (by simp [z])) q) hf⟩
  self := fun _ _ _ _ _ st h => let ⟨⟨_, e1⟩, _⟩ := st; wpAny_pyIter_enum e1 h
def iEnum (K : PySem.W.Frag) (ta : TA) : TI := fun σ H R => ta σ H fun vs H1 => ∃ l, vs = [.ref l] ∧ (∃ xs, SqL K H1 l xs) ∧ R (Ite K l) H1
theorem pi_enum {X : Cx} {a : Expr} {ta : TA} {p pos p2 : Pos} {es : List Expr} {k0} (hg : Gl X "enumerate") (hm : X.mg "enumerate" = none) (ha : PA X [a] ta) (hs : starEach [a] X.env = [(false, eval a X.env)] := by rfl) :
    PI X (.Tuple es k0 p2) (.Call (.Name "enumerate" p) [a] [] pos) (iEnum X.K ta) := by
  intro pins s σ H R I h
  refine Call_ (ld_blt I hg hm boot_enumerate (PyProof.Rows.callWith_type1 (thn (ha pos pins s σ H _ I h) fun us s1 ⟨vs, H1, I1, r1, q1⟩ => ?_) hs rfl))
  obtain ⟨l, rfl, ⟨xs, hq⟩, q⟩ := q1
  obtain ⟨u, rfl, ru⟩ := vals1 r1
  cases ru
  obtain ⟨its, rv, pl, hz⟩ := I1.list hq
  refine call_enumerate_list pl.isList fun h' e1 e2 sz kp => wpAny_pyIter_enum e1 ?_
  refine ⟨_, [s1.heap.objs.size + 1, s1.heap.objs.size], _, _, H1, rfl, I1.kept (t' := s1.toks) kp, turn_enum l _ _ (Nat.succ_ne_self _), ⟨⟨_, e1⟩, e2⟩, fun b hb => ?_, q⟩
  have hb' : s1.heap.objs.size ≤ b := by
    rcases List.mem_cons.mp hb with z | z
    · rw [z]; exact Nat.le_succ _
    · rw [List.mem_singleton.mp z]; exact Nat.le_refl _
  exact I1.fpOk hb' (I1.hok.fresh hb')
end L2

set_option maxRecDepth 100000
set_option linter.all false
set_option Elab.async false
set_option maxHeartbeats 4000000
namespace L2
open PySem PySem.Spec PyProof.Rows PyProof
structure Nx (P : Program) (w : World) (it : Addr) (xs : Array Value) (dp : List Addr) (N : Nat → Heap → Prop) : Prop where
  stay : ∀ k h h', N k h → (∀ b ∈ dp, ∀ o, h.get? b = some o → h'.get? b = some o) → N k h'
  item : ∀ (A : Around) (E : Value → Shared → Prop) (s : Shared) (k : Nat) (x : Value) (Q : Value → Shared → Prop), N k s.heap → xs[k]? = some x → (∀ g, N (k + 1) g → Heap.SameBut it s.heap g → Q x { s with heap := g }) → wpAny (model P w) A (Builtin.SmallTypes.nextOf (.ref it)) Q E s
  fin : ∀ (A : Around) (E : Value → Shared → Prop) (s : Shared) (k : Nat) (Q : Value → Shared → Prop), A.handled = none → N k s.heap → xs[k]? = none → (∀ g e, Heap.ExtBut it s.heap g → (∃ o, g.get? e = some o ∧ o.cls = .type "StopIteration") → E (.ref e) { s with heap := g }) →
    wpAny (model P w) A (Builtin.SmallTypes.nextOf (.ref it)) Q E s
theorem nx_tuple (P : Program) (w : World) (it t : Addr) (xs : Array Value) (ne : t ≠ it) : Nx P w it xs [it, t] (fun k h => h.IsTupleIter it t k ∧ h.IsTuple t xs) where
  stay := fun k h h' st f => by
    obtain ⟨⟨o, a1, a2⟩, ⟨o', b1, b2⟩⟩ := st
    exact ⟨⟨o, f it (by simp) o a1, a2⟩, ⟨o', f t (by simp) o' b1, b2⟩⟩
  item := by
    intro A E s k x Q st ex go
    obtain ⟨ti, tt⟩ := st
    obtain ⟨o, ob, oc, od⟩ := id ti
    obtain ⟨u, ub, uc, un, ud⟩ := id tt
    unfold Builtin.SmallTypes.nextOf
    refine wpAny_bind (wpAny_callSpecial?_slot (name := Str.ofString "__next__") ti.typeIs F.slot_tuple_iterator_next (wpAny_call_entry F.slot_tuple_iterator_next ti.typeIs F.entry_tuple_iterator_next ?_ (F.args_tuple_iterator_next_1 _)))
    show wpAny _ _ (field (.ref it) 0 >>= _) _ _ s
    refine wpAny_bind (wpAny_field ob od (x := .ref t) rfl ?_)
    show wpAny _ _ (if (Value.ref t == Value.none) = true then _ else _) _ _ s
    rw [if_neg (by intro z; cases z)]
    show wpAny _ _ (field (.ref it) 1 >>= _) _ _ s
    refine wpAny_bind (wpAny_field ob od (x := .int k 0) rfl ?_)
    show wpAny _ _ (seqItems? (.ref t) >>= _) _ _ s
    refine wpAny_bind (wpAny_seqItems ub ud ?_)
    simp only [Int.toNat_natCast, ex]
    refine wpAny_bind (wpAny_setField ob od (by simp) (wpAny_pure ⟨x, rfl, wpAny_pure (go _ ⟨?_, tt.extBut (Heap.SameBut.update ..).extBut ne⟩ (Heap.SameBut.update ..))⟩))
    exact ⟨_, Heap.get?_update_self _ ob (Obj.isFreed_of_fields (Obj.data_mapFields od _)), (Obj.cls_mapFields ..).trans oc, by rw [Obj.data_mapFields od]; simp [rawInt]⟩
  fin := by
    intro A E s k Q hh st ex go
    obtain ⟨ti, tt⟩ := st
    obtain ⟨o, ob, oc, od⟩ := id ti
    obtain ⟨u, ub, uc, un, ud⟩ := id tt
    unfold Builtin.SmallTypes.nextOf
    refine wpAny_bind (wpAny_callSpecial?_slot (name := Str.ofString "__next__") ti.typeIs F.slot_tuple_iterator_next (wpAny_call_entry F.slot_tuple_iterator_next ti.typeIs F.entry_tuple_iterator_next ?_ (F.args_tuple_iterator_next_1 _)))
    show wpAny _ _ (field (.ref it) 0 >>= _) _ _ s
    refine wpAny_bind (wpAny_field ob od (x := .ref t) rfl ?_)
    show wpAny _ _ (if (Value.ref t == Value.none) = true then _ else _) _ _ s
    rw [if_neg (by intro z; cases z)]
    show wpAny _ _ (field (.ref it) 1 >>= _) _ _ s
    refine wpAny_bind (wpAny_field ob od (x := .int k 0) rfl ?_)
    show wpAny _ _ (seqItems? (.ref t) >>= _) _ _ s
    refine wpAny_bind (wpAny_seqItems ub ud ?_)
    simp only [Int.toNat_natCast, ex]
    refine wpAny_bind (wpAny_rule (wpAny_bind (wpAny_setField ob od (by simp) ?_)))
    show wpAny _ _ (newExc (.type "StopIteration") [] >>= _) _ _ _
    refine wpAny_bind ?_
    simp only [newExc, newTuple]
    refine wpAny_bind (wpAny_newObj_type ?_ (by size_fits))
    refine wpAny_bind (m := firstArgMember _ _) (wpAny_of_eq (a := Value.none) (by first | rfl | (simp only [firstArgMember]; rfl)) ?_)
    refine wpAny_newObj_type ?_ (by size_fits)
    simp only [raiseNew]
    refine wpAny_bind (wpAny_handled ?_)
    first | rw [show A.in1.handled = none from hh] | rw [hh]
    refine wpAny_bind (wpAny_pure (wpAny_throw ?_))
    exact go _ _ (((Heap.SameBut.update ..).extBut.push _).push _) ⟨_, Heap.get?_push_size _ rfl, rfl⟩
structure ZAp (z p q i j : Addr) (d1 d2 : List Addr) : Prop where
  pz : p ≠ z
  qz : q ≠ z
  iz : i ≠ z
  jz : j ≠ z
  pq : p ≠ q
  pi : p ≠ i
  pj : p ≠ j
  qi : q ≠ i
  qj : q ≠ j
  ij : i ≠ j
  z1 : z ∉ d1
  q1 : q ∉ d1
  j1 : j ∉ d1
  z2 : z ∉ d2
  q2 : q ∉ d2
  i2 : i ∉ d2
section
variable {P : Program} {w : World} {A : Around} {E : Value → Shared → Prop} {s : Shared} {z p q i j : Addr} {xs ys : Array Value} {d1 d2 : List Addr} {N1 N2 : Nat → Heap → Prop}
theorem out_of {d : List Addr} {b c : Addr} (h : c ∉ d) (m : b ∈ d) : b ≠ c := fun e => h (e ▸ m)
theorem zp_item {k : Nat} {x y a b : Value} {Q : Value → Shared → Prop} (D : ZAp z p q i j d1 d2) (n1 : Nx P w i xs d1 N1) (n2 : Nx P w j ys d2 N2) (zo : IsZip s.heap z p q .none) (po : IsPair s.heap p (.ref i) (.ref j)) (qo : IsPair s.heap q a b)
    (st1 : N1 k s.heap) (st2 : N2 k s.heap) (ex : xs[k]? = some x) (ey : ys[k]? = some y)
    (go : ∀ g, IsZip g z p q (rawInt s.heap.objs.size) → IsPair g q x y → N1 (k + 1) g → N2 (k + 1) g → IsPair g s.heap.objs.size x y → (∀ c o, c ∉ [z, q, i, j] → s.heap.get? c = some o → g.get? c = some o) → Q (.ref s.heap.objs.size) { s with heap := g })
    (zi : i < s.heap.objs.size) (zj : j < s.heap.objs.size) (m1 : ∀ c ∈ d1, c < s.heap.objs.size) (m2 : ∀ c ∈ d2, c < s.heap.objs.size) :
    wpAny (model P w) A (Builtin.«zip.__next__» ⟨[.ref z], []⟩) (fun fin s' => ∃ v, fin = .done (.ret v) ∧ Q v s') E s := by
  have zl : z < s.heap.objs.size := Heap.lt_size zo
  have ql : q < s.heap.objs.size := Heap.lt_size qo
  show wpAny _ _ (field (.ref z) 2 >>= _) _ _ _
  refine wpAny_bind (wpAny_field zo rfl (x := .bool false) rfl ?_)
  show wpAny _ _ (field (.ref z) 3 >>= _) _ _ _
  refine wpAny_bind (wpAny_field zo rfl (x := .ref p) rfl ?_)
  refine wpAny_bind (wpAny_seqItems po rfl ?_)
  show wpAny _ _ (Builtin.SmallTypes.ownedTupleIsFree (.ref z) >>= _) _ _ _
  refine wpAny_bind ?_
  unfold Builtin.SmallTypes.ownedTupleIsFree
  refine wpAny_bind (wpAny_field zo rfl (x := .none) rfl (wpAny_pure ?_))
  simp only [if_true]
  refine wpAny_bind (wpAny_rule (wpAny_bind (wpAny_field zo rfl (x := .ref q) rfl ?_)))
  refine wpAny_bind (wpAny_setField_rec zo (by simp) fun g1 w1 b1 => ?_)
  replace w1 : IsZip g1 z p q .ellipsis := w1
  refine wpAny_bind ?_
  simp only [List.zipIdx_cons, List.zipIdx_nil, List.forIn_cons, List.forIn_nil]
  refine wpAny_bind (wpAny_bind (wpAny_onRaise ?_))
  show wpAny _ _ (Builtin.SmallTypes.nextOf (.ref i) >>= _) _ _ _
  have a1 : N1 k g1 := n1.stay _ _ _ st1 fun c hc o e => b1.extBut _ _ (out_of D.z1 hc) e
  refine wpAny_bind (n1.item _ _ _ _ _ _ a1 ex fun g2 a2 b2 => wpAny_pure ?_)
  have q2 : IsPair g2 q a b := b2.extBut _ _ D.qi (b1.extBut _ _ D.qz qo)
  refine wpAny_bind (wpAny_seqItems q2 rfl (wpAny_bind (wpAny_updateSeq_pair q2 fun g3 q3 b3 => ?_)))
  replace q3 : IsPair g3 q x b := q3
  refine wpAny_bind (wpAny_letGo (wpAny_pure ?_))
  refine wpAny_bind (wpAny_bind (wpAny_onRaise ?_))
  show wpAny _ _ (Builtin.SmallTypes.nextOf (.ref j) >>= _) _ _ _
  have c3 : N2 k g3 := n2.stay _ _ _ st2 fun c hc o e => b3.extBut _ _ (out_of D.q2 hc) (b2.extBut _ _ (out_of D.i2 hc) (b1.extBut _ _ (out_of D.z2 hc) e))
  refine wpAny_bind (n2.item _ _ _ _ _ _ c3 ey fun g4 c4 b4 => wpAny_pure ?_)
  have q4 : IsPair g4 q x b := b4.extBut _ _ D.qj q3
  refine wpAny_bind (wpAny_seqItems q4 rfl (wpAny_bind (wpAny_updateSeq_pair q4 fun g5 q5 b5 => ?_)))
  replace q5 : IsPair g5 q x y := q5
  refine wpAny_bind (wpAny_letGo (wpAny_pure (wpAny_pure ?_)))
  refine wpAny_bind (wpAny_seqItems q5 rfl (wpAny_bind (wpAny_newTuple ?_)))
  have sz : g5.objs.size = s.heap.objs.size := by rw [b5.1, b4.1, b3.1, b2.1, b1.1]
  have w5 : IsZip g5 z p q .ellipsis := b5.extBut _ _ D.qz.symm (b4.extBut _ _ D.jz.symm (b3.extBut _ _ D.qz.symm (b2.extBut _ _ D.iz.symm w1)))
  have k5 : ∀ c o, c ∉ [z, q, i, j] → s.heap.get? c = some o → g5.get? c = some o := fun c o hc e => by
    simp only [List.mem_cons, List.not_mem_nil, or_false, not_or] at hc
    obtain ⟨h1, h2, h3, h4⟩ := hc
    exact b5.extBut _ _ h2 (b4.extBut _ _ h4 (b3.extBut _ _ h2 (b2.extBut _ _ h3 (b1.extBut _ _ h1 e))))
  have a5 : N1 (k + 1) g5 := n1.stay _ _ _ a2 fun c hc o e => b5.extBut _ _ (out_of D.q1 hc) (b4.extBut _ _ (out_of D.j1 hc) (b3.extBut _ _ (out_of D.q1 hc) e))
  have c5 : N2 (k + 1) g5 := n2.stay _ _ _ c4 fun c hc o e => b5.extBut _ _ (out_of D.q2 hc) e
  show wpAny _ _ (Builtin.SmallTypes.ownedTupleHandOut (.ref z) (.ref g5.objs.size) >>= _) _ _ _
  refine wpAny_bind ?_
  unfold Builtin.SmallTypes.ownedTupleHandOut
  have w6 : IsZip (g5.push { cls := .type "tuple", data := .seq #[x, y] }) z p q .ellipsis := Heap.get?_push_of_some _ w5
  refine wpAny_bind (wpAny_setField_rec w6 (by simp) fun g7 w7 b7 => ?_)
  replace w7 : IsZip g7 z p q (rawInt g5.objs.size) := w7
  refine wpAny_setField_rec w7 (by simp) fun g8 w8 b8 => ?_
  replace w8 : IsZip g8 z p q (rawInt g5.objs.size) := w8
  have up : ∀ c o, c ≠ z → g5.get? c = some o → g8.get? c = some o := fun c o c1 e => b8.extBut _ _ c1 (b7.extBut _ _ c1 (Heap.get?_push_of_some _ e))
  have zn : g5.objs.size ≠ z := by rw [sz]; exact Ne.symm (Nat.ne_of_lt zl)
  have t8 : IsPair g8 g5.objs.size x y := b8.extBut _ _ zn (b7.extBut _ _ zn (Heap.get?_push_size _ rfl))
  refine wpAny_pure ⟨_, rfl, ?_⟩
  show Q (.ref g5.objs.size) _
  rw [sz] at w8 t8 ⊢
  exact go g8 w8 (up _ _ D.qz q5) (n1.stay _ _ _ a5 fun c hc o e => up c o (out_of D.z1 hc) e) (n2.stay _ _ _ c5 fun c hc o e => up c o (out_of D.z2 hc) e) t8 fun c o hc e => up c o (fun h => hc (by simp [h])) (k5 c o hc e)
theorem zp_end {k : Nat} {a b : Value} {Q : Fin → Shared → Prop} (hh : A.handled = none) (D : ZAp z p q i j d1 d2) (n1 : Nx P w i xs d1 N1) (n2 : Nx P w j ys d2 N2) (zo : IsZip s.heap z p q .none) (po : IsPair s.heap p (.ref i) (.ref j)) (qo : IsPair s.heap q a b)
    (st1 : N1 k s.heap) (st2 : N2 k s.heap) (ex : xs[k]? = none ∨ ys[k]? = none)
    (go : ∀ g e, (∀ c o, c ∉ [z, q, i, j] → s.heap.get? c = some o → g.get? c = some o) → (∃ o, g.get? e = some o ∧ o.cls = .type "StopIteration") → E (.ref e) { s with heap := g }) :
    wpAny (model P w) A (Builtin.«zip.__next__» ⟨[.ref z], []⟩) Q E s := by
  show wpAny _ _ (field (.ref z) 2 >>= _) _ _ _
  refine wpAny_bind (wpAny_field zo rfl (x := .bool false) rfl ?_)
  show wpAny _ _ (field (.ref z) 3 >>= _) _ _ _
  refine wpAny_bind (wpAny_field zo rfl (x := .ref p) rfl ?_)
  refine wpAny_bind (wpAny_seqItems po rfl ?_)
  show wpAny _ _ (Builtin.SmallTypes.ownedTupleIsFree (.ref z) >>= _) _ _ _
  refine wpAny_bind ?_
  unfold Builtin.SmallTypes.ownedTupleIsFree
  refine wpAny_bind (wpAny_field zo rfl (x := .none) rfl (wpAny_pure ?_))
  simp only [if_true]
  refine wpAny_bind (wpAny_rule (wpAny_bind (wpAny_field zo rfl (x := .ref q) rfl ?_)))
  refine wpAny_bind (wpAny_setField_rec zo (by simp) fun g1 w1 b1 => ?_)
  replace w1 : IsZip g1 z p q .ellipsis := w1
  refine wpAny_bind ?_
  simp only [List.zipIdx_cons, List.zipIdx_nil, List.forIn_cons, List.forIn_nil]
  refine wpAny_bind (wpAny_bind (wpAny_onRaise ?_))
  show wpAny _ _ (Builtin.SmallTypes.nextOf (.ref i) >>= _) _ _ _
  have a1 : N1 k g1 := n1.stay _ _ _ st1 fun c hc o e => b1.extBut _ _ (out_of D.z1 hc) e
  cases ex1 : xs[k]? with
  | none =>
    refine wpAny_bind (n1.fin _ _ _ _ _ hh a1 ex1 fun g2 e b2 he => ?_)
    obtain ⟨oe, e1, e2⟩ := he
    have w2 : IsZip g2 z p q .ellipsis := b2 _ _ D.iz.symm w1
    have ez : e ≠ z := fun t => by subst t; rw [w2] at e1; cases e1; simp at e2
    refine wpAny_setField_rec w2 (by simp) fun g3 _ b3 => go g3 e (fun c o hc r => ?_) ⟨oe, b3.extBut _ _ ez e1, e2⟩
    simp only [List.mem_cons, List.not_mem_nil, or_false, not_or] at hc
    obtain ⟨h1, h2, h3, h4⟩ := hc
    exact b3.extBut _ _ h1 (b2 _ _ h3 (b1.extBut _ _ h1 r))
  | some x =>
    have ey : ys[k]? = none := by
      rcases ex with h | h
      · rw [ex1] at h; cases h
      · exact h
    refine wpAny_bind (n1.item _ _ _ _ _ _ a1 ex1 fun g2 a2 b2 => wpAny_pure ?_)
    have q2 : IsPair g2 q a b := b2.extBut _ _ D.qi (b1.extBut _ _ D.qz qo)
    refine wpAny_bind (wpAny_seqItems q2 rfl (wpAny_bind (wpAny_updateSeq_pair q2 fun g3 q3 b3 => ?_)))
    refine wpAny_bind (wpAny_letGo (wpAny_pure ?_))
    refine wpAny_bind (wpAny_bind (wpAny_onRaise ?_))
    show wpAny _ _ (Builtin.SmallTypes.nextOf (.ref j) >>= _) _ _ _
    have c3 : N2 k g3 := n2.stay _ _ _ st2 fun c hc o e => b3.extBut _ _ (out_of D.q2 hc) (b2.extBut _ _ (out_of D.i2 hc) (b1.extBut _ _ (out_of D.z2 hc) e))
    refine wpAny_bind (n2.fin _ _ _ _ _ hh c3 ey fun g4 e b4 he => ?_)
    obtain ⟨oe, e1, e2⟩ := he
    have w4 : IsZip g4 z p q .ellipsis := b4 _ _ D.jz.symm (b3.extBut _ _ D.qz.symm (b2.extBut _ _ D.iz.symm w1))
    have ez : e ≠ z := fun t => by subst t; rw [w4] at e1; cases e1; simp at e2
    refine wpAny_setField_rec w4 (by simp) fun g5 _ b5 => go g5 e (fun c o hc r => ?_) ⟨oe, b5.extBut _ _ ez e1, e2⟩
    simp only [List.mem_cons, List.not_mem_nil, or_false, not_or] at hc
    obtain ⟨h1, h2, h3, h4⟩ := hc
    exact b5.extBut _ _ h1 (b4 _ _ h4 (b3.extBut _ _ h2 (b2.extBut _ _ h3 (b1.extBut _ _ h1 r))))
end
def Itz (K : PySem.W.Frag) (a b : Addr) (xs ys : List V) : It := ⟨fun k H => SqT K H a xs ∧ SqT K H b ys ∧ k < xs.length ∧ k < ys.length,
  fun k H v H' => ∃ T x y, H T = none ∧ v = .ref T ∧ H' = upd H T (.tup [x, y]) ∧ xs[k]? = some x ∧ ys[k]? = some y,
  fun k H => SqT K H a xs ∧ SqT K H b ys ∧ (xs.length ≤ k ∨ ys.length ≤ k)⟩
def ZSt (z p q i j l1 l2 : Addr) (k : Nat) (h : Heap) : Prop := IsZip h z p q .none ∧ IsPair h p (.ref i) (.ref j) ∧ (∃ a b, IsPair h q a b) ∧ h.IsTupleIter i l1 k ∧ h.IsTupleIter j l2 k
theorem turn_zip {P : Program} {w : World} {K : PySem.W.Frag} {es : List Expr} {k0} {pos : Pos} (z p q i j l1 l2 : Addr) (xs ys : List V) (D : ZAp z p q i j [i, l1] [j, l2]) (n1 : l1 ≠ i) (n2 : l2 ≠ j) (fr : p ∉ [z, q, i, j]) :
    Turn P w K (.Tuple es k0 pos) (Itz K l1 l2 xs ys) [z, p, q, i, j] z (ZSt z p q i j l1 l2) where
  mem := by simp
  obj := fun k h st b hb => by
    obtain ⟨e1, e2, ⟨a, c, e3⟩, ⟨o4, e4, _, d4⟩, ⟨o5, e5, _, d5⟩⟩ := st
    simp only [List.mem_cons, List.not_mem_nil, or_false] at hb
    rcases hb with rfl | rfl | rfl | rfl | rfl
    · exact ⟨_, e1, fun v z => by cases z⟩
    · exact ⟨_, e2, fun v z => by cases z⟩
    · exact ⟨_, e3, fun v z => by cases z⟩
    · exact ⟨_, e4, fun v z => by rw [d4] at z; cases z⟩
    · exact ⟨_, e5, fun v z => by rw [d5] at z; cases z⟩
  keep := fun k h h' st f => by
    obtain ⟨e1, e2, ⟨a, c, e3⟩, ⟨o4, e4, r4⟩, ⟨o5, e5, r5⟩⟩ := st
    exact ⟨f z (by simp) _ e1, f p (by simp) _ e2, ⟨a, c, f q (by simp) _ e3⟩, ⟨o4, f i (by simp) _ e4, r4⟩, ⟨o5, f j (by simp) _ e5, r5⟩⟩
  item := by
    intro X hP hw hK hc k pins s σ H E I hf st hg
    subst hP hw hK
    obtain ⟨hq1, hq2, hx1, hx2⟩ := hg
    obtain ⟨e1, e2, ⟨a, c, e3⟩, e4, e5⟩ := st
    obtain ⟨it1, rv1, p1, z1⟩ := I.tuple hq1
    obtain ⟨it2, rv2, p2, z2⟩ := I.tuple hq2
    obtain ⟨u1, hu1, ru1⟩ := rv1.get (List.getElem?_eq_getElem hx1)
    obtain ⟨u2, hu2, ru2⟩ := rv2.get (List.getElem?_eq_getElem hx2)
    have lt1 : ∀ {b : Addr} {o : Obj}, s.heap.get? b = some o → b < s.heap.objs.size := fun e => Heap.lt_size e
    have li : i < s.heap.objs.size := by obtain ⟨o, e, _⟩ := e4; exact lt1 e
    have lj : j < s.heap.objs.size := by obtain ⟨o, e, _⟩ := e5; exact lt1 e
    have ll1 : l1 < s.heap.objs.size := by obtain ⟨o, e, _⟩ := p1; exact lt1 e
    have ll2 : l2 < s.heap.objs.size := by obtain ⟨o, e, _⟩ := p2; exact lt1 e
    have lz := lt1 e1
    have lp := lt1 e2
    have lq := lt1 e3
    have tz : s.TypeIs (.ref z) "zip" := ⟨_, e1, rfl⟩
    have nT : H s.heap.objs.size = none := I.hok.fresh (Nat.le_refl _)
    have nf : ∀ b ∈ [z, p, q, i, j], b ≠ s.heap.objs.size := fun b hb => by
      simp only [List.mem_cons, List.not_mem_nil, or_false] at hb
      rcases hb with h | h | h | h | h
      · rw [h]; exact Nat.ne_of_lt lz
      · rw [h]; exact Nat.ne_of_lt lp
      · rw [h]; exact Nat.ne_of_lt lq
      · rw [h]; exact Nat.ne_of_lt li
      · rw [h]; exact Nat.ne_of_lt lj
    unfold pyNext
    refine wpAny_bind (wpAny_attempt (wpAny_callSpecial?_slot (name := Str.ofString "__next__") tz F.slot_zip_next (wpAny_call_entry F.slot_zip_next tz F.entry_zip_next
      (zp_item D (nx_tuple _ _ i l1 it1.toArray n1) (nx_tuple _ _ j l2 it2.toArray n2) e1 e2 e3 ⟨e4, p1⟩ ⟨e5, p2⟩ (by simpa using hu1) (by simpa using hu2) (fun g f1 f2 f3 f4 f5 f6 => wpAny_pure ?_) li lj (fun c hc => ?_) (fun c hc => ?_)) (F.args_zip_next_1 _))))
    rotate_left
    · simp only [List.mem_cons, List.not_mem_nil, or_false] at hc
      rcases hc with rfl | rfl <;> omega
    · simp only [List.mem_cons, List.not_mem_nil, or_false] at hc
      rcases hc with rfl | rfl <;> omega
    refine ⟨_, rfl, wpAny_letOwnedTupleGo_zip f1 fun g' w' b' => ?_⟩
    have I1 : Inv X pins σ (upd H s.heap.objs.size (.tup [xs[k], ys[k]])) { s with heap := s.heap.push { cls := .type "tuple", data := .seq #[u1, u2] }, toks := s.toks } :=
      I.laid (fun b v e => Heap.get?_push_of_some _ e) (Nat.le_refl _) ⟨by show 2 ≤ sizeLine; decide, [u1, u2], .cons ru1 (.cons ru2 .nil), ⟨_, Heap.get?_push_size _ rfl, rfl, _, rfl⟩⟩
    have I2 : Inv X pins σ (upd H s.heap.objs.size (.tup [xs[k], ys[k]])) { s with heap := g', toks := s.toks } := by
      refine Inv.turnedL (s := { s with heap := s.heap.push { cls := .type "tuple", data := .seq #[u1, u2] }, toks := s.toks }) (ch := [z, q, i, j]) (t' := s.toks) I1 (fun b o hb e => ?_) fun b hb => ?_
      · have bz : b ≠ z := fun h => hb (by simp [h])
        by_cases bT : b = s.heap.objs.size
        · subst bT
          have e' : (s.heap.push { cls := .type "tuple", data := .seq #[u1, u2] }).get? s.heap.objs.size = some _ := Heap.get?_push_size _ rfl
          rw [e'] at e
          exact ((b'.2 _ bz).trans f5).trans e
        · have e' : s.heap.get? b = some o := by rw [← e]; exact (Heap.get?_push_ne _ _ _ bT).symm
          exact (b'.2 b bz).trans (f6 b o hb e')
      · have hb' : b ∈ [z, p, q, i, j] := by
          simp only [List.mem_cons, List.not_mem_nil, or_false] at hb ⊢
          rcases hb with h | h | h | h <;> simp [h]
        obtain ⟨f0, fr⟩ := hf b hb'
        exact ⟨by rw [upd_ne (nf b hb')]; exact f0, fr⟩
    refine ⟨.ref s.heap.objs.size, _, I2, rfl, ⟨s.heap.objs.size, xs[k], ys[k], nT, rfl, rfl, List.getElem?_eq_getElem hx1, List.getElem?_eq_getElem hx2⟩, ?_, fun b hb => by rw [upd_ne (nf b hb)]; exact (hf b hb).1⟩
    have up : ∀ {b : Addr} {o : Obj}, b ≠ z → g.get? b = some o → g'.get? b = some o := fun h e => (b'.2 _ h).trans e
    exact ⟨w', up D.pz (f6 p _ fr e2), ⟨_, _, up D.qz f2⟩, f3.1.extBut b'.extBut D.iz, f4.1.extBut b'.extBut D.jz⟩
  done := by
    intro X hP hw hK hc k pins s σ H E I hf st hg
    subst hP hw hK
    obtain ⟨hq1, hq2, hx⟩ := hg
    obtain ⟨e1, e2, ⟨a, c, e3⟩, e4, e5⟩ := st
    obtain ⟨it1, rv1, p1, z1⟩ := I.tuple hq1
    obtain ⟨it2, rv2, p2, z2⟩ := I.tuple hq2
    have h1 := rv1.length
    have h2 := rv2.length
    have tz : s.TypeIs (.ref z) "zip" := ⟨_, e1, rfl⟩
    unfold pyNext
    refine wpAny_bind (wpAny_attempt (wpAny_callSpecial?_slot (name := Str.ofString "__next__") tz F.slot_zip_next (wpAny_call_entry F.slot_zip_next tz F.entry_zip_next
      (zp_end (I.ok.hd hc) D (nx_tuple _ _ i l1 it1.toArray n1) (nx_tuple _ _ j l2 it2.toArray n2) e1 e2 e3 ⟨e4, p1⟩ ⟨e5, p2⟩ (hx.imp (fun h => by simp; omega) fun h => by simp; omega) fun g e f6 he => ?_) (F.args_zip_next_1 _))))
    obtain ⟨oe, e6, e7⟩ := he
    refine wpAny_bind (wpAny_isInstance (T := "StopIteration") (b := true) ⟨oe, e6, e7⟩ isSubtype_stop (wpAny_pure ⟨rfl, ?_⟩))
    exact I.turnedL (t' := s.toks) (ch := [z, q, i, j]) f6 fun b hb => hf b (by
      simp only [List.mem_cons, List.not_mem_nil, or_false] at hb ⊢
      rcases hb with h | h | h | h <;> simp [h])
  self := fun _ _ _ _ _ st h => wpAny_pyIter_zip st.1 h
def zN (h : Heap) (l1 l2 : Addr) : Heap := ((((h.push { cls := .type "tuple_iterator", data := .fields #[.ref l1, .int 0 0] }).push { cls := .type "tuple_iterator", data := .fields #[.ref l2, .int 0 0] }).push
  { cls := .type "tuple", data := .seq #[.ref h.objs.size, .ref (h.push { cls := .type "tuple_iterator", data := .fields #[.ref l1, .int 0 0] }).objs.size] }).push { cls := .type "tuple", data := .seq #[.none, .none] }).push
  { cls := .type "zip", data := .fields #[.none, .bool false, .bool false, .ref ((h.push { cls := .type "tuple_iterator", data := .fields #[.ref l1, .int 0 0] }).push { cls := .type "tuple_iterator", data := .fields #[.ref l2, .int 0 0] }).objs.size,
    .ref (((h.push { cls := .type "tuple_iterator", data := .fields #[.ref l1, .int 0 0] }).push { cls := .type "tuple_iterator", data := .fields #[.ref l2, .int 0 0] }).push
      { cls := .type "tuple", data := .seq #[.ref h.objs.size, .ref (h.push { cls := .type "tuple_iterator", data := .fields #[.ref l1, .int 0 0] }).objs.size] }).objs.size] }
theorem meets_zipT (l1 l2 : Addr) (xs ys : Array Value) :
    Meets (Builtin.«zip.__new__» ⟨[.type "zip", .ref l1, .ref l2], []⟩) (fun _ R s => s.heap.IsTuple l1 xs ∧ s.heap.IsTuple l2 ys ∧ R (.ok (.ret (.ref ((zN s.heap l1 l2).objs.size - 1)))) { s with heap := zN s.heap l1 l2 }) :=
  .of_wp fun prog w A R s h => by
    obtain ⟨hp, g, d, tk, os⟩ := s
    obtain ⟨a1, a2, h⟩ := h
    have hsub := sub_zip
    have b1 : Heap.IsTuple (Shared.heap ⟨hp, g, d, tk, os⟩) l1 xs := a1
    have b2 : Heap.IsTuple (Shared.heap ⟨hp.push { cls := .type "tuple_iterator", data := .fields #[.ref l1, .int 0 0] }, g, d, tk, os⟩) l2 ys := Heap.IsTuple.push a2 _
    wp_walk using wpAny_pyIter_tuple b1, wpAny_pyIter_tuple b2
    refine ⟨_, rfl, ?_⟩
    have e : (zN hp l1 l2).objs.size - 1 = ((((hp.push { cls := .type "tuple_iterator", data := .fields #[.ref l1, .int 0 0] }).push { cls := .type "tuple_iterator", data := .fields #[.ref l2, .int 0 0] }).push
      { cls := .type "tuple", data := .seq #[.ref hp.objs.size, .ref (hp.push { cls := .type "tuple_iterator", data := .fields #[.ref l1, .int 0 0] }).objs.size] }).push { cls := .type "tuple", data := .seq #[.none, .none] }).objs.size := by
      show (Heap.push _ _).objs.size - 1 = _
      rw [Heap.size_push]
      rfl
    have h' := h
    rw [e] at h'
    exact h'
theorem zN_is {h : Heap} {l1 l2 : Addr} : IsZip (zN h l1 l2) (h.objs.size + 4) (h.objs.size + 2) (h.objs.size + 3) .none ∧ IsPair (zN h l1 l2) (h.objs.size + 2) (.ref h.objs.size) (.ref (h.objs.size + 1)) ∧ IsPair (zN h l1 l2) (h.objs.size + 3) .none .none ∧
    (zN h l1 l2).IsTupleIter h.objs.size l1 0 ∧ (zN h l1 l2).IsTupleIter (h.objs.size + 1) l2 0 ∧ (zN h l1 l2).objs.size = h.objs.size + 5 ∧ ∀ c o, h.get? c = some o → (zN h l1 l2).get? c = some o := by
  unfold zN
  simp only [Heap.size_push]
  refine ⟨?_, ?_, ?_, ⟨{ cls := .type "tuple_iterator", data := .fields #[.ref l1, .int 0 0] }, ?_, rfl, rfl⟩, ⟨{ cls := .type "tuple_iterator", data := .fields #[.ref l2, .int 0 0] }, ?_, rfl, rfl⟩, ?_, fun c o e => ?_⟩
  · have e := Heap.get?_push_size ((((h.push { cls := .type "tuple_iterator", data := .fields #[.ref l1, .int 0 0] }).push { cls := .type "tuple_iterator", data := .fields #[.ref l2, .int 0 0] }).push
      { cls := .type "tuple", data := .seq #[.ref h.objs.size, .ref (h.objs.size + 1)] }).push { cls := .type "tuple", data := .seq #[.none, .none] }) (o := { cls := .type "zip", data := .fields #[.none, .bool false, .bool false, .ref (h.objs.size + 1 + 1), .ref (h.objs.size + 1 + 1 + 1)] }) rfl
    simp only [Heap.size_push] at e
    exact e
  · have e := Heap.get?_push_size (((h.push { cls := .type "tuple_iterator", data := .fields #[.ref l1, .int 0 0] }).push { cls := .type "tuple_iterator", data := .fields #[.ref l2, .int 0 0] })) (o := { cls := .type "tuple", data := .seq #[.ref h.objs.size, .ref (h.objs.size + 1)] }) rfl
    simp only [Heap.size_push] at e
    exact Heap.get?_push_of_some _ (Heap.get?_push_of_some _ e)
  · have e := Heap.get?_push_size (((h.push { cls := .type "tuple_iterator", data := .fields #[.ref l1, .int 0 0] }).push { cls := .type "tuple_iterator", data := .fields #[.ref l2, .int 0 0] }).push
      { cls := .type "tuple", data := .seq #[.ref h.objs.size, .ref (h.objs.size + 1)] }) (o := { cls := .type "tuple", data := .seq #[.none, .none] }) rfl
    simp only [Heap.size_push] at e
    exact Heap.get?_push_of_some _ e
  · exact Heap.get?_push_of_some _ (Heap.get?_push_of_some _ (Heap.get?_push_of_some _ (Heap.get?_push_of_some _ (Heap.get?_push_size _ rfl))))
  · have e := Heap.get?_push_size (h.push { cls := .type "tuple_iterator", data := .fields #[.ref l1, .int 0 0] }) (o := { cls := .type "tuple_iterator", data := .fields #[.ref l2, .int 0 0] }) rfl
    simp only [Heap.size_push] at e
    exact Heap.get?_push_of_some _ (Heap.get?_push_of_some _ (Heap.get?_push_of_some _ e))
  · trivial
  · exact Heap.get?_push_of_some _ (Heap.get?_push_of_some _ (Heap.get?_push_of_some _ (Heap.get?_push_of_some _ (Heap.get?_push_of_some _ e))))
theorem nn_ {a b : Nat} (h : a ≠ b) : (show Addr from a) ≠ (show Addr from b) := h
theorem zap (n l1 l2 : Nat) (h1 : l1 < n) (h2 : l2 < n) : ZAp (n + 4) (n + 2) (n + 3) n (n + 1) [n, l1] [n + 1, l2] where
  pz := nn_ (by omega)
  qz := nn_ (by omega)
  iz := nn_ (by omega)
  jz := nn_ (by omega)
  pq := nn_ (by omega)
  pi := nn_ (by omega)
  pj := nn_ (by omega)
  qi := nn_ (by omega)
  qj := nn_ (by omega)
  ij := nn_ (by omega)
  z1 := show (n + 4 : Nat) ∉ ([n, l1] : List Nat) from by simp; omega
  q1 := show (n + 3 : Nat) ∉ ([n, l1] : List Nat) from by simp; omega
  j1 := show (n + 1 : Nat) ∉ ([n, l1] : List Nat) from by simp; omega
  z2 := show (n + 4 : Nat) ∉ ([n + 1, l2] : List Nat) from by simp; omega
  q2 := show (n + 3 : Nat) ∉ ([n + 1, l2] : List Nat) from by simp; omega
  i2 := show (n : Nat) ∉ ([n + 1, l2] : List Nat) from by simp; omega
theorem zap_p (n : Nat) : n + 2 ∉ [n + 4, n + 3, n, n + 1] := by simp
theorem zap_ge (n b : Nat) (h : b ∈ [n + 4, n + 2, n + 3, n, n + 1]) : n ≤ b := by
  simp only [List.mem_cons, List.not_mem_nil, or_false] at h
  omega
def iZip (K : PySem.W.Frag) (ta : TA) : TI := fun σ H R => ta σ H fun vs H1 => ∃ a b xs ys, vs = [.ref a, .ref b] ∧ SqT K H1 a xs ∧ SqT K H1 b ys ∧ R (Itz K a b xs ys) H1
theorem pi_zip {X : Cx} {a b : Expr} {ta : TA} {p pos p2 : Pos} {es : List Expr} {k0} (hg : Gl X "zip") (hm : X.mg "zip" = none) (ha : PA X [a, b] ta) (hs : starEach [a, b] X.env = [(false, eval a X.env), (false, eval b X.env)] := by rfl) (hs2 : starEach [b] X.env = [(false, eval b X.env)] := by rfl) :
    PI X (.Tuple es k0 p2) (.Call (.Name "zip" p) [a, b] [] pos) (iZip X.K ta) := by
  intro pins s σ H R I h
  refine Call_ (ld_blt I hg hm boot_zip (PyProof.Rows.callWith_type1 (thn (ha pos pins s σ H _ I h) fun us s1 ⟨vs, H1, I1, r1, q1⟩ => ?_) (by rw [hs, hs2]) (by rw [hs2]; rfl)))
  obtain ⟨l1, l2, xs, ys, rfl, hq1, hq2, q⟩ := q1
  obtain ⟨u1, u2, rfl, r1, r2⟩ := Vals.two r1
  cases r1
  cases r2
  obtain ⟨it1, rv1, p1, z1⟩ := I1.tuple hq1
  obtain ⟨it2, rv2, p2, z2⟩ := I1.tuple hq2
  have ll1 : l1 < s1.heap.objs.size := by obtain ⟨o, e, _⟩ := p1; exact Heap.lt_size e
  have ll2 : l2 < s1.heap.objs.size := by obtain ⟨o, e, _⟩ := p2; exact Heap.lt_size e
  refine callType_new F.called_zip (by decide) (F.typeCall_zip_2 _ _) (F.newCall_zip_2 _ _) (fun obj => F.args_object_init_3 obj _ _) F.entry_zip_new (meets_zipT l1 l2 it1.toArray it2.toArray) ⟨p1, p2, ?_⟩
  obtain ⟨e1, e2, e3, e4, e5, e6, e7⟩ := zN_is (h := s1.heap) (l1 := l1) (l2 := l2)
  have e8 : (zN s1.heap l1 l2).objs.size - 1 = s1.heap.objs.size + 4 := by rw [e6]; rfl
  show _ ∧ _
  rw [e8]
  refine ⟨⟨_, e1, rfl⟩, wpAny_pyIter_zip e1 ?_⟩
  have D := zap _ _ _ ll1 ll2
  refine ⟨_, [s1.heap.objs.size + 4, s1.heap.objs.size + 2, s1.heap.objs.size + 3, s1.heap.objs.size, s1.heap.objs.size + 1], _, _, H1, rfl, I1.kept (t' := s1.toks) e7, turn_zip _ _ _ _ _ l1 l2 xs ys D (Nat.ne_of_lt ll1) (Nat.ne_of_lt (Nat.lt_succ_of_lt ll2)) (zap_p _),
    ⟨e1, e2, ⟨_, _, e3⟩, e4, e5⟩, fun b hb => ?_, q⟩
  have hb' : s1.heap.objs.size ≤ b := zap_ge _ _ hb
  exact I1.fpOk hb' (I1.hok.fresh hb')
end L2

set_option maxRecDepth 100000
set_option linter.all false
set_option Elab.async false
set_option maxHeartbeats 4000000
namespace L2
open PySem PySem.Spec PyProof.Rows PyProof
theorem lri_no_len : typeLookup (.type "list_reverseiterator") (Str.ofString "__len__") = pure none := by rw [typeLookup_type, builtinLookup_eq_fast]; kernel_rfl
theorem lri_hint : typeLookup (.type "list_reverseiterator") (Str.ofString "__length_hint__") = pure (some (.builtin "list_reverseiterator.__length_hint__")) := by rw [typeLookup_type, builtinLookup_eq_fast]; kernel_rfl
section
variable {prog : Program} {w : World} {A : Around} {E : Value → Shared → Prop} {s : Shared}
theorem hint_rev {r p : Addr} {i : Int} {Q : Bool → Shared → Prop} (hr : s.heap.IsRevIter r p i) (h : Q false s) : wpAny (model prog w) A (Builtin.List.listLengthHint (.ref r)) Q E s := by
  unfold Builtin.List.listLengthHint
  refine wpAny_bind (wpAny_specialOf hr.typeIs lri_no_len ?_)
  show wpAny _ _ (specialOf (Value.ref r) (Str.ofString "__length_hint__") >>= _) _ _ _
  refine wpAny_bind (wpAny_specialOf hr.typeIs lri_hint ?_)
  generalize hid : ("list_reverseiterator.__length_hint__" : String) = id0
  wp_delta
  rw [show splitId id0 = some ("list_reverseiterator", "__length_hint__") from by subst hid; decide +kernel]
  subst hid
  refine wpAny_bind (wpAny_isInstance (T := "list_reverseiterator") (b := true) hr.typeIs (by rw [isSubtype_type]; kernel_rfl) ?_)
  refine wpAny_ite_split (fun z => absurd z (by decide)) (fun _ => ?_)
  refine wpAny_ite_split (fun _ => ?_) (fun z => absurd (by decide +kernel) z)
  refine wpAny_ite_split (fun z => absurd z (by decide +kernel)) (fun _ => wpAny_pure h)
theorem rev_items {items acc : Array Value} (h : ItemsOf (fun i v => items[items.size - 1 - i]? = some v) acc items.size) : acc.toList = items.toList.reverse := by
  obtain ⟨h1, h2⟩ := h
  apply List.ext_getElem?
  intro k
  by_cases hk : k < items.size
  · have e1 : acc[k]? = some (acc[k]'(by omega)) := Array.getElem?_eq_getElem (by omega)
    have e2 := h2 k _ e1
    rw [List.getElem?_reverse (by simpa using hk)]
    simp only [Array.length_toList, Array.getElem?_toList]
    rw [e1, e2]
  · rw [List.getElem?_eq_none (by simp; omega), List.getElem?_eq_none (by simp; omega)]
theorem list_rev {r p : Addr} {items : Array Value} {Q : Value → Shared → Prop} (hh : A.handled = none) (hr : s.heap.IsRevIter r p ((items.size : Int) - 1)) (hl : s.heap.IsList p items) (ne : p ≠ r) (hz : items.size ≤ sizeLine)
    (go : ∀ g tk acc c, (∀ b o, b ≠ r → s.heap.get? b = some o → g.get? b = some o) → g.get? s.heap.objs.size = some { cls := .type "list", data := .seq acc c } → acc.toList = items.toList.reverse → Q (.ref s.heap.objs.size) { s with heap := g, toks := tk }) :
    wpAny (model prog w) A (call (.type "list") [.ref r]) Q E s := by
  refine callType_codes (Q₁ := fun obj s₁ => obj = .ref s.heap.objs.size ∧ s₁ = { s with heap := s.heap.push { cls := .type "list", data := .seq #[] } }) F.called_list (F.typeCall_list_1 _) F.entry_list_init (code_list_new _ ⟨rfl, rfl⟩) fun obj s₁ h₁ => ?_
  obtain ⟨rfl, rfl⟩ := h₁
  have S0 : (s.heap.push { cls := .type "list", data := .seq #[] }).get? s.heap.objs.size = some { cls := .type "list", data := .seq #[] } := Heap.get?_push_size _ rfl
  have rl : r < s.heap.objs.size := by obtain ⟨o, e, _⟩ := hr; exact Heap.lt_size e
  have pl : p < s.heap.objs.size := by obtain ⟨o, e, _⟩ := hl; exact Heap.lt_size e
  refine ⟨⟨_, S0, rfl⟩, F.args_list_init_2 _ _, ?_⟩
  show wpAny _ _ (do let old ← Builtin.List.listItems (.ref s.heap.objs.size); Builtin.List.listUpdate (.ref s.heap.objs.size) (fun _ => #[]); letGo old.toList.reverse; Builtin.List.listExtendWith (.ref s.heap.objs.size) (.ref r) .none) _ _ _
  refine wpAny_bind ?_
  unfold Builtin.List.listItems
  refine wpAny_bind (wpAny_seqItems S0 rfl (wpAny_pure ?_))
  show wpAny _ _ (updateSeq s.heap.objs.size (fun _ => #[]) >>= fun _ => letGo (#[] : Array Value).toList.reverse >>= fun _ => Builtin.List.listExtendWith (.ref s.heap.objs.size) (.ref r) .none) _ _ _
  refine wpAny_bind (wpAny_updateSeq S0 rfl ?_)
  have S1 := Heap.get?_update_self (Obj.mapSeq (fun _ => (#[] : Array Value))) S0 rfl
  have up : ∀ b o, s.heap.get? b = some o → ((s.heap.push { cls := .type "list", data := .seq #[] }).update s.heap.objs.size (Obj.mapSeq (fun _ => (#[] : Array Value)))).get? b = some o :=
    fun b o e => (Heap.get?_update_other _ _ (Ne.symm (Nat.ne_of_lt (Heap.lt_size e)))).trans (Heap.get?_push_of_some _ e)
  refine wpAny_bind (wpAny_letGo ?_)
  generalize ((s.heap.push { cls := .type "list", data := .seq #[] }).update s.heap.objs.size (Obj.mapSeq (fun _ => (#[] : Array Value)))) = g0 at S1 up
  have r0 : g0.IsRevIter r p ((items.size : Int) - 1) := hr.at fun o e => up r o e
  have l0 : g0.IsList p items := hl.at fun o e => up p o e
  unfold Builtin.List.listExtendWith
  refine wpAny_bind (wpAny_typeOf (T := "list_reverseiterator") (s := { s with heap := g0 }) (Heap.IsRevIter.typeIs (s := { s with heap := g0 }) r0) ?_)
  have c1 : Builtin.List.listSameRef (.ref s.heap.objs.size) (.ref r) = false := by simp [Builtin.List.listSameRef]; exact Ne.symm (Nat.ne_of_lt rl)
  have c2 : (Value.type "list_reverseiterator" == Value.type "list") = false := by decide
  have c3 : (Value.type "list_reverseiterator" == Value.type "tuple") = false := by decide
  simp only [c1, c2, c3, Bool.or_false, Bool.false_eq_true, if_false]
  refine wpAny_bind (wpAny_pyIter_revIter (s := { s with heap := g0 }) r0 (wpAny_bind (wpAny_holding (hint_rev (s := { s with heap := g0 }) r0 ?_))))
  refine wpAny_ite_split (fun z => absurd z (by decide +kernel)) (fun _ => ?_)
  have W := (Walks.listRev (prog := prog) (w := w) (A := A.in1.in1) hh r p ne items).toS
  refine wpAny_pure ⟨plainId_quiet F.plain_extend_loop _, codeAny_extend_loopS W hz _ (by simp only [List.mem_cons, List.not_mem_nil, or_false, not_or]; exact ⟨Ne.symm (Nat.ne_of_lt rl), Ne.symm (Nat.ne_of_lt pl)⟩) _ items.size 0 _ #[] _ rfl (Nat.zero_le _) ⟨Nat.zero_le _, by simpa using r0, l0⟩ S1 (ItemsOf.nil _) fun s' acc c hm hS ha => ?_⟩
  rw [Moved.eq_with hm]
  refine ⟨rfl, go s'.heap s'.toks acc c (fun b o hb e => hm.heap b o ?_ (up b o e)) hS (rev_items ha)⟩
  have := Heap.lt_size e
  simp only [List.mem_cons, List.not_mem_nil, or_false, not_or]
  exact ⟨Nat.ne_of_lt this, hb⟩
end
def tRev (K : PySem.W.Frag) (t : TA) : TE := fun σ H Q => t σ H fun xs H1 => ∃ p ys, xs = [.ref p] ∧ SqL K H1 p ys ∧ ∀ l, H1 l = none → Q (.ref l) (upd H1 l (.lst ys.reverse))
theorem pe_rev {X : Cx} {e : Expr} {t : TA} {p1 p2 q1 q2 : Pos} (hc : X.calm = true) (hg : Gl X "list") (hm : X.mg "list" = none) (hg' : Gl X "reversed") (hm' : X.mg "reversed" = none) (ha : PA X [e] t) (hs : starEach [e] X.env = [(false, eval e X.env)] := by rfl)
    (hs' : starEach [Expr.Call (.Name "reversed" q1) [e] [] q2] X.env = [(false, eval (Expr.Call (.Name "reversed" q1) [e] [] q2) X.env)] := by rfl) :
    PE X (.Call (.Name "list" p1) [.Call (.Name "reversed" q1) [e] [] q2] [] p2) (tRev X.K t) := by
  intro pins s σ H Q I h
  refine wpAny_Call_Name_kw (ld_blt I hg hm PyProof.Rows.boot_list (PyProof.Rows.callWith_type1 ?_ hs' rfl))
  rw [hs']
  show wpAny _ _ (spliced ((false, eval (Expr.Call (.Name "reversed" q1) [e] [] q2) X.env) :: backTo p2 [])) _ _ s
  refine Calls.spliced_cons ?_
  refine wpAny_Call_Name_kw (ld_blt I hg' hm' boot_reversed (PyProof.Rows.callWith_type1 (thn (ha q2 pins s σ H _ I h) fun us s1 ⟨vs, H1, I1, r1, q⟩ => ?_) hs rfl))
  obtain ⟨p, ys, rfl, hq, q⟩ := q
  obtain ⟨u, rfl, ru⟩ := vals1 r1
  cases ru
  obtain ⟨its, rv, pl, hz⟩ := I1.list hq
  have hl := rv.length
  refine call_reversed_list pl.isList ?_
  refine Calls.spliced_nil ?_
  have I2 : Inv X pins σ H1 { s1 with heap := s1.heap.push (revObj p ((its.toArray.size : Int) - 1)) } := I1.kept (t' := s1.toks) fun b o e => Heap.get?_push_of_some _ e
  have pl2 := pl.isList
  have lp : p < s1.heap.objs.size := by obtain ⟨o, e, _⟩ := pl2; exact Heap.lt_size e
  have f2 : FpOk X pins H1 s1.heap.objs.size := I1.fpOk (Nat.le_refl _) (I1.hok.fresh (Nat.le_refl _))
  have sz : (s1.heap.push (revObj p ((its.toArray.size : Int) - 1))).objs.size = s1.heap.objs.size + 1 := Heap.size_push ..
  refine list_rev (s := { s1 with heap := s1.heap.push (revObj p ((its.toArray.size : Int) - 1)) }) (r := s1.heap.objs.size) (p := p) (items := its.toArray) (I1.ok.hd hc) ⟨_, Heap.get?_push_size _ rfl, rfl, rfl⟩ (pl2.push _) (Nat.ne_of_lt lp) (by simp; omega) fun g tk acc c k1 k2 k3 => ?_
  have hn : H1 (s1.heap.push (revObj p ((its.toArray.size : Int) - 1))).objs.size = none := I1.hok.fresh (by rw [sz]; omega)
  have I3 : Inv X pins σ (upd H1 (s1.heap.push (revObj p ((its.toArray.size : Int) - 1))).objs.size (.lst ys.reverse)) { s1 with heap := (s1.heap.push (revObj p ((its.toArray.size : Int) - 1))).push { cls := .type "list", data := .seq acc c }, toks := tk } := by
    refine I2.laid (t' := tk) (fun b u e => Heap.get?_push_of_some _ e) (Nat.le_refl _) ⟨by simpa using hz, its.reverse, c, ?_, ?_⟩
    · exact rv.reverse
    · have e : its.reverse.toArray = acc := by
        apply Array.toList_inj.mp
        rw [k3]
      rw [e]
      exact Heap.get?_push_size _ rfl
  refine ⟨.ref _, _, Inv.turnedL (s := { s1 with heap := (s1.heap.push (revObj p ((its.toArray.size : Int) - 1))).push { cls := .type "list", data := .seq acc c }, toks := tk }) (ch := [s1.heap.objs.size]) (t' := tk) I3 (fun b o hb e => ?_) (fun b hb => ?_), rfl, q _ hn⟩
  · have hb' : b ≠ s1.heap.objs.size := fun z => hb (by simp [z])
    rcases Heap.get?_push_cases e with ⟨rfl, rfl⟩ | e
    · exact k2
    · exact k1 b o hb' e
  · rw [List.mem_singleton.mp hb]
    obtain ⟨f0, fr⟩ := f2
    exact ⟨by rw [upd_ne (by rw [sz]; exact Nat.ne_of_lt (Nat.lt_succ_self _))]; exact f0, fr⟩
def Itr2 (lo st : Int) (n : Nat) : It := ⟨fun i _ => i < n, fun i H v H' => v = .int (lo + i * st) ∧ H' = H, fun i _ => n ≤ i⟩
theorem turn_range2 {P : Program} {w : World} {K : PySem.W.Frag} {tg : Expr} (it : Addr) (lo st : Int) (n : Nat) : Turn P w K tg (Itr2 lo st n) [it] it (fun i h => IsRangeIter h it (lo + (i : Nat) * st) ((n : Int) - (i : Nat)) st) where
  mem := by simp
  obj := fun i h sti b hb => by
    have e : b = it := by simpa using hb
    subst e
    exact ⟨_, sti, fun v z => by
      have z' : Data.fields _ = Data.cell v := z
      cases z'⟩
  keep := fun i h h' sti k => k it (by simp) _ sti
  item := by
    intro X hP hw hK hc i pins s σ H E I hf sti hg
    subst hP hw hK
    have hg' : i < n := hg
    refine wpAny_pyNext_range_item sti (by omega) fun h' st' sb => ?_
    have I1 : Inv X pins σ H { s with heap := h', toks := s.toks + 1 } := I.turnedL (t' := s.toks + 1) (ch := [it]) (fun b o hb e => (sb.2 b (fun z => hb (by simp [z]))).trans e) hf
    have e1 : lo + (i : Nat) * st + st = lo + ((i + 1 : Nat) : Int) * st := by push_cast; rw [Int.add_mul, Int.one_mul, Int.add_assoc]
    have e2 : (n : Int) - (i : Nat) - 1 = (n : Int) - ((i + 1 : Nat) : Int) := by omega
    rw [e1, e2] at st'
    exact ⟨_, rfl, go_of (s := { s with heap := h', toks := s.toks + 1 }) st' rfl rfl (by decide) ⟨.int (lo + i * st), H, I1, ⟨_, rfl⟩, ⟨rfl, rfl⟩, st', fun b hb => (hf b hb).1⟩⟩
  done := by
    intro X hP hw hK hc i pins s σ H E I hf sti hg
    subst hP hw hK
    have hg' : n ≤ i := hg
    exact wpAny_pyNext_range_end (I.ok.hd hc) sti (by omega) fun h' eb => ⟨rfl, I.turnedL (t' := s.toks) (ch := [it]) (fun b o hb e => eb b o (fun z => hb (by simp [z])) e) hf⟩
  self := fun _ _ _ _ _ sti h => wpAny_pyIter_rangeiter sti h
def iRng02 (ta : TA) : TI := fun σ H R => ta σ H fun vs H1 => ∃ j : Nat, vs = [.int 0, .int j, .int 2] ∧ j ≤ 100 ∧ R (Itr2 0 2 ((j + 1) / 2)) H1
theorem rsize2 (j : Nat) : Builtin.Range.rangeSize 0 (j : Int) 2 = (((j + 1) / 2 : Nat) : Int) := by
  unfold Builtin.Range.rangeSize
  simp
  omega
theorem pi_range02 {X : Cx} {tg a b c : Expr} {ta : TA} {p pos : Pos} (hg : Gl X "range") (hm : X.mg "range" = none) (ha : PA X [a, b, c] ta) (hs : starEach [a, b, c] X.env = (false, eval a X.env) :: starEach [b, c] X.env := by rfl) (hs2 : (backTo pos (starEach [b, c] X.env)).any (·.1) = false := by rfl) :
    PI X tg (.Call (.Name "range" p) [a, b, c] [] pos) (iRng02 ta) := by
  intro pins s σ H R I h
  refine Call_ (ld_blt I hg hm boot_range (PyProof.Rows.callWith_type1 (thn (ha pos pins s σ H _ I h) fun us s1 ⟨vs, H1, I1, r1, q1⟩ => ?_) hs hs2))
  obtain ⟨j, rfl, hj, q⟩ := q1
  cases r1 with
  | cons r1 rr =>
    cases rr with
    | cons r2 rr =>
      cases rr with
      | cons r3 rr =>
        cases rr
        obtain ⟨t1, rfl⟩ := r1
        obtain ⟨t2, rfl⟩ := r2
        obtain ⟨t3, rfl⟩ := r3
        refine call_range_3 (by decide) ?_ (Or.inl (PyProof.noPylong_small (by decide)))
        have sm : Builtin.Range.small 0 (j : Int) 2 = true := by
          unfold Builtin.Range.small
          rw [rsize2]
          simp [Builtin.Range.rangeFitsLong]
          omega
        refine wpAny_pyIter_range (IsRange.new ..) sm ?_
        have I2 : Inv X pins σ H1 { s1 with heap := s1.heap.push { cls := .type "range", data := .fields #[.int 0 t1, .int j t2, .int 2 t3] }, toks := s1.toks } := I1.kept fun b o e => Heap.get?_push_of_some _ e
        refine ⟨_, [(s1.heap.push { cls := .type "range", data := .fields #[.int 0 t1, .int j t2, .int 2 t3] }).objs.size], _, _, H1, rfl, I2.kept (t' := s1.toks) fun b o e => Heap.get?_push_of_some _ e, turn_range2 _ 0 2 ((j + 1) / 2), ?_, fun b hb => ?_, q⟩
        · rw [rsize2]
          have e1 : (0 : Int) + ((0 : Nat) : Int) * 2 = 0 := by decide
          have e2 : (((j + 1) / 2 : Nat) : Int) - ((0 : Nat) : Int) = (((j + 1) / 2 : Nat) : Int) := by omega
          show IsRangeIter _ _ ((0 : Int) + ((0 : Nat) : Int) * 2) ((((j + 1) / 2 : Nat) : Int) - ((0 : Nat) : Int)) 2
          rw [e1, e2]
          exact Heap.get?_push_size _ rfl
        · rw [List.mem_singleton.mp hb]
          exact I2.fpOk (Nat.le_refl _) (I2.hok.fresh (Nat.le_refl _))
end L2

set_option maxRecDepth 100000
set_option linter.all false
set_option Elab.async false
set_option maxHeartbeats 4000000
namespace L2
open PySem PySem.Spec PyProof.Rows PyProof
theorem putF_eq (f : Str) (v x : V) (r : List (Str × V)) : putF f v ((f, x) :: r) = (f, v) :: r := by
  show (if f = f then (f, v) :: r else (f, x) :: putF f v r) = _
  rw [if_pos rfl]
theorem putF_ne {f g : Str} (h : ¬ g = f) (v x : V) (r : List (Str × V)) : putF f v ((g, x) :: r) = (g, x) :: putF f v r := by
  show (if g = f then (g, v) :: r else (g, x) :: putF f v r) = _
  rw [if_neg h]
theorem look_eq (f : Str) (v : V) (r : List (Str × V)) : ((f, v) :: r).lookup f = some v := by simp [List.lookup_cons]
theorem look_ne {f g : Str} (h : ¬ g = f) (v : V) (r : List (Str × V)) : ((f, v) :: r).lookup g = r.lookup g := by
  rw [List.lookup_cons, beq_eq_false_iff_ne.mpr h]
section
variable {X : Cx} {e : Expr}
theorem pe_never : PE X e (fun _ _ _ => False) := fun _ _ _ _ _ _ h => h.elim
end
structure Grow (H H' : Hp) : Prop where
  same : Same H H'
  none : ∀ b, H' b = Option.none → H b = Option.none
theorem Grow.refl (H : Hp) : Grow H H := ⟨Same.refl H, fun _ h => h⟩
theorem Grow.trans {H H1 H2 : Hp} (a : Grow H H1) (b : Grow H1 H2) : Grow H H2 := ⟨a.same.trans b.same, fun c h => a.none c (b.none c h)⟩
theorem Grow.put {H : Hp} {a : Addr} {o : HO} (h : H a = Option.none) : Grow H (upd H a o) := ⟨fun b u e => by rw [upd_ne (ne_of_none e h)]; exact e, fun b e => by
  by_cases z : b = a
  · subst z; exact h
  · rw [upd_ne z] at e; exact e⟩
theorem Grow.set {H H4 : Hp} {D : Addr} {o : HO} (g : Grow H H4) (hD : H D = Option.none) : Grow H (upd H4 D o) :=
  ⟨fun b u e => by rw [upd_ne (ne_of_none e hD)]; exact g.same b u e, fun b e => by
    by_cases z : b = D
    · subst z; exact hD
    · rw [upd_ne z] at e; exact g.none b e⟩
theorem Room.u2 {k : Nat} {A : Around} (r : Room k A) : A.units + 2 < cLine := by have := r.un; omega
def IsFn (o : Obj) (x qual : Str) (st : Stmt) (dV cdv : Value) (fd : FuncData) : Prop :=
  ∃ (oc : Value) (od : Option Addr) (kV doc pm : Value) (an : Option Addr) (ct : Value) (osl : Array (Option Value)), o = ⟨oc, od, .func fd, osl⟩ ∧ fd = PySem.W.fnOf x qual (defArgs st) (defBody st) (defScope st) dV kV doc pm an cdv ct
theorem IsFn.d {K : PySem.W.Frag} {f : Addr} {o : Obj} {x qual : Str} {st : Stmt} {dV cdv : Value} {fd : FuncData} (n : IsFn o x qual st dV cdv fd) (l : K.lookup f = some o) (c : PySem.W.codeIn K cdv qual = true) (k : PySem.W.keepIn K (.ref f) = true) : FunD K x qual st dV f fd := by
  obtain ⟨oc, od, kV, doc, pm, an, ct, osl, rfl, e⟩ := n
  exact ⟨⟨oc, od, kV, doc, pm, an, cdv, ct, osl, e, l, c⟩, k⟩
def TabD (o : Obj) (D : List (Str × V)) : Prop := o.ExactDict ∧ ∃ es ep, o.data = .dict es ep ∧ PyProof.Rows.KTD.Rows RelV es.toList D
theorem TabD.s {K : PySem.W.Frag} {a : Addr} {o : Obj} {D : List (Str × V)} (h : TabD o D) (l : K.lookup a = some o) (n : (a == sysModules) = false) : TabS K a D := let ⟨c, es, ep, d, r⟩ := h; ⟨n, o, es, ep, l, c, d, r⟩
end L2

set_option maxRecDepth 100000
set_option linter.all false
set_option Elab.async false
set_option maxHeartbeats 4000000
namespace L2
open PySem PySem.Spec PyProof.Rows PyProof
theorem cmpG1 {X : Cx} {scope : Scope} {own : List Str} {y : Str} {c : Addr} {i : Nat} (h1 : closureFor scope X.env = pure [(y, c)]) (h2 : ∀ z ∈ scope.names, z.2 ≠ .cell) (h3 : scope.kind = .function) (h4 : ∀ z ∈ scope.names, z.2 = .local → scope.names.lookup z.1 = some .local)
    (hc : X.env.cells.lookup y = some c) (hf : ∀ z ∈ scope.names, z.2 = .free → z.1 = y) (hy : scope.names.lookup y = some .free) (ho : X.env.kindOf y = some .cell ∨ X.env.kindOf y = some .free) (hi : X.N[i]? = some y) (hnd : (own ++ [y]).Nodup) : CmpG X scope [(y, c)] own [y] [i] := by
  refine ⟨h1, h2, h3, h4, fun z d h => ?_, fun z h => ?_, hnd, fun j z h => ?_, rfl, fun z h => ?_⟩
  · by_cases e : z = y
    · subst e
      simp only [List.lookup_cons, beq_self_eq_true] at h
      cases h; exact hc
    · simp only [List.lookup_cons, beq_eq_false_iff_ne.mpr e] at h
      cases h
  · have e : z = y := hf (z, .free) (PySem.mem_of_lookup h) rfl
    subst e
    exact ⟨c, by simp [List.lookup_cons]⟩
  · cases j with
    | zero =>
      have e : y = z := by simpa using h
      subst e
      exact ⟨i, rfl, hi⟩
    | succ j => simp at h
  · have e : z = y := by simpa using h
    subst e
    exact ⟨hy, ho⟩
theorem cmpG2 {X : Cx} {scope : Scope} {own : List Str} {x y : Str} {c d : Addr} {i j : Nat} (hne : ¬ y = x) (h1 : closureFor scope X.env = pure [(x, c), (y, d)]) (h2 : ∀ z ∈ scope.names, z.2 ≠ .cell) (h3 : scope.kind = .function) (h4 : ∀ z ∈ scope.names, z.2 = .local → scope.names.lookup z.1 = some .local)
    (hc : X.env.cells.lookup x = some c) (hd : X.env.cells.lookup y = some d) (hf : ∀ z ∈ scope.names, z.2 = .free → z.1 = x ∨ z.1 = y) (hx : scope.names.lookup x = some .free) (hy : scope.names.lookup y = some .free)
    (ox : X.env.kindOf x = some .cell ∨ X.env.kindOf x = some .free) (oy : X.env.kindOf y = some .cell ∨ X.env.kindOf y = some .free) (hi : X.N[i]? = some x) (hj : X.N[j]? = some y) (hnd : (own ++ [x, y]).Nodup) : CmpG X scope [(x, c), (y, d)] own [x, y] [i, j] := by
  refine ⟨h1, h2, h3, h4, fun z e h => ?_, fun z h => ?_, hnd, fun k z h => ?_, rfl, fun z h => ?_⟩
  · by_cases e1 : z = x
    · subst e1
      simp only [List.lookup_cons, beq_self_eq_true] at h
      cases h; exact hc
    · simp only [List.lookup_cons, beq_eq_false_iff_ne.mpr e1] at h
      by_cases e2 : z = y
      · subst e2
        simp only [beq_self_eq_true] at h
        cases h; exact hd
      · simp only [beq_eq_false_iff_ne.mpr e2] at h
        cases h
  · rcases hf (z, .free) (PySem.mem_of_lookup h) rfl with e | e
    · have e' : z = x := e
      subst e'
      exact ⟨c, by simp [List.lookup_cons]⟩
    · have e' : z = y := e
      subst e'
      exact ⟨d, by rw [List.lookup_cons, beq_eq_false_iff_ne.mpr hne, List.lookup_cons, beq_self_eq_true]⟩
  · match k, h with
    | 0, h =>
      have e : x = z := by simpa using h
      subst e
      exact ⟨i, rfl, hi⟩
    | 1, h =>
      have e : y = z := by simpa using h
      subst e
      exact ⟨j, rfl, hj⟩
    | k + 2, h => simp at h
  · rcases (by simpa using h : z = x ∨ z = y) with e | e
    · subst e; exact ⟨hx, ox⟩
    · subst e; exact ⟨hy, oy⟩
theorem for_enum {K : PySem.W.Frag} {l : Addr} {xs : List V} {g : TG} {tb : TS} {D : Ends} {σ : St} {H : Hp} (Pv : Nat → St → Hp → Prop) (h0 : Pv 0 σ H) (hl : ∀ i σ H, i ≤ xs.length → Pv i σ H → SqL K H l xs)
    (hs : ∀ i x T σ H, xs[i]? = some x → Pv i σ H → H T = none → g (.ref T) σ (upd H T (.tup [.int i, x])) fun σ2 H2 => tb { D with nx := Pv (i + 1), ct := Pv (i + 1), bk := D.nx } σ2 H2) (hd : ∀ σ H, Pv xs.length σ H → D.nx σ H) :
    ∃ W : Nat → Nat → St → Hp → Prop, (∃ m, W 0 m σ H) ∧ ∀ i m σ H, W i m σ H →
      ((Ite K l).stop i H ∧ D.nx σ H) ∨ ((Ite K l).go i H ∧ ∃ N : St → Hp → Prop, (∀ σ' H', N σ' H' → ∃ m', m' < m ∧ W (i + 1) m' σ' H') ∧ ∀ x H', (Ite K l).yld i H x H' → g x σ H' fun σ2 H2 => tb { D with nx := N, ct := N, bk := D.nx } σ2 H2) := by
  refine ⟨fun i m σ H => m = xs.length - i ∧ i ≤ xs.length ∧ Pv i σ H, ⟨xs.length, by simp, Nat.zero_le _, h0⟩, ?_⟩
  rintro i m σ H ⟨rfl, hi, p⟩
  have q := hl i σ H hi p
  by_cases hlt : i < xs.length
  · refine .inr ⟨⟨xs, xs[i], q, List.getElem?_eq_getElem hlt⟩, Pv (i + 1), fun σ' H' p' => ⟨xs.length - (i + 1), by omega, rfl, hlt, p'⟩, fun x H' y => ?_⟩
    obtain ⟨T, z, hT, rfl, rfl, hz⟩ := y
    exact hs i z T σ H (hz xs q) p hT
  · have e : i = xs.length := by omega
    subst e
    exact .inl ⟨⟨xs, q, Nat.le_refl _⟩, hd σ H p⟩
theorem for_range2 {lo st : Int} {n : Nat} {g : TG} {tb : TS} {D : Ends} {σ : St} {H : Hp} (Pv : Nat → St → Hp → Prop) (h0 : Pv 0 σ H)
    (hs : ∀ (i : Nat) σ H, i < n → Pv i σ H → g (.int (lo + i * st)) σ H fun σ2 H2 => tb { D with nx := Pv (i + 1), ct := Pv (i + 1), bk := D.nx } σ2 H2) (hd : ∀ σ H, Pv n σ H → D.nx σ H) :
    ∃ W : Nat → Nat → St → Hp → Prop, (∃ m, W 0 m σ H) ∧ ∀ i m σ H, W i m σ H →
      ((Itr2 lo st n).stop i H ∧ D.nx σ H) ∨ ((Itr2 lo st n).go i H ∧ ∃ N : St → Hp → Prop, (∀ σ' H', N σ' H' → ∃ m', m' < m ∧ W (i + 1) m' σ' H') ∧ ∀ x H', (Itr2 lo st n).yld i H x H' → g x σ H' fun σ2 H2 => tb { D with nx := N, ct := N, bk := D.nx } σ2 H2) := by
  refine ⟨fun i m σ H => m = n - i ∧ i ≤ n ∧ Pv i σ H, ⟨n, by simp, Nat.zero_le _, h0⟩, ?_⟩
  rintro i m σ H ⟨rfl, hi, p⟩
  by_cases hlt : i < n
  · refine .inr ⟨hlt, Pv (i + 1), fun σ' H' p' => ⟨n - (i + 1), by omega, rfl, hlt, p'⟩, fun x H' y => ?_⟩
    obtain ⟨rfl, rfl⟩ := y
    exact hs i σ _ hlt p
  · have e : i = n := by omega
    subst e
    exact .inl ⟨Nat.le_refl _, hd σ H p⟩
theorem lc_list {K : PySem.W.Frag} {a : Addr} {xs : List V} {te : TE} {ix : List Nat} {σ : St} {H : Hp} {D : Addr} {R : Hp → Prop} (f : V → V) (hx : SqL K H a xs) (hn : xs.length ≤ 1000) (hD : H D = none)
    (he : ∀ x ∈ xs, ∀ (H' : Hp) (Q' : VK), Grow H H' → (∀ H'', Grow H' H'' → Q' (f x) H'') → te (blkG ix [some x] σ) H' Q') (q : ∀ H', Grow H H' → H' D = some (.lst (xs.map f)) → R H') :
    ∃ W : Nat → Nat → List V → Hp → Prop, (∃ m, W 0 m [] (upd H D (.lst []))) ∧ ∀ i m ys H2, W i m ys H2 →
      ((Itl K a).stop i H2 ∧ R H2) ∨ ((Itl K a).go i H2 ∧ ∀ (o : List (Option V)) v H3, o.length = 1 → (Itl K a).yld i H2 v H3 → gName 0 v (blkG ix o σ) H3 fun σ2 H4 => (∃ o' : List (Option V), σ2 = blkG ix o' σ ∧ o'.length = 1) ∧
        ifT none σ2 H4 fun b H5 => if b = true then te σ2 H5 fun y H6 => H6 D = some (.lst ys) ∧ ys.length < sizeLine ∧ ∃ m', m' < m ∧ W (i + 1) m' (ys ++ [y]) (upd H6 D (.lst (ys ++ [y]))) else ∃ m', m' < m ∧ W (i + 1) m' ys H5) := by
  refine ⟨fun i m ys H2 => i ≤ xs.length ∧ m = xs.length - i ∧ ys = (xs.take i).map f ∧ H2 D = some (.lst ys) ∧ Grow H H2, ⟨_, Nat.zero_le _, rfl, rfl, upd_same, Grow.put hD⟩, ?_⟩
  rintro i m ys H2 ⟨hi, rfl, rfl, h2, g2⟩
  have hx2 := g2.same.seq hx
  by_cases hl : i < xs.length
  · refine .inr ⟨⟨xs, xs[i], hx2, List.getElem?_eq_getElem hl⟩, fun o v H3 ho hy => ?_⟩
    obtain ⟨rfl, hv⟩ := hy
    have hv' := hv xs hx2
    match o, ho with
    | [_], _ =>
      refine ⟨⟨[some v], rfl, rfl⟩, ?_⟩
      dsimp only [ifT]
      refine iteT (he v (List.mem_of_getElem? hv') _ _ g2 fun H6 g6 => ⟨g6.same _ _ h2, ?_, _, ?_, hl, rfl, ?_, upd_same, (g2.trans g6).set hD⟩)
      · rw [List.length_map, List.length_take, sizeLine_eq]; omega
      · omega
      · rw [List.take_add_one, hv']
        simp
  · have e : i = xs.length := by omega
    subst e
    refine .inl ⟨⟨xs, hx2, Nat.le_refl _⟩, q _ g2 ?_⟩
    rw [h2, List.take_of_length_le (Nat.le_refl _)]
def behind (ss : List Str) (xs : List V) (t : Str) : List V := ((ss.zip xs).filter fun p => decide (p.1 = t)).map (·.2)
theorem lc_zip {K : PySem.W.Frag} {a b : Addr} {ss : List Str} {xs : List V} {t : Str} {σ : St} {i0 : Nat} {H : Hp} {D : Addr} {R : Hp → Prop} (hσ : σ.getD i0 none = some (.str t)) (h1 : SqT K H a (ss.map V.str)) (h2 : SqT K H b xs) (hn : xs.length ≤ 1000) (hD : H D = none)
    (q : ∀ H', Grow H H' → H' D = some (.lst (behind ss xs t)) → R H') :
    ∃ W : Nat → Nat → List V → Hp → Prop, (∃ m, W 0 m [] (upd H D (.lst []))) ∧ ∀ i m ys H2, W i m ys H2 →
      ((Itz K a b (ss.map V.str) xs).stop i H2 ∧ R H2) ∨ ((Itz K a b (ss.map V.str) xs).go i H2 ∧ ∀ (o : List (Option V)) v H3, o.length = 2 → (Itz K a b (ss.map V.str) xs).yld i H2 v H3 → gTup K 2 (gCons (gName 0) (gCons (gName 1) gNil)) v (blkG [i0] o σ) H3 fun σ2 H4 => (∃ o' : List (Option V), σ2 = blkG [i0] o' σ ∧ o'.length = 2) ∧
        ifT (some (tTest (tOp rEq (tVar 0) (tVar 2)))) σ2 H4 fun b H5 => if b = true then tVar 1 σ2 H5 fun y H6 => H6 D = some (.lst ys) ∧ ys.length < sizeLine ∧ ∃ m', m' < m ∧ W (i + 1) m' (ys ++ [y]) (upd H6 D (.lst (ys ++ [y]))) else ∃ m', m' < m ∧ W (i + 1) m' ys H5) := by
  have hz : (ss.zip xs).length = min ss.length xs.length := List.length_zip
  refine ⟨fun i m ys H2 => i ≤ (ss.zip xs).length ∧ m = (ss.zip xs).length - i ∧ ys = (((ss.zip xs).take i).filter fun p => decide (p.1 = t)).map (·.2) ∧ H2 D = some (.lst ys) ∧ Grow H H2, ⟨_, Nat.zero_le _, rfl, rfl, upd_same, Grow.put hD⟩, ?_⟩
  rintro i m ys H2 ⟨hi, rfl, rfl, hd2, g2⟩
  have a2 := SqT.mono g2.same h1
  have b2 := SqT.mono g2.same h2
  by_cases hl : i < (ss.zip xs).length
  · have hs : i < ss.length := by omega
    have hx : i < xs.length := by omega
    refine .inr ⟨⟨a2, b2, by rw [List.length_map]; exact hs, hx⟩, fun o v H3 ho hy => ?_⟩
    obtain ⟨T, x, y, hT, rfl, rfl, ex, ey⟩ := hy
    have ez : (ss.zip xs)[i]? = some (ss[i], y) := by
      rw [List.getElem?_zip_eq_some]
      exact ⟨List.getElem?_eq_getElem hs, ey⟩
    have ex' : x = .str ss[i] := by
      rw [List.getElem?_map, List.getElem?_eq_getElem hs] at ex
      exact (Option.some.inj ex).symm
    subst ex'
    have tD : D ≠ T := ne_of_none hd2 hT
    have g3 : Grow H2 (upd H2 T (.tup [.str ss[i], y])) := Grow.put hT
    have lenb : ((((ss.zip xs).take i).filter fun p => decide (p.1 = t)).map (·.2)).length ≤ i := by
      rw [List.length_map]
      exact Nat.le_trans (List.length_filter_le _ _) (by rw [List.length_take]; omega)
    match o, ho with
    | [_, _], _ =>
      refine ⟨T, _, rfl, SqT.of upd_same, rfl, _, _, rfl, _, _, rfl, rfl, ⟨[some (.str ss[i]), some y], rfl, rfl⟩, ?_⟩
      refine ⟨_, rfl, .str t, ?_, rfl, _, rfl, ?_⟩
      · show some (σ.getD i0 none) = _
        rw [hσ]
      have e3 : decide (V.str ss[i] = V.str t) = decide (ss[i] = t) := by rw [Bool.eq_iff_iff]; simp
      rw [e3]
      have tk : (ss.zip xs).take (i + 1) = (ss.zip xs).take i ++ [(ss[i], y)] := by rw [List.take_add_one, ez]; rfl
      refine ite2 (fun hc => ?_) (fun hc => ?_)
      · refine ⟨y, rfl, (upd_ne tD).trans hd2, ?_, _, ?_, hl, rfl, ?_, upd_same, (g2.trans g3).set hD⟩
        · rw [sizeLine_eq]; omega
        · omega
        · rw [tk, List.filter_append, List.map_append]
          simp [of_decide_eq_true hc]
      · refine ⟨_, ?_, hl, rfl, ?_, (upd_ne tD).trans hd2, g2.trans g3⟩
        · omega
        · rw [tk, List.filter_append, List.map_append]
          have hc' : ¬ ss[i] = t := fun z => hc (decide_eq_true z)
          simp [hc']
  · have e : i = (ss.zip xs).length := by omega
    subst e
    refine .inl ⟨⟨a2, b2, ?_⟩, q _ g2 ?_⟩
    · rw [List.length_map]; omega
    · rw [hd2, List.take_of_length_le (Nat.le_refl _)]
      rfl
theorem cut1 (x : V) (r : List V) : cutV (x :: r) (some 1) none = r := by
  unfold cutV
  have e1 : HT.sIx (x :: r).length 0 (some 1) = 1 := by
    show (if (1 : Int) < 0 then ((1 : Int) + ((x :: r).length : Int)).toNat else min (1 : Int).toNat (x :: r).length) = 1
    rw [if_neg (by decide)]
    show min 1 (r.length + 1) = 1
    omega
  rw [e1, HT.sIx_none]
  simp
theorem cut1_not (x : V) (r : List V) : ¬ (HT.sIx (x :: r).length 0 (some 1) = 0 ∧ HT.sIx (x :: r).length (x :: r).length none = (x :: r).length) := by
  intro h
  have e1 : HT.sIx (x :: r).length 0 (some 1) = 1 := by
    show (if (1 : Int) < 0 then ((1 : Int) + ((x :: r).length : Int)).toNat else min (1 : Int).toNat (x :: r).length) = 1
    rw [if_neg (by decide)]
    show min 1 (r.length + 1) = 1
    omega
  rw [e1] at h
  cases h.1
theorem pe_lcI {X : Cx} {scope : Scope} {cl : List (Str × Addr)} {own rest : List Str} {ix : List Nat} {elt iter tg c : Expr} {pos : Pos} {wi : TI} {te : TE} {g : TG} {tc : TT} (ok : CmpG X scope cl own rest ix) (hc : X.calm = true) (hi : PI X tg iter wi)
    (he : ∀ (C : Addr) (s : Shared) (H : Hp) (fp : List Addr) (pins : List (Addr × Obj)), PE (cxC X scope cl (own ++ rest) C s H fp pins) elt te) (hg : ∀ (C : Addr) (s : Shared) (H : Hp) (fp : List Addr) (pins : List (Addr × Obj)), PG (cxC X scope cl (own ++ rest) C s H fp pins) tg g)
    (hif : ∀ (C : Addr) (s : Shared) (H : Hp) (fp : List Addr) (pins : List (Addr × Obj)), PT (cxC X scope cl (own ++ rest) C s H fp pins) c tc)
    (hs : ∀ x, foldedSetIterable iter X.env x = pure x := by intro x; rfl) : PE X (.ListComp elt [⟨tg, iter, [c], 0⟩] scope pos) (tLCG wi g (some tc) te own.length ix) := pe_lcG (tc := some tc) ok hc hi he hg hif hs
theorem pg_two {X : Cx} {n1 n2 : Str} {p1 p2 pos : Pos} {k : Nat} (K : PySem.W.Frag) (hK : X.K = K) (hc : X.calm = true) (hN : X.N.Nodup) (h0 : X.N[0]? = some n1) (h1 : X.N[1]? = some n2) (x1 : Loc X.env.scope n1) (x2 : Loc X.env.scope n2) (l0 : X.env.scope.names.lookup n1 = some .local) (l1 : X.env.scope.names.lookup n2 = some .local) :
    PG X (.Tuple [.Name n1 p1, .Name n2 p2] k pos) (gTup K 2 (gCons (gName 0) (gCons (gName 1) gNil))) := by
  subst hK
  exact pg_tup hc (pgs_cons (pg_name (i := 0) hN h0 x1 (Or.inr l0)) (pgs_cons (pg_name (i := 1) hN h1 x2 (Or.inr l1)) pgs_nil))
end L2

set_option maxRecDepth 100000
set_option linter.all false
set_option Elab.async false
set_option maxHeartbeats 4000000
namespace L2
open PySem PySem.Spec PyProof.Rows PyProof
section
variable {X : Cx} {scope : Scope} {cl : List (Str × Addr)} {own rest : List Str} {ix : List Nat}
theorem lc_out {Nb : List Str} {σb : St} {pins : List (Addr × Obj)} {σ : St} {H H' : Hp} {s s5 : Shared} {fp : List Addr} (I : Inv X pins σ H s) (I5 : Inv (cxC X scope cl Nb s.heap.objs.size s H fp pins) [] σb H' s5) (hf : ∀ b ∈ fp, FpOk X pins H b) {h'' : Heap} (hs : Heap.SameBut s.heap.objs.size s5.heap h'') :
    Inv X pins σ H' { s5 with heap := h'' } := by
  have B := I5.base
  have ne : ∀ b u, s.heap.get? b = some u → b ≠ s.heap.objs.size := fun b u e => Nat.ne_of_lt (Heap.lt_size e)
  have un : Un (frs X.stack) fp H H' s.heap h'' :=
    ⟨fun b u e n hx hy => (hs.2 b (ne b u e)).trans (B.keep b u e n hx hy), fun b u e n hx hy => (let ⟨sl, z⟩ := B.slot b u e n hx hy; ⟨sl, (hs.2 b (ne b u e)).trans z⟩), B.free,
     fun b u e hy => (let ⟨u', z⟩ := B.there b u e hy; ⟨u', (hs.2 b (ne b u e)).trans z⟩), B.tups, B.frzs, B.tbls⟩
  have hok : HOk X.prog X.w H' h'' := fun b u e => (I5.hok b u e).stay (fun c v hc' z => (hs.2 c (fun zz => by
    have fz : H' s.heap.objs.size = none := I5.free
    rcases hc' with y | y
    · rw [← y, zz, fz] at e; cases e
    · rw [zz, fz] at y; cases y)).trans z) (fun _ z => z) fun _ _ z => z
  refine I.call' (s' := { s5 with heap := h'' }) (ch := fp) I5.os un hok I5.bare fun b hm => ?_
  obtain ⟨g0, g1, g2, g3, g4, g5⟩ := hf b hm
  exact ⟨g3, g1, g4, g5⟩
theorem lcR_loop {elt iter tg : Expr} {ifs : List Expr} {pos : Pos} {te : TE} {g : TG} {tc : Option TT} {pins : List (Addr × Obj)} {σ : St} {H : Hp} {s s4 : Shared} {fp : List Addr} {it D : Addr} {tn : Nat → Heap → Prop} {J : It} {Q : VK} {RR : Result → Shared → Prop} {W : Nat → Nat → List V → Hp → Prop} {m0 : Nat}
    (ok : CmpG X scope cl own rest ix) (hc : X.calm = true) (he : ∀ (C : Addr) (s : Shared) (H : Hp) (fp : List Addr) (pins : List (Addr × Obj)), PE (cxC X scope cl (own ++ rest) C s H fp pins) elt te) (hg : ∀ (C : Addr) (s : Shared) (H : Hp) (fp : List Addr) (pins : List (Addr × Obj)), PG (cxC X scope cl (own ++ rest) C s H fp pins) tg g)
    (hif : ∀ (C : Addr) (s : Shared) (H : Hp) (fp : List Addr) (pins : List (Addr × Obj)), PIf (cxC X scope cl (own ++ rest) C s H fp pins) ifs tc)
    (I : Inv X pins σ H s) (T : Turn X.prog X.w X.K tg J fp it tn) (hf : ∀ b ∈ fp, FpOk X pins H b) (hb : ∀ b ∈ fp, b < s.heap.objs.size)
    (J4 : Inv (cxC X scope cl (own ++ rest) s.heap.objs.size s H fp pins) [] (blkG ix (List.replicate own.length none) σ) H s4) (st : tn 0 s4.heap) (w0 : W 0 m0 [] H)
    (fin : ∀ f H' s5 o, o.length = own.length → Inv (cxC X scope cl (own ++ rest) s.heap.objs.size s H fp pins) [] (blkG ix o σ) H' s5 → Q (.ref D) H' → RR (.ok f) s5)
    (turn : ∀ i m ys H2, W i m ys H2 → (J.stop i H2 ∧ Q (.ref D) H2) ∨ (J.go i H2 ∧ ∀ (o : List (Option V)) v H3, o.length = own.length → J.yld i H2 v H3 → g v (blkG ix o σ) H3 fun σ2 H4 => (∃ o' : List (Option V), σ2 = blkG ix o' σ ∧ o'.length = own.length) ∧
      ifT tc σ2 H4 fun b H5 => if b = true then te σ2 H5 fun y H6 => H6 D = some (.lst ys) ∧ ys.length < sizeLine ∧ ∃ m', m' < m ∧ W (i + 1) m' (ys ++ [y]) (upd H6 D (.lst (ys ++ [y]))) else ∃ m', m' < m ∧ W (i + 1) m' ys H5)) :
    codeAny (model X.prog X.w) X.A (.compLoop (.ListComp elt [⟨tg, iter, ifs, 0⟩] scope pos) 0 (.ref it) (.ref D) (compEnvC scope cl s.heap.objs.size X.env)) RR s4 := by
  have stat : ∀ {H' : Hp}, (∀ b ∈ fp, H' b = none) → ∀ b ∈ fp, FpOk (cxC X scope cl (own ++ rest) s.heap.objs.size s H fp pins) [] H' b := fun hn b hm => by
    obtain ⟨g0, g1, g2, g3, g4, g5⟩ := hf b hm
    refine ⟨hn b hm, Nat.ne_of_lt (hb b hm), fun z => ?_, .inl hm, fun y c h => g4 y c (ok.cls y c h), fun p hp => g5 p (by simpa [cxC] using hp)⟩
    rcases List.mem_cons.mp (I.stkSub b z) with z | z
    · exact g1 z
    · exact g2 z
  refine codeAny_loop rfl (fun n s' => ∃ i ys o H', o.length = own.length ∧ Inv (cxC X scope cl (own ++ rest) s.heap.objs.size s H fp pins) [] (blkG ix o σ) H' s' ∧ tn i s'.heap ∧ (∀ b ∈ fp, H' b = none) ∧ W i n ys H') (fun n s' hI => ?_) m0 ⟨0, [], List.replicate own.length none, H, by simp, J4, st, fun b hm => (hf b hm).1, w0⟩
  obtain ⟨i, ys, o, H', ho, I', st', fr', w'⟩ := hI
  show wpAny _ _ ((compTurn (.ListComp elt [⟨tg, iter, ifs, 0⟩] scope pos) 0 (.ref it) (.ref D) (compEnvC scope cl s.heap.objs.size X.env)).onRaise (fun x => do noteFrame x (compEnvC scope cl s.heap.objs.size X.env); theTreesLotGoes x)) _ _ s'
  refine wpAny_noted ?_
  rw [compTurn_list]
  refine wpAny_bind (wpAny_standAt (wpAny_bind ?_))
  rcases turn i n ys H' w' with ⟨stop, q⟩ | ⟨go, step⟩
  · refine thn (T.done (cxC X scope cl (own ++ rest) s.heap.objs.size s H fp pins) rfl rfl rfl hc i [] s' _ H' _ I' (stat fr') st' stop) fun r s5 ⟨hr, I5⟩ => ?_
    subst hr
    exact wpAny_pure (fin _ H' s5 o ho I5 q)
  · refine thn (T.item (cxC X scope cl (own ++ rest) s.heap.objs.size s H fp pins) rfl rfl rfl hc i [] s' _ H' _ I' (stat fr') st' go) fun r s5 ⟨u, hr, h5⟩ => ?_
    subst hr
    refine wpAny_bind (thn h5 fun _ s6 ⟨xv, H6, I6, r6, y6, st6, fr6⟩ => ?_)
    have I6' := I6.pinned (stat fr6) (T.obj _ _ st6)
    refine wpAny_bind (wpAny_mono (hg _ _ _ _ _ _ s6 (blkG ix o σ) H6 xv u _ I6' r6 (step o xv H6 ho y6)) (fun _ s7 ⟨σ7, H7, I7, ⟨o', e7, ho'⟩, q7⟩ => ?_) fun _ _ z => z.elim)
    subst e7
    have again : ∀ {H9 : Hp} {s9 : Shared} {ys9 : List V} {m' : Nat}, Inv (cxC X scope cl (own ++ rest) s.heap.objs.size s H fp pins) ([] ++ pinsAt fp s6.heap) (blkG ix o' σ) H9 s9 → m' < n → W (i + 1) m' ys9 H9 →
        ∃ m, m < n ∧ ∃ i ys o H', o.length = own.length ∧ Inv (cxC X scope cl (own ++ rest) s.heap.objs.size s H fp pins) [] (blkG ix o σ) H' s9 ∧ tn i s9.heap ∧ (∀ b ∈ fp, H' b = none) ∧ W i m ys H' := fun {H9 s9 ys9 m'} I9 hm w9 => by
      refine ⟨m', hm, i + 1, ys9, o', H9, ho', I9.unpinned, ?_, fun b hm => ?_, w9⟩
      · exact T.keep _ _ _ st6 fun b hm ob e => (I9.pin (b, ob) (List.mem_append_right _ (List.mem_append_right _ (mem_pinsAt hm e)))).1
      · obtain ⟨ob, e, d⟩ := T.obj _ _ st6 b hm
        exact (I9.pin (b, ob) (List.mem_append_right _ (List.mem_append_right _ (mem_pinsAt hm e)))).2.1
    refine wpAny_bind (wpAny_mono (if_ok (hif _ _ _ _ _) I7 q7) (fun b s8 ⟨H8, I8, q8⟩ => ?_) fun _ _ z => z.elim)
    cases b with
    | false =>
      obtain ⟨m', hm', w8⟩ := (show ∃ m', m' < n ∧ W (i + 1) m' ys H8 from q8)
      exact wpAny_pure ⟨rfl, again I8 hm' w8⟩
    | true =>
      refine wpAny_bind (wpAny_bind (wpAny_mono (he _ _ _ _ _ _ s8 _ _ _ I8 q8) (fun yv s9 ⟨y, H9, I9, r9, hD, hz, m', hm', w9⟩ => ?_) fun _ _ z => z.elim))
      refine wpAny_bind (wpAny_mono (mt_append (X := cxC X scope cl (own ++ rest) s.heap.objs.size s H fp pins) _ s9 _ H9 (.ref D) [y] (.ref D) [yv] (fun _ H10 => H10 = upd H9 D (.lst (ys ++ [y]))) I9 rfl (.cons r9 .nil) ⟨D, ys, y, rfl, rfl, hD, hz, rfl⟩) (fun _ s10 ⟨_, H10, I10, _, e10⟩ => ?_) fun _ _ z => z.elim)
      subst e10
      exact wpAny_pure (wpAny_pure ⟨rfl, again I10 hm' w9⟩)
theorem ps_setLC {elt iter tg : Expr} {ifs : List Expr} {pos spos py : Pos} {wi : TI} {te : TE} {g : TG} {tc : Option TT} {i : Nat} {x : Str} (hN : X.N.Nodup) (hi' : X.N[i]? = some x) (hx : Loc X.env.scope x) (ok : CmpG X scope cl own rest ix) (hc : X.calm = true) (hi : PI X tg iter wi)
    (he : ∀ (C : Addr) (s : Shared) (H : Hp) (fp : List Addr) (pins : List (Addr × Obj)), PE (cxC X scope cl (own ++ rest) C s H fp pins) elt te) (hg : ∀ (C : Addr) (s : Shared) (H : Hp) (fp : List Addr) (pins : List (Addr × Obj)), PG (cxC X scope cl (own ++ rest) C s H fp pins) tg g)
    (hif : ∀ (C : Addr) (s : Shared) (H : Hp) (fp : List Addr) (pins : List (Addr × Obj)), PIf (cxC X scope cl (own ++ rest) C s H fp pins) ifs tc)
    (hsw : swapsWith (.ListComp elt [⟨tg, iter, ifs, 0⟩] scope pos) (some (.Name x py)) spos.line X.env = pure true) (hf : X.fn x = true ∨ X.env.scope.names.lookup x = some .local)
    (hs : ∀ x, foldedSetIterable iter X.env x = pure x := by intro _; rfl) : PS X (.Assign [.Name x py] (.ListComp elt [⟨tg, iter, ifs, 0⟩] scope pos) spos) (tAsg (tLCG wi g tc te own.length ix) (gName i)) := by
  intro pins s σ H E I h
  rw [exec_Assign_Name_used _ _ _ _ hsw]
  refine wpAny_bind (wpAny_standAt (wpAny_bind ?_))
  show wpAny _ X.A (do let _ ← comprehension (.ListComp elt [⟨tg, iter, ifs, 0⟩] scope pos) scope X.env _ (newList []) false (eval iter X.env) (some (assign (.Name x py) X.env))) _ _ s
  refine wpAny_bind (wpAny_mono (wpAny_comprehension_free (use := some (assign (.Name x py) X.env)) (Q := fun _ s' => SP X pins E .next s') rfl hs ok.clos ok.kind ok.names (thn (hi pins s σ H _ I h) fun v s1 h1 => thn h1 fun itv s2 h2 => ?_)) (fun _ s' hq => wpAny_pure (wpAny_pure hq)) fun _ _ e => e)
  obtain ⟨it, fp, tn, J, H1, e, I2, T, st2, f2, hq⟩ := h2
  subst e
  refine wpAny_newObj_type (wpAny_newFunctionEnv ok.cell (by intro y hy; simp at hy) (fun h₁ hns hsb => ?_) ok.kind)
  dsimp only at hns hsb ⊢
  have na : H1 s2.heap.objs.size = none := I2.hok.fresh (Nat.le_refl _)
  obtain ⟨W, ⟨m0, w0⟩, turn⟩ := hq s2.heap.objs.size na
  have I3 := I2.laid (t' := s2.toks) (o := .lst []) (h' := s2.heap.push { cls := .type "list", dict := none, data := .seq ([] : List Value).toArray }) (fun b u e => Heap.get?_push_of_some _ e) (Nat.le_refl _) ⟨by decide, [], 0, .nil, Heap.get?_push_size _ rfl⟩
  have fa : ∀ b ∈ fp, b < s2.heap.objs.size := fun b hb => by
    obtain ⟨o, ho, _⟩ := T.obj 0 _ st2 b hb
    exact Heap.lt_size ho
  generalize hs3 : ({ s2 with heap := s2.heap.push { cls := .type "list", dict := none, data := .seq ([] : List Value).toArray } } : Shared) = s3 at hns hsb I3 ⊢
  have z3 : s3.heap.objs.size = s2.heap.objs.size + 1 := by rw [← hs3]; exact Heap.size_push _ _
  have k3 : ∀ b u, s2.heap.get? b = some u → s3.heap.get? b = some u := fun b u e => by rw [← hs3]; exact Heap.get?_push_of_some _ e
  have fa3 : ∀ b ∈ fp, b < s3.heap.objs.size := fun b hb => by rw [z3]; exact Nat.lt_succ_of_lt (fa b hb)
  have f3 : ∀ b ∈ fp, FpOk X pins (upd H1 s2.heap.objs.size (.lst [])) b := fun b hb => by
    obtain ⟨g0, g1⟩ := f2 b hb
    exact ⟨by rw [upd_ne (Nat.ne_of_lt (fa b hb))]; exact g0, g1⟩
  subst hs3
  have J4 := cmpG_start ok (tk := s2.toks + ([] : List (Str × Value)).length) I3 f3 fa3 hns hsb
  have st4 : tn 0 h₁ := T.keep _ _ _ st2 fun b hm o e => (hsb.2 b (Nat.ne_of_lt (fa3 b hm))).trans (Heap.get?_push_of_some _ (k3 b o e))
  refine (fun loop => codeAny_compStart_list loop (T.self _ 0 _ _ _ st4 loop)) (lcR_loop (Q := fun v H' => gName i v σ H' E.nx) (elt := elt) (iter := iter) (pos := pos) (s4 := { s2 with heap := h₁, toks := s2.toks + ([] : List (Str × Value)).length }) ok hc he hg hif I3 T f3 fa3 J4 st4 w0 (fun f H' s5 o ho I5 q => ?_) turn)
  obtain ⟨m, hn, _⟩ := I5.loc
  obtain ⟨oC, es, ep, hoC, rC⟩ := id hn
  have nC : H' _ = none := I5.free
  have Jx := lc_out I3 I5 f3 (h'' := s5.heap) (Heap.SameBut.refl ..)
  have fC : FpOk X pins H' (s2.heap.push { cls := .type "list", dict := none, data := .seq ([] : List Value).toArray }).objs.size := I3.fpOk (Nat.le_refl _) nC
  have Jp := Jx.pinned (fp := [(s2.heap.push { cls := .type "list", dict := none, data := .seq ([] : List Value).toArray }).objs.size]) (fun b hb => by rw [List.mem_singleton.mp hb]; exact fC) (fun b hb => by
    rw [List.mem_singleton.mp hb]
    exact ⟨oC, hoC, fun v z => by rw [rC.1] at z; cases z⟩)
  show wpAny _ X.A (assign (.Name x py) X.env (.ref s2.heap.objs.size)) _ _ s5
  refine wpAny_mono (pg_name (pos := py) hN hi' hx hf _ s5 σ H' (.ref s2.heap.objs.size) (.ref s2.heap.objs.size) (fun σ6 H6 => σ6 = σ.set i (some (.ref s2.heap.objs.size)) ∧ H6 = H') Jp rfl ⟨rfl, rfl⟩) (fun _ s6 ⟨σ6, H6, I6, e1, e2⟩ => ?_) fun _ _ e => e
  subst e1 e2
  have pC := (I6.pin (_, oC) (List.mem_append_right _ (List.mem_append_right _ (mem_pinsAt (List.mem_singleton.mpr rfl) hoC)))).1
  refine ⟨m, ⟨oC, es, ep, pC, rC⟩, fun h' hs' => ⟨_, _, Inv.turnedL (t' := s6.toks) (ch := [_]) I6.unpinned (fun b o hb e => (hs'.2 b (fun z => hb (List.mem_singleton.mpr z))).trans e) (fun b hb => by rw [List.mem_singleton.mp hb]; exact fC), q⟩⟩
theorem ps_setLC0 {elt iter tg : Expr} {pos spos py : Pos} {wi : TI} {te : TE} {g : TG} {i : Nat} {x : Str} (hN : X.N.Nodup) (hi' : X.N[i]? = some x) (hx : Loc X.env.scope x) (ok : CmpG X scope cl own rest ix) (hc : X.calm = true) (hi : PI X tg iter wi)
    (he : ∀ (C : Addr) (s : Shared) (H : Hp) (fp : List Addr) (pins : List (Addr × Obj)), PE (cxC X scope cl (own ++ rest) C s H fp pins) elt te) (hg : ∀ (C : Addr) (s : Shared) (H : Hp) (fp : List Addr) (pins : List (Addr × Obj)), PG (cxC X scope cl (own ++ rest) C s H fp pins) tg g)
    (hsw : swapsWith (.ListComp elt [⟨tg, iter, [], 0⟩] scope pos) (some (.Name x py)) spos.line X.env = pure true) (hf : X.fn x = true ∨ X.env.scope.names.lookup x = some .local)
    (hs : ∀ x, foldedSetIterable iter X.env x = pure x := by intro _; rfl) : PS X (.Assign [.Name x py] (.ListComp elt [⟨tg, iter, [], 0⟩] scope pos) spos) (tAsg (tLCG wi g none te own.length ix) (gName i)) := ps_setLC hN hi' hx ok hc hi he hg (fun _ _ _ _ _ => trivial) hsw hf hs
end
end L2

set_option maxRecDepth 100000
set_option linter.all false
set_option Elab.async false
set_option maxHeartbeats 4000000
namespace L2
open PySem PySem.Spec PyProof.Rows PyProof
def ixOf (k : Str) : List Str → Option Nat
  | [] => none
  | x :: r => if decide (k = x) = true then some 0 else (ixOf k r).map (· + 1)
theorem dat_zip {k : Str} : ∀ {ks : List Str} {vs : List V} {i : Nat} {v : V}, ixOf k ks = some i → vs[i]? = some v → KTD.datumAt k (ks.zip vs) = some v
  | [], _, _, _, h, _ => by cases h
  | x :: r, [], i, v, h, hv => by simp at hv
  | x :: r, u :: us, i, v, h, hv => by
    show (if decide (k = x) = true then some u else KTD.datumAt k (r.zip us)) = some v
    have h' : (if decide (k = x) = true then some 0 else (ixOf k r).map (· + 1)) = some i := h
    by_cases z : decide (k = x) = true
    · rw [if_pos z] at h' ⊢
      cases h'
      simpa using hv
    · rw [if_neg z] at h' ⊢
      cases e : ixOf k r with
      | none => rw [e] at h'; cases h'
      | some j =>
        rw [e] at h'
        have ei : i = j + 1 := by simpa using h'.symm
        subst ei
        exact dat_zip e (by simpa using hv)
theorem key_no {k : Str} : ∀ {ks : List Str} {vs : List V}, ixOf k ks = none → KTD.inKeys k (ks.zip vs) = false
  | [], _, _ => rfl
  | x :: r, [], _ => rfl
  | x :: r, u :: us, h => by
    show (decide (k = x) || KTD.inKeys k (r.zip us)) = false
    have h' : (if decide (k = x) = true then some 0 else (ixOf k r).map (· + 1)) = none := h
    by_cases z : decide (k = x) = true
    · rw [if_pos z] at h'; cases h'
    · rw [if_neg z] at h'
      have e : ixOf k r = none := by
        cases e : ixOf k r with
        | none => rfl
        | some j => rw [e] at h'; cases h'
      rw [Bool.eq_false_iff.mpr z, Bool.false_or]
      exact key_no e
def TupO (o : Obj) (xs : List V) : Prop := o.cls = .type "tuple" ∧ ∃ its n, o.data = .seq its n ∧ Vals xs its.toList
theorem TupO.s {K : PySem.W.Frag} {a : Addr} {o : Obj} {xs : List V} (h : TupO o xs) (l : K.lookup a = some o) (hz : xs.length ≤ sizeLine) : ∀ H, SqT K H a xs := fun H => by
  obtain ⟨c, its, n, d, v⟩ := h
  refine .inr ⟨o, its, n, l, c, d, ?_, v⟩
  have h1 : xs.length = its.toList.length := v.length
  have h2 : its.toList.length = its.size := by simp
  show its.size ≤ sizeLine
  rw [← h2, ← h1]
  exact hz
theorem slots_zip {K : PySem.W.Frag} : ∀ {ks : List Str} {sss : List (List Str)} {vs : List V}, ks.length = sss.length → ks.length = vs.length → (∀ (i : Nat) ss v, sss[i]? = some ss → vs[i]? = some v → ∃ tp, v = .ref tp ∧ ∀ H, SqT K H tp (ss.map V.str)) →
    ∀ wd, ((ks.zip sss).lookup wd = none ∧ KTD.datumAt wd (ks.zip vs) = none) ∨ ∃ ss tp, (ks.zip sss).lookup wd = some ss ∧ KTD.datumAt wd (ks.zip vs) = some (.ref tp) ∧ ∀ H, SqT K H tp (ss.map V.str)
  | [], _, _, _, _, _, wd => .inl ⟨rfl, rfl⟩
  | x :: r, [], _, h, _, _, wd => by simp at h
  | x :: r, ss :: sss, [], _, h, _, wd => by simp at h
  | x :: r, ss :: sss, v :: vs, h1, h2, h3, wd => by
    show (List.lookup wd ((x, ss) :: r.zip sss) = none ∧ (if decide (wd = x) = true then some v else KTD.datumAt wd (r.zip vs)) = none) ∨ ∃ ss' tp, List.lookup wd ((x, ss) :: r.zip sss) = some ss' ∧ (if decide (wd = x) = true then some v else KTD.datumAt wd (r.zip vs)) = some (.ref tp) ∧ _
    by_cases z : wd = x
    · subst z
      rw [if_pos (decide_eq_true rfl)]
      obtain ⟨tp, rfl, ht⟩ := h3 0 ss v rfl rfl
      exact .inr ⟨ss, tp, by simp, rfl, ht⟩
    · rw [if_neg (by simp [z]), List.lookup_cons, beq_eq_false_iff_ne.mpr z]
      exact slots_zip (by simpa using h1) (by simpa using h2) (fun i ss' v' e1 e2 => h3 (i + 1) ss' v' (by simpa using e1) (by simpa using e2)) wd
end L2

set_option maxRecDepth 100000
set_option linter.all false
set_option Elab.async false
set_option maxHeartbeats 4000000
namespace L2
open PySem PySem.Spec PyProof.Rows PyProof
theorem log_lt {n k : Nat} (h : n < 2 ^ k) (hk : 0 < k) : n.log2 < k := by
  by_cases z : n = 0
  · subst z; simpa using hk
  · exact (Nat.log2_lt z).mpr h
theorem op_fdivW {X : Cx} : OpR X (binaryOp .FloorDiv) (rI (fun _ j => j ≠ 0 ∧ j.natAbs < 2 ^ 64) fun i j => .int (i.fdiv j)) := opI fun _ _ _ _ _ _ _ hc q => floordiv_int hc.1 q (.inl (PyProof.noPylong_of_log2 (Nat.lt_trans (log_lt hc.2 (by decide)) (by decide))))
end L2
namespace K18
open PySem L2 PyProof
def top (i : Nat) : Stmt := PySem.Challenge.pw_plainspeak_k18_numbers_reckoned.main.body.getD i (.Pass ⟨0, 0, 0, 0⟩)
abbrev sBr : Stmt := top 27
abbrev sPlus : Stmt := top 28
abbrev sMinus : Stmt := top 29
abbrev sTimes : Stmt := top 30
abbrev sOver : Stmt := top 31
abbrev sRest : Stmt := top 32
abbrev sLess : Stmt := top 33
abbrev sSame : Stmt := top 34
abbrev sNought : Stmt := top 36
abbrev sSumOf : Stmt := top 37
abbrev least : Int := -9223372036854775808
abbrev round : Int := 18446744073709551616
def In64 (a : Int) : Prop := -9223372036854775808 ≤ a ∧ a ≤ 9223372036854775807
def brIn (n : Int) : Int := (n - least) % round + least
def aI (i : Int) : Int := if i < 0 then -i else i
theorem aI_nat (i : Int) : aI i = (i.natAbs : Int) := by unfold aI; split <;> omega
theorem brIn_in (n : Int) : In64 (brIn n) := by
  unfold brIn In64 least round
  omega
inductive W7 | plus | minus | times | over | rest | less | same
def W7.str : W7 → Str
  | .plus => "plus" | .minus => "minus" | .times => "times" | .over => "over" | .rest => "rest" | .less => "less" | .same => "same"
def cutI (a b : Int) : Int := (aI a).fdiv (aI b)
def sumV : W7 → Int → Int → V
  | .plus, a, b => .int (brIn (a + b))
  | .minus, a, b => .int (brIn (a - b))
  | .times, a, b => .int (brIn (a * b))
  | .over, a, b => .int (brIn (if decide (V.bl (decide (a < 0)) = V.bl (decide (b < 0))) = true then cutI a b else -cutI a b))
  | .rest, a, b => .int (if decide (a < 0) = true then -(aI a % aI b) else aI a % aI b)
  | .less, a, b => .bl (decide (a < b))
  | .same, a, b => .bl (decide (V.int a = V.int b))
def divs : W7 → Bool
  | .over => true | .rest => true | _ => false
structure GlS (mg : Str → Option Value) : Prop where
  abs : mg "abs" = none
  least : ∃ t, mg "LEAST_NUMBER" = some (.int least t)
  round : ∃ t, mg "ROUND" = some (.int round t)
section
variable {P : Program} {w : World} {K : PySem.W.Frag} {mg : Str → Option Value} {base : Heap} {fB : Addr} {fdB : FuncData}
def spBr : Sp := fun vs H Q _ => ∃ n : Int, vs = [.int n] ∧ Q (.int (brIn n)) H
theorem scBr : FnScope ["number"] ["number"] (defScope sBr) := ⟨rfl, rfl, rfl, by decide +kernel, rfl, by decide +kernel, by decide +kernel⟩
theorem ok_br {f : Addr} {fd : FuncData} (F : FunD K "brought_in" "brought_in" sBr .none f fd) (G : GlS mg) : FnOk P w K mg base (CXE P w) 1 f fd ["number"] spBr := by
  refine F.ok0 scBr (fun vs H Q E h => ?_) (fun cdv A outer s H vs Q E hr h => ?_)
  · obtain ⟨n, rfl, _⟩ := h
    rfl
  · obtain ⟨n, rfl, q⟩ := h
    obtain ⟨t1, m1⟩ := G.least
    obtain ⟨t2, m2⟩ := G.round
    refine ⟨_, pss_one (ps_ret (pe_op op_add (pe_op op_mod (pe_op op_sub (pv 0) (pe_glob (v := .int least) (by rfl) m1 ⟨t1, rfl⟩)) (pe_glob (v := .int round) (by rfl) m2 ⟨t2, rfl⟩)) (pe_glob (v := .int least) (by rfl) m1 ⟨t1, rfl⟩))), ?_⟩
    exact ⟨_, rfl, _, _, rfl, rfl, _, _, rfl, rfl, (by show (0 : Int) < 18446744073709551616; decide), _, _, rfl, rfl, q⟩
def spSum (x : W7) : Sp := fun vs H Q _ => ∃ a b : Int, vs = [.int a, .int b] ∧ In64 a ∧ In64 b ∧ (divs x = true → b ≠ 0) ∧ Q (sumV x a b) H
theorem scPl : FnScope ["one", "other"] ["one", "other"] (defScope sPlus) := ⟨rfl, rfl, rfl, by decide +kernel, rfl, by decide +kernel, by decide +kernel⟩
theorem scMi : FnScope ["one", "other"] ["one", "other"] (defScope sMinus) := ⟨rfl, rfl, rfl, by decide +kernel, rfl, by decide +kernel, by decide +kernel⟩
theorem scTi : FnScope ["one", "other"] ["one", "other"] (defScope sTimes) := ⟨rfl, rfl, rfl, by decide +kernel, rfl, by decide +kernel, by decide +kernel⟩
theorem scOv : FnScope ["one", "other", "cut"] ["one", "other"] (defScope sOver) := ⟨rfl, rfl, rfl, by decide +kernel, rfl, by decide +kernel, by decide +kernel⟩
theorem scRe : FnScope ["one", "other", "left"] ["one", "other"] (defScope sRest) := ⟨rfl, rfl, rfl, by decide +kernel, rfl, by decide +kernel, by decide +kernel⟩
theorem scLe : FnScope ["one", "other"] ["one", "other"] (defScope sLess) := ⟨rfl, rfl, rfl, by decide +kernel, rfl, by decide +kernel, by decide +kernel⟩
theorem scSa : FnScope ["one", "other"] ["one", "other"] (defScope sSame) := ⟨rfl, rfl, rfl, by decide +kernel, rfl, by decide +kernel, by decide +kernel⟩
theorem ok_plus {f : Addr} {fd : FuncData} (F : FunD K "plus" "plus" sPlus .none f fd) (GB : FnOk P w K mg base (CXE P w) 1 fB fdB ["number"] spBr) (mB : mg "brought_in" = some (.ref fB)) (kB : PySem.W.keepIn K (.ref fB) = true) (bB : Binds K fdB ["number"] []) :
    FnOk P w K mg base (CXE P w) 2 f fd ["one", "other"] (spSum .plus) := by
  refine F.ok0 scPl (fun vs H Q E h => ?_) (fun cdv A outer s H vs Q E hr h => ?_)
  · obtain ⟨a, b, rfl, _⟩ := h
    rfl
  · obtain ⟨a, b, rfl, ha, hb, _, q⟩ := h
    refine ⟨_, pss_one (ps_ret (pe_call GB hr (by rfl) mB kB bB .nil passE0 (pa_cons (pe_op op_add (pv 0) (pv 1)) pa_nil))), ?_⟩
    exact ⟨_, rfl, _, rfl, _, _, rfl, rfl, _, rfl, q⟩
theorem ok_minus {f : Addr} {fd : FuncData} (F : FunD K "minus" "minus" sMinus .none f fd) (GB : FnOk P w K mg base (CXE P w) 1 fB fdB ["number"] spBr) (mB : mg "brought_in" = some (.ref fB)) (kB : PySem.W.keepIn K (.ref fB) = true) (bB : Binds K fdB ["number"] []) :
    FnOk P w K mg base (CXE P w) 2 f fd ["one", "other"] (spSum .minus) := by
  refine F.ok0 scMi (fun vs H Q E h => ?_) (fun cdv A outer s H vs Q E hr h => ?_)
  · obtain ⟨a, b, rfl, _⟩ := h
    rfl
  · obtain ⟨a, b, rfl, ha, hb, _, q⟩ := h
    refine ⟨_, pss_one (ps_ret (pe_call GB hr (by rfl) mB kB bB .nil passE0 (pa_cons (pe_op op_sub (pv 0) (pv 1)) pa_nil))), ?_⟩
    exact ⟨_, rfl, _, rfl, _, _, rfl, rfl, _, rfl, q⟩
theorem ok_times {f : Addr} {fd : FuncData} (F : FunD K "times" "times" sTimes .none f fd) (GB : FnOk P w K mg base (CXE P w) 1 fB fdB ["number"] spBr) (mB : mg "brought_in" = some (.ref fB)) (kB : PySem.W.keepIn K (.ref fB) = true) (bB : Binds K fdB ["number"] []) :
    FnOk P w K mg base (CXE P w) 2 f fd ["one", "other"] (spSum .times) := by
  refine F.ok0 scTi (fun vs H Q E h => ?_) (fun cdv A outer s H vs Q E hr h => ?_)
  · obtain ⟨a, b, rfl, _⟩ := h
    rfl
  · obtain ⟨a, b, rfl, ha, hb, _, q⟩ := h
    refine ⟨_, pss_one (ps_ret (pe_call GB hr (by rfl) mB kB bB .nil passE0 (pa_cons (pe_op op_mul (pv 0) (pv 1)) pa_nil))), ?_⟩
    have h1 : -(2 ^ 64) < a ∧ a < 2 ^ 64 := by unfold In64 at ha; omega
    exact ⟨_, rfl, _, rfl, _, _, rfl, rfl, .inl h1, _, rfl, q⟩
theorem ok_over {f : Addr} {fd : FuncData} (F : FunD K "over" "over" sOver .none f fd) (G : GlS mg) (GB : FnOk P w K mg base (CXE P w) 1 fB fdB ["number"] spBr) (mB : mg "brought_in" = some (.ref fB)) (kB : PySem.W.keepIn K (.ref fB) = true) (bB : Binds K fdB ["number"] []) :
    FnOk P w K mg base (CXE P w) 2 f fd ["one", "other"] (spSum .over) := by
  refine F.ok0 scOv (fun vs H Q E h => ?_) (fun cdv A outer s H vs Q E hr h => ?_)
  · obtain ⟨a, b, rfl, _⟩ := h
    rfl
  · obtain ⟨a, b, rfl, ha, hb, h0, q⟩ := h
    have hb0 : b ≠ 0 := h0 rfl
    refine ⟨_, pss_cons (ps_set (i := 2) scOv.nd rfl (Or.inl rfl) (pe_op op_fdivW (pe_callB call_abs (by rfl) G.abs PyProof.Rows.boot_abs (pa_cons (pv 0) pa_nil)) (pe_callB call_abs (by rfl) G.abs PyProof.Rows.boot_abs (pa_cons (pv 1) pa_nil))))
      (pss_one (ps_ret (pe_call GB hr (by rfl) mB kB bB .nil passE0 (pa_cons (pe_ifExp (pt_cmpR op_eq (pe_cmpR op_lt (pv 0) pe_int (nomark _)) (pe_cmpR op_lt (pv 1) pe_int (nomark _)) (nomark _)) (pv 2) (pe_un un_neg (pv 2))) pa_nil)))), ?_⟩
    have hbb : aI b ≠ 0 ∧ (aI b).natAbs < 2 ^ 64 := by rw [aI_nat]; unfold In64 at hb; omega
    refine ⟨_, rfl, _, rfl, _, rfl, _, rfl, _, _, rfl, rfl, hbb, ?_⟩
    refine ⟨_, rfl, _, _, rfl, rfl, _, rfl, _, _, rfl, rfl, rfl, _, rfl, ?_⟩
    have q' : Q (.int (brIn (if decide (V.bl (decide (a < 0)) = V.bl (decide (b < 0))) = true then cutI a b else -cutI a b))) H := q
    refine ite2 (fun h => ?_) (fun h => ?_)
    · rw [if_pos h] at q'
      exact ⟨_, rfl, _, rfl, q'⟩
    · rw [if_neg h] at q'
      exact ⟨_, rfl, _, rfl, _, rfl, q'⟩
theorem ok_rest {f : Addr} {fd : FuncData} (F : FunD K "rest" "rest" sRest .none f fd) (G : GlS mg) : FnOk P w K mg base (CXE P w) 2 f fd ["one", "other"] (spSum .rest) := by
  refine F.ok0 scRe (fun vs H Q E h => ?_) (fun cdv A outer s H vs Q E hr h => ?_)
  · obtain ⟨a, b, rfl, _⟩ := h
    rfl
  · obtain ⟨a, b, rfl, ha, hb, h0, q⟩ := h
    have hb0 : b ≠ 0 := h0 rfl
    refine ⟨_, pss_cons (ps_set (i := 2) scRe.nd rfl (Or.inl rfl) (pe_op op_mod (pe_callB call_abs (by rfl) G.abs PyProof.Rows.boot_abs (pa_cons (pv 0) pa_nil)) (pe_callB call_abs (by rfl) G.abs PyProof.Rows.boot_abs (pa_cons (pv 1) pa_nil))))
      (pss_one (ps_ret (pe_ifExp (pt_cmpR op_lt (pv 0) pe_int (nomark _)) (pe_un un_neg (pv 2)) (pv 2)))), ?_⟩
    have hbb : 0 < aI b := by rw [aI_nat]; omega
    refine ⟨_, rfl, _, rfl, _, rfl, _, rfl, _, _, rfl, rfl, hbb, ?_⟩
    have q' : Q (.int (if decide (a < 0) = true then -(aI a % aI b) else aI a % aI b)) H := q
    refine ⟨_, rfl, _, _, rfl, rfl, _, rfl, ?_⟩
    refine ite2 (fun h => ?_) (fun h => ?_)
    · rw [if_pos h] at q'
      exact ⟨_, rfl, _, rfl, q'⟩
    · rw [if_neg h] at q'
      exact ⟨_, rfl, q'⟩
theorem ok_less {f : Addr} {fd : FuncData} (F : FunD K "less" "less" sLess .none f fd) : FnOk P w K mg base (CXE P w) 2 f fd ["one", "other"] (spSum .less) := by
  refine F.ok0 scLe (fun vs H Q E h => ?_) (fun cdv A outer s H vs Q E hr h => ?_)
  · obtain ⟨a, b, rfl, _⟩ := h
    rfl
  · obtain ⟨a, b, rfl, ha, hb, _, q⟩ := h
    refine ⟨_, pss_one (ps_ret (pe_cmpR op_lt (pv 0) (pv 1) (nomark _))), ?_⟩
    exact ⟨_, rfl, _, rfl, _, _, rfl, rfl, q⟩
theorem ok_same {f : Addr} {fd : FuncData} (F : FunD K "same" "same" sSame .none f fd) : FnOk P w K mg base (CXE P w) 2 f fd ["one", "other"] (spSum .same) := by
  refine F.ok0 scSa (fun vs H Q E h => ?_) (fun cdv A outer s H vs Q E hr h => ?_)
  · obtain ⟨a, b, rfl, _⟩ := h
    rfl
  · obtain ⟨a, b, rfl, ha, hb, _, q⟩ := h
    refine ⟨_, pss_one (ps_ret (pe_cmpR op_eq (pv 0) (pv 1) (nomark _))), ?_⟩
    exact ⟨_, rfl, _, rfl, rfl, q⟩
def nought (x : W7) (b : Int) : Bool := divs x && decide (b = 0)
def spNou : Sp := fun vs H Q _ => ∃ (x : W7) (b : Int), vs = [.str x.str, .int b] ∧ ∀ H', Grow H H' → Q (.bl (nought x b)) H'
theorem scNou : FnScope ["word", "other"] ["word", "other"] (defScope sNought) := ⟨rfl, rfl, rfl, by decide +kernel, rfl, by decide +kernel, by decide +kernel⟩
theorem in_divs (x : W7) : inV (.str x.str) [.str "over", .str "rest"] = divs x := by cases x <;> decide +kernel
theorem ok_nought {f : Addr} {fd : FuncData} (F : FunD K "is_by_nought" "is_by_nought" sNought .none f fd) : FnOk P w K mg base (CXE P w) 1 f fd ["word", "other"] spNou := by
  refine F.ok0 scNou (fun vs H Q E h => ?_) (fun cdv A outer s H vs Q E hr h => ?_)
  · obtain ⟨x, b, rfl, _⟩ := h
    rfl
  · obtain ⟨x, b, rfl, q⟩ := h
    refine ⟨_, pss_one (ps_ret (pe_and (pe_cmpR op_in_seq (pv 0) (pe_tup (pa_cons pe_str (pa_cons pe_str pa_nil))) rfl) (pe_one (pe_cmpR op_eq (pv 1) pe_int (nomark _))))), ?_⟩
    refine ⟨_, rfl, (by show 2 ≤ sizeLine; decide), fun t ht => ?_⟩
    have g := Grow.put (o := .tup [.str "over", .str "rest"]) ht
    refine ⟨t, _, rfl, .inr (SqT.of upd_same), rfl, rfl, _, rfl, ?_⟩
    have e : (if false = true then !inV (.str x.str) [.str "over", .str "rest"] else inV (.str x.str) [.str "over", .str "rest"]) = divs x := in_divs x
    rw [e]
    have q' := q _ g
    unfold nought at q'
    refine ite2 (fun h => ?_) (fun h => ?_)
    · refine ⟨_, rfl, rfl, ?_⟩
      rw [h, Bool.true_and] at q'
      have e2 : decide (V.int b = V.int 0) = decide (b = 0) := by rw [Bool.eq_iff_iff]; simp
      rw [e2]
      exact q'
    · rw [Bool.eq_false_iff.mpr h, Bool.false_and] at q'
      exact q'
structure Sums (P : Program) (w : World) (K : PySem.W.Frag) (mg : Str → Option Value) (base : Heap) : Prop where
  tab : ∃ a D, mg "SUMS" = some (.ref a) ∧ TabS K a D ∧ ∀ x : W7, ∃ f fd, PyProof.Rows.KTD.datumAt x.str D = some (.ref f) ∧ FnOk P w K mg base (CXE P w) 2 f fd ["one", "other"] (spSum x) ∧ PySem.W.keepIn K (.ref f) = true ∧ Binds K fd ["one", "other"] []
def spSumOf : Sp := fun vs H Q _ => ∃ (x : W7) (a b : Int), vs = [.str x.str, .int a, .int b] ∧ In64 a ∧ In64 b ∧ (divs x = true → b ≠ 0) ∧ Q (sumV x a b) H
theorem scSO : FnScope ["word", "one", "other"] ["word", "one", "other"] (defScope sSumOf) := ⟨rfl, rfl, rfl, by decide +kernel, rfl, by decide +kernel, by decide +kernel⟩
theorem ok_sumof {f : Addr} {fd : FuncData} (F : FunD K "sum_of" "sum_of" sSumOf .none f fd) (S : Sums P w K mg base) : FnOk P w K mg base (CXE P w) 3 f fd ["word", "one", "other"] spSumOf := by
  refine F.ok0 scSO (fun vs H Q E h => ?_) (fun cdv A outer s H vs Q E hr h => ?_)
  · obtain ⟨x, a, b, rfl, _⟩ := h
    rfl
  · obtain ⟨x, a, b, rfl, ha, hb, h0, q⟩ := h
    obtain ⟨t, D, mS, T, hD⟩ := S.tab
    obtain ⟨g, fd', e1, G, kp, bd⟩ := hD x
    refine ⟨_, pss_one (ps_ret (pe_callV (CX := CXE P w) (pe_ix ix_tab (pe_glob (v := .ref t) (by rfl) mS rfl) (pv 0) (fun _ _ => rfl)) (pa_cons (pv 1) (pa_cons (pv 2) pa_nil)))), ?_⟩
    refine ⟨_, rfl, _, t, D, _, rfl, rfl, T, e1, ?_⟩
    refine ⟨g, fd', _, _, [], [], E0, 2, rfl, G, hr, kp, bd, .nil, passE0, ?_⟩
    exact ⟨_, rfl, _, rfl, a, b, rfl, ha, hb, h0, q⟩
end
end K18

set_option maxRecDepth 100000
set_option linter.all false
set_option Elab.async false
set_option maxHeartbeats 4000000
namespace K18
open PySem L2 PyProof Dt
abbrev sVB : Stmt := top 24
abbrev sReq : Stmt := top 78
abbrev sFit : Stmt := top 94
abbrev sKindOf : Stmt := top 77
def SL : List (Str × List Str) := [("nil", ["kind"]), ("cons", ["part", "part"]), ("head", ["part"]), ("tail", ["part"]), ("empty", ["part"]), ("pair", ["part", "part"]), ("first", ["part"]), ("second", ["part"]), ("if", ["part", "part", "part"]), ("let", ["name", "part", "part"]), ("fn", ["name", "kind", "part"]),
  ("rec", ["name", "name", "kind", "kind", "part"]), ("call", ["part", "part"]), ("plus", ["part", "part"]), ("minus", ["part", "part"]), ("times", ["part", "part"]), ("over", ["part", "part"]), ("rest", ["part", "part"]), ("less", ["part", "part"]), ("same", ["part", "part"]), ("and", ["part", "part"]), ("or", ["part", "part"]), ("not", ["part"])]
def slotsOf (wd : Str) : List Str := (SL.lookup wd).getD []
structure GlV (K : PySem.W.Frag) (mg : Str → Option Value) : Prop where
  zip : mg "zip" = none
  tab : ∃ a D, mg "PART_SLOTS" = some (.ref a) ∧ TabS K a D ∧ ∀ wd, (slotsOf wd = [] ∧ PyProof.Rows.KTD.datumAt wd D = none) ∨ ∃ tp, PyProof.Rows.KTD.datumAt wd D = some (.ref tp) ∧ ∀ H, SqT K H tp ((slotsOf wd).map V.str)
section
variable {P : Program} {w : World} {K : PySem.W.Frag} {mg : Str → Option Value} {base : Heap}
def spVB (K : PySem.W.Frag) : Sp := fun vs H Q _ => ∃ (pt : Addr) (srt wd : Str) (xs : List V), vs = [.ref pt, .str srt] ∧ SqT K H pt (.str wd :: xs) ∧ xs.length ≤ 1000 ∧ ∀ l H', Grow H H' → H' l = some (.lst (behind (slotsOf wd) xs srt)) → Q (.ref l) H'
theorem scVB : FnScope ["part", "sort", "slots"] ["part", "sort"] (defScope sVB) := ⟨rfl, rfl, rfl, by decide +kernel, rfl, by decide +kernel, by decide +kernel⟩
theorem ok_vb {f : Addr} {fd : FuncData} (F : FunD K "values_behind" "values_behind" sVB .none f fd) (G : GlV K mg) : FnOk P w K mg base (CXE P w) 1 f fd ["part", "sort"] (spVB K) := by
  refine F.ok0 scVB (fun vs H Q E h => ?_) (fun cdv A outer s H vs Q E hr h => ?_)
  · obtain ⟨pt, srt, wd, xs, rfl, _⟩ := h
    rfl
  · obtain ⟨pt, srt, wd, xs, rfl, hp, hx, q⟩ := h
    obtain ⟨ta, D, mT, T, hT⟩ := G.tab
    have ndb : ((["slot", "value"] : List Str) ++ (["sort"] : List Str)).Nodup := by decide +kernel
    refine ⟨_, pss_cons (ps_set (i := 2) scVB.nd rfl (Or.inl rfl) (pe_getT (pe_glob (v := .ref ta) (by rfl) mT rfl) (pa_cons (pe_ix ix_tup (pv 0) pe_int (fun _ _ => rfl)) (pa_cons (pe_tup pa_nil) pa_nil))))
      (pss_one (ps_ret (pe_lcI (cmpG1 (own := ["slot", "value"]) (i := 1) (by rfl) (by decide +kernel) (by rfl) (by decide +kernel) (by rfl) (by decide +kernel) (by rfl) (.inl (by rfl)) (by rfl) (by decide +kernel)) rfl
        (pi_zip (by rfl) G.zip (pa_cons (pv 2) (pa_cons (pe_slice sl_tup (pv 0) (po_some pe_int) po_none) pa_nil)))
        (fun C s H fp pins => pv 1) (fun C s H fp pins => pg_two K rfl rfl ndb rfl rfl (Or.inl rfl) (Or.inl rfl) (by rfl) (by rfl))
        (fun C s H fp pins => pt_cmpR op_eq (pv 0) (pv 2) (nomark _))))), ?_⟩
    refine ⟨ta, D, rfl, T, _, rfl, pt, _, _, .str wd, rfl, rfl, hp, atI_nat (j := 0) rfl, (by show 0 ≤ sizeLine; decide), fun t0 ht0 => ?_⟩
    have g0 : Grow H (upd H t0 (.tup [])) := Grow.put ht0
    refine ⟨wd, .ref t0, rfl, ?_⟩
    obtain ⟨tp, e1, s1⟩ : ∃ tp, (PyProof.Rows.KTD.datumAt wd D).getD (.ref t0) = .ref tp ∧ SqT K (upd H t0 (.tup [])) tp ((slotsOf wd).map V.str) := by
      rcases hT wd with ⟨z1, z2⟩ | ⟨tp, z1, z2⟩
      · exact ⟨t0, by rw [z2]; rfl, by rw [z1]; exact SqT.of upd_same⟩
      · exact ⟨tp, by rw [z1]; rfl, z2 _⟩
    dsimp only [gName, List.set]
    rw [e1]
    generalize upd H t0 (.tup []) = H1 at g0 s1 ⊢
    have hp1 := SqT.mono g0.same hp
    refine ⟨_, rfl, _, rfl, _, rfl, pt, _, rfl, hp1, cut1_not _ _, fun t1 ht1 => ?_⟩
    rw [cut1]
    have g1 : Grow H1 (upd H1 t1 (.tup xs)) := Grow.put ht1
    have s2 := SqT.mono g1.same s1
    have s3 : SqT K (upd H1 t1 (.tup xs)) t1 xs := SqT.of upd_same
    generalize upd H1 t1 (.tup xs) = H2 at g1 s2 s3 ⊢
    refine ⟨tp, t1, _, _, rfl, s2, s3, fun D0 hD0 => ?_⟩
    exact lc_zip (i0 := 1) (t := srt) (R := fun H' => Q (.ref D0) H') rfl s2 s3 hx hD0 fun H' g e => q D0 H' ((g0.trans g1).trans g) e
def spReq : Sp := fun vs H Q _ => vs = [.bl true] ∧ Q .non H
theorem scReq : FnScope ["holds"] ["holds"] (defScope sReq) := ⟨rfl, rfl, rfl, by decide +kernel, rfl, by decide +kernel, by decide +kernel⟩
theorem ok_req {f : Addr} {fd : FuncData} (F : FunD K "require" "require" sReq .none f fd) : FnOk P w K mg base (CXE P w) 1 f fd ["holds"] spReq := by
  refine F.ok0 scReq (fun vs H Q E h => ?_) (fun cdv A outer s H vs Q E hr h => ?_)
  · obtain ⟨rfl, _⟩ := h
    rfl
  · obtain ⟨rfl, q⟩ := h
    refine ⟨_, pss_one (ps_if (pt_not (pt_val (pv 0))) pss_never pss_nil), ?_⟩
    exact ⟨_, rfl, true, rfl, iteF q⟩
def wdOf : Option W7 → Str
  | none => "num"
  | some x => x.str
def fixOf : Option W7 → List Str
  | none => []
  | some _ => ["int", "int"]
def toldOf : Option W7 → Str
  | some .less => "bool" | some .same => "bool" | _ => "int"
structure GlF (K : PySem.W.Frag) (mg : Str → Option Value) : Prop where
  list : mg "list" = none
  bind : ∃ a D, mg "BINDING_RULES" = some (.ref a) ∧ TabS K a D ∧ ∀ m, PyProof.Rows.KTD.inKeys (wdOf m) D = false
  rule : ∃ a D, mg "KIND_RULES" = some (.ref a) ∧ TabS K a D ∧ ∀ m, PyProof.Rows.KTD.inKeys (wdOf m) D = false
  fixd : ∃ a D, mg "FIXED_KINDS" = some (.ref a) ∧ TabS K a D ∧ ∀ m, ∃ tp, PyProof.Rows.KTD.datumAt (wdOf m) D = some (.ref tp) ∧ ∀ H, SqT K H tp ((fixOf m ++ [toldOf m]).map V.str)
theorem wd_name (m : Option W7) : decide (V.str (wdOf m) = V.str "name") = false := by
  rcases m with _ | x
  · decide +kernel
  · cases x <;> decide +kernel
theorem wd_nil (m : Option W7) : decide (V.str (wdOf m) = V.str "nil") = false := by
  rcases m with _ | x
  · decide +kernel
  · cases x <;> decide +kernel
theorem wd_pair (m : Option W7) : decide (V.str (wdOf m) = V.str "pair") = false := by
  rcases m with _ | x
  · decide +kernel
  · cases x <;> decide +kernel
theorem sl_num : slotsOf "num" = [] := by decide +kernel
theorem sl_w7 (x : W7) : slotsOf x.str = (["part", "part"] : List Str) := by cases x <;> decide +kernel
theorem behind2 (u v : V) : behind (["part", "part"] : List Str) [u, v] "part" = [u, v] := by
  unfold behind
  simp
theorem dts_strs {K : PySem.W.Frag} {H : Hp} : ∀ (zs : List Str), DtsAt K H (zs.map Dt.str) (zs.map V.str)
  | [] => by simp [DtsAt]
  | z :: zs => by
    simp only [List.map_cons, DtsAt, DtAt]
    exact ⟨_, _, rfl, rfl, dts_strs zs⟩
theorem deps_strs : ∀ (zs : List Str), deps (zs.map Dt.str) = 0
  | [] => by simp [deps]
  | z :: zs => by
    simp only [List.map_cons, deps, dep, deps_strs zs]
    rfl
theorem eqDs_strs (zs : List Str) : eqDs (zs.map Dt.str) (zs.map Dt.str) = true := by
  induction zs with
  | nil => rfl
  | cons z zs ih => simp [eqDs, eqD, ih]
def spFit0 (K : PySem.W.Frag) : Sp := fun vs H Q _ => ∃ (pt : Addr) (sc pr : V) (a : Int), vs = [.ref pt, sc, pr] ∧ SqT K H pt [.str "num", .int a] ∧ ∀ H', Grow H H' → Q (.str "int") H'
def spFit1 (K : PySem.W.Frag) : Sp := fun vs H Q _ => ∃ (pt n1 n2 : Addr) (sc pr : V) (x : W7) (a b : Int), vs = [.ref pt, sc, pr] ∧ SqT K H pt [.str x.str, .ref n1, .ref n2] ∧ SqT K H n1 [.str "num", .int a] ∧ SqT K H n2 [.str "num", .int b] ∧ ∀ H', Grow H H' → Q (.str (toldOf (some x))) H'
theorem scFit : FnScope ["part", "scope", "pairs", "word", "kinds", "fixed", "told"] ["part", "scope", "pairs"] (defScope sFit) := ⟨rfl, rfl, rfl, by decide +kernel, rfl, by decide +kernel, by decide +kernel⟩
theorem ok_fit0 {f fV fR : Addr} {fd fdV fdR : FuncData} (F : FunD K "fitted" "fitted" sFit .none f fd) (G : GlF K mg) (GV : FnOk P w K mg base (CXE P w) 1 fV fdV ["part", "sort"] (spVB K)) (mV : mg "values_behind" = some (.ref fV)) (kV : PySem.W.keepIn K (.ref fV) = true) (bV : Binds K fdV ["part", "sort"] [])
    (GR : FnOk P w K mg base (CXE P w) 1 fR fdR ["holds"] spReq) (mR : mg "require" = some (.ref fR)) (kR : PySem.W.keepIn K (.ref fR) = true) (bR : Binds K fdR ["holds"] []) : FnOk P w K mg base (CXE P w) 2 f fd ["part", "scope", "pairs"] (spFit0 K) := by
  refine F.ok0 scFit (fun vs H Q E h => ?_) (fun cdv A outer s H vs Q E hr h => ?_)
  · obtain ⟨pt, sc, pr, a, rfl, _⟩ := h
    rfl
  · obtain ⟨pt, sc, pr, a, rfl, hp, q⟩ := h
    have ndb : ((["inner"] : List Str) ++ (["scope", "pairs"] : List Str)).Nodup := by decide +kernel
    obtain ⟨t1, D1, mB, T1, nB⟩ := G.bind
    obtain ⟨t2, D2, mK, T2, nK⟩ := G.rule
    obtain ⟨t3, D3, mF, T3, nF⟩ := G.fixd
    obtain ⟨tp, eF, sF⟩ := nF (none)
    refine ⟨_, pss_cons (ps_set (i := 3) scFit.nd rfl (Or.inl rfl) (pe_ix ix_tup (pv 0) pe_int (fun _ _ => rfl)))
      (pss_cons (ps_if (pt_cmpR op_eq (pv 3) pe_str (nomark _)) pss_never pss_nil)
      (pss_cons (ps_if (pt_cmpR op_eq (pv 3) pe_str (nomark _)) pss_never pss_nil)
      (pss_cons (ps_if (pt_cmpR op_inTab (pv 3) (pe_glob (v := .ref t1) (by rfl) mB rfl) rfl) pss_never pss_nil)
      (pss_cons (ps_setLC0 (i := 4) scFit.nd rfl (Or.inl rfl) (cmpG2 (own := ["inner"]) (x := "scope") (y := "pairs") (i := 1) (j := 2) (by decide +kernel) (by rfl) (by decide +kernel) (by rfl) (by decide +kernel) (by rfl) (by rfl) (by decide +kernel) (by rfl) (by rfl) (.inl (by rfl)) (.inl (by rfl)) (by rfl) (by rfl) (by decide +kernel)) rfl
          (pi_list (pe_call GV (hr.mono (by omega)) (by rfl) mV kV bV .nil passE0 (pa_cons (pv 0) (pa_cons pe_str pa_nil))))
          (fun C s H fp pins => pe_never) (fun C s H fp pins => pg_name (i := 0) ndb rfl (Or.inl rfl) (Or.inr (by rfl))) (by rfl) (Or.inr (by rfl)))
      (pss_cons (ps_if (pt_cmpR op_eq (pv 3) pe_str (nomark _)) pss_never pss_nil)
      (pss_cons (ps_if (pt_cmpR op_inTab (pv 3) (pe_glob (v := .ref t2) (by rfl) mK rfl) rfl) pss_never pss_nil)
      (pss_cons (ps_set (i := 5) scFit.nd rfl (Or.inl rfl) (pe_callTy call_list_of (by rfl) G.list PyProof.Rows.boot_list (pa_cons (pe_ix ix_tab (pe_glob (v := .ref t3) (by rfl) mF rfl) (pv 3) (fun _ _ => rfl)) pa_nil)))
      (pss_cons (ps_set (i := 6) scFit.nd rfl (Or.inl rfl) (pe_bm0 PySem.F.plainAttrs_list PySem.F.slot_list_pop PySem.F.type_list_pop mt_pop (pv 5)))
      (pss_cons (ps_expr (pe_call GR (hr.mono (by omega)) (by rfl) mR kR bR .nil passE0 (pa_cons (pe_cmpR op_eqL (pv 4) (pv 5) (nomark _)) pa_nil)))
      (pss_one (ps_ret (pv 6)))))))))))), ?_⟩
    refine ⟨_, rfl, pt, _, _, .str (wdOf (none)), rfl, rfl, hp, atI_nat (j := 0) rfl, ?_⟩
    dsimp only [gName, List.set]
    refine ⟨_, rfl, rfl, _, rfl, ?_⟩
    rw [wd_name]
    refine iteF ⟨_, rfl, rfl, _, rfl, ?_⟩
    rw [wd_nil]
    refine iteF ⟨_, rfl, _, _, _, rfl, rfl, T1, _, rfl, ?_⟩
    rw [nB (none)]
    refine iteF ⟨_, rfl, pt, "part", wdOf (none), _, rfl, hp, (by show 1 ≤ 1000; decide), fun l0 H1 g1 e1 => ?_⟩
    have e1' : H1 l0 = some (.lst ([] : List V)) := e1.trans (by rw [show slotsOf (wdOf none) = [] from sl_num]; rfl)
    refine ⟨l0, rfl, ⟨_, SqL.of e1'⟩, fun D0 hD0 => ?_⟩
    refine lc_list (K := K) (a := l0) (xs := ([] : List V)) (te := (fun _ _ _ => False)) (ix := [1, 2]) (σ := [some (.ref pt), some sc, some pr, some (.str (wdOf (none))), none, none, none]) (fun _ => .str "int") (SqL.of e1') (by show 0 ≤ 1000; decide) hD0 (fun y hy H2 Q2 g2 k2 => ?_) fun H2 g2 e2 => ?_
    · cases hy
    have g02 := g1.trans g2
    have e2' : H2 D0 = some (.lst ((fixOf (none)).map V.str)) := e2
    dsimp only [gName, List.set]
    refine ⟨_, rfl, rfl, _, rfl, ?_⟩
    rw [wd_pair]
    refine iteF ⟨_, rfl, _, _, _, rfl, rfl, T2, _, rfl, ?_⟩
    rw [nK (none)]
    refine iteF ⟨_, rfl, _, _, _, _, rfl, rfl, T3, eF, tp, _, rfl, .inr (sF H2), fun l3 hl3 => ?_⟩
    dsimp only [gName, List.set]
    refine ⟨_, rfl, .inl ⟨rfl, _, SqL.of upd_same⟩, l3, _, .str (toldOf (none)), rfl, rfl, upd_same, rfl, ?_⟩
    rw [upd_upd]
    have dl : ((fixOf (none) ++ [toldOf (none)]).map V.str).dropLast = (fixOf (none)).map V.str := by rw [List.map_append]; exact List.dropLast_concat
    rw [dl]
    have g3 : Grow H2 (upd H2 l3 (.lst ((fixOf (none)).map V.str))) := Grow.put hl3
    have e3 : (upd H2 l3 (.lst ((fixOf (none)).map V.str))) l3 = some (.lst ((fixOf (none)).map V.str)) := upd_same
    have e4 := g3.same _ _ e2'
    generalize upd H2 l3 (.lst ((fixOf (none)).map V.str)) = H3 at g3 e3 e4 ⊢
    refine ⟨_, rfl, _, rfl, D0, l3, _, _, (fixOf (none)).map Dt.str, (fixOf (none)).map Dt.str, rfl, rfl, SqL.of e4, SqL.of e3, dts_strs _, dts_strs _, ?_, ?_⟩
    · rw [deps_strs]; exact Nat.lt_of_succ_lt hr.u2
    rw [eqDs_strs]
    refine ⟨rfl, ?_⟩
    exact ⟨_, rfl, q H3 (g02.trans g3)⟩
theorem ok_fit1 {f fV fR : Addr} {fd fdV fdR : FuncData} (F : FunD K "fitted" "fitted" sFit .none f fd) (G : GlF K mg) (GV : FnOk P w K mg base (CXE P w) 1 fV fdV ["part", "sort"] (spVB K)) (mV : mg "values_behind" = some (.ref fV)) (kV : PySem.W.keepIn K (.ref fV) = true) (bV : Binds K fdV ["part", "sort"] [])
    (GR : FnOk P w K mg base (CXE P w) 1 fR fdR ["holds"] spReq) (mR : mg "require" = some (.ref fR)) (kR : PySem.W.keepIn K (.ref fR) = true) (bR : Binds K fdR ["holds"] []) (GF : FnOk P w K mg base (CXE P w) 2 f fd ["part", "scope", "pairs"] (spFit0 K)) (mFt : mg "fitted" = some (.ref f)) (bF : Binds K fd ["part", "scope", "pairs"] []) : FnOk P w K mg base (CXE P w) 3 f fd ["part", "scope", "pairs"] (spFit1 K) := by
  refine F.ok0 scFit (fun vs H Q E h => ?_) (fun cdv A outer s H vs Q E hr h => ?_)
  · obtain ⟨pt, n1, n2, sc, pr, x, a, b, rfl, _⟩ := h
    rfl
  · obtain ⟨pt, n1, n2, sc, pr, x, a, b, rfl, hp, h1, h2, q⟩ := h
    have ndb : ((["inner"] : List Str) ++ (["scope", "pairs"] : List Str)).Nodup := by decide +kernel
    obtain ⟨t1, D1, mB, T1, nB⟩ := G.bind
    obtain ⟨t2, D2, mK, T2, nK⟩ := G.rule
    obtain ⟨t3, D3, mF, T3, nF⟩ := G.fixd
    obtain ⟨tp, eF, sF⟩ := nF (some x)
    refine ⟨_, pss_cons (ps_set (i := 3) scFit.nd rfl (Or.inl rfl) (pe_ix ix_tup (pv 0) pe_int (fun _ _ => rfl)))
      (pss_cons (ps_if (pt_cmpR op_eq (pv 3) pe_str (nomark _)) pss_never pss_nil)
      (pss_cons (ps_if (pt_cmpR op_eq (pv 3) pe_str (nomark _)) pss_never pss_nil)
      (pss_cons (ps_if (pt_cmpR op_inTab (pv 3) (pe_glob (v := .ref t1) (by rfl) mB rfl) rfl) pss_never pss_nil)
      (pss_cons (ps_setLC0 (i := 4) scFit.nd rfl (Or.inl rfl) (cmpG2 (own := ["inner"]) (x := "scope") (y := "pairs") (i := 1) (j := 2) (by decide +kernel) (by rfl) (by decide +kernel) (by rfl) (by decide +kernel) (by rfl) (by rfl) (by decide +kernel) (by rfl) (by rfl) (.inl (by rfl)) (.inl (by rfl)) (by rfl) (by rfl) (by decide +kernel)) rfl
          (pi_list (pe_call GV (hr.mono (by omega)) (by rfl) mV kV bV .nil passE0 (pa_cons (pv 0) (pa_cons pe_str pa_nil))))
          (fun C s H fp pins => pe_call GF hr (by rfl) mFt F.kp bF .nil passE0 (pa_cons (pv 0) (pa_cons (pv 1) (pa_cons (pv 2) pa_nil)))) (fun C s H fp pins => pg_name (i := 0) ndb rfl (Or.inl rfl) (Or.inr (by rfl))) (by rfl) (Or.inr (by rfl)))
      (pss_cons (ps_if (pt_cmpR op_eq (pv 3) pe_str (nomark _)) pss_never pss_nil)
      (pss_cons (ps_if (pt_cmpR op_inTab (pv 3) (pe_glob (v := .ref t2) (by rfl) mK rfl) rfl) pss_never pss_nil)
      (pss_cons (ps_set (i := 5) scFit.nd rfl (Or.inl rfl) (pe_callTy call_list_of (by rfl) G.list PyProof.Rows.boot_list (pa_cons (pe_ix ix_tab (pe_glob (v := .ref t3) (by rfl) mF rfl) (pv 3) (fun _ _ => rfl)) pa_nil)))
      (pss_cons (ps_set (i := 6) scFit.nd rfl (Or.inl rfl) (pe_bm0 PySem.F.plainAttrs_list PySem.F.slot_list_pop PySem.F.type_list_pop mt_pop (pv 5)))
      (pss_cons (ps_expr (pe_call GR (hr.mono (by omega)) (by rfl) mR kR bR .nil passE0 (pa_cons (pe_cmpR op_eqL (pv 4) (pv 5) (nomark _)) pa_nil)))
      (pss_one (ps_ret (pv 6)))))))))))), ?_⟩
    refine ⟨_, rfl, pt, _, _, .str (wdOf (some x)), rfl, rfl, hp, atI_nat (j := 0) rfl, ?_⟩
    dsimp only [gName, List.set]
    refine ⟨_, rfl, rfl, _, rfl, ?_⟩
    rw [wd_name]
    refine iteF ⟨_, rfl, rfl, _, rfl, ?_⟩
    rw [wd_nil]
    refine iteF ⟨_, rfl, _, _, _, rfl, rfl, T1, _, rfl, ?_⟩
    rw [nB (some x)]
    refine iteF ⟨_, rfl, pt, "part", wdOf (some x), _, rfl, hp, (by show 2 ≤ 1000; decide), fun l0 H1 g1 e1 => ?_⟩
    have e1' : H1 l0 = some (.lst ([.ref n1, .ref n2] : List V)) := e1.trans (by rw [show slotsOf (wdOf (some x)) = _ from sl_w7 x, behind2])
    refine ⟨l0, rfl, ⟨_, SqL.of e1'⟩, fun D0 hD0 => ?_⟩
    refine lc_list (K := K) (a := l0) (xs := ([.ref n1, .ref n2] : List V)) (te := (tCall (spFit0 K) [] E0 (tCons (tVar 0) (tCons (tVar 1) (tCons (tVar 2) tNil))))) (ix := [1, 2]) (σ := [some (.ref pt), some sc, some pr, some (.str (wdOf (some x))), none, none, none]) (fun _ => .str "int") (SqL.of e1') (by show 2 ≤ 1000; decide) hD0 (fun y hy H2 Q2 g2 k2 => ?_) fun H2 g2 e2 => ?_
    · simp only [List.mem_cons, List.not_mem_nil, or_false] at hy
      have gg := g1.trans g2
      rcases hy with rfl | rfl
      · exact ⟨_, rfl, _, rfl, _, rfl, n1, _, _, a, rfl, SqT.mono gg.same h1, k2⟩
      · exact ⟨_, rfl, _, rfl, _, rfl, n2, _, _, b, rfl, SqT.mono gg.same h2, k2⟩
    have g02 := g1.trans g2
    have e2' : H2 D0 = some (.lst ((fixOf (some x)).map V.str)) := e2
    dsimp only [gName, List.set]
    refine ⟨_, rfl, rfl, _, rfl, ?_⟩
    rw [wd_pair]
    refine iteF ⟨_, rfl, _, _, _, rfl, rfl, T2, _, rfl, ?_⟩
    rw [nK (some x)]
    refine iteF ⟨_, rfl, _, _, _, _, rfl, rfl, T3, eF, tp, _, rfl, .inr (sF H2), fun l3 hl3 => ?_⟩
    dsimp only [gName, List.set]
    refine ⟨_, rfl, .inl ⟨rfl, _, SqL.of upd_same⟩, l3, _, .str (toldOf (some x)), rfl, rfl, upd_same, rfl, ?_⟩
    rw [upd_upd]
    have dl : ((fixOf (some x) ++ [toldOf (some x)]).map V.str).dropLast = (fixOf (some x)).map V.str := by rw [List.map_append]; exact List.dropLast_concat
    rw [dl]
    have g3 : Grow H2 (upd H2 l3 (.lst ((fixOf (some x)).map V.str))) := Grow.put hl3
    have e3 : (upd H2 l3 (.lst ((fixOf (some x)).map V.str))) l3 = some (.lst ((fixOf (some x)).map V.str)) := upd_same
    have e4 := g3.same _ _ e2'
    generalize upd H2 l3 (.lst ((fixOf (some x)).map V.str)) = H3 at g3 e3 e4 ⊢
    refine ⟨_, rfl, _, rfl, D0, l3, _, _, (fixOf (some x)).map Dt.str, (fixOf (some x)).map Dt.str, rfl, rfl, SqL.of e4, SqL.of e3, dts_strs _, dts_strs _, ?_, ?_⟩
    · rw [deps_strs]; exact Nat.lt_of_succ_lt hr.u2
    rw [eqDs_strs]
    refine ⟨rfl, ?_⟩
    exact ⟨_, rfl, q H3 (g02.trans g3)⟩
def spKO (K : PySem.W.Frag) : Sp := fun vs H Q _ => ∃ (pt n1 n2 : Addr) (x : W7) (a b : Int), vs = [.ref pt] ∧ SqT K H pt [.str x.str, .ref n1, .ref n2] ∧ SqT K H n1 [.str "num", .int a] ∧ SqT K H n2 [.str "num", .int b] ∧ ∀ v H', Grow H H' → Q v H'
theorem scKO : FnScope ["part"] ["part"] (defScope sKindOf) := ⟨rfl, rfl, rfl, by decide +kernel, rfl, by decide +kernel, by decide +kernel⟩
theorem ok_ko {f fF : Addr} {fd fdF : FuncData} (F : FunD K "kind_of" "kind_of" sKindOf .none f fd) (GF : FnOk P w K mg base (CXE P w) 3 fF fdF ["part", "scope", "pairs"] (spFit1 K)) (mF : mg "fitted" = some (.ref fF)) (kF : PySem.W.keepIn K (.ref fF) = true) (bF : Binds K fdF ["part", "scope", "pairs"] []) :
    FnOk P w K mg base (CXE P w) 4 f fd ["part"] (spKO K) := by
  refine F.ok0 scKO (fun vs H Q E h => ?_) (fun cdv A outer s H vs Q E hr h => ?_)
  · obtain ⟨pt, n1, n2, x, a, b, rfl, _⟩ := h
    rfl
  · obtain ⟨pt, n1, n2, x, a, b, rfl, hp, h1, h2, q⟩ := h
    refine ⟨_, pss_one (ps_ret (pe_call GF hr (by rfl) mF kF bF .nil passE0 (pa_cons (pv 0) (pa_cons pe_dnewK (pa_cons (pe_lst pa_nil) pa_nil))))), ?_⟩
    refine ⟨_, rfl, fun d hd => ?_⟩
    have g1 : Grow H (upd H d (.dK [])) := Grow.put hd
    generalize upd H d (.dK []) = H1 at g1 ⊢
    refine ⟨(by show 0 ≤ sizeLine; decide), fun l hl => ?_⟩
    have g2 : Grow H1 (upd H1 l (.lst [])) := Grow.put hl
    have g := g1.trans g2
    exact ⟨pt, n1, n2, _, _, x, a, b, rfl, SqT.mono g.same hp, SqT.mono g.same h1, SqT.mono g.same h2, fun H' g' => q _ H' (g.trans g')⟩
end
end K18

set_option maxRecDepth 100000
set_option linter.all false
set_option Elab.async false
set_option maxHeartbeats 4000000
namespace K18
open PySem L2 PyProof
abbrev sComp : Stmt := top 96
abbrev sOpd : Stmt := top 97
abbrev sVal : Stmt := top 104
abbrev sCode : Stmt := top 105
structure GlC (K : PySem.W.Frag) (mg : Str → Option Value) : Prop where
  enumerate : mg "enumerate" = none
  placed : ∃ a D, mg "PLACED_CODES" = some (.ref a) ∧ TabS K a D ∧ ∀ m, PyProof.Rows.KTD.inKeys (wdOf m) D = false
section
variable {P : Program} {w : World} {K : PySem.W.Frag} {mg : Str → Option Value} {base : Heap}
def spVal (K : PySem.W.Frag) : Sp := fun vs H Q _ => ∃ (pt : Addr) (sl : V) (a : Int), vs = [.ref pt, sl] ∧ SqT K H pt [.str "num", .int a] ∧ ∀ l c H', Grow H H' → H' l = some (.lst [.ref c]) → H' c = some (.tup [.str "put", .int a]) → Q (.ref l) H'
theorem scVal : FnScope ["part", "slots", "word"] ["part", "slots"] (defScope sVal) := ⟨rfl, rfl, rfl, by decide +kernel, rfl, by decide +kernel, by decide +kernel⟩
theorem ok_val {f : Addr} {fd : FuncData} (F : FunD K "value_code" "value_code" sVal .none f fd) : FnOk P w K mg base (CXE P w) 1 f fd ["part", "slots"] (spVal K) := by
  refine F.ok0 scVal (fun vs H Q E h => ?_) (fun cdv A outer s H vs Q E hr h => ?_)
  · obtain ⟨pt, sl, a, rfl, _⟩ := h
    rfl
  · obtain ⟨pt, sl, a, rfl, hp, q⟩ := h
    refine ⟨_, pss_cons (ps_set (i := 2) scVal.nd rfl (Or.inl rfl) (pe_ix ix_tup (pv 0) pe_int (fun _ _ => rfl)))
      (pss_cons (ps_if (pt_cmpR op_eq (pv 2) pe_str (nomark _)) pss_never pss_nil)
      (pss_cons (ps_if (pt_cmpR op_eq (pv 2) pe_str (nomark _)) pss_never pss_nil)
      (pss_one (ps_ret (pe_lst (pa_cons (pe_tup (pa_cons pe_str (pa_cons (pe_ix ix_tup (pv 0) pe_int (fun _ _ => rfl)) pa_nil))) pa_nil)))))), ?_⟩
    refine ⟨_, rfl, pt, _, _, .str "num", rfl, rfl, hp, atI_nat (j := 0) rfl, ?_⟩
    dsimp only [gName, List.set]
    refine ⟨_, rfl, rfl, _, rfl, ?_⟩
    refine ite2 (fun h => absurd h (by decide +kernel)) (fun _ => ?_)
    refine ⟨_, rfl, rfl, _, rfl, ?_⟩
    refine ite2 (fun h => absurd h (by decide +kernel)) (fun _ => ?_)
    refine ⟨_, rfl, pt, _, _, .int a, rfl, rfl, hp, atI_nat (j := 1) rfl, (by show 2 ≤ sizeLine; decide), fun c hc => ?_⟩
    have g1 : Grow H (upd H c (.tup [.str "put", .int a])) := Grow.put hc
    have e1 : (upd H c (.tup [.str "put", .int a])) c = some (.tup [.str "put", .int a]) := upd_same
    generalize upd H c (.tup [.str "put", .int a]) = H1 at g1 e1 ⊢
    refine ⟨(by show 1 ≤ sizeLine; decide), fun l hl => ?_⟩
    have g2 : Grow H1 (upd H1 l (.lst [.ref c])) := Grow.put hl
    exact q l c _ (g1.trans g2) upd_same (g2.same _ _ e1)
theorem scCode : FnScope ["part", "slots", "height", "last", "word", "code"] ["part", "slots", "height", "last"] (defScope sCode) := ⟨rfl, rfl, rfl, by decide +kernel, rfl, by decide +kernel, by decide +kernel⟩
def spCode0 (K : PySem.W.Frag) : Sp := fun vs H Q _ => ∃ (pt : Addr) (sl ht : V) (a : Int), vs = [.ref pt, sl, ht, .bl false] ∧ SqT K H pt [.str "num", .int a] ∧ ∀ l c H', Grow H H' → H' l = some (.lst [.ref c]) → H' c = some (.tup [.str "put", .int a]) → Q (.ref l) H'
theorem ok_code0 {f fV : Addr} {fd fdV : FuncData} (F : FunD K "code_of" "code_of" sCode .none f fd) (G : GlC K mg) (GV : FnOk P w K mg base (CXE P w) 1 fV fdV ["part", "slots"] (spVal K)) (mV : mg "value_code" = some (.ref fV)) (kV : PySem.W.keepIn K (.ref fV) = true) (bV : Binds K fdV ["part", "slots"] []) :
    FnOk P w K mg base (CXE P w) 2 f fd ["part", "slots", "height", "last"] (spCode0 K) := by
  refine F.ok0 scCode (fun vs H Q E h => ?_) (fun cdv A outer s H vs Q E hr h => ?_)
  · obtain ⟨pt, sl, ht, a, rfl, _⟩ := h
    rfl
  · obtain ⟨pt, sl, ht, a, rfl, hp, q⟩ := h
    obtain ⟨t1, D1, mP, T1, nP⟩ := G.placed
    refine ⟨_, pss_cons (ps_set (i := 4) scCode.nd rfl (Or.inl rfl) (pe_ix ix_tup (pv 0) pe_int (fun _ _ => rfl)))
      (pss_cons (ps_if (pt_cmpR op_inTab (pv 4) (pe_glob (v := .ref t1) (by rfl) mP rfl) rfl) pss_never pss_nil)
      (pss_cons (ps_if (pt_cmpR op_in_seq (pv 4) (pe_tup (pa_cons pe_str (pa_cons pe_str pa_nil))) rfl) pss_never
        (pss_one (ps_if (pt_cmpR op_in_seq (pv 4) (pe_tup (pa_cons pe_str (pa_cons pe_str (pa_cons pe_str (pa_cons pe_str pa_nil))))) rfl)
          (pss_one (ps_set (i := 5) scCode.nd rfl (Or.inl rfl) (pe_call GV hr (by rfl) mV kV bV .nil passE0 (pa_cons (pv 0) (pa_cons (pv 1) pa_nil))))) pss_never)))
      (pss_one (ps_ret (pe_ifExp (pt_val (pv 3)) pe_never (pv 5)))))), ?_⟩
    refine ⟨_, rfl, pt, _, _, .str "num", rfl, rfl, hp, atI_nat (j := 0) rfl, ?_⟩
    dsimp only [gName, List.set]
    refine ⟨_, rfl, _, _, _, rfl, rfl, T1, _, rfl, ?_⟩
    rw [show PyProof.Rows.KTD.inKeys ("num" : Str) D1 = false from nP none]
    refine iteF ⟨_, rfl, (by show 2 ≤ sizeLine; decide), fun c1 hc1 => ?_⟩
    have g1 : Grow H (upd H c1 (.tup [.str "fn", .str "rec"])) := Grow.put hc1
    refine ⟨c1, _, rfl, .inr (SqT.of upd_same), rfl, rfl, _, rfl, ?_⟩
    refine ite2 (fun h => absurd h (by decide +kernel)) (fun _ => ?_)
    generalize upd H c1 (.tup [.str "fn", .str "rec"]) = H1 at g1 ⊢
    refine ⟨_, rfl, (by show 4 ≤ sizeLine; decide), fun c2 hc2 => ?_⟩
    have g2 : Grow H1 (upd H1 c2 (.tup [.str "num", .str "truth", .str "name", .str "nil"])) := Grow.put hc2
    refine ⟨c2, _, rfl, .inr (SqT.of upd_same), rfl, rfl, _, rfl, ?_⟩
    refine ite2 (fun _ => ?_) (fun h => absurd (by decide +kernel) h)
    generalize upd H1 c2 (.tup [.str "num", .str "truth", .str "name", .str "nil"]) = H2 at g2 ⊢
    refine ⟨_, rfl, _, rfl, pt, _, a, rfl, SqT.mono (g1.trans g2).same hp, fun l c H3 g3 e1 e2 => ?_⟩
    dsimp only [gName, List.set]
    refine ⟨_, rfl, false, rfl, iteF ⟨_, rfl, ?_⟩⟩
    exact q l c H3 ((g1.trans g2).trans g3) e1 e2
def spOpd (K : PySem.W.Frag) : Sp := fun vs H Q _ => ∃ (pt n1 n2 : Addr) (sl : V) (h0 : Int) (x : W7) (a b : Int), vs = [.ref pt, sl, .int h0] ∧ SqT K H pt [.str x.str, .ref n1, .ref n2] ∧ SqT K H n1 [.str "num", .int a] ∧ SqT K H n2 [.str "num", .int b] ∧
  ∀ l c1 c2 H', Grow H H' → H' l = some (.lst [.ref c1, .ref c2]) → H' c1 = some (.tup [.str "put", .int a]) → H' c2 = some (.tup [.str "put", .int b]) → Q (.ref l) H'
theorem scOpd : FnScope ["part", "slots", "height", "code", "count", "inner"] ["part", "slots", "height"] (defScope sOpd) := ⟨rfl, rfl, rfl, by decide +kernel, rfl, by decide +kernel, by decide +kernel⟩
theorem ok_opd {f fV fC : Addr} {fd fdV fdC : FuncData} (F : FunD K "operands_code" "operands_code" sOpd .none f fd) (G : GlC K mg) (GV : FnOk P w K mg base (CXE P w) 1 fV fdV ["part", "sort"] (spVB K)) (mV : mg "values_behind" = some (.ref fV)) (kV : PySem.W.keepIn K (.ref fV) = true) (bV : Binds K fdV ["part", "sort"] [])
    (GC : FnOk P w K mg base (CXE P w) 2 fC fdC ["part", "slots", "height", "last"] (spCode0 K)) (mC : mg "code_of" = some (.ref fC)) (kC : PySem.W.keepIn K (.ref fC) = true) (bC : Binds K fdC ["part", "slots", "height", "last"] []) :
    FnOk P w K mg base (CXE P w) 3 f fd ["part", "slots", "height"] (spOpd K) := by
  refine F.ok0 scOpd (fun vs H Q E h => ?_) (fun cdv A outer s H vs Q E hr h => ?_)
  · obtain ⟨pt, n1, n2, sl, h0, x, a, b, rfl, _⟩ := h
    rfl
  · obtain ⟨pt, n1, n2, sl, h0, x, a, b, rfl, hp, h1, h2, q⟩ := h
    refine ⟨_, pss_cons (ps_set (i := 3) scOpd.nd rfl (Or.inl rfl) (pe_lst pa_nil))
      (pss_cons (ps_for PassesOwn.never rfl (pi_enum (by rfl) G.enumerate (pa_cons (pe_call GV (hr.mono (by omega)) (by rfl) mV kV bV .nil passE0 (pa_cons (pv 0) (pa_cons pe_str pa_nil))) pa_nil))
        (pg_tup rfl (pgs_cons (pg_name (i := 4) scOpd.nd rfl (Or.inl rfl)) (pgs_cons (pg_name (i := 5) scOpd.nd rfl (Or.inl rfl)) pgs_nil)))
        (pss_one (ps_expr (pe_bm PySem.F.plainAttrs_list PySem.F.slot_list_extend PySem.F.type_list_extend mt_extend (pv 3) (pa_cons (pe_call GC hr (by rfl) mC kC bC .nil passE0 (pa_cons (pv 5) (pa_cons (pv 1) (pa_cons (pe_op op_add (pv 2) (pv 4)) (pa_cons pe_bl pa_nil))))) pa_nil)))))
      (pss_one (ps_ret (pv 3)))), ?_⟩
    refine ⟨(by show 0 ≤ sizeLine; decide), fun l hl => ?_⟩
    dsimp only [gName, List.set]
    have g1 : Grow H (upd H l (.lst [])) := Grow.put hl
    have e1 : (upd H l (.lst [])) l = some (.lst []) := upd_same
    generalize upd H l (.lst []) = H1 at g1 e1 ⊢
    refine ⟨_, rfl, pt, "part", x.str, _, rfl, SqT.mono g1.same hp, (by show 2 ≤ 1000; decide), fun o H2 g2 e2 => ?_⟩
    rw [sl_w7, behind2] at e2
    refine ⟨o, rfl, ⟨_, SqL.of e2⟩, ?_⟩
    have g12 := g1.trans g2
    have lo : o ≠ l := fun z => by
      have := g2.same _ _ e1
      rw [← z, e2] at this
      cases this
    refine for_enum (K := K) (l := o) (xs := [.ref n1, .ref n2]) (fun i σ H3 => ∃ o4 o5 zs, σ = [some (.ref pt), some sl, some (.int h0), some (.ref l), o4, o5] ∧ Grow H H3 ∧ H3 o = some (.lst [.ref n1, .ref n2]) ∧ H3 l = some (.lst zs) ∧
      ((i = 0 ∧ zs = []) ∨ (i = 1 ∧ ∃ c1, zs = [.ref c1] ∧ H3 c1 = some (.tup [.str "put", .int a])) ∨ (i = 2 ∧ ∃ c1 c2, zs = [.ref c1, .ref c2] ∧ H3 c1 = some (.tup [.str "put", .int a]) ∧ H3 c2 = some (.tup [.str "put", .int b])))) ?_ ?_ ?_ ?_
    · exact ⟨_, _, _, rfl, g12, e2, g2.same _ _ e1, .inl ⟨rfl, rfl⟩⟩
    · rintro i σ H3 _ ⟨o4, o5, zs, rfl, g3, eo, el, _⟩
      exact SqL.of eo
    · rintro i y T σ H3 hi ⟨o4, o5, zs, rfl, g3, eo, el, hz⟩ hT
      have g4 : Grow H3 (upd H3 T (.tup [.int i, y])) := Grow.put hT
      refine ⟨T, _, rfl, SqT.of upd_same, rfl, _, _, rfl, _, _, rfl, rfl, ?_⟩
      dsimp only [gName, List.set]
      have el4 := g4.same _ _ el
      have eo4 := g4.same _ _ eo
      have k4 : ∀ c o, H3 c = some o → (upd H3 T (.tup [.int i, y])) c = some o := g4.same
      generalize upd H3 T (.tup [.int i, y]) = H4 at g4 el4 eo4 k4 ⊢
      have g04 := g3.trans g4
      have key : ∀ (n : Addr) (v : Int), y = .ref n → SqT K H n [.str "num", .int v] → (∀ c H5, Grow H4 H5 → H5 c = some (.tup [.str "put", .int v]) → H5 l = some (.lst zs) → H5 o = some (.lst [.ref n1, .ref n2]) →
          ∃ o4 o5 zs', [some (V.ref pt), some sl, some (V.int h0), some (V.ref l), some (V.int i), some y] = [some (.ref pt), some sl, some (.int h0), some (.ref l), o4, o5] ∧ Grow H (upd H5 l (.lst (zs ++ [.ref c]))) ∧ (upd H5 l (.lst (zs ++ [.ref c]))) o = some (.lst [.ref n1, .ref n2]) ∧ (upd H5 l (.lst (zs ++ [.ref c]))) l = some (.lst zs') ∧
            ((i + 1 = 0 ∧ zs' = []) ∨ (i + 1 = 1 ∧ ∃ c1, zs' = [.ref c1] ∧ (upd H5 l (.lst (zs ++ [.ref c]))) c1 = some (.tup [.str "put", .int a])) ∨ (i + 1 = 2 ∧ ∃ c1 c2, zs' = [.ref c1, .ref c2] ∧ (upd H5 l (.lst (zs ++ [.ref c]))) c1 = some (.tup [.str "put", .int a]) ∧ (upd H5 l (.lst (zs ++ [.ref c]))) c2 = some (.tup [.str "put", .int b])))) →
          zs.length ≤ 2 → tDrop (tBM K "list" rExtend (tVar 3) (tCons (tCall (spCode0 K) [] E0 (tCons (tVar 5) (tCons (tVar 1) (tCons (tOp (rI0 fun i j => .int (i + j)) (tVar 2) (tVar 4)) (tCons (tC (.bl false)) tNil))))) tNil))
            { nx := fun σ H3 => ∃ o4 o5 zs, σ = [some (.ref pt), some sl, some (.int h0), some (.ref l), o4, o5] ∧ Grow H H3 ∧ H3 o = some (.lst [.ref n1, .ref n2]) ∧ H3 l = some (.lst zs) ∧
              ((i + 1 = 0 ∧ zs = []) ∨ (i + 1 = 1 ∧ ∃ c1, zs = [.ref c1] ∧ H3 c1 = some (.tup [.str "put", .int a])) ∨ (i + 1 = 2 ∧ ∃ c1 c2, zs = [.ref c1, .ref c2] ∧ H3 c1 = some (.tup [.str "put", .int a]) ∧ H3 c2 = some (.tup [.str "put", .int b]))),
              rt := Q } [some (.ref pt), some sl, some (.int h0), some (.ref l), some (.int i), some y] H4 := by
        rintro n v rfl hn hk hzs
        refine ⟨_, rfl, .inl ⟨rfl, _, SqL.of el4⟩, _, rfl, _, rfl, _, rfl, _, rfl, _, _, rfl, rfl, n, _, _, v, rfl, SqT.mono g04.same hn, fun l' c H5 g5 e5 e6 => ?_⟩
        refine ⟨l, l', zs, _, rfl, rfl, g5.same _ _ el4, e5, ?_, ?_⟩
        · show zs.length + 1 ≤ sizeLine
          rw [sizeLine_eq]; omega
        · exact hk c H5 g5 e6 (g5.same _ _ el4) (g5.same _ _ eo4)
      have nc : ∀ {H5 : Hp} {c : Addr} {t ys : List V}, H5 c = some (.tup t) → H5 l = some (.lst ys) → c ≠ l := fun h h' => ne_of h h' (by intro z; cases z)
      rcases hz with ⟨rfl, rfl⟩ | ⟨rfl, c1, rfl, hc1⟩ | ⟨rfl, c1, c2, rfl, _⟩
      · have ey : y = .ref n1 := by simpa using hi.symm
        exact key n1 a ey h1 (fun c H5 g5 e6 e7 e8 => ⟨_, _, _, rfl, (g04.trans g5).set hl, (upd_ne lo).trans e8, upd_same, .inr (.inl ⟨rfl, c, rfl, (upd_ne (nc e6 e7)).trans e6⟩)⟩) (by decide)
      · have ey : y = .ref n2 := by simpa using hi.symm
        exact key n2 b ey h2 (fun c H5 g5 e6 e7 e8 => by
          have e9 := g5.same _ _ (k4 _ _ hc1)
          exact ⟨_, _, _, rfl, (g04.trans g5).set hl, (upd_ne lo).trans e8, upd_same, .inr (.inr ⟨rfl, c1, c, rfl, (upd_ne (nc e9 e7)).trans e9, (upd_ne (nc e6 e7)).trans e6⟩)⟩) (by show 1 ≤ 2; decide)
      · simp at hi
    · rintro σ H3 ⟨o4, o5, zs, rfl, g3, eo, el, hz⟩
      rcases hz with ⟨z, _⟩ | ⟨z, _⟩ | ⟨_, c1, c2, rfl, e1, e2⟩
      · cases z
      · cases z
      · exact ⟨_, rfl, q l c1 c2 H3 g3 el e1 e2⟩
def spCode1 (K : PySem.W.Frag) : Sp := fun vs H Q _ => ∃ (pt n1 n2 : Addr) (sl : V) (h0 : Int) (x : W7) (a b : Int), vs = [.ref pt, sl, .int h0, .bl true] ∧ SqT K H pt [.str x.str, .ref n1, .ref n2] ∧ SqT K H n1 [.str "num", .int a] ∧ SqT K H n2 [.str "num", .int b] ∧
  ∀ l c1 c2 c3 c4 H', Grow H H' → H' l = some (.lst [.ref c1, .ref c2, .ref c3, .ref c4]) → H' c1 = some (.tup [.str "put", .int a]) → H' c2 = some (.tup [.str "put", .int b]) → H' c3 = some (.tup [.str x.str]) → H' c4 = some (.tup [.str "tell"]) → Q (.ref l) H'
theorem in_fnrec (x : W7) : inV (.str x.str) [.str "fn", .str "rec"] = false := by cases x <;> decide +kernel
theorem in_bare (x : W7) : inV (.str x.str) [.str "num", .str "truth", .str "name", .str "nil"] = false := by cases x <;> decide +kernel
theorem ok_code1 {f fO : Addr} {fd fdO : FuncData} (F : FunD K "code_of" "code_of" sCode .none f fd) (G : GlC K mg) (GO : FnOk P w K mg base (CXE P w) 3 fO fdO ["part", "slots", "height"] (spOpd K)) (mO : mg "operands_code" = some (.ref fO)) (kO : PySem.W.keepIn K (.ref fO) = true) (bO : Binds K fdO ["part", "slots", "height"] []) :
    FnOk P w K mg base (CXE P w) 4 f fd ["part", "slots", "height", "last"] (spCode1 K) := by
  refine F.ok0 scCode (fun vs H Q E h => ?_) (fun cdv A outer s H vs Q E hr h => ?_)
  · obtain ⟨pt, n1, n2, sl, h0, x, a, b, rfl, _⟩ := h
    rfl
  · obtain ⟨pt, n1, n2, sl, h0, x, a, b, rfl, hp, h1, h2, q⟩ := h
    obtain ⟨t1, D1, mP, T1, nP⟩ := G.placed
    refine ⟨_, pss_cons (ps_set (i := 4) scCode.nd rfl (Or.inl rfl) (pe_ix ix_tup (pv 0) pe_int (fun _ _ => rfl)))
      (pss_cons (ps_if (pt_cmpR op_inTab (pv 4) (pe_glob (v := .ref t1) (by rfl) mP rfl) rfl) pss_never pss_nil)
      (pss_cons (ps_if (pt_cmpR op_in_seq (pv 4) (pe_tup (pa_cons pe_str (pa_cons pe_str pa_nil))) rfl) pss_never
        (pss_one (ps_if (pt_cmpR op_in_seq (pv 4) (pe_tup (pa_cons pe_str (pa_cons pe_str (pa_cons pe_str (pa_cons pe_str pa_nil))))) rfl) pss_never
          (pss_one (ps_set (i := 5) scCode.nd rfl (Or.inl rfl) (pe_op op_cat (pe_call GO hr (by rfl) mO kO bO .nil passE0 (pa_cons (pv 0) (pa_cons (pv 1) (pa_cons (pv 2) pa_nil)))) (pe_lst (pa_cons (pe_tup (pa_cons (pv 4) pa_nil)) pa_nil))))))))
      (pss_one (ps_ret (pe_ifExp (pt_val (pv 3)) (pe_op op_cat (pv 5) (pe_lst (pa_cons (pe_tup (pa_cons pe_str pa_nil)) pa_nil))) pe_never))))), ?_⟩
    refine ⟨_, rfl, pt, _, _, .str x.str, rfl, rfl, hp, atI_nat (j := 0) rfl, ?_⟩
    dsimp only [gName, List.set]
    refine ⟨_, rfl, _, _, _, rfl, rfl, T1, _, rfl, ?_⟩
    rw [show PyProof.Rows.KTD.inKeys x.str D1 = false from nP (some x)]
    refine iteF ⟨_, rfl, (by show 2 ≤ sizeLine; decide), fun c1 hc1 => ?_⟩
    have g1 : Grow H (upd H c1 (.tup [.str "fn", .str "rec"])) := Grow.put hc1
    refine ⟨c1, _, rfl, .inr (SqT.of upd_same), rfl, rfl, _, rfl, ?_⟩
    rw [show (if false = true then !inV (V.str x.str) [.str "fn", .str "rec"] else inV (V.str x.str) [.str "fn", .str "rec"]) = false from in_fnrec x]
    generalize upd H c1 (.tup [.str "fn", .str "rec"]) = H1 at g1 ⊢
    refine iteF ⟨_, rfl, (by show 4 ≤ sizeLine; decide), fun c2 hc2 => ?_⟩
    have g2 : Grow H1 (upd H1 c2 (.tup [.str "num", .str "truth", .str "name", .str "nil"])) := Grow.put hc2
    refine ⟨c2, _, rfl, .inr (SqT.of upd_same), rfl, rfl, _, rfl, ?_⟩
    rw [show (if false = true then !inV (V.str x.str) [.str "num", .str "truth", .str "name", .str "nil"] else inV (V.str x.str) [.str "num", .str "truth", .str "name", .str "nil"]) = false from in_bare x]
    generalize upd H1 c2 (.tup [.str "num", .str "truth", .str "name", .str "nil"]) = H2 at g2 ⊢
    have g12 := g1.trans g2
    refine iteF ⟨_, rfl, _, rfl, _, rfl, pt, n1, n2, _, h0, x, a, b, rfl, SqT.mono g12.same hp, SqT.mono g12.same h1, SqT.mono g12.same h2, fun l d1 d2 H3 g3 e1 e2 e3 => ?_⟩
    refine ⟨_, rfl, (by show 1 ≤ sizeLine; decide), fun c3 hc3 => ?_⟩
    have g4 : Grow H3 (upd H3 c3 (.tup [.str x.str])) := Grow.put hc3
    have e4 : (upd H3 c3 (.tup [.str x.str])) c3 = some (.tup [.str x.str]) := upd_same
    generalize upd H3 c3 (.tup [.str x.str]) = H4 at g4 e4 ⊢
    refine ⟨(by show 1 ≤ sizeLine; decide), fun l2 hl2 => ?_⟩
    have g5 : Grow H4 (upd H4 l2 (.lst [.ref c3])) := Grow.put hl2
    have e5 : (upd H4 l2 (.lst [.ref c3])) l2 = some (.lst [.ref c3]) := upd_same
    generalize upd H4 l2 (.lst [.ref c3]) = H5 at g5 e5 ⊢
    have g35 := g4.trans g5
    refine ⟨l, l2, _, _, rfl, rfl, g35.same _ _ e1, e5, (by show 3 ≤ sizeLine; decide), fun l3 hl3 => ?_⟩
    have g6 : Grow H5 (upd H5 l3 (.lst [.ref d1, .ref d2, .ref c3])) := Grow.put hl3
    have e6 : (upd H5 l3 (.lst [.ref d1, .ref d2, .ref c3])) l3 = some (.lst [.ref d1, .ref d2, .ref c3]) := upd_same
    rw [show ([V.ref d1, V.ref d2] ++ [V.ref c3] : List V) = [.ref d1, .ref d2, .ref c3] from rfl]
    generalize upd H5 l3 (.lst [.ref d1, .ref d2, .ref c3]) = H6 at g6 e6 ⊢
    dsimp only [gName, List.set]
    refine ⟨_, rfl, true, rfl, iteT ⟨_, rfl, (by show 1 ≤ sizeLine; decide), fun c4 hc4 => ?_⟩⟩
    have g7 : Grow H6 (upd H6 c4 (.tup [.str "tell"])) := Grow.put hc4
    have e7 : (upd H6 c4 (.tup [.str "tell"])) c4 = some (.tup [.str "tell"]) := upd_same
    generalize upd H6 c4 (.tup [.str "tell"]) = H7 at g7 e7 ⊢
    refine ⟨(by show 1 ≤ sizeLine; decide), fun l4 hl4 => ?_⟩
    have g8 : Grow H7 (upd H7 l4 (.lst [.ref c4])) := Grow.put hl4
    have e8 : (upd H7 l4 (.lst [.ref c4])) l4 = some (.lst [.ref c4]) := upd_same
    generalize upd H7 l4 (.lst [.ref c4]) = H8 at g8 e8 ⊢
    have g68 := g7.trans g8
    refine ⟨l3, l4, _, _, rfl, rfl, g68.same _ _ e6, e8, (by show 4 ≤ sizeLine; decide), fun l5 hl5 => ?_⟩
    have g9 : Grow H8 (upd H8 l5 (.lst [.ref d1, .ref d2, .ref c3, .ref c4])) := Grow.put hl5
    have g49 : Grow H4 (upd H8 l5 (.lst [.ref d1, .ref d2, .ref c3, .ref c4])) := ((g5.trans g6).trans g68).trans g9
    have g39 := g4.trans g49
    exact q l5 d1 d2 c3 c4 _ ((g12.trans g3).trans g39) upd_same (g39.same _ _ e2) (g39.same _ _ e3) (g49.same _ _ e4) ((g8.trans g9).same _ _ e7)
def spComp (K : PySem.W.Frag) : Sp := fun vs H Q _ => ∃ (pt n1 n2 : Addr) (x : W7) (a b : Int), vs = [.ref pt] ∧ SqT K H pt [.str x.str, .ref n1, .ref n2] ∧ SqT K H n1 [.str "num", .int a] ∧ SqT K H n2 [.str "num", .int b] ∧
  ∀ l c1 c2 c3 c4 H', Grow H H' → H' l = some (.lst [.ref c1, .ref c2, .ref c3, .ref c4]) → H' c1 = some (.tup [.str "put", .int a]) → H' c2 = some (.tup [.str "put", .int b]) → H' c3 = some (.tup [.str x.str]) → H' c4 = some (.tup [.str "tell"]) → Q (.ref l) H'
theorem scComp : FnScope ["part"] ["part"] (defScope sComp) := ⟨rfl, rfl, rfl, by decide +kernel, rfl, by decide +kernel, by decide +kernel⟩
theorem ok_comp {f fK fC : Addr} {fd fdK fdC : FuncData} (F : FunD K "compiled" "compiled" sComp .none f fd) (GK : FnOk P w K mg base (CXE P w) 4 fK fdK ["part"] (spKO K)) (mK : mg "kind_of" = some (.ref fK)) (kK : PySem.W.keepIn K (.ref fK) = true) (bK : Binds K fdK ["part"] [])
    (GC : FnOk P w K mg base (CXE P w) 4 fC fdC ["part", "slots", "height", "last"] (spCode1 K)) (mC : mg "code_of" = some (.ref fC)) (kC : PySem.W.keepIn K (.ref fC) = true) (bC : Binds K fdC ["part", "slots", "height", "last"] []) :
    FnOk P w K mg base (CXE P w) 5 f fd ["part"] (spComp K) := by
  refine F.ok0 scComp (fun vs H Q E h => ?_) (fun cdv A outer s H vs Q E hr h => ?_)
  · obtain ⟨pt, n1, n2, x, a, b, rfl, _⟩ := h
    rfl
  · obtain ⟨pt, n1, n2, x, a, b, rfl, hp, h1, h2, q⟩ := h
    refine ⟨_, pss_cons (ps_expr (pe_call GK hr (by rfl) mK kK bK .nil passE0 (pa_cons (pv 0) pa_nil))) (pss_one (ps_ret (pe_call GC hr (by rfl) mC kC bC .nil passE0 (pa_cons (pv 0) (pa_cons pe_dnewK (pa_cons pe_int (pa_cons pe_bl pa_nil))))))), ?_⟩
    refine ⟨_, rfl, pt, n1, n2, x, a, b, rfl, hp, h1, h2, fun v H1 g1 => ⟨_, rfl, fun d hd => ?_⟩⟩
    have g2 : Grow H1 (upd H1 d (.dK [])) := Grow.put hd
    have g := g1.trans g2
    exact ⟨pt, n1, n2, _, 0, x, a, b, rfl, SqT.mono g.same hp, SqT.mono g.same h1, SqT.mono g.same h2, fun l c1 c2 c3 c4 H' g' => q l c1 c2 c3 c4 H' (g.trans g')⟩
end
end K18

set_option maxRecDepth 100000
set_option linter.all false
set_option Elab.async false
set_option maxHeartbeats 4000000
namespace L2
open PySem
theorem iteNo {c : Bool} {A B : Prop} (e : c = false) (h : B) : if c = true then A else B := by rw [e]; exact iteF h
theorem iteYes {c : Bool} {A B : Prop} (e : c = true) (h : A) : if c = true then A else B := by rw [e]; exact iteT h
theorem putF_new {f : Str} {v : V} : ∀ {fs : List (Str × V)} {ks : List Str}, f ∉ ks → fs.map (·.1) = ks → putF f v fs = fs ++ [(f, v)]
  | [], _, _, _ => rfl
  | (g, x) :: r, _, h, rfl => by
    have hg : ¬ g = f := fun z => h (by simp [z])
    rw [putF_ne hg, putF_new (fs := r) (ks := r.map (·.1)) (fun z => h (by simp only [List.map_cons, List.mem_cons]; exact .inr z)) rfl]
    rfl
structure IS (H : Hp) (m C dx : Addr) (fs : List (Str × V)) (H' : Hp) : Prop where
  me : H' m = some (.ins C dx fs)
  keep : ∀ b o, b ≠ m → H b = some o → H' b = some o
  none : ∀ b, H' b = Option.none → H b = Option.none
theorem IS.start {H : Hp} {m C dx : Addr} {fs : List (Str × V)} (h : H m = some (.ins C dx fs)) : IS H m C dx fs H := ⟨h, fun _ _ _ e => e, fun _ e => e⟩
theorem IS.grow {H H' H'' : Hp} {m C dx : Addr} {fs : List (Str × V)} (i : IS H m C dx fs H') (g : Grow H' H'') : IS H m C dx fs H'' := ⟨g.same _ _ i.me, fun b o hb e => g.same _ _ (i.keep b o hb e), fun b e => i.none b (g.none b e)⟩
theorem IS.fld {H H' : Hp} {m C dx : Addr} {fs gs : List (Str × V)} (i : IS H m C dx fs H') : IS H m C dx gs (upd H' m (.ins C dx gs)) :=
  ⟨upd_same, fun b o hb e => (upd_ne hb).trans (i.keep b o hb e), fun b e => by
    by_cases z : b = m
    · subst z; rw [upd_same] at e; cases e
    · rw [upd_ne z] at e; exact i.none b e⟩
theorem lst_fld {H : Hp} {m C dx l : Addr} {fs gs : List (Str × V)} {xs : List V} (hm : H m = some (.ins C dx fs)) (h : H l = some (.lst xs)) : (upd H m (.ins C dx gs)) l = some (.lst xs) := (upd_ne (ne_of h hm (by intro z; cases z))).trans h
end L2
namespace K18
open PySem L2 PyProof
abbrev sHpI : Stmt := inClass (top 10) 0
abbrev sMaI : Stmt := inClass (top 43) 0
abbrev sRun : Stmt := inClass (top 43) 1
abbrev sShown : Stmt := inClass (top 43) 5
abbrev sStep : Stmt := top 44
abbrev sOrder : Stmt := top 45
abbrev sPut : Stmt := top 46
abbrev sReck : Stmt := top 50
abbrev sTell : Stmt := top 64
abbrev sCut : Stmt := top 65
structure Ad where
  C : Addr
  m : Addr
  dx : Addr
  l : Addr
  hp : Addr
  st : Addr
  pd : Addr
  c1 : Addr
  c2 : Addr
  c3 : Addr
  c4 : Addr
def mf (d : Ad) (pl : Int) (sd : Str) : List (Str × V) := [("code", .ref d.l), ("heap", .ref d.hp), ("stack", .ref d.st), ("base", .int 0), ("place", .int pl), ("pending", .ref d.pd), ("standing", .str sd)]
section
variable (d : Ad) (pl : Int) (sd : Str)
theorem m_code : (mf d pl sd).lookup ("code" : Str) = some (.ref d.l) := look_eq _ _ _
theorem m_heap : (mf d pl sd).lookup ("heap" : Str) = some (.ref d.hp) := by unfold mf; rw [look_ne (by decide +kernel), look_eq]
theorem m_stack : (mf d pl sd).lookup ("stack" : Str) = some (.ref d.st) := by unfold mf; rw [look_ne (by decide +kernel), look_ne (by decide +kernel), look_eq]
theorem m_place : (mf d pl sd).lookup ("place" : Str) = some (.int pl) := by unfold mf; rw [look_ne (by decide +kernel), look_ne (by decide +kernel), look_ne (by decide +kernel), look_ne (by decide +kernel), look_eq]
theorem m_pending : (mf d pl sd).lookup ("pending" : Str) = some (.ref d.pd) := by unfold mf; rw [look_ne (by decide +kernel), look_ne (by decide +kernel), look_ne (by decide +kernel), look_ne (by decide +kernel), look_ne (by decide +kernel), look_eq]
theorem m_standing : (mf d pl sd).lookup ("standing" : Str) = some (.str sd) := by unfold mf; rw [look_ne (by decide +kernel), look_ne (by decide +kernel), look_ne (by decide +kernel), look_ne (by decide +kernel), look_ne (by decide +kernel), look_ne (by decide +kernel), look_eq]
theorem m_run : (mf d pl sd).lookup ("run" : Str) = none := by unfold mf; rw [look_ne (by decide +kernel), look_ne (by decide +kernel), look_ne (by decide +kernel), look_ne (by decide +kernel), look_ne (by decide +kernel), look_ne (by decide +kernel), look_ne (by decide +kernel)]; rfl
theorem m_shown : (mf d pl sd).lookup ("shown" : Str) = none := by unfold mf; rw [look_ne (by decide +kernel), look_ne (by decide +kernel), look_ne (by decide +kernel), look_ne (by decide +kernel), look_ne (by decide +kernel), look_ne (by decide +kernel), look_ne (by decide +kernel)]; rfl
theorem s_place (pl' : Int) : putF "place" (.int pl') (mf d pl sd) = mf d pl' sd := by unfold mf; rw [putF_ne (by decide +kernel), putF_ne (by decide +kernel), putF_ne (by decide +kernel), putF_ne (by decide +kernel), putF_eq]
theorem s_standing (sd' : Str) : putF "standing" (.str sd') (mf d pl sd) = mf d pl sd' := by unfold mf; rw [putF_ne (by decide +kernel), putF_ne (by decide +kernel), putF_ne (by decide +kernel), putF_ne (by decide +kernel), putF_ne (by decide +kernel), putF_ne (by decide +kernel), putF_eq]
theorem m_few : (mf d pl sd).length < 1000 := by show 7 < 1000; decide
end
structure MS (H0 : Hp) (d : Ad) (x : W7) (a b : Int) (xs : List V) (pl : Int) (sd : Str) (H : Hp) : Prop where
  g : Grow H0 H
  nm : H0 d.m = none
  ns : H0 d.st = none
  mo : H d.m = some (.ins d.C d.dx (mf d pl sd))
  so : H d.st = some (.lst xs)
  po : H d.pd = some (.lst [])
  lo : H d.l = some (.lst [.ref d.c1, .ref d.c2, .ref d.c3, .ref d.c4])
  sp : d.pd ≠ d.st
  sl : d.l ≠ d.st
  k1 : H d.c1 = some (.tup [.str "put", .int a])
  k2 : H d.c2 = some (.tup [.str "put", .int b])
  k3 : H d.c3 = some (.tup [.str x.str])
  k4 : H d.c4 = some (.tup [.str "tell"])
section
variable {H0 H H' : Hp} {d : Ad} {x : W7} {a b : Int} {xs : List V} {pl : Int} {sd : Str}
theorem MS.grow (h : MS H0 d x a b xs pl sd H) (g : Grow H H') : MS H0 d x a b xs pl sd H' :=
  ⟨h.g.trans g, h.nm, h.ns, g.same _ _ h.mo, g.same _ _ h.so, g.same _ _ h.po, g.same _ _ h.lo, h.sp, h.sl, g.same _ _ h.k1, g.same _ _ h.k2, g.same _ _ h.k3, g.same _ _ h.k4⟩
theorem MS.setS (h : MS H0 d x a b xs pl sd H) (ys : List V) : MS H0 d x a b ys pl sd (upd H d.st (.lst ys)) :=
  have t : ∀ {c : Addr} {u : List V}, H c = some (.tup u) → (upd H d.st (.lst ys)) c = some (.tup u) := fun e => (upd_ne (ne_of e h.so (by intro z; cases z))).trans e
  ⟨h.g.set h.ns, h.nm, h.ns, (upd_ne (ne_of h.mo h.so (by intro z; cases z))).trans h.mo, upd_same, (upd_ne h.sp).trans h.po, (upd_ne h.sl).trans h.lo, h.sp, h.sl, t h.k1, t h.k2, t h.k3, t h.k4⟩
theorem MS.setM (h : MS H0 d x a b xs pl sd H) (pl' : Int) (sd' : Str) : MS H0 d x a b xs pl' sd' (upd H d.m (.ins d.C d.dx (mf d pl' sd'))) :=
  have t : ∀ {c : Addr} {u : List V}, H c = some (.tup u) → (upd H d.m (.ins d.C d.dx (mf d pl' sd'))) c = some (.tup u) := fun e => (upd_ne (ne_of e h.mo (by intro z; cases z))).trans e
  ⟨h.g.set h.nm, h.nm, h.ns, upd_same, lst_fld h.mo h.so, lst_fld h.mo h.po, lst_fld h.mo h.lo, h.sp, h.sl, t h.k1, t h.k2, t h.k3, t h.k4⟩
end
structure Mc (K : PySem.W.Frag) (C : Addr) : Prop where
  cl : Cls K C
  n1 : NoAttr K C "code"
  n2 : NoAttr K C "heap"
  n3 : NoAttr K C "stack"
  n4 : NoAttr K C "base"
  n5 : NoAttr K C "place"
  n6 : NoAttr K C "pending"
  n7 : NoAttr K C "standing"
structure GlM (K : PySem.W.Frag) (mg : Str → Option Value) : Prop where
  len : mg "len" = none
  list : mg "list" = none
  ending : ∃ a, mg "ENDING_ORDERS" = some (.ref a) ∧ ∀ H, SqT K H a [.str "tell", .str "skip", .str "slide"]
  leastR : ∃ t, mg "LEAST_ROOM" = some (.int 8 t)
  greatR : ∃ t, mg "GREATEST_ROOM" = some (.int 400 t)
section
variable {P : Program} {w : World} {K : PySem.W.Frag} {mg : Str → Option Value} {base : Heap}
theorem scPut : FnScope ["machine", "order"] ["machine", "order"] (defScope sPut) := ⟨rfl, rfl, rfl, by decide +kernel, rfl, by decide +kernel, by decide +kernel⟩
def spPut (K : PySem.W.Frag) : Sp := fun vs H Q _ => ∃ (H0 : Hp) (d : Ad) (x : W7) (a b : Int) (xs : List V) (pl : Int) (sd : Str) (c : Addr) (t v : V), vs = [.ref d.m, .ref c] ∧ Mc K d.C ∧ MS H0 d x a b xs pl sd H ∧ H c = some (.tup [t, v]) ∧ xs.length ≤ 10 ∧ ∀ H', MS H0 d x a b (xs ++ [v]) pl sd H' → Q .non H'
theorem ok_put {f : Addr} {fd : FuncData} (F : FunD K "put" "put" sPut .none f fd) : FnOk P w K mg base (CXE P w) 1 f fd ["machine", "order"] (spPut K) := by
  refine F.ok0 scPut (fun vs H Q E h => ?_) (fun cdv A outer s H vs Q E hr h => ?_)
  · obtain ⟨H0, d, x, a, b, xs, pl, sd, c, t, v, rfl, _⟩ := h
    rfl
  · obtain ⟨H0, d, x, a, b, xs, pl, sd, c, t, v, rfl, M, h, hc, hx, q⟩ := h
    refine ⟨_, pss_one (ps_expr (pe_bm PySem.F.plainAttrs_list PySem.F.slot_list_append PySem.F.type_list_append mt_append (pe_fld (pv 0) rfl) (pa_cons (pe_ix ix_tup (pv 1) pe_int (fun _ _ => rfl)) pa_nil))), ?_⟩
    refine ⟨_, rfl, d.m, d.C, d.dx, _, _, rfl, h.mo, M.cl, M.n3, m_stack _ _ _, .inl ⟨rfl, _, SqL.of h.so⟩, _, rfl, c, _, _, v, rfl, rfl, SqT.of hc, atI_nat (j := 1) rfl, d.st, _, _, rfl, rfl, h.so, ?_, q _ (h.setS _)⟩
    rw [sizeLine_eq]; omega
theorem scCut : FnScope ["machine", "height"] ["machine", "height"] (defScope sCut) := ⟨rfl, rfl, rfl, by decide +kernel, rfl, by decide +kernel, by decide +kernel⟩
def spCut (K : PySem.W.Frag) : Sp := fun vs H Q _ => ∃ (H0 : Hp) (d : Ad) (x : W7) (a b : Int) (pl : Int) (sd : Str), vs = [.ref d.m, .int 0] ∧ Mc K d.C ∧ MS H0 d x a b [] pl sd H ∧ Q .non H
theorem ok_cut {f : Addr} {fd : FuncData} (F : FunD K "cut_stack" "cut_stack" sCut .none f fd) (G : GlM K mg) : FnOk P w K mg base (CXE P w) 1 f fd ["machine", "height"] (spCut K) := by
  refine F.ok0 scCut (fun vs H Q E h => ?_) (fun cdv A outer s H vs Q E hr h => ?_)
  · obtain ⟨H0, d, x, a, b, pl, sd, rfl, _⟩ := h
    rfl
  · obtain ⟨H0, d, x, a, b, pl, sd, rfl, M, h, q⟩ := h
    refine ⟨_, pss_one (ps_while PassesOwn.never (pt_cmpR op_gt (pe_callB call_len_seq (by rfl) G.len PySem.boot_len (pa_cons (pe_fld (pv 0) rfl) pa_nil)) (pv 1) (nomark _)) pss_never), ?_⟩
    refine ⟨fun _ σ H' => σ = [some (.ref d.m), some (.int 0)] ∧ H' = H, ⟨0, rfl, rfl⟩, ?_⟩
    rintro m σ H' ⟨rfl, rfl⟩
    refine ⟨_, rfl, d.m, d.C, d.dx, _, _, rfl, h.mo, M.cl, M.n3, m_stack _ _ _, d.st, _, rfl, .inl (SqL.of h.so), _, rfl, _, _, rfl, rfl, _, rfl, ?_⟩
    exact ite2 (fun z => absurd z (by decide)) (fun _ => q)
theorem scReck : FnScope ["machine", "order", "other", "one"] ["machine", "order"] (defScope sReck) := ⟨rfl, rfl, rfl, by decide +kernel, rfl, by decide +kernel, by decide +kernel⟩
def spReck (K : PySem.W.Frag) : Sp := fun vs H Q _ => ∃ (H0 : Hp) (d : Ad) (x : W7) (a b : Int) (pl : Int) (sd : Str), vs = [.ref d.m, .ref d.c3] ∧ Mc K d.C ∧ In64 a ∧ In64 b ∧ MS H0 d x a b [.int a, .int b] pl sd H ∧ ∀ H', (if nought x b = true then MS H0 d x a b [] pl "by nought" H' else MS H0 d x a b [sumV x a b] pl sd H') → Q .non H'
theorem ok_reck {f fN fS : Addr} {fd fdN fdS : FuncData} (F : FunD K "reckon_sum" "reckon_sum" sReck .none f fd) (GN : FnOk P w K mg base (CXE P w) 1 fN fdN ["word", "other"] spNou) (mN : mg "is_by_nought" = some (.ref fN)) (kN : PySem.W.keepIn K (.ref fN) = true) (bN : Binds K fdN ["word", "other"] [])
    (GS : FnOk P w K mg base (CXE P w) 3 fS fdS ["word", "one", "other"] spSumOf) (mS : mg "sum_of" = some (.ref fS)) (kS : PySem.W.keepIn K (.ref fS) = true) (bS : Binds K fdS ["word", "one", "other"] []) : FnOk P w K mg base (CXE P w) 4 f fd ["machine", "order"] (spReck K) := by
  refine F.ok0 scReck (fun vs H Q E h => ?_) (fun cdv A outer s H vs Q E hr h => ?_)
  · obtain ⟨H0, d, x, a, b, pl, sd, rfl, _⟩ := h
    rfl
  · obtain ⟨H0, d, x, a, b, pl, sd, rfl, M, ha, hb, h, q⟩ := h
    refine ⟨_, pss_cons (ps_set (i := 2) scReck.nd rfl (Or.inl rfl) (pe_bm0 PySem.F.plainAttrs_list PySem.F.slot_list_pop PySem.F.type_list_pop mt_pop (pe_fld (pv 0) rfl)))
      (pss_cons (ps_set (i := 3) scReck.nd rfl (Or.inl rfl) (pe_bm0 PySem.F.plainAttrs_list PySem.F.slot_list_pop PySem.F.type_list_pop mt_pop (pe_fld (pv 0) rfl)))
      (pss_one (ps_if (pt_val (pe_call GN (hr.mono (by omega)) (by rfl) mN kN bN .nil passE0 (pa_cons (pe_ix ix_tup (pv 1) pe_int (fun _ _ => rfl)) (pa_cons (pv 2) pa_nil))))
        (pss_one (ps_fld (pv 0) pe_str rfl))
        (pss_one (ps_expr (pe_bm PySem.F.plainAttrs_list PySem.F.slot_list_append PySem.F.type_list_append mt_append (pe_fld (pv 0) rfl) (pa_cons (pe_call GS hr (by rfl) mS kS bS .nil passE0 (pa_cons (pe_ix ix_tup (pv 1) pe_int (fun _ _ => rfl)) (pa_cons (pv 3) (pa_cons (pv 2) pa_nil)))) pa_nil))))))), ?_⟩
    refine ⟨_, rfl, d.m, d.C, d.dx, _, _, rfl, h.mo, M.cl, M.n3, m_stack _ _ _, .inl ⟨rfl, _, SqL.of h.so⟩, d.st, _, .int b, rfl, rfl, h.so, rfl, ?_⟩
    dsimp only [gName, List.set]
    have h1 : MS H0 d x a b [.int a] pl sd (upd H d.st (.lst [.int a])) := h.setS _
    show tSeq _ _ _ _ (upd H d.st (.lst [.int a]))
    generalize upd H d.st (.lst [.int a]) = H1 at h1 ⊢
    refine ⟨_, rfl, d.m, d.C, d.dx, _, _, rfl, h1.mo, M.cl, M.n3, m_stack _ _ _, .inl ⟨rfl, _, SqL.of h1.so⟩, d.st, _, .int a, rfl, rfl, h1.so, rfl, ?_⟩
    dsimp only [gName, List.set]
    have h2 : MS H0 d x a b [] pl sd (upd H1 d.st (.lst [])) := h1.setS _
    show tIfS _ _ _ _ _ (upd H1 d.st (.lst []))
    generalize upd H1 d.st (.lst []) = H2 at h2 ⊢
    refine ⟨_, rfl, d.c3, _, _, .str x.str, rfl, rfl, SqT.of h2.k3, atI_nat (j := 0) rfl, _, rfl, x, b, rfl, fun H3 g3 => ⟨_, rfl, ?_⟩⟩
    have h3 := h2.grow g3
    refine ite2 (fun z => ?_) (fun z => ?_)
    · refine ⟨_, rfl, d.m, d.C, d.dx, _, rfl, h3.mo, M.cl, M.n7, m_few _ _ _, ?_⟩
      rw [s_standing]
      have q' := q _ (by rw [if_pos z]; exact h3.setM pl "by nought")
      exact q'
    · have hz : divs x = true → b ≠ 0 := fun e1 e2 => z (by unfold nought; rw [e1, e2]; rfl)
      refine ⟨_, rfl, d.m, d.C, d.dx, _, _, rfl, h3.mo, M.cl, M.n3, m_stack _ _ _, .inl ⟨rfl, _, SqL.of h3.so⟩, _, rfl, d.c3, _, _, .str x.str, rfl, rfl, SqT.of h3.k3, atI_nat (j := 0) rfl, _, rfl, _, rfl, x, a, b, rfl, ha, hb, hz, d.st, _, _, rfl, rfl, h3.so, (by show 0 < sizeLine; decide), ?_⟩
      exact q _ (by rw [if_neg z]; exact h3.setS _)
theorem scTell : FnScope ["machine", "order", "value", "went_on"] ["machine", "order"] (defScope sTell) := ⟨rfl, rfl, rfl, by decide +kernel, rfl, by decide +kernel, by decide +kernel⟩
def spTell (K : PySem.W.Frag) : Sp := fun vs H Q _ => ∃ (H0 : Hp) (d : Ad) (x : W7) (a b : Int) (pl : Int) (sd : Str) (c : Addr) (v : V), vs = [.ref d.m, .ref c] ∧ Mc K d.C ∧ MS H0 d x a b [v] pl sd H ∧ ∀ H', MS H0 d x a b [v] pl "done" H' → Q .non H'
theorem ok_tell {f fC : Addr} {fd fdC : FuncData} (F : FunD K "tell" "tell" sTell .none f fd) (GC : FnOk P w K mg base (CXE P w) 1 fC fdC ["machine", "height"] (spCut K)) (mC : mg "cut_stack" = some (.ref fC)) (kC : PySem.W.keepIn K (.ref fC) = true) (bC : Binds K fdC ["machine", "height"] []) :
    FnOk P w K mg base (CXE P w) 2 f fd ["machine", "order"] (spTell K) := by
  refine F.ok0 scTell (fun vs H Q E h => ?_) (fun cdv A outer s H vs Q E hr h => ?_)
  · obtain ⟨H0, d, x, a, b, pl, sd, c, v, rfl, _⟩ := h
    rfl
  · obtain ⟨H0, d, x, a, b, pl, sd, c, v, rfl, M, h, q⟩ := h
    refine ⟨_, pss_cons (ps_set (i := 2) scTell.nd rfl (Or.inl rfl) (pe_bm0 PySem.F.plainAttrs_list PySem.F.slot_list_pop PySem.F.type_list_pop mt_pop (pe_fld (pv 0) rfl)))
      (pss_cons (ps_if (pt_truth (pe_fld (pv 0) rfl) (fun _ => rfl)) pss_never
        (pss_cons (ps_expr (pe_call GC hr (by rfl) mC kC bC .nil passE0 (pa_cons (pv 0) (pa_cons pe_int pa_nil)))) (pss_one (ps_fld (pv 0) pe_str rfl))))
      (pss_one (ps_expr (pe_bm PySem.F.plainAttrs_list PySem.F.slot_list_append PySem.F.type_list_append mt_append (pe_fld (pv 0) rfl) (pa_cons (pv 2) pa_nil))))), ?_⟩
    refine ⟨_, rfl, d.m, d.C, d.dx, _, _, rfl, h.mo, M.cl, M.n3, m_stack _ _ _, .inl ⟨rfl, _, SqL.of h.so⟩, d.st, _, v, rfl, rfl, h.so, rfl, ?_⟩
    dsimp only [gName, List.set]
    have h1 : MS H0 d x a b [] pl sd (upd H d.st (.lst [])) := h.setS _
    show tSeq _ _ _ _ (upd H d.st (.lst []))
    generalize upd H d.st (.lst []) = H1 at h1 ⊢
    refine ⟨_, rfl, d.m, d.C, d.dx, _, _, rfl, h1.mo, M.cl, M.n6, m_pending _ _ _, false, .inl ⟨_, SqL.of h1.po, rfl⟩, iteF ?_⟩
    refine ⟨_, rfl, H0, d, x, a, b, pl, sd, rfl, M, h1, ?_⟩
    refine ⟨_, rfl, d.m, d.C, d.dx, _, rfl, h1.mo, M.cl, M.n7, m_few _ _ _, ?_⟩
    rw [s_standing]
    have h2 := h1.setM pl "done"
    generalize upd H1 d.m (.ins d.C d.dx (mf d pl "done")) = H2 at h2 ⊢
    refine ⟨_, rfl, d.m, d.C, d.dx, _, _, rfl, h2.mo, M.cl, M.n3, m_stack _ _ _, .inl ⟨rfl, _, SqL.of h2.so⟩, _, rfl, d.st, _, _, rfl, rfl, h2.so, (by show 0 < sizeLine; decide), ?_⟩
    exact q _ (h2.setS _)
end
end K18

set_option maxRecDepth 100000
set_option linter.all false
set_option Elab.async false
set_option maxHeartbeats 4000000
namespace K18
open PySem L2 PyProof
def stX (x : W7) (a b : Int) : Nat → List V
  | 0 => []
  | 1 => [.int a]
  | 2 => [.int a, .int b]
  | 3 => if nought x b = true then [] else [sumV x a b]
  | _ => [sumV x a b]
def stS (x : W7) (b : Int) : Nat → Str
  | 0 => "running"
  | 1 => "running"
  | 2 => "running"
  | 3 => if nought x b = true then "by nought" else "running"
  | _ => "done"
abbrev SG (H0 : Hp) (d : Ad) (x : W7) (a b : Int) (i : Nat) (H : Hp) : Prop := MS H0 d x a b (stX x a b i) i (stS x b i) H
structure Ords (P : Program) (w : World) (K : PySem.W.Frag) (mg : Str → Option Value) (base : Heap) : Prop where
  tab : ∃ a D, mg "ORDERS" = some (.ref a) ∧ TabS K a D ∧
    (∃ f fd, PyProof.Rows.KTD.datumAt ("put" : Str) D = some (.ref f) ∧ FnOk P w K mg base (CXE P w) 1 f fd ["machine", "order"] (spPut K) ∧ PySem.W.keepIn K (.ref f) = true ∧ Binds K fd ["machine", "order"] []) ∧
    (∃ f fd, (∀ x : W7, PyProof.Rows.KTD.datumAt x.str D = some (.ref f)) ∧ FnOk P w K mg base (CXE P w) 4 f fd ["machine", "order"] (spReck K) ∧ PySem.W.keepIn K (.ref f) = true ∧ Binds K fd ["machine", "order"] []) ∧
    (∃ f fd, PyProof.Rows.KTD.datumAt ("tell" : Str) D = some (.ref f) ∧ FnOk P w K mg base (CXE P w) 2 f fd ["machine", "order"] (spTell K) ∧ PySem.W.keepIn K (.ref f) = true ∧ Binds K fd ["machine", "order"] [])
section
variable {P : Program} {w : World} {K : PySem.W.Frag} {mg : Str → Option Value} {base : Heap}
theorem scOrd : FnScope ["machine", "order"] ["machine"] (defScope sOrder) := ⟨rfl, rfl, rfl, by decide +kernel, rfl, by decide +kernel, by decide +kernel⟩
def spOrd (K : PySem.W.Frag) : Sp := fun vs H Q _ => ∃ (H0 : Hp) (d : Ad) (x : W7) (a b : Int) (i : Nat), vs = [.ref d.m] ∧ Mc K d.C ∧ In64 a ∧ In64 b ∧ i ≤ 3 ∧ (i = 3 → nought x b = false) ∧ SG H0 d x a b i H ∧ ∀ H', SG H0 d x a b (i + 1) H' → Q .non H'
theorem ok_ord {f : Addr} {fd : FuncData} (F : FunD K "do_order" "do_order" sOrder .none f fd) (O : Ords P w K mg base) : FnOk P w K mg base (CXE P w) 5 f fd ["machine"] (spOrd K) := by
  refine F.ok0 scOrd (fun vs H Q E h => ?_) (fun cdv A outer s H vs Q E hr h => ?_)
  · obtain ⟨H0, d, x, a, b, i, rfl, _⟩ := h
    rfl
  · obtain ⟨H0, d, x, a, b, i, rfl, M, ha, hb, hi, h3, h, q⟩ := h
    obtain ⟨ta, D, mT, T, ⟨f1, fd1, e1, G1, k1, b1⟩, ⟨f2, fd2, e2, G2, k2, b2⟩, ⟨f3, fd3, e3, G3, k3, b3⟩⟩ := O.tab
    obtain ⟨c, wd, rest, g, fdg, sp, k, hcs, hc, hD, G, hk, kp, bd, hgo⟩ : ∃ (c : Addr) (wd : Str) (rest : List V) (g : Addr) (fdg : FuncData) (sp : Sp) (k : Nat), ([.ref d.c1, .ref d.c2, .ref d.c3, .ref d.c4] : List V)[i]? = some (.ref c) ∧ (∀ H1 : Hp, Same H H1 → H1 c = some (.tup (.str wd :: rest))) ∧ PyProof.Rows.KTD.datumAt wd D = some (.ref g) ∧
        FnOk P w K mg base (CXE P w) k g fdg ["machine", "order"] sp ∧ k ≤ 4 ∧ PySem.W.keepIn K (.ref g) = true ∧ Binds K fdg ["machine", "order"] [] ∧ ∀ H1, MS H0 d x a b (stX x a b i) ((i : Int) + 1) (stS x b i) H1 → sp [.ref d.m, .ref c] H1 (fun _ H2 => Q .non H2) E0 := by
      match i, hi, h3, h, q with
      | 0, _, _, h, q => exact ⟨d.c1, "put", _, f1, fd1, _, 1, rfl, fun H1 g => g _ _ h.k1, e1, G1, by omega, k1, b1, fun H1 h1 => ⟨H0, d, x, a, b, _, _, _, d.c1, _, _, rfl, M, h1, h1.k1, by show 0 ≤ 10; decide, fun H2 h2 => q H2 h2⟩⟩
      | 1, _, _, h, q => exact ⟨d.c2, "put", _, f1, fd1, _, 1, rfl, fun H1 g => g _ _ h.k2, e1, G1, by omega, k1, b1, fun H1 h1 => ⟨H0, d, x, a, b, _, _, _, d.c2, _, _, rfl, M, h1, h1.k2, by show 1 ≤ 10; decide, fun H2 h2 => q H2 h2⟩⟩
      | 2, _, _, h, q => exact ⟨d.c3, x.str, _, f2, fd2, _, 4, rfl, fun H1 g => g _ _ h.k3, e2 x, G2, by omega, k2, b2, fun H1 h1 => ⟨H0, d, x, a, b, _, _, rfl, M, ha, hb, h1, fun H2 h2 => q H2 (by
          show MS H0 d x a b (if nought x b = true then [] else [sumV x a b]) _ (if nought x b = true then "by nought" else "running") H2
          by_cases z : nought x b = true
          · rw [if_pos z] at h2 ⊢; rw [if_pos z]; exact h2
          · rw [if_neg z] at h2 ⊢; rw [if_neg z]; exact h2)⟩⟩
      | 3, _, h3, h, q =>
        have z : ¬ nought x b = true := by rw [h3 rfl]; exact Bool.false_ne_true
        refine ⟨d.c4, "tell", _, f3, fd3, _, 2, rfl, fun H1 g => g _ _ h.k4, e3, G3, by omega, k3, b3, fun H1 h1 => ⟨H0, d, x, a, b, _, stS x b 3, d.c4, sumV x a b, rfl, M, ?_, fun H2 h2 => q H2 h2⟩⟩
        have h1' : MS H0 d x a b (if nought x b = true then [] else [sumV x a b]) (((3 : Nat) : Int) + 1) (stS x b 3) H1 := h1
        rw [if_neg z] at h1'
        exact h1'
    refine ⟨_, pss_cons (ps_set (i := 1) scOrd.nd rfl (Or.inl rfl) (pe_ix ix_list (pe_fld (pv 0) rfl) (pe_fld (pv 0) rfl) (fun _ _ => rfl)))
      (pss_cons (ps_fldaug (pv 0) pe_int in_add)
      (pss_one (ps_expr (pe_callV (CX := CXE P w) (pe_ix ix_tab (pe_glob (v := .ref ta) (by rfl) mT rfl) (pe_ix ix_tup (pv 1) pe_int (fun _ _ => rfl)) (fun _ _ => rfl)) (pa_cons (pv 0) (pa_cons (pv 1) pa_nil)))))), ?_⟩
    refine ⟨_, rfl, d.m, d.C, d.dx, _, _, rfl, h.mo, M.cl, M.n1, m_code _ _ _, _, rfl, d.m, d.C, d.dx, _, _, rfl, h.mo, M.cl, M.n5, m_place _ _ _, d.l, _, _, .ref c, rfl, rfl, SqL.of h.lo, atI_nat hcs, ?_⟩
    dsimp only [gName, List.set]
    refine ⟨_, rfl, d.m, d.C, d.dx, _, _, rfl, h.mo, M.cl, M.n5, m_place _ _ _, _, _, rfl, rfl, _, _, h.mo, m_few _ _ _, ?_⟩
    rw [s_place]
    have h1 := h.setM ((i : Int) + 1) (stS x b i)
    have hc1 : (upd H d.m (.ins d.C d.dx (mf d ((i : Int) + 1) (stS x b i)))) c = some (.tup (.str wd :: rest)) := (upd_ne (ne_of (hc H (Same.refl H)) h.mo (by intro z; cases z))).trans (hc H (Same.refl H))
    generalize upd H d.m (.ins d.C d.dx (mf d ((i : Int) + 1) (stS x b i))) = H1 at h1 hc1 ⊢
    refine ⟨_, rfl, c, _, _, .str wd, rfl, rfl, SqT.of hc1, atI_nat (j := 0) rfl, _, ta, D, _, rfl, rfl, T, hD, ?_⟩
    refine ⟨g, fdg, _, _, [], [], E0, k, rfl, G, hr.mono hk, kp, bd, .nil, passE0, ?_⟩
    exact ⟨_, rfl, _, rfl, hgo H1 h1⟩
def nx (x : W7) (b : Int) (i : Nat) : Nat := if i < 2 then i + 1 else if nought x b = true then 3 else 4
theorem scStep : FnScope ["machine"] ["machine"] (defScope sStep) := ⟨rfl, rfl, rfl, by decide +kernel, rfl, by decide +kernel, by decide +kernel⟩
def spStep (K : PySem.W.Frag) : Sp := fun vs H Q _ => ∃ (H0 : Hp) (d : Ad) (x : W7) (a b : Int) (i : Nat), vs = [.ref d.m] ∧ Mc K d.C ∧ In64 a ∧ In64 b ∧ i ≤ 2 ∧ SG H0 d x a b i H ∧ ∀ H', SG H0 d x a b (nx x b i) H' → Q .non H'
theorem not_ending (x : W7) : inV (.str x.str) [.str "tell", .str "skip", .str "slide"] = false := by cases x <;> decide +kernel
theorem ok_step {f fO : Addr} {fd fdO : FuncData} (F : FunD K "do_step" "do_step" sStep .none f fd) (G : GlM K mg) (GO : FnOk P w K mg base (CXE P w) 5 fO fdO ["machine"] (spOrd K)) (mO : mg "do_order" = some (.ref fO)) (kO : PySem.W.keepIn K (.ref fO) = true) (bO : Binds K fdO ["machine"] []) :
    FnOk P w K mg base (CXE P w) 6 f fd ["machine"] (spStep K) := by
  refine F.ok0 scStep (fun vs H Q E h => ?_) (fun cdv A outer s H vs Q E hr h => ?_)
  · obtain ⟨H0, d, x, a, b, i, rfl, _⟩ := h
    rfl
  · obtain ⟨H0, d, x, a, b, i, rfl, M, ha, hb, hi, h, q⟩ := h
    obtain ⟨te, mE, sE⟩ := G.ending
    refine ⟨_, pss_cons (ps_expr (pe_call GO hr (by rfl) mO kO bO .nil passE0 (pa_cons (pv 0) pa_nil)))
      (pss_one (ps_while PassesOwn.never (pw_and (pt_cmpR op_eq (pe_fld (pv 0) rfl) pe_str (nomark _)) (pw_and1 (pt_cmpR op_in_seq (pe_ix ix_tup (pe_ix ix_list (pe_fld (pv 0) rfl) (pe_fld (pv 0) rfl) (fun _ _ => rfl)) pe_int (fun _ _ => rfl)) (pe_glob (v := .ref te) (by rfl) mE rfl) rfl))).pt
        (pss_one (ps_expr (pe_call GO hr (by rfl) mO kO bO .nil passE0 (pa_cons (pv 0) pa_nil)))))), ?_⟩
    refine ⟨_, rfl, H0, d, x, a, b, i, rfl, M, ha, hb, by omega, by omega, h, fun H1 h1 => ?_⟩
    refine ⟨fun m σ H' => σ = [some (.ref d.m)] ∧ ((m = 0 ∧ SG H0 d x a b (nx x b i) H') ∨ (m = 1 ∧ i = 2 ∧ nought x b = false ∧ SG H0 d x a b 3 H')), ?_, ?_⟩
    · by_cases z : i = 2 ∧ nought x b = false
      · obtain ⟨rfl, z⟩ := z
        exact ⟨1, rfl, .inr ⟨rfl, rfl, z, h1⟩⟩
      · refine ⟨0, rfl, .inl ⟨rfl, ?_⟩⟩
        have e : nx x b i = i + 1 := by
          unfold nx
          by_cases hl : i < 2
          · rw [if_pos hl]
          · have e2 : i = 2 := by omega
            have e3 : nought x b = true := by
              cases e : nought x b
              · exact absurd ⟨e2, e⟩ z
              · rfl
            rw [if_neg hl, if_pos e3, e2]
        rw [e]; exact h1
    rintro m σ H2 ⟨rfl, hw⟩
    have tst : ∀ (j : Nat) (c : Addr) (wd : Str) (rest : List V) (R : Bool → Hp → Prop), SG H0 d x a b j H2 → ([.ref d.c1, .ref d.c2, .ref d.c3, .ref d.c4] : List V)[j]? = some (.ref c) → H2 c = some (.tup (.str wd :: rest)) → stS x b j = "running" → R (inV (.str wd) [.str "tell", .str "skip", .str "slide"]) H2 →
        tAnd (tTest (tOp rEq (tFld K (tVar 0) "standing") (tC (.str "running")))) (tTest (tOp (rIn K false) (tOp (rIxT K) (tOp (rIxL K) (tFld K (tVar 0) "code") (tFld K (tVar 0) "place")) (tC (.int 0))) (tC (.ref te)))) [some (.ref d.m)] H2 R := by
      intro j c wd rest R hj hcs hc hs r
      refine ⟨_, rfl, d.m, d.C, d.dx, _, _, rfl, hj.mo, M.cl, M.n7, m_standing _ _ _, rfl, _, rfl, ?_⟩
      rw [hs]
      refine ite2 (fun _ => ?_) (fun z => absurd (by decide +kernel) z)
      exact ⟨_, rfl, d.m, d.C, d.dx, _, _, rfl, hj.mo, M.cl, M.n1, m_code _ _ _, _, rfl, d.m, d.C, d.dx, _, _, rfl, hj.mo, M.cl, M.n5, m_place _ _ _, d.l, _, _, .ref c, rfl, rfl, SqL.of hj.lo, atI_nat hcs, c, _, _, .str wd, rfl, rfl, SqT.of hc, atI_nat (j := 0) rfl, te, _, rfl, .inr (sE H2), rfl, rfl, _, rfl, r⟩
    have tsn : ∀ (j : Nat) (R : Bool → Hp → Prop), SG H0 d x a b j H2 → decide (V.str (stS x b j) = V.str "running") = false → R false H2 →
        tAnd (tTest (tOp rEq (tFld K (tVar 0) "standing") (tC (.str "running")))) (tTest (tOp (rIn K false) (tOp (rIxT K) (tOp (rIxL K) (tFld K (tVar 0) "code") (tFld K (tVar 0) "place")) (tC (.int 0))) (tC (.ref te)))) [some (.ref d.m)] H2 R := by
      intro j R hj hs r
      refine ⟨_, rfl, d.m, d.C, d.dx, _, _, rfl, hj.mo, M.cl, M.n7, m_standing _ _ _, rfl, _, rfl, ?_⟩
      rw [hs]
      exact iteF r
    rcases hw with ⟨rfl, h2⟩ | ⟨rfl, rfl, z, h2⟩
    · have fin := q H2 h2
      match i, hi, h2 with
      | 0, _, h2 => exact tst 1 d.c2 "put" _ _ h2 rfl h2.k2 rfl (iteNo (by decide +kernel) fin)
      | 1, _, h2 => exact tst 2 d.c3 x.str _ _ h2 rfl h2.k3 rfl (iteNo (not_ending x) fin)
      | 2, _, h2 =>
        by_cases z : nought x b = true
        · have e : nx x b 2 = 3 := by unfold nx; rw [if_neg (by decide), if_pos z]
          rw [e] at h2
          exact tsn 3 _ h2 (by show decide (V.str (if nought x b = true then "by nought" else "running") = V.str "running") = false; rw [if_pos z]; decide +kernel) (iteF fin)
        · have e : nx x b 2 = 4 := by unfold nx; rw [if_neg (by decide), if_neg z]
          rw [e] at h2
          exact tsn 4 _ h2 (by show decide (V.str "done" = V.str "running") = false; decide +kernel) (iteF fin)
    · have zz : ¬ nought x b = true := by rw [z]; exact Bool.false_ne_true
      have e : nx x b 2 = 4 := by unfold nx; rw [if_neg (by decide), if_neg zz]
      refine tst 3 d.c4 "tell" _ _ h2 rfl h2.k4 (show (if nought x b = true then ("by nought" : Str) else "running") = ("running" : Str) by rw [if_neg zz]) (iteYes (by decide +kernel) ?_)
      refine ⟨fun σ' H' => σ' = [some (.ref d.m)] ∧ SG H0 d x a b 4 H', fun σ' H' ⟨e1, e2⟩ => ⟨0, by decide, e1, .inl ⟨rfl, by rw [e]; exact e2⟩⟩, ?_⟩
      exact ⟨_, rfl, H0, d, x, a, b, 3, rfl, M, ha, hb, by omega, fun _ => z, h2, fun H3 h3 => ⟨rfl, h3⟩⟩
theorem scRun : FnScope ["self", "steps", "left"] ["self", "steps"] (defScope sRun) := ⟨rfl, rfl, rfl, by decide +kernel, rfl, by decide +kernel, by decide +kernel⟩
def spRun (K : PySem.W.Frag) : Sp := fun vs H Q _ => ∃ (H0 : Hp) (d : Ad) (x : W7) (a b : Int), vs = [.ref d.m, .int 40] ∧ Mc K d.C ∧ In64 a ∧ In64 b ∧ SG H0 d x a b 0 H ∧ ∀ H', SG H0 d x a b (nx x b 2) H' → Q (.str (stS x b (nx x b 2))) H'
theorem fin_not (x : W7) (b : Int) : decide (V.str (stS x b (nx x b 2)) = V.str "running") = false := by
  unfold nx
  rw [if_neg (by decide)]
  by_cases z : nought x b = true
  · rw [if_pos z]
    show decide (V.str (if nought x b = true then "by nought" else "running") = V.str "running") = false
    rw [if_pos z]; decide +kernel
  · rw [if_neg z]
    show decide (V.str "done" = V.str "running") = false
    decide +kernel
theorem ok_run {f fS : Addr} {fd fdS : FuncData} (F : FunD K "run" "Machine.run" sRun .none f fd) (GS : FnOk P w K mg base (CXE P w) 6 fS fdS ["machine"] (spStep K)) (mS : mg "do_step" = some (.ref fS)) (kS : PySem.W.keepIn K (.ref fS) = true) (bS : Binds K fdS ["machine"] []) :
    FnOk P w K mg base (CXE P w) 7 f fd ["self", "steps"] (spRun K) := by
  refine F.ok0 scRun (fun vs H Q E h => ?_) (fun cdv A outer s H vs Q E hr h => ?_)
  · obtain ⟨H0, d, x, a, b, rfl, _⟩ := h
    rfl
  · obtain ⟨H0, d, x, a, b, rfl, M, ha, hb, h, q⟩ := h
    refine ⟨_, pss_cons (ps_set (i := 2) scRun.nd rfl (Or.inl rfl) (pv 1))
      (pss_cons (ps_while PassesOwn.never (pw_and (pt_cmpR op_gt (pv 2) pe_int (nomark _)) (pw_and1 (pt_cmpR op_eq (pe_fld (pv 0) rfl) pe_str (nomark _)))).pt
        (pss_cons (ps_expr (pe_call GS hr (by rfl) mS kS bS .nil passE0 (pa_cons (pv 0) pa_nil))) (pss_one (ps_aug (i := 2) scRun.nd rfl (Or.inl rfl) pe_int ip_sub))))
      (pss_one (ps_ret (pe_fld (pv 0) rfl)))), ?_⟩
    refine ⟨_, rfl, ?_⟩
    dsimp only [gName, List.set]
    refine ⟨fun m σ H' => ∃ k : Int, 0 < k ∧ σ = [some (.ref d.m), some (.int 40), some (.int k)] ∧ ((∃ i, i ≤ 2 ∧ m = 3 - i ∧ 3 - (i : Int) < k ∧ SG H0 d x a b i H') ∨ (m = 0 ∧ SG H0 d x a b (nx x b 2) H')), ⟨3, 40, by decide, rfl, .inl ⟨0, by decide, rfl, by decide, h⟩⟩, ?_⟩
    rintro m σ H1 ⟨k, hk, rfl, hw⟩
    refine ⟨_, rfl, _, _, rfl, rfl, _, rfl, ?_⟩
    refine ite2 (fun _ => ?_) (fun z => absurd (decide_eq_true hk) z)
    rcases hw with ⟨i, hi, rfl, hki, h1⟩ | ⟨rfl, h1⟩
    · have e : stS x b i = "running" := by match i, hi with | 0, _ => rfl | 1, _ => rfl | 2, _ => rfl
      refine ⟨_, rfl, d.m, d.C, d.dx, _, _, rfl, h1.mo, M.cl, M.n7, m_standing _ _ _, rfl, _, rfl, ?_⟩
      rw [e]
      refine ite2 (fun _ => ?_) (fun z => absurd (by decide +kernel) z)
      refine ⟨fun σ' H' => σ' = [some (.ref d.m), some (.int 40), some (.int (k - 1))] ∧ SG H0 d x a b (nx x b i) H', fun σ' H' ⟨e1, e2⟩ => ?_, ?_⟩
      · by_cases hl : i < 2
        · have e3 : nx x b i = i + 1 := by unfold nx; rw [if_pos hl]
          rw [e3] at e2
          exact ⟨3 - (i + 1), by omega, k - 1, by omega, e1, .inl ⟨i + 1, by omega, rfl, by omega, e2⟩⟩
        · have e3 : i = 2 := by omega
          subst e3
          exact ⟨0, by omega, k - 1, by omega, e1, .inr ⟨rfl, e2⟩⟩
      · exact ⟨_, rfl, H0, d, x, a, b, i, rfl, M, ha, hb, hi, h1, fun H2 h2 => ⟨_, rfl, _, _, rfl, rfl, rfl, h2⟩⟩
    · refine ⟨_, rfl, d.m, d.C, d.dx, _, _, rfl, h1.mo, M.cl, M.n7, m_standing _ _ _, rfl, _, rfl, ?_⟩
      rw [fin_not]
      refine iteF ?_
      exact ⟨_, rfl, d.m, d.C, d.dx, _, _, rfl, h1.mo, M.cl, M.n7, m_standing _ _ _, q _ h1⟩
end
end K18

set_option maxRecDepth 100000
set_option linter.all false
set_option Elab.async false
set_option maxHeartbeats 4000000
namespace K18
open PySem L2 PyProof
abbrev sIsRef : Stmt := top 12
abbrev sVText : Stmt := top 17
abbrev sPieces : Stmt := top 18
abbrev sBare : Stmt := top 20
structure Hc (K : PySem.W.Frag) (C : Addr) : Prop where
  cl : Cls K C
  n1 : NoAttr K C "room"
  n2 : NoAttr K C "things"
  n3 : NoAttr K C "made_so_far"
structure GlW (mg : Str → Option Value) : Prop where
  isi : mg "isinstance" = none
  tuple : mg "tuple" = none
  bool : mg "bool" = none
  str : mg "str" = none
  list : mg "list" = none
  reversed : mg "reversed" = none
  len : mg "len" = none
  empty : mg "EMPTY" = some .none
  shown : ∃ t, mg "LONGEST_SHOWN" = some (.int 1000 t)
section
variable {P : Program} {w : World} {K : PySem.W.Frag} {mg : Str → Option Value} {base : Heap}
theorem scHpI : FnScope ["self", "room"] ["self", "room"] (defScope sHpI) := ⟨rfl, rfl, rfl, by decide +kernel, rfl, by decide +kernel, by decide +kernel⟩
def spHpI (C : Addr) : Sp := fun vs H Q _ => ∃ (p dx : Addr) (r : V), vs = [.ref p, r] ∧ H p = some (.ins C dx []) ∧ ∀ fs H', IS H p C dx fs H' → Q .non H'
theorem ok_hpI {C f : Addr} {fd : FuncData} (F : FunD K "__init__" "Heap.__init__" sHpI .none f fd) (M : Hc K C) : FnOk P w K mg base (CXE P w) 1 f fd ["self", "room"] (spHpI C) := by
  refine F.ok0 scHpI (fun vs H Q E h => ?_) (fun cdv A outer s H vs Q E hr h => ?_)
  · obtain ⟨p, dx, r, rfl, _⟩ := h
    rfl
  · obtain ⟨p, dx, r, rfl, hp, q⟩ := h
    refine ⟨_, pss_cons (ps_fld (pv 0) (pv 1) rfl) (pss_cons (ps_fld (pv 0) (pe_lst pa_nil) rfl) (pss_one (ps_fld (pv 0) pe_int rfl))), ?_⟩
    have i0 : IS H p C dx [] H := IS.start hp
    refine ⟨_, rfl, _, rfl, p, C, dx, [], rfl, i0.me, M.cl, M.n1, (by decide), ?_⟩
    have i1 : IS H p C dx ([("room", r)] : List (Str × V)) (upd H p (.ins C dx ([("room", r)] : List (Str × V)))) := i0.fld
    rw [show putF ("room" : Str) r [] = ([("room", r)] : List (Str × V)) from rfl]
    generalize upd H p (.ins C dx ([("room", r)] : List (Str × V))) = H1 at i1 ⊢
    refine ⟨(by show 0 ≤ sizeLine; decide), fun l hl => ?_⟩
    have i2 := i1.grow (Grow.put (o := .lst []) hl)
    generalize upd H1 l (.lst []) = H2 at i2 ⊢
    refine ⟨_, rfl, p, C, dx, _, rfl, i2.me, M.cl, M.n2, (by show 1 < 1000; decide), ?_⟩
    rw [putF_new (ks := ["room"]) (by decide +kernel) rfl]
    have i3 : IS H p C dx (([("room", r)] : List (Str × V)) ++ ([("things", .ref l)] : List (Str × V))) _ := i2.fld
    generalize upd H2 p (.ins C dx (([("room", r)] : List (Str × V)) ++ ([("things", .ref l)] : List (Str × V)))) = H3 at i3 ⊢
    refine ⟨_, rfl, p, C, dx, _, rfl, i3.me, M.cl, M.n3, (by show 2 < 1000; decide), ?_⟩
    exact q _ _ i3.fld
theorem scMaI : FnScope ["self", "code", "room"] ["self", "code", "room"] (defScope sMaI) := ⟨rfl, rfl, rfl, by decide +kernel, rfl, by decide +kernel, by decide +kernel⟩
def spMaI (C : Addr) : Sp := fun vs H Q _ => ∃ (m dx l0 : Addr) (cs : List V), vs = [.ref m, .ref l0, .int 8] ∧ H m = some (.ins C dx []) ∧ H l0 = some (.lst cs) ∧
  ∀ (d : Ad) H', d.C = C → d.m = m → d.dx = dx → IS H m C dx (mf d 0 "running") H' → H' d.st = some (.lst []) → H' d.pd = some (.lst []) → H' d.l = some (.lst cs) → d.pd ≠ d.st → d.l ≠ d.st → H d.st = none → Q .non H'
theorem ok_maI {C CH f fH : Addr} {fd fdH : FuncData} (F : FunD K "__init__" "Machine.__init__" sMaI .none f fd) (M : Mc K C) (G : GlM K mg) (GH : FnOk P w K mg base (CXE P w) 1 fH fdH ["self", "room"] (spHpI CH)) (mH : mg "Heap" = some (.ref CH)) (KH : Mk K CH fH) (bH : Binds K fdH ["self", "room"] []) :
    FnOk P w K mg base (CXE P w) 3 f fd ["self", "code", "room"] (spMaI C) := by
  refine F.ok0 scMaI (fun vs H Q E h => ?_) (fun cdv A outer s H vs Q E hr h => ?_)
  · obtain ⟨m, dx, l0, cs, rfl, _⟩ := h
    rfl
  · obtain ⟨m, dx, l0, cs, rfl, hm, hl0, q⟩ := h
    obtain ⟨t1, m1⟩ := G.leastR
    obtain ⟨t2, m2⟩ := G.greatR
    refine ⟨_, pss_cons (ps_if (pw_or (pt_cmpR op_lt (pv 2) (pe_glob (v := .int 8) (by rfl) m1 ⟨t1, rfl⟩) (nomark _)) (pw_or1 (pt_cmpR op_gt (pv 2) (pe_glob (v := .int 400) (by rfl) m2 ⟨t2, rfl⟩) (nomark _)))).pt pss_never pss_nil)
      (pss_cons (ps_fld (pv 0) (pe_callTy call_list_of (by rfl) G.list PyProof.Rows.boot_list (pa_cons (pv 1) pa_nil)) rfl)
      (pss_cons (ps_fld (pv 0) (pe_make KH GH hr (by rfl) mH bH .nil passE0 (pa_cons (pv 2) pa_nil)) rfl)
      (pss_cons (ps_fld (pv 0) (pe_lst pa_nil) rfl)
      (pss_cons (ps_fld (pv 0) pe_int rfl)
      (pss_cons (ps_fld (pv 0) pe_int rfl)
      (pss_cons (ps_fld (pv 0) (pe_lst pa_nil) rfl)
      (pss_one (ps_fld (pv 0) pe_str rfl)))))))), ?_⟩
    have i0 : IS H m C dx [] H := IS.start hm
    refine ⟨_, rfl, _, _, rfl, rfl, _, rfl, ?_⟩
    refine ite2 (fun z => absurd z (by decide)) (fun _ => ?_)
    refine ⟨_, rfl, _, _, rfl, rfl, _, rfl, ?_⟩
    refine ite2 (fun z => absurd z (by decide)) (fun _ => ?_)
    refine ⟨_, rfl, l0, cs, rfl, .inl (SqL.of hl0), fun l hl => ?_⟩
    have i1 := i0.grow (Grow.put (o := .lst cs) hl)
    have el : (upd H l (.lst cs)) l = some (.lst cs) := upd_same
    generalize upd H l (.lst cs) = H1 at i1 el ⊢
    refine ⟨_, rfl, m, C, dx, _, rfl, i1.me, M.cl, M.n1, (by show 0 < 1000; decide), ?_⟩
    rw [show putF ("code" : Str) (V.ref l) [] = ([("code", .ref l)] : List (Str × V)) from rfl]
    have i2 : IS H m C dx ([("code", .ref l)] : List (Str × V)) _ := i1.fld
    have el2 := lst_fld (gs := ([("code", .ref l)] : List (Str × V))) i1.me el
    generalize upd H1 m (.ins C dx ([("code", .ref l)] : List (Str × V))) = H2 at i2 el2 ⊢
    refine ⟨_, rfl, fun hp dh hhp hdh nhp => ?_⟩
    have gg : Grow H2 (upd (upd H2 dh (.own hp)) hp (.ins CH dh [])) := (Grow.put hdh).trans (Grow.put (by rw [upd_ne nhp.symm]; exact hhp))
    have me : (upd (upd H2 dh (.own hp)) hp (.ins CH dh [])) hp = some (.ins CH dh []) := upd_same
    have i3 := i2.grow gg
    have el3 := gg.same _ _ el2
    have mhp : m ≠ hp := ne_of_none i2.me hhp
    have lhp : l ≠ hp := ne_of_none el2 hhp
    generalize upd (upd H2 dh (.own hp)) hp (.ins CH dh []) = H3 at i3 el3 me ⊢
    refine ⟨hp, dh, _, rfl, me, fun fs H4 i4 => ⟨rfl, ?_⟩⟩
    have kk : ∀ b o, b ≠ m → H b = some o → H4 b = some o := by
      intro b o hb e
      refine i4.keep b o (fun z => ?_) (i3.keep b o hb e)
      subst z
      have := i2.keep b o hb e
      rw [hhp] at this
      cases this
    have i5 : IS H m C dx ([("code", .ref l)] : List (Str × V)) H4 := ⟨i4.keep _ _ mhp i3.me, kk, fun b e => i3.none b (i4.none b e)⟩
    have el5 := i4.keep _ _ lhp el3
    refine ⟨_, rfl, m, C, dx, _, rfl, i5.me, M.cl, M.n2, (by show 1 < 1000; decide), ?_⟩
    rw [putF_new (ks := ["code"]) (by decide +kernel) rfl]
    have i6 : IS H m C dx (([("code", .ref l)] : List (Str × V)) ++ ([("heap", .ref hp)] : List (Str × V))) _ := i5.fld
    have el6 := lst_fld (gs := ([("code", .ref l)] : List (Str × V)) ++ ([("heap", .ref hp)] : List (Str × V))) i5.me el5
    generalize upd H4 m (.ins C dx (([("code", .ref l)] : List (Str × V)) ++ ([("heap", .ref hp)] : List (Str × V)))) = H6 at i6 el6 ⊢
    refine ⟨(by show 0 ≤ sizeLine; decide), fun st hst => ?_⟩
    have i7 := i6.grow (Grow.put (o := .lst []) hst)
    have lst' : l ≠ st := ne_of_none el6 hst
    have el7 := (Grow.put (o := .lst []) hst).same _ _ el6
    have es7 : (upd H6 st (.lst [])) st = some (.lst []) := upd_same
    have ns : H st = none := i6.none _ hst
    generalize upd H6 st (.lst []) = H7 at i7 el7 es7 ⊢
    refine ⟨_, rfl, m, C, dx, _, rfl, i7.me, M.cl, M.n3, (by show 2 < 1000; decide), ?_⟩
    rw [putF_new (ks := ["code", "heap"]) (by decide +kernel) rfl]
    have i8 : IS H m C dx ((([("code", .ref l)] : List (Str × V)) ++ ([("heap", .ref hp)] : List (Str × V))) ++ ([("stack", .ref st)] : List (Str × V))) _ := i7.fld
    have el8 := lst_fld (gs := (([("code", .ref l)] : List (Str × V)) ++ ([("heap", .ref hp)] : List (Str × V))) ++ ([("stack", .ref st)] : List (Str × V))) i7.me el7
    have es8 := lst_fld (gs := (([("code", .ref l)] : List (Str × V)) ++ ([("heap", .ref hp)] : List (Str × V))) ++ ([("stack", .ref st)] : List (Str × V))) i7.me es7
    generalize upd H7 m (.ins C dx ((([("code", .ref l)] : List (Str × V)) ++ ([("heap", .ref hp)] : List (Str × V))) ++ ([("stack", .ref st)] : List (Str × V)))) = H8 at i8 el8 es8 ⊢
    refine ⟨_, rfl, m, C, dx, _, rfl, i8.me, M.cl, M.n4, (by show 3 < 1000; decide), ?_⟩
    rw [putF_new (ks := ["code", "heap", "stack"]) (by decide +kernel) rfl]
    have i9 : IS H m C dx (((([("code", .ref l)] : List (Str × V)) ++ ([("heap", .ref hp)] : List (Str × V))) ++ ([("stack", .ref st)] : List (Str × V))) ++ ([("base", .int 0)] : List (Str × V))) _ := i8.fld
    have el9 := lst_fld (gs := ((([("code", .ref l)] : List (Str × V)) ++ ([("heap", .ref hp)] : List (Str × V))) ++ ([("stack", .ref st)] : List (Str × V))) ++ ([("base", .int 0)] : List (Str × V))) i8.me el8
    have es9 := lst_fld (gs := ((([("code", .ref l)] : List (Str × V)) ++ ([("heap", .ref hp)] : List (Str × V))) ++ ([("stack", .ref st)] : List (Str × V))) ++ ([("base", .int 0)] : List (Str × V))) i8.me es8
    generalize upd H8 m (.ins C dx (((([("code", .ref l)] : List (Str × V)) ++ ([("heap", .ref hp)] : List (Str × V))) ++ ([("stack", .ref st)] : List (Str × V))) ++ ([("base", .int 0)] : List (Str × V)))) = H9 at i9 el9 es9 ⊢
    refine ⟨_, rfl, m, C, dx, _, rfl, i9.me, M.cl, M.n5, (by show 4 < 1000; decide), ?_⟩
    rw [putF_new (ks := ["code", "heap", "stack", "base"]) (by decide +kernel) rfl]
    have i10 : IS H m C dx ((((([("code", .ref l)] : List (Str × V)) ++ ([("heap", .ref hp)] : List (Str × V))) ++ ([("stack", .ref st)] : List (Str × V))) ++ ([("base", .int 0)] : List (Str × V))) ++ ([("place", .int 0)] : List (Str × V))) _ := i9.fld
    have el10 := lst_fld (gs := (((([("code", .ref l)] : List (Str × V)) ++ ([("heap", .ref hp)] : List (Str × V))) ++ ([("stack", .ref st)] : List (Str × V))) ++ ([("base", .int 0)] : List (Str × V))) ++ ([("place", .int 0)] : List (Str × V))) i9.me el9
    have es10 := lst_fld (gs := (((([("code", .ref l)] : List (Str × V)) ++ ([("heap", .ref hp)] : List (Str × V))) ++ ([("stack", .ref st)] : List (Str × V))) ++ ([("base", .int 0)] : List (Str × V))) ++ ([("place", .int 0)] : List (Str × V))) i9.me es9
    generalize upd H9 m (.ins C dx ((((([("code", .ref l)] : List (Str × V)) ++ ([("heap", .ref hp)] : List (Str × V))) ++ ([("stack", .ref st)] : List (Str × V))) ++ ([("base", .int 0)] : List (Str × V))) ++ ([("place", .int 0)] : List (Str × V)))) = H10 at i10 el10 es10 ⊢
    refine ⟨(by show 0 ≤ sizeLine; decide), fun pd hpd => ?_⟩
    have i11 := i10.grow (Grow.put (o := .lst []) hpd)
    have pdst : pd ≠ st := (ne_of_none es10 hpd).symm
    have el11 := (Grow.put (o := .lst []) hpd).same _ _ el10
    have es11 := (Grow.put (o := .lst []) hpd).same _ _ es10
    have ep11 : (upd H10 pd (.lst [])) pd = some (.lst []) := upd_same
    generalize upd H10 pd (.lst []) = H11 at i11 el11 es11 ep11 ⊢
    refine ⟨_, rfl, m, C, dx, _, rfl, i11.me, M.cl, M.n6, (by show 5 < 1000; decide), ?_⟩
    rw [putF_new (ks := ["code", "heap", "stack", "base", "place"]) (by decide +kernel) rfl]
    have i12 : IS H m C dx (((((([("code", .ref l)] : List (Str × V)) ++ ([("heap", .ref hp)] : List (Str × V))) ++ ([("stack", .ref st)] : List (Str × V))) ++ ([("base", .int 0)] : List (Str × V))) ++ ([("place", .int 0)] : List (Str × V))) ++ ([("pending", .ref pd)] : List (Str × V))) _ := i11.fld
    have el12 := lst_fld (gs := ((((([("code", .ref l)] : List (Str × V)) ++ ([("heap", .ref hp)] : List (Str × V))) ++ ([("stack", .ref st)] : List (Str × V))) ++ ([("base", .int 0)] : List (Str × V))) ++ ([("place", .int 0)] : List (Str × V))) ++ ([("pending", .ref pd)] : List (Str × V))) i11.me el11
    have es12 := lst_fld (gs := ((((([("code", .ref l)] : List (Str × V)) ++ ([("heap", .ref hp)] : List (Str × V))) ++ ([("stack", .ref st)] : List (Str × V))) ++ ([("base", .int 0)] : List (Str × V))) ++ ([("place", .int 0)] : List (Str × V))) ++ ([("pending", .ref pd)] : List (Str × V))) i11.me es11
    have ep12 := lst_fld (gs := ((((([("code", .ref l)] : List (Str × V)) ++ ([("heap", .ref hp)] : List (Str × V))) ++ ([("stack", .ref st)] : List (Str × V))) ++ ([("base", .int 0)] : List (Str × V))) ++ ([("place", .int 0)] : List (Str × V))) ++ ([("pending", .ref pd)] : List (Str × V))) i11.me ep11
    generalize upd H11 m (.ins C dx (((((([("code", .ref l)] : List (Str × V)) ++ ([("heap", .ref hp)] : List (Str × V))) ++ ([("stack", .ref st)] : List (Str × V))) ++ ([("base", .int 0)] : List (Str × V))) ++ ([("place", .int 0)] : List (Str × V))) ++ ([("pending", .ref pd)] : List (Str × V)))) = H12 at i12 el12 es12 ep12 ⊢
    refine ⟨_, rfl, m, C, dx, _, rfl, i12.me, M.cl, M.n7, (by show 6 < 1000; decide), ?_⟩
    rw [putF_new (ks := ["code", "heap", "stack", "base", "place", "pending"]) (by decide +kernel) rfl]
    have i13 : IS H m C dx (mf ⟨C, m, dx, l, hp, st, pd, 0, 0, 0, 0⟩ 0 "running") _ := i12.fld
    exact q ⟨C, m, dx, l, hp, st, pd, 0, 0, 0, 0⟩ _ rfl rfl rfl i13 (lst_fld i12.me es12) (lst_fld i12.me ep12) (lst_fld i12.me el12) pdst lst' ns
theorem scIsRef : FnScope ["value"] ["value"] (defScope sIsRef) := ⟨rfl, rfl, rfl, by decide +kernel, rfl, by decide +kernel, by decide +kernel⟩
def Bare (v : V) : Prop := (∃ n, In64 n ∧ v = .int n) ∨ ∃ b, v = .bl b
def txt : V → Str
  | .int n => toString n
  | .bl true => "true"
  | .bl false => "false"
  | _ => ""
structure Isi (K : PySem.W.Frag) : Prop where
  it : PySem.W.kitOne K (.type "int") (.type "tuple") = some false
  bt : PySem.W.kitOne K (.type "bool") (.type "tuple") = some false
  ib : PySem.W.kitOne K (.type "int") (.type "bool") = some false
  bb : PySem.W.kitOne K (.type "bool") (.type "bool") = some true
theorem Bare.dt {v : V} (h : Bare v) : ∃ dd : Dt, (tyD dd = "int" ∨ tyD dd = "bool") ∧ (∀ (K : PySem.W.Frag) (H : Hp), DtAt K H dd v) ∧ (tyD dd = "bool" ↔ ∃ b, v = .bl b) := by
  rcases h with ⟨n, _, rfl⟩ | ⟨b, rfl⟩
  · exact ⟨.int n, .inl rfl, fun K H => by simp [DtAt], ⟨fun z => by have z' : ("int" : String) = "bool" := z; exact absurd z' (by decide), fun ⟨b, z⟩ => by cases z⟩⟩
  · exact ⟨.bl b, .inr rfl, fun K H => by simp [DtAt], ⟨fun _ => ⟨b, rfl⟩, fun _ => rfl⟩⟩
def spIsRef : Sp := fun vs H Q _ => ∃ v, vs = [v] ∧ Bare v ∧ Q (.bl false) H
theorem ok_isref {f : Addr} {fd : FuncData} (F : FunD K "is_reference" "is_reference" sIsRef .none f fd) (G : GlW mg) (I : Isi K) : FnOk P w K mg base (CXE P w) 1 f fd ["value"] spIsRef := by
  refine F.ok0 scIsRef (fun vs H Q E h => ?_) (fun cdv A outer s H vs Q E hr h => ?_)
  · obtain ⟨v, rfl, _⟩ := h
    rfl
  · obtain ⟨v, rfl, hv, q⟩ := h
    refine ⟨_, pss_one (ps_ret (pe_callB call_isD (by rfl) G.isi PyProof.Rows.boot_isinstance (pa_cons (pv 0) (pa_cons (pe_bltn (v := .ty "tuple") (by rfl) G.tuple PyProof.Rows.boot_tuple rfl) pa_nil)))), ?_⟩
    obtain ⟨dd, h1, h2, _⟩ := hv.dt
    refine ⟨_, rfl, dd, v, "tuple", false, rfl, h2 _ _, ?_, q⟩
    rcases h1 with h1 | h1
    · rw [h1]; exact I.it
    · rw [h1]; exact I.bt
theorem scBare : FnScope ["value"] ["value"] (defScope sBare) := ⟨rfl, rfl, rfl, by decide +kernel, rfl, by decide +kernel, by decide +kernel⟩
def spBare : Sp := fun vs H Q _ => ∃ v, vs = [v] ∧ Bare v ∧ Q (.str (txt v)) H
theorem in64_log {n : Int} (h : In64 n) : n.natAbs.log2 < 64 := log_lt (by unfold In64 at h; omega) (by decide)
theorem ok_bare {f : Addr} {fd : FuncData} (F : FunD K "bare_text" "bare_text" sBare .none f fd) (G : GlW mg) (I : Isi K) : FnOk P w K mg base (CXE P w) 1 f fd ["value"] spBare := by
  refine F.ok0 scBare (fun vs H Q E h => ?_) (fun cdv A outer s H vs Q E hr h => ?_)
  · obtain ⟨v, rfl, _⟩ := h
    rfl
  · obtain ⟨v, rfl, hv, q⟩ := h
    refine ⟨_, pss_cons (ps_if (pt_cmpR op_eq (pv 0) (pe_glob (v := .non) (by rfl) G.empty rfl) (nomark _)) pss_never pss_nil)
      (pss_cons (ps_if (pt_val (pe_callB call_isD (by rfl) G.isi PyProof.Rows.boot_isinstance (pa_cons (pv 0) (pa_cons (pe_bltn (v := .ty "bool") (by rfl) G.bool PyProof.Rows.boot_bool rfl) pa_nil)))) (pss_one (ps_ret (pe_ifExp (pt_truth (pv 0) (fun _ => rfl)) pe_str pe_str))) pss_nil)
      (pss_one (ps_ret (pe_callTy call_str_int (by rfl) G.str PyProof.Rows.boot_str (pa_cons (pv 0) pa_nil))))), ?_⟩
    rcases hv with ⟨n, hn, rfl⟩ | ⟨b, rfl⟩
    · refine ⟨_, rfl, rfl, _, rfl, ?_⟩
      refine ite2 (fun z => absurd z (by simp)) (fun _ => ?_)
      refine ⟨_, rfl, .int n, _, "bool", false, rfl, (by simp [DtAt]), I.ib, _, rfl, iteF ?_⟩
      exact ⟨_, rfl, n, rfl, Nat.lt_trans (in64_log hn) (by decide), q⟩
    · refine ⟨_, rfl, rfl, _, rfl, ?_⟩
      refine ite2 (fun z => absurd z (by simp)) (fun _ => ?_)
      refine ⟨_, rfl, .bl b, _, "bool", true, rfl, (by simp [DtAt]), I.bb, _, rfl, iteT ?_⟩
      refine ⟨_, rfl, b, rfl, ?_⟩
      cases b
      · exact iteF q
      · exact iteT q
theorem scPieces : FnScope ["heap", "piece", "value", "sort", "held"] ["heap", "piece"] (defScope sPieces) := ⟨rfl, rfl, rfl, by decide +kernel, rfl, by decide +kernel, by decide +kernel⟩
def spPieces (K : PySem.W.Frag) : Sp := fun vs H Q _ => ∃ (hp v : V) (p : Addr), vs = [hp, .ref p] ∧ SqT K H p [.str "value", v] ∧ Bare v ∧ ∀ l c H', Grow H H' → H' l = some (.lst [.ref c]) → H' c = some (.tup [.str "text", .str (txt v)]) → Q (.ref l) H'
theorem ok_pieces {f fR fB : Addr} {fd fdR fdB : FuncData} (F : FunD K "pieces_of" "pieces_of" sPieces .none f fd) (GR : FnOk P w K mg base (CXE P w) 1 fR fdR ["value"] spIsRef) (mR : mg "is_reference" = some (.ref fR)) (kR : PySem.W.keepIn K (.ref fR) = true) (bR : Binds K fdR ["value"] [])
    (GB : FnOk P w K mg base (CXE P w) 1 fB fdB ["value"] spBare) (mB : mg "bare_text" = some (.ref fB)) (kB : PySem.W.keepIn K (.ref fB) = true) (bB : Binds K fdB ["value"] []) : FnOk P w K mg base (CXE P w) 2 f fd ["heap", "piece"] (spPieces K) := by
  refine F.ok0 scPieces (fun vs H Q E h => ?_) (fun cdv A outer s H vs Q E hr h => ?_)
  · obtain ⟨hp, v, p, rfl, _⟩ := h
    rfl
  · obtain ⟨hp, v, p, rfl, h1, hv, q⟩ := h
    refine ⟨_, pss_cons (ps_set (i := 2) scPieces.nd rfl (Or.inl rfl) (pe_ix ix_tup (pv 1) pe_int (fun _ _ => rfl)))
      (pss_cons (ps_if (pt_cmpR op_eq (pe_ix ix_tup (pv 1) pe_int (fun _ _ => rfl)) pe_str (nomark _)) pss_never pss_nil)
      (pss_cons (ps_if (pt_not (pt_val (pe_call GR hr (by rfl) mR kR bR .nil passE0 (pa_cons (pv 2) pa_nil)))) (pss_one (ps_ret (pe_lst (pa_cons (pe_tup (pa_cons pe_str (pa_cons (pe_call GB hr (by rfl) mB kB bB .nil passE0 (pa_cons (pv 2) pa_nil)) pa_nil))) pa_nil)))) pss_nil)
      pss_never)), ?_⟩
    refine ⟨_, rfl, p, _, _, v, rfl, rfl, h1, atI_nat (j := 1) rfl, ?_⟩
    dsimp only [gName, List.set]
    refine ⟨_, rfl, p, _, _, .str "value", rfl, rfl, h1, atI_nat (j := 0) rfl, rfl, _, rfl, ?_⟩
    refine ite2 (fun z => absurd z (by decide +kernel)) (fun _ => ?_)
    refine ⟨_, rfl, v, rfl, hv, false, rfl, iteT ?_⟩
    refine ⟨_, rfl, v, rfl, hv, (by show 2 ≤ sizeLine; decide), fun c hc => ?_⟩
    have g1 : Grow H (upd H c (.tup [.str "text", .str (txt v)])) := Grow.put hc
    have e1 : (upd H c (.tup [.str "text", .str (txt v)])) c = some (.tup [.str "text", .str (txt v)]) := upd_same
    generalize upd H c (.tup [.str "text", .str (txt v)]) = H1 at g1 e1 ⊢
    refine ⟨(by show 1 ≤ sizeLine; decide), fun l hl => ?_⟩
    have g2 : Grow H1 (upd H1 l (.lst [.ref c])) := Grow.put hl
    exact q l c _ (g1.trans g2) upd_same (g2.same _ _ e1)
end
end K18

set_option maxRecDepth 100000
set_option linter.all false
set_option Elab.async false
set_option maxHeartbeats 4000000
namespace K18
open PySem L2 PyProof
theorem txt_len {v : V} (h : Bare v) : (txt v).length ≤ 100 := by
  rcases h with ⟨n, hn, rfl⟩ | ⟨b, rfl⟩
  · have e := int_text_length_le (k := 64) (by decide) (in64_log hn)
    show (Str.ofString (toString n)).length ≤ 100
    rw [ofString_length]; omega
  · cases b <;> decide +kernel
theorem join_one (t : Str) : Txt.join (Str.ofString "") [t] = t := by
  apply (show ∀ {x y : Str}, x.cps = y.cps → x = y from fun {x y} h => by cases x; cases y; exact congrArg _ h)
  simp [Txt.join, Builtin.Str.glued]
section
variable {P : Program} {w : World} {K : PySem.W.Frag} {mg : Str → Option Value} {base : Heap}
theorem scVText : FnScope ["heap", "value", "texts", "left", "waiting", "piece"] ["heap", "value"] (defScope sVText) := ⟨rfl, rfl, rfl, by decide +kernel, rfl, by decide +kernel, by decide +kernel⟩
def spVText : Sp := fun vs H Q _ => ∃ hp v : V, vs = [hp, v] ∧ Bare v ∧ ∀ H', Grow H H' → Q (.str (txt v)) H'
theorem ok_vtext {f fP : Addr} {fd fdP : FuncData} (F : FunD K "value_text" "value_text" sVText .none f fd) (G : GlW mg) (GP : FnOk P w K mg base (CXE P w) 2 fP fdP ["heap", "piece"] (spPieces K)) (mP : mg "pieces_of" = some (.ref fP)) (kP : PySem.W.keepIn K (.ref fP) = true) (bP : Binds K fdP ["heap", "piece"] []) :
    FnOk P w K mg base (CXE P w) 3 f fd ["heap", "value"] spVText := by
  refine F.ok0 scVText (fun vs H Q E h => ?_) (fun cdv A outer s H vs Q E hr h => ?_)
  · obtain ⟨hp, v, rfl, _⟩ := h
    rfl
  · obtain ⟨hp, v, rfl, hv, q⟩ := h
    obtain ⟨t1, m1⟩ := G.shown
    have hl := txt_len hv
    refine ⟨_, pss_cons (ps_set (i := 2) scVText.nd rfl (Or.inl rfl) (pe_lst pa_nil))
      (pss_cons (ps_set (i := 3) scVText.nd rfl (Or.inl rfl) (pe_glob (v := .int 1000) (by rfl) m1 ⟨t1, rfl⟩))
      (pss_cons (ps_set (i := 4) scVText.nd rfl (Or.inl rfl) (pe_lst (pa_cons (pe_tup (pa_cons pe_str (pa_cons (pv 1) pa_nil))) pa_nil)))
      (pss_cons (ps_while PassesOwn.never (pt_truth (pv 4) (fun _ => rfl))
        (pss_cons (ps_set (i := 5) scVText.nd rfl (Or.inl rfl) (pe_bm0 PySem.F.plainAttrs_list PySem.F.slot_list_pop PySem.F.type_list_pop mt_pop (pv 4)))
        (pss_one (ps_if (pt_cmpR op_eq (pe_ix ix_tup (pv 5) pe_int (fun _ _ => rfl)) pe_str (nomark _))
          (pss_cons (ps_expr (pe_bm PySem.F.plainAttrs_list PySem.F.slot_list_append PySem.F.type_list_append mt_append (pv 2) (pa_cons (pe_ix ix_tup (pv 5) pe_int (fun _ _ => rfl)) pa_nil)))
          (pss_cons (ps_aug (i := 3) scVText.nd rfl (Or.inl rfl) (pe_callB call_len_str (by rfl) G.len PySem.boot_len (pa_cons (pe_ix ix_tup (pv 5) pe_int (fun _ _ => rfl)) pa_nil)) ip_sub)
          (pss_one (ps_if (pt_cmpR op_lt (pv 3) pe_int (nomark _)) pss_never pss_nil))))
          (pss_one (ps_expr (pe_bm PySem.F.plainAttrs_list PySem.F.slot_list_extend PySem.F.type_list_extend mt_extend (pv 4) (pa_cons (pe_rev rfl (by rfl) G.list (by rfl) G.reversed (pa_cons (pe_call GP hr (by rfl) mP kP bP .nil passE0 (pa_cons (pv 0) (pa_cons (pv 5) pa_nil))) pa_nil)) pa_nil))))))))
      (pss_one (ps_ret (pe_bm PySem.F.plainAttrs_str PySem.F.slot_str_join PySem.F.type_str_join mt_join pe_str (pa_cons (pv 2) pa_nil))))))), ?_⟩
    refine ⟨(by show 0 ≤ sizeLine; decide), fun tx htx => ?_⟩
    dsimp only [gName, List.set]
    have g1 : Grow H (upd H tx (.lst [])) := Grow.put htx
    have e1 : (upd H tx (.lst [])) tx = some (.lst []) := upd_same
    generalize upd H tx (.lst []) = H1 at g1 e1 ⊢
    show tSeq _ _ _ _ H1
    refine ⟨_, rfl, (by show 2 ≤ sizeLine; decide), fun p hp' => ?_⟩
    have g2 : Grow H1 (upd H1 p (.tup [.str "value", v])) := Grow.put hp'
    have e2 : (upd H1 p (.tup [.str "value", v])) p = some (.tup [.str "value", v]) := upd_same
    generalize upd H1 p (.tup [.str "value", v]) = H2 at g2 e2 ⊢
    refine ⟨(by show 1 ≤ sizeLine; decide), fun wt hwt => ?_⟩
    dsimp only [gName, List.set]
    have g3 : Grow H2 (upd H2 wt (.lst [.ref p])) := Grow.put hwt
    have e3 : (upd H2 wt (.lst [.ref p])) wt = some (.lst [.ref p]) := upd_same
    have nw : H wt = none := (g1.trans g2).none _ hwt
    have txw : tx ≠ wt := ne_of_none (g2.same _ _ e1) hwt
    generalize upd H2 wt (.lst [.ref p]) = H3 at g3 e3 ⊢
    have g03 := (g1.trans g2).trans g3
    refine ⟨fun m σ H' => ∃ (o5 : Option V) (lf : Int) (xs ys : List V), σ = [some hp, some v, some (.ref tx), some (.int lf), some (.ref wt), o5] ∧ Grow H H' ∧ H' tx = some (.lst xs) ∧ H' wt = some (.lst ys) ∧
      ((m = 2 ∧ lf = 1000 ∧ xs = [] ∧ ys = [.ref p] ∧ H' p = some (.tup [.str "value", v])) ∨ (m = 1 ∧ lf = 1000 ∧ xs = [] ∧ ∃ c, ys = [.ref c] ∧ H' c = some (.tup [.str "text", .str (txt v)])) ∨ (m = 0 ∧ xs = [.str (txt v)] ∧ ys = [])),
      ⟨2, _, _, _, _, rfl, g03, (g2.trans g3).same _ _ e1, e3, .inl ⟨rfl, rfl, rfl, rfl, g3.same _ _ e2⟩⟩, ?_⟩
    rintro m σ H4 ⟨o5, lf, xs, ys, rfl, g4, e4, e5, hw⟩
    rcases hw with ⟨rfl, rfl, rfl, rfl, e6⟩ | ⟨rfl, rfl, rfl, c, rfl, e6⟩ | ⟨rfl, rfl, rfl⟩
    ·
      refine ⟨_, rfl, true, .inl ⟨_, SqL.of e5, rfl⟩, iteT ?_⟩
      refine ⟨fun σ' H' => ∃ (o5 : Option V) (c : Addr), σ' = [some hp, some v, some (.ref tx), some (.int 1000), some (.ref wt), o5] ∧ Grow H H' ∧ H' tx = some (.lst []) ∧ H' wt = some (.lst [.ref c]) ∧ H' c = some (.tup [.str "text", .str (txt v)]),
        fun σ' H' ⟨o5, c, a1, a2, a3, a4, a5⟩ => ⟨1, by decide, o5, 1000, [], [.ref c], a1, a2, a3, a4, .inr (.inl ⟨rfl, rfl, rfl, c, rfl, a5⟩)⟩, ?_⟩
      refine ⟨_, rfl, .inl ⟨rfl, _, SqL.of e5⟩, wt, _, .ref p, rfl, rfl, e5, rfl, ?_⟩
      dsimp only [gName, List.set]
      have g5 : Grow H (upd H4 wt (.lst [])) := g4.set nw
      have a1 : (upd H4 wt (.lst [])) tx = some (.lst []) := (upd_ne txw).trans e4
      have a2 : (upd H4 wt (.lst [])) wt = some (.lst []) := upd_same
      have a3 : (upd H4 wt (.lst [])) p = some (.tup [.str "value", v]) := (upd_ne (ne_of e6 e5 (by intro z; cases z))).trans e6
      show tIfS _ _ _ _ _ (upd H4 wt (.lst []))
      generalize upd H4 wt (.lst []) = H5 at g5 a1 a2 a3 ⊢
      refine ⟨_, rfl, p, _, _, .str "value", rfl, rfl, SqT.of a3, atI_nat (j := 0) rfl, rfl, _, rfl, ?_⟩
      refine ite2 (fun z => absurd z (by decide +kernel)) (fun _ => ?_)
      refine ⟨_, rfl, .inl ⟨rfl, _, SqL.of a2⟩, _, rfl, _, rfl, hp, v, p, rfl, SqT.of a3, hv, fun l c H6 g6 b1 b2 => ?_⟩
      refine ⟨l, _, rfl, SqL.of b1, fun l2 hl2 => ?_⟩
      have g7 : Grow H6 (upd H6 l2 (.lst ([.ref c] : List V).reverse)) := Grow.put hl2
      have b3 : (upd H6 l2 (.lst ([.ref c] : List V).reverse)) l2 = some (.lst [.ref c]) := upd_same
      have b4 := g7.same _ _ b2
      have b5 := (g6.trans g7).same _ _ a2
      have b6 := (g6.trans g7).same _ _ a1
      have g8 := (g5.trans g6).trans g7
      generalize upd H6 l2 (.lst ([.ref c] : List V).reverse) = H7 at g7 b3 b4 b5 b6 g8 ⊢
      refine ⟨wt, l2, [], _, rfl, rfl, b5, b3, (by show 1 ≤ sizeLine; decide), ?_⟩
      exact ⟨_, c, rfl, g8.set nw, (upd_ne txw).trans b6, upd_same, (upd_ne (ne_of b4 b5 (by intro z; cases z))).trans b4⟩
    ·
      refine ⟨_, rfl, true, .inl ⟨_, SqL.of e5, rfl⟩, iteT ?_⟩
      refine ⟨fun σ' H' => ∃ (o5 : Option V) (lf : Int), σ' = [some hp, some v, some (.ref tx), some (.int lf), some (.ref wt), o5] ∧ Grow H H' ∧ H' tx = some (.lst [.str (txt v)]) ∧ H' wt = some (.lst []),
        fun σ' H' ⟨o5, lf, a1, a2, a3, a4⟩ => ⟨0, by decide, o5, lf, _, [], a1, a2, a3, a4, .inr (.inr ⟨rfl, rfl, rfl⟩)⟩, ?_⟩
      refine ⟨_, rfl, .inl ⟨rfl, _, SqL.of e5⟩, wt, _, .ref c, rfl, rfl, e5, rfl, ?_⟩
      dsimp only [gName, List.set]
      have g5 : Grow H (upd H4 wt (.lst [])) := g4.set nw
      have a1 : (upd H4 wt (.lst [])) tx = some (.lst []) := (upd_ne txw).trans e4
      have a2 : (upd H4 wt (.lst [])) wt = some (.lst []) := upd_same
      have a3 : (upd H4 wt (.lst [])) c = some (.tup [.str "text", .str (txt v)]) := (upd_ne (ne_of e6 e5 (by intro z; cases z))).trans e6
      show tIfS _ _ _ _ _ (upd H4 wt (.lst []))
      generalize upd H4 wt (.lst []) = H5 at g5 a1 a2 a3 ⊢
      refine ⟨_, rfl, c, _, _, .str "text", rfl, rfl, SqT.of a3, atI_nat (j := 0) rfl, rfl, _, rfl, ?_⟩
      refine ite2 (fun _ => ?_) (fun z => absurd (by decide +kernel) z)
      refine ⟨_, rfl, .inl ⟨rfl, _, SqL.of a1⟩, _, rfl, c, _, _, .str (txt v), rfl, rfl, SqT.of a3, atI_nat (j := 1) rfl, tx, [], _, rfl, rfl, a1, (by show 0 < sizeLine; decide), ?_⟩
      have g6 : Grow H (upd H5 tx (.lst ([] ++ [.str (txt v)]))) := g5.set htx
      have b1 : (upd H5 tx (.lst ([] ++ [.str (txt v)]))) tx = some (.lst [.str (txt v)]) := upd_same
      have b2 : (upd H5 tx (.lst ([] ++ [.str (txt v)]))) wt = some (.lst []) := (upd_ne txw.symm).trans a2
      have b3 : (upd H5 tx (.lst ([] ++ [.str (txt v)]))) c = some (.tup [.str "text", .str (txt v)]) := (upd_ne (ne_of a3 a1 (by intro z; cases z))).trans a3
      generalize upd H5 tx (.lst ([] ++ [.str (txt v)])) = H6 at g6 b1 b2 b3 ⊢
      refine ⟨_, rfl, _, rfl, c, _, _, .str (txt v), rfl, rfl, SqT.of b3, atI_nat (j := 1) rfl, _, rfl, (by rw [sizeLine_eq]; omega), _, _, rfl, rfl, ?_⟩
      dsimp only [gName, List.set]
      refine ⟨_, rfl, _, _, rfl, rfl, _, rfl, ?_⟩
      refine ite2 (fun z => absurd (of_decide_eq_true z) (by omega)) (fun _ => ?_)
      exact ⟨_, _, rfl, g6, b1, b2⟩
    · refine ⟨_, rfl, false, .inl ⟨_, SqL.of e5, rfl⟩, iteF ?_⟩
      refine ⟨rfl, _, rfl, _, tx, [txt v], rfl, rfl, SqL.of e4, (by decide +kernel), ?_, ?_⟩
      · show (txt v).length + 0 + 1 ≤ 1048576
        omega
      · rw [join_one]
        exact q H4 g4
theorem scShown : FnScope ["self"] ["self"] (defScope sShown) := ⟨rfl, rfl, rfl, by decide +kernel, rfl, by decide +kernel, by decide +kernel⟩
def spShown (K : PySem.W.Frag) : Sp := fun vs H Q _ => ∃ (H0 : Hp) (d : Ad) (x : W7) (a b : Int) (v : V) (pl : Int), vs = [.ref d.m] ∧ Mc K d.C ∧ MS H0 d x a b [v] pl "done" H ∧ Bare v ∧ ∀ H', Grow H H' → Q (.str (txt v)) H'
theorem ok_shown {f fT : Addr} {fd fdT : FuncData} (F : FunD K "shown" "Machine.shown" sShown .none f fd) (GT : FnOk P w K mg base (CXE P w) 3 fT fdT ["heap", "value"] spVText) (mT : mg "value_text" = some (.ref fT)) (kT : PySem.W.keepIn K (.ref fT) = true) (bT : Binds K fdT ["heap", "value"] []) :
    FnOk P w K mg base (CXE P w) 4 f fd ["self"] (spShown K) := by
  refine F.ok0 scShown (fun vs H Q E h => ?_) (fun cdv A outer s H vs Q E hr h => ?_)
  · obtain ⟨H0, d, x, a, b, v, pl, rfl, _⟩ := h
    rfl
  · obtain ⟨H0, d, x, a, b, v, pl, rfl, M, h, hv, q⟩ := h
    refine ⟨_, pss_cons (ps_if (pt_cmpR op_ne (pe_fld (pv 0) rfl) pe_str (nomark _)) pss_never pss_nil)
      (pss_one (ps_ret (pe_call GT hr (by rfl) mT kT bT .nil passE0 (pa_cons (pe_fld (pv 0) rfl) (pa_cons (pe_ix ix_list (pe_fld (pv 0) rfl) pe_int (fun _ _ => rfl)) pa_nil))))), ?_⟩
    refine ⟨_, rfl, d.m, d.C, d.dx, _, _, rfl, h.mo, M.cl, M.n7, m_standing _ _ _, rfl, _, rfl, ?_⟩
    refine iteNS rfl ?_
    exact ⟨_, rfl, d.m, d.C, d.dx, _, _, rfl, h.mo, M.cl, M.n2, m_heap _ _ _, _, rfl, d.m, d.C, d.dx, _, _, rfl, h.mo, M.cl, M.n3, m_stack _ _ _, d.st, _, _, v, rfl, rfl, SqL.of h.so, atI_nat (j := 0) rfl, _, v, rfl, hv, q⟩
end
end K18

set_option maxRecDepth 100000
set_option linter.all false
set_option Elab.async false
set_option maxHeartbeats 4000000
namespace K18
open PySem L2 PyProof
abbrev sCell : Stmt := top 107
abbrev sDrawn : Stmt := top 108
abbrev sNum : Stmt := top 109
abbrev sRnd : Stmt := top 110
abbrev sDue : Stmt := top 111
abbrev sTold : Stmt := top 112
abbrev sLaw : Stmt := top 113
structure GlL (mg : Str → Option Value) : Prop where
  len : mg "len" = none
  str : mg "str" = none
  int : mg "int" = none
  abs : mg "abs" = none
  max : mg "max" = none
  min : mg "min" = none
  range : mg "range" = none
def leftI (a b : Int) : Int := aI a - (aI a).fdiv (aI b) * aI b
def leftS (a b : Int) : Int := if decide (a < 0) = true then 0 - leftI a b else leftI a b
theorem leftI_eq {a b : Int} (hb : b ≠ 0) : leftI a b = aI a % aI b := by
  have h0 : 0 ≤ aI b := by rw [aI_nat]; omega
  unfold leftI
  rw [Int.fdiv_eq_ediv_of_nonneg _ h0, Int.emod_def, Int.mul_comm]
theorem rest_eq {a b : Int} (hb : b ≠ 0) : sumV .rest a b = .int (leftS a b) := by
  unfold leftS
  rw [leftI_eq hb]
  show V.int (if decide (a < 0) = true then -(aI a % aI b) else aI a % aI b) = _
  split
  · rw [Int.zero_sub]
  · rfl
theorem over_eq {a b : Int} (hb : b ≠ 0) : (a - leftS a b).fdiv b = if decide (V.bl (decide (a < 0)) = V.bl (decide (b < 0))) = true then cutI a b else -cutI a b := by
  have key : ∀ q : Int, q * b = a - leftS a b → (a - leftS a b).fdiv b = q := fun q e => by rw [← e, Int.mul_fdiv_cancel _ hb]
  have hc : leftI a b = aI a - cutI a b * aI b := rfl
  apply key
  unfold leftS
  rw [hc]
  generalize cutI a b = q
  unfold aI
  by_cases ha : a < 0
  · by_cases hb' : b < 0
    · rw [if_pos (by simp [ha, hb']), if_pos (by simp [ha]), if_pos ha, if_pos hb']
      rw [Int.mul_neg]; omega
    · rw [if_neg (by simp [ha, hb']), if_pos (by simp [ha]), if_pos ha, if_neg hb']
      rw [Int.neg_mul]; omega
  · by_cases hb' : b < 0
    · rw [if_neg (by simp [ha, hb']), if_neg (by simp [ha]), if_neg ha, if_pos hb']
      rw [Int.neg_mul, Int.mul_neg]; omega
    · rw [if_pos (by simp [ha, hb']), if_neg (by simp [ha]), if_neg ha, if_neg hb']
      omega
def rnd (n : Int) : Int := (n + 9223372036854775808) % 18446744073709551616 - 9223372036854775808
theorem rnd_eq (n : Int) : rnd n = brIn n := by
  unfold rnd brIn least round
  rw [Int.sub_neg]
  rfl
def dueT (x : W7) (a b : Int) : Str := if nought x b = true then "by nought" else txt (sumV x a b)
theorem sum_bare {x : W7} {a b : Int} (ha : In64 a) (hb : In64 b) (h : nought x b = false) : Bare (sumV x a b) := by
  cases x with
  | plus => exact .inl ⟨_, brIn_in _, rfl⟩
  | minus => exact .inl ⟨_, brIn_in _, rfl⟩
  | times => exact .inl ⟨_, brIn_in _, rfl⟩
  | over => exact .inl ⟨_, brIn_in _, rfl⟩
  | less => exact .inr ⟨_, rfl⟩
  | same => exact .inr ⟨_, rfl⟩
  | rest =>
    have h0 : b ≠ 0 := fun z => by subst z; cases h
    refine .inl ⟨_, ?_, rfl⟩
    have hb0 : 0 < aI b := by rw [aI_nat]; omega
    have h1 : 0 ≤ aI a % aI b := Int.emod_nonneg _ (by omega)
    have h2 : aI a % aI b < aI b := Int.emod_lt_of_pos _ hb0
    have h3 : aI b ≤ 9223372036854775808 := by rw [aI_nat]; unfold In64 at hb; omega
    unfold In64
    split <;> omega
section
variable {P : Program} {w : World} {K : PySem.W.Frag} {mg : Str → Option Value} {base : Heap}
def spCell (K : PySem.W.Frag) : Sp := fun vs H Q _ => ∃ (a : Addr) (ns : List Int) (k : Int), vs = [.ref a, .int k] ∧ SqL K H a (ns.map V.int) ∧ ns.length ≤ 63 ∧ ∀ (z : Int) (H' : Hp), Grow H H' → Q (.int z) H'
theorem scCe : FnScope ["_law_script", "_law_k"] ["_law_script", "_law_k"] (defScope sCell) := ⟨rfl, rfl, rfl, by decide +kernel, rfl, by decide +kernel, by decide +kernel⟩
theorem ok_cell {f : Addr} {fd : FuncData} (F : FunD K "_law_cell" "_law_cell" sCell .none f fd) (G : GlL mg) : FnOk P w K mg base (CXE P w) 1 f fd ["_law_script", "_law_k"] (spCell K) := by
  refine F.ok0 scCe (fun vs H Q E h => ?_) (fun cdv A outer s H vs Q E hr h => ?_)
  · obtain ⟨a, ns, k, rfl, _⟩ := h
    rfl
  · obtain ⟨a, ns, k, rfl, hS, hn, q⟩ := h
    refine ⟨_, pss_cons (ps_if (pt_cmpR (op_eqNil hr.units0) (pv 0) (pe_lst pa_nil) (nomark _)) (pss_one (ps_ret (pe_op op_mul (pv 1) pe_int))) pss_nil)
      (pss_one (ps_ret (pe_op op_add (pe_ix ix_list (pv 0) (pe_op op_mod (pv 1) (pe_callB call_len_seq (by rfl) G.len PySem.boot_len (pa_cons (pv 0) pa_nil))) (fun _ _ => rfl))
        (pe_op op_mul (pe_op op_fdiv (pv 1) (pe_callB call_len_seq (by rfl) G.len PySem.boot_len (pa_cons (pv 0) pa_nil))) pe_int)))), ?_⟩
    refine ⟨_, rfl, (by decide), fun l hl => ?_⟩
    have g1 : Grow H (upd H l (.lst [])) := Grow.put hl
    have hS1 := g1.same.seq hS
    refine ⟨a, l, _, rfl, rfl, hS1, SqL.of upd_same, _, rfl, ?_⟩
    refine ite2 (fun _ => ?_) (fun h => ?_)
    · exact ⟨_, rfl, _, _, rfl, rfl, .inr ⟨by decide, by decide⟩, q _ _ g1⟩
    · have hne : ns ≠ [] := fun e => h (by rw [e]; rfl)
      have hpos : 0 < ns.length := List.length_pos_iff.mpr hne
      have hlp : (0 : Int) < ((ns.map V.int).length : Nat) := by rw [List.length_map]; omega
      have h0 : 0 ≤ k % ((ns.map V.int).length : Nat) := Int.emod_nonneg _ (by omega)
      have h1 : k % ((ns.map V.int).length : Nat) < ((ns.map V.int).length : Nat) := Int.emod_lt_of_pos _ hlp
      obtain ⟨j, hj⟩ : ∃ j : Nat, k % ((ns.map V.int).length : Nat) = (j : Int) := ⟨(k % ((ns.map V.int).length : Nat)).toNat, by omega⟩
      have hjl : j < ns.length := by rw [hj, List.length_map] at h1; omega
      have hv : (ns.map V.int)[j]? = some (V.int ns[j]) := by rw [List.getElem?_map, List.getElem?_eq_getElem hjl]; rfl
      refine ⟨_, rfl, _, rfl, _, rfl, a, _, rfl, .inl hS1, _, _, rfl, rfl, hlp, a, _, _, .int ns[j], rfl, rfl, hS1, ?_, ?_⟩
      · rw [hj]; exact atI_nat hv
      · refine ⟨_, rfl, _, rfl, a, _, rfl, .inl hS1, _, _, rfl, rfl, ⟨hlp, ?_⟩, _, _, rfl, rfl, .inr ⟨by decide, by decide⟩, _, _, rfl, rfl, q _ _ g1⟩
        show (((ns.map V.int).length : Nat) : Int) < 1073741824
        rw [List.length_map]; omega
def spDrawn : Sp := fun vs H Q _ => ∃ (c k : Int), vs = [.int c, .int k] ∧ ∀ z : Int, 0 ≤ z → Q (.int z) H
theorem scDr : FnScope ["_law_cell_here", "_law_k", "_law_more"] ["_law_cell_here", "_law_k"] (defScope sDrawn) := ⟨rfl, rfl, rfl, by decide +kernel, rfl, by decide +kernel, by decide +kernel⟩
theorem ok_drawn {f : Addr} {fd : FuncData} (F : FunD K "_law_drawn" "_law_drawn" sDrawn .none f fd) : FnOk P w K mg base (CXE P w) 1 f fd ["_law_cell_here", "_law_k"] spDrawn := by
  refine F.ok0 scDr (fun vs H Q E h => ?_) (fun cdv A outer s H vs Q E hr h => ?_)
  · obtain ⟨c, k, rfl, _⟩ := h
    rfl
  · obtain ⟨c, k, rfl, q⟩ := h
    refine ⟨_, pss_cons (ps_set (i := 2) scDr.nd rfl (Or.inl rfl) (pe_op op_mod (pe_op op_add (pe_op op_mul (pv 0) pe_int) (pe_op op_mul (pe_op op_add (pv 1) pe_int) pe_int)) pe_int))
      (pss_one (ps_ret (pe_op op_mod (pe_op op_mulI (pv 2) (pv 2)) pe_int))), ?_⟩
    refine ⟨_, rfl, _, _, rfl, rfl, .inr ⟨by decide, by decide⟩, _, rfl, _, _, rfl, rfl, _, _, rfl, rfl, .inr ⟨by decide, by decide⟩, _, _, rfl, rfl, _, _, rfl, rfl, (by show (0 : Int) < 340282366920938463463374607431768211507; decide), ?_⟩
    obtain ⟨m, hm⟩ : ∃ m, (c * 6364136223846793005 + (k + 1) * 1442695040888963407) % 340282366920938463463374607431768211507 = m := ⟨_, rfl⟩
    have m0 : 0 ≤ m := by rw [← hm]; exact Int.emod_nonneg _ (by decide)
    have m1 : m < 340282366920938463463374607431768211507 := by rw [← hm]; exact Int.emod_lt_of_pos _ (by decide)
    have hb : Builtin.Int.intBits m ≤ 129 := intBits_le_iff.mpr (by
      have : m.natAbs < 340282366920938463463374607431768211507 := by omega
      exact Nat.lt_trans this (by decide))
    rw [← hm] at hb
    refine ⟨_, rfl, _, rfl, _, _, rfl, rfl, IntMulOk.of_le (m := 129) (n := 129) hb hb (by decide), _, _, rfl, rfl, (by show (0 : Int) < 340282366920938463463374607431768211297; decide), ?_⟩
    exact q _ (Int.emod_nonneg _ (by decide))
theorem scNum : FnScope ["_law_cell_here", "_law_k", "_law_more", "_law_some"] ["_law_cell_here", "_law_k"] (defScope sNum) := ⟨rfl, rfl, rfl, by decide +kernel, rfl, by decide +kernel, by decide +kernel⟩
def spNum : Sp := fun vs H Q _ => ∃ c k : Int, vs = [.int c, .int k] ∧ ∀ n H', In64 n → Grow H H' → Q (.int n) H'
theorem ok_num {f fD : Addr} {fd fdD : FuncData} (F : FunD K "_law_number" "_law_number" sNum .none f fd) (GD : FnOk P w K mg base (CXE P w) 1 fD fdD ["_law_cell_here", "_law_k"] spDrawn) (mD : mg "_law_drawn" = some (.ref fD)) (kD : PySem.W.keepIn K (.ref fD) = true) (bD : Binds K fdD ["_law_cell_here", "_law_k"] []) :
    FnOk P w K mg base (CXE P w) 2 f fd ["_law_cell_here", "_law_k"] spNum := by
  refine F.ok0 scNum (fun vs H Q E h => ?_) (fun cdv A outer s H vs Q E hr h => ?_)
  · obtain ⟨c, k, rfl, _⟩ := h
    rfl
  · obtain ⟨c, k, rfl, q⟩ := h
    refine ⟨_, pss_cons (ps_set (i := 2) scNum.nd rfl (Or.inl rfl) (pe_call GD hr (by rfl) mD kD bD .nil passE0 (pa_cons (pv 0) (pa_cons (pv 1) pa_nil))))
      (pss_cons (ps_set (i := 3) scNum.nd rfl (Or.inl rfl) (pe_lst (pa_cons (pe_op op_sub (pe_op op_mod (pe_op op_fdiv (pv 2) pe_int) pe_int) pe_int) (pa_cons (pe_op op_sub (pe_op op_mod (pe_op op_fdiv (pv 2) pe_int) pe_int) pe_int) (pa_cons pe_int pa_nil)))))
      (pss_cons (ps_set (i := 3) scNum.nd rfl (Or.inl rfl) (pe_op op_cat (pv 3) (pe_lst (pa_cons (pe_un un_neg pe_int) (pa_cons pe_int (pa_cons (pe_un un_neg pe_int) (pa_cons (pe_op op_sub (pe_op op_mod (pv 0) pe_int) pe_int) (pa_cons (pe_op op_shl pe_int (pe_op op_mod (pe_op op_fdiv (pv 2) pe_int) pe_int)) pa_nil))))))))
      (pss_one (ps_ret (pe_ix ix_list (pv 3) (pe_op op_mod (pv 2) pe_int) (fun _ _ => rfl)))))), ?_⟩
    refine ⟨_, rfl, _, rfl, c, k, rfl, fun z hz => ?_⟩
    dsimp only [gName, List.set]
    refine ⟨_, rfl, _, _, rfl, rfl, ⟨by decide, by decide⟩, _, _, rfl, rfl, (by show (0 : Int) < 41; decide), _, _, rfl, rfl, _, rfl, _, _, rfl, rfl, ⟨by decide, by decide⟩, _, _, rfl, rfl, (by show (0 : Int) < 18446744073709551616; decide), _, _, rfl, rfl, (by show 3 ≤ sizeLine; decide), fun l1 hl1 => ?_⟩
    dsimp only [gName, List.set]
    obtain ⟨u0, hu0⟩ : ∃ u, z / 8 % 41 - 20 = u := ⟨_, rfl⟩
    obtain ⟨u1, hu1⟩ : ∃ u, z / 8 % 18446744073709551616 - 9223372036854775808 = u := ⟨_, rfl⟩
    have g1 : Grow H (upd H l1 (.lst [.int (z / 8 % 41 - 20), .int (z / 8 % 18446744073709551616 - 9223372036854775808), .int 9223372036854775807])) := Grow.put hl1
    have e1 : (upd H l1 (.lst [.int (z / 8 % 41 - 20), .int (z / 8 % 18446744073709551616 - 9223372036854775808), .int 9223372036854775807])) l1 = some (.lst [.int (z / 8 % 41 - 20), .int (z / 8 % 18446744073709551616 - 9223372036854775808), .int 9223372036854775807]) := upd_same
    generalize upd H l1 (.lst [.int (z / 8 % 41 - 20), .int (z / 8 % 18446744073709551616 - 9223372036854775808), .int 9223372036854775807]) = H1 at g1 e1 ⊢
    have hs0 : 0 ≤ z / 8 % 63 := Int.emod_nonneg _ (by decide)
    have hs1 : z / 8 % 63 < 63 := Int.emod_lt_of_pos _ (by decide)
    refine ⟨_, rfl, _, rfl, _, rfl, _, rfl, _, _, rfl, rfl, (by show (0 : Int) < 18446744073709551616; decide), _, _, rfl, rfl, _, rfl, _, _, rfl, rfl, ⟨by decide, by decide⟩, _, _, rfl, rfl, (by show (0 : Int) < 63; decide), _, _, rfl, rfl, ⟨hs0, by omega, by decide⟩, (by show 5 ≤ sizeLine; decide), fun l2 hl2 => ?_⟩
    have g2 := Grow.put (o := .lst [.int (-9223372036854775808), .int 0, .int (-1), .int (c % 18446744073709551616 - 9223372036854775808), .int (1 * 2 ^ (z / 8 % 63).toNat)]) hl2
    refine ⟨l1, l2, _, _, rfl, rfl, g2.same _ _ e1, upd_same, (by show 8 ≤ sizeLine; decide), fun l3 hl3 => ?_⟩
    dsimp only [gName, List.set]
    have h80 : 0 ≤ z % 8 := Int.emod_nonneg _ (by decide)
    have h81 : z % 8 < 8 := Int.emod_lt_of_pos _ (by decide)
    obtain ⟨j, hj⟩ : ∃ j : Nat, z % 8 = (j : Int) := ⟨(z % 8).toNat, by omega⟩
    have hp2 : In64 (1 * 2 ^ (z / 8 % 63).toNat) := by
      have e : (z / 8 % 63).toNat ≤ 62 := by omega
      have e2 : (2 : Int) ^ (z / 8 % 63).toNat ≤ 4611686018427387904 := by
        have h1 : 2 ^ (z / 8 % 63).toNat ≤ 2 ^ 62 := Nat.pow_le_pow_right (by decide) e
        have h2 : (2 : Int) ^ (z / 8 % 63).toNat = ((2 ^ (z / 8 % 63).toNat : Nat) : Int) := by rw [Int.natCast_pow]; rfl
        rw [h2]
        have h3 : (2 : Nat) ^ 62 = 4611686018427387904 := by decide
        omega
      have e3 : (0 : Int) ≤ 2 ^ (z / 8 % 63).toNat := two_pow_nn _
      unfold In64
      omega
    have all : ∀ y ∈ ([.int (z / 8 % 41 - 20), .int (z / 8 % 18446744073709551616 - 9223372036854775808), .int 9223372036854775807] ++ [.int (-9223372036854775808), .int 0, .int (-1), .int (c % 18446744073709551616 - 9223372036854775808), .int (1 * 2 ^ (z / 8 % 63).toNat)] : List V), ∃ n, y = .int n ∧ In64 n := by
      intro y hy
      simp only [List.cons_append, List.nil_append, List.mem_cons, List.not_mem_nil, or_false] at hy
      rcases hy with rfl | rfl | rfl | rfl | rfl | rfl | rfl | rfl
      · exact ⟨_, rfl, by unfold In64; omega⟩
      · exact ⟨_, rfl, by unfold In64; omega⟩
      · exact ⟨_, rfl, by unfold In64; omega⟩
      · exact ⟨_, rfl, by unfold In64; omega⟩
      · exact ⟨_, rfl, by unfold In64; omega⟩
      · exact ⟨_, rfl, by unfold In64; omega⟩
      · exact ⟨_, rfl, by unfold In64; omega⟩
      · exact ⟨_, rfl, hp2⟩
    have hlen : j < ([.int (z / 8 % 41 - 20), .int (z / 8 % 18446744073709551616 - 9223372036854775808), .int 9223372036854775807] ++ [.int (-9223372036854775808), .int 0, .int (-1), .int (c % 18446744073709551616 - 9223372036854775808), .int (1 * 2 ^ (z / 8 % 63).toNat)] : List V).length := by
      show j < 8; omega
    obtain ⟨n, en, hn⟩ := all _ (List.getElem_mem hlen)
    refine ⟨_, rfl, _, rfl, _, _, rfl, rfl, (by show (0 : Int) < 8; decide), l3, _, _, _, rfl, rfl, SqL.of upd_same, (by rw [hj]; exact atI_nat (List.getElem?_eq_getElem hlen)), ?_⟩
    rw [en]
    exact q n _ hn ((g1.trans g2).trans (Grow.put hl3))
theorem scRnd : FnScope ["_law_number_here"] ["_law_number_here"] (defScope sRnd) := ⟨rfl, rfl, rfl, by decide +kernel, rfl, by decide +kernel, by decide +kernel⟩
def spRnd : Sp := fun vs H Q _ => ∃ n : Int, vs = [.int n] ∧ Q (.int (brIn n)) H
theorem ok_rnd {f : Addr} {fd : FuncData} (F : FunD K "_law_rounded" "_law_rounded" sRnd .none f fd) : FnOk P w K mg base (CXE P w) 1 f fd ["_law_number_here"] spRnd := by
  refine F.ok0 scRnd (fun vs H Q E h => ?_) (fun cdv A outer s H vs Q E hr h => ?_)
  · obtain ⟨n, rfl, _⟩ := h
    rfl
  · obtain ⟨n, rfl, q⟩ := h
    refine ⟨_, pss_one (ps_ret (pe_op op_sub (pe_op op_mod (pe_op op_add (pv 0) pe_int) pe_int) pe_int)), ?_⟩
    rw [← rnd_eq] at q
    exact ⟨_, rfl, _, _, rfl, rfl, _, _, rfl, rfl, (by show (0 : Int) < 18446744073709551616; decide), _, _, rfl, rfl, q⟩
theorem scDue : FnScope ["_law_word", "_law_one", "_law_other", "_law_left"] ["_law_word", "_law_one", "_law_other"] (defScope sDue) := ⟨rfl, rfl, rfl, by decide +kernel, rfl, by decide +kernel, by decide +kernel⟩
def spDue : Sp := fun vs H Q _ => ∃ (x : W7) (a b : Int), vs = [.str x.str, .int a, .int b] ∧ In64 a ∧ In64 b ∧ ∀ H', Grow H H' → Q (.str (dueT x a b)) H'
theorem ok_due {f fR : Addr} {fd fdR : FuncData} (F : FunD K "_law_due" "_law_due" sDue .none f fd) (G : GlL mg) (GR : FnOk P w K mg base (CXE P w) 1 fR fdR ["_law_number_here"] spRnd) (mR : mg "_law_rounded" = some (.ref fR)) (kR : PySem.W.keepIn K (.ref fR) = true) (bR : Binds K fdR ["_law_number_here"] []) :
    FnOk P w K mg base (CXE P w) 2 f fd ["_law_word", "_law_one", "_law_other"] spDue := by
  refine F.ok0 scDue (fun vs H Q E h => ?_) (fun cdv A outer s H vs Q E hr h => ?_)
  · obtain ⟨x, a, b, rfl, _⟩ := h
    rfl
  · obtain ⟨x, a, b, rfl, ha, hb, q⟩ := h
    refine ⟨_, pss_cons (ps_if (pt_cmpR op_eq (pv 0) pe_str (nomark _)) (pss_one (ps_ret (pe_callTy call_str_int (by rfl) G.str PyProof.Rows.boot_str (pa_cons (pe_call GR hr (by rfl) mR kR bR .nil passE0 (pa_cons (pe_op op_add (pv 1) (pv 2)) pa_nil)) pa_nil)))) pss_nil)
      (pss_cons (ps_if (pt_cmpR op_eq (pv 0) pe_str (nomark _)) (pss_one (ps_ret (pe_callTy call_str_int (by rfl) G.str PyProof.Rows.boot_str (pa_cons (pe_call GR hr (by rfl) mR kR bR .nil passE0 (pa_cons (pe_op op_sub (pv 1) (pv 2)) pa_nil)) pa_nil)))) pss_nil)
      (pss_cons (ps_if (pt_cmpR op_eq (pv 0) pe_str (nomark _)) (pss_one (ps_ret (pe_callTy call_str_int (by rfl) G.str PyProof.Rows.boot_str (pa_cons (pe_call GR hr (by rfl) mR kR bR .nil passE0 (pa_cons (pe_op op_mul (pv 1) (pv 2)) pa_nil)) pa_nil)))) pss_nil)
      (pss_cons (ps_if (pt_cmpR op_eq (pv 0) pe_str (nomark _)) (pss_one (ps_ret (pe_ix ix_list (pe_lst (pa_cons pe_str (pa_cons pe_str pa_nil))) (pe_callTy call_int1 (by rfl) G.int PyProof.Rows.boot_int (pa_cons (pe_cmpR op_lt (pv 1) (pv 2) (nomark _)) pa_nil)) (fun _ _ => rfl)))) pss_nil)
      (pss_cons (ps_if (pt_cmpR op_eq (pv 0) pe_str (nomark _)) (pss_one (ps_ret (pe_ix ix_list (pe_lst (pa_cons pe_str (pa_cons pe_str pa_nil))) (pe_callTy call_int1 (by rfl) G.int PyProof.Rows.boot_int (pa_cons (pe_cmpR op_eq (pv 1) (pv 2) (nomark _)) pa_nil)) (fun _ _ => rfl)))) pss_nil)
      (pss_cons (ps_if (pt_cmpR op_eq (pv 2) pe_int (nomark _)) (pss_one (ps_ret pe_str)) pss_nil)
      (pss_cons (ps_set (i := 3) scDue.nd rfl (Or.inl rfl) (pe_op op_sub (pe_callB call_abs (by rfl) G.abs PyProof.Rows.boot_abs (pa_cons (pv 1) pa_nil)) (pe_op op_mul (pe_op op_fdivW (pe_callB call_abs (by rfl) G.abs PyProof.Rows.boot_abs (pa_cons (pv 1) pa_nil)) (pe_callB call_abs (by rfl) G.abs PyProof.Rows.boot_abs (pa_cons (pv 2) pa_nil))) (pe_callB call_abs (by rfl) G.abs PyProof.Rows.boot_abs (pa_cons (pv 2) pa_nil)))))
      (pss_cons (ps_if (pt_cmpR op_lt (pv 1) pe_int (nomark _)) (pss_one (ps_set (i := 3) scDue.nd rfl (Or.inl rfl) (pe_op op_sub pe_int (pv 3)))) pss_nil)
      (pss_cons (ps_if (pt_cmpR op_eq (pv 0) pe_str (nomark _)) (pss_one (ps_ret (pe_callTy call_str_int (by rfl) G.str PyProof.Rows.boot_str (pa_cons (pv 3) pa_nil)))) pss_nil)
      (pss_one (ps_ret (pe_callTy call_str_int (by rfl) G.str PyProof.Rows.boot_str (pa_cons (pe_call GR hr (by rfl) mR kR bR .nil passE0 (pa_cons (pe_op op_fdivW (pe_op op_sub (pv 1) (pv 3)) (pv 2)) pa_nil)) pa_nil)))))))))))), ?_⟩
    have sm : ∀ n : Int, (brIn n).natAbs.log2 < 1920 := fun n => Nat.lt_trans (in64_log (brIn_in n)) (by decide)
    have h64 : -(2 ^ 64) < a ∧ a < 2 ^ 64 := by unfold In64 at ha; omega
    have q0 : nought x b = false → ∀ H', Grow H H' → Q (.str (txt (sumV x a b))) H' := fun e H' g => by
      have := q H' g
      unfold dueT at this
      rw [e] at this
      exact this
    have two : ∀ (k : Bool) (l : Addr) (hl : H l = none), Q (.str (txt (.bl k))) (upd H l (.lst [.str "false", .str "true"])) → rIxL K (.ref l) (.int (if k then 1 else 0)) (upd H l (.lst [.str "false", .str "true"])) Q := by
      intro k l hl hq
      cases k
      · exact ⟨l, _, _, _, rfl, rfl, SqL.of upd_same, atI_nat (j := 0) rfl, hq⟩
      · exact ⟨l, _, _, _, rfl, rfl, SqL.of upd_same, atI_nat (j := 1) rfl, hq⟩
    cases x with
    | plus =>
      refine ⟨_, rfl, rfl, _, rfl, iteYes (by decide +kernel) ?_⟩
      exact ⟨_, rfl, _, rfl, _, _, rfl, rfl, _, rfl, _, rfl, sm _, q0 rfl H (Grow.refl H)⟩
    | minus =>
      refine ⟨_, rfl, rfl, _, rfl, iteNo (by decide +kernel) ⟨_, rfl, rfl, _, rfl, iteYes (by decide +kernel) ?_⟩⟩
      exact ⟨_, rfl, _, rfl, _, _, rfl, rfl, _, rfl, _, rfl, sm _, q0 rfl H (Grow.refl H)⟩
    | times =>
      refine ⟨_, rfl, rfl, _, rfl, iteNo (by decide +kernel) ⟨_, rfl, rfl, _, rfl, iteNo (by decide +kernel) ⟨_, rfl, rfl, _, rfl, iteYes (by decide +kernel) ?_⟩⟩⟩
      exact ⟨_, rfl, _, rfl, _, _, rfl, rfl, .inl h64, _, rfl, _, rfl, sm _, q0 rfl H (Grow.refl H)⟩
    | less =>
      refine ⟨_, rfl, rfl, _, rfl, iteNo (by decide +kernel) ⟨_, rfl, rfl, _, rfl, iteNo (by decide +kernel) ⟨_, rfl, rfl, _, rfl, iteNo (by decide +kernel) ⟨_, rfl, rfl, _, rfl, iteYes (by decide +kernel) ?_⟩⟩⟩⟩
      refine ⟨(by show 2 ≤ sizeLine; decide), fun l hl => ⟨_, rfl, _, rfl, _, _, rfl, rfl, .inr ⟨_, rfl, two _ l hl (q0 rfl _ (Grow.put hl))⟩⟩⟩
    | same =>
      refine ⟨_, rfl, rfl, _, rfl, iteNo (by decide +kernel) ⟨_, rfl, rfl, _, rfl, iteNo (by decide +kernel) ⟨_, rfl, rfl, _, rfl, iteNo (by decide +kernel) ⟨_, rfl, rfl, _, rfl, iteNo (by decide +kernel) ⟨_, rfl, rfl, _, rfl, iteYes (by decide +kernel) ?_⟩⟩⟩⟩⟩
      refine ⟨(by show 2 ≤ sizeLine; decide), fun l hl => ⟨_, rfl, _, rfl, rfl, .inr ⟨_, rfl, two _ l hl (q0 rfl _ (Grow.put hl))⟩⟩⟩
    | over =>
      refine ⟨_, rfl, rfl, _, rfl, iteNo (by decide +kernel) ⟨_, rfl, rfl, _, rfl, iteNo (by decide +kernel) ⟨_, rfl, rfl, _, rfl, iteNo (by decide +kernel) ⟨_, rfl, rfl, _, rfl, iteNo (by decide +kernel) ⟨_, rfl, rfl, _, rfl, iteNo (by decide +kernel) ⟨_, rfl, rfl, _, rfl, ?_⟩⟩⟩⟩⟩⟩
      refine ite2 (fun z => ?_) (fun z => ?_)
      · have e : b = 0 := by simpa using of_decide_eq_true z
        have := q H (Grow.refl H)
        unfold dueT nought at this
        rw [e] at this
        exact this
      · have h0 : b ≠ 0 := fun e => z (by rw [e]; exact decide_eq_true rfl)
        have en : nought .over b = false := by unfold nought; rw [decide_eq_false h0]; rfl
        have hbb : aI b ≠ 0 ∧ (aI b).natAbs < 2 ^ 64 := by rw [aI_nat]; unfold In64 at hb; omega
        have hbm : -(2 ^ 64) < aI b ∧ aI b < 2 ^ 64 := by rw [aI_nat]; unfold In64 at hb; omega
        refine ⟨_, rfl, _, rfl, _, rfl, _, rfl, _, rfl, _, rfl, _, _, rfl, rfl, hbb, _, rfl, _, rfl, _, _, rfl, rfl, .inr hbm, _, _, rfl, rfl, ?_⟩
        dsimp only [gName, List.set]
        have fin : ∀ L : Int, L = leftS a b → tSeq (tIfS (tTest (tOp rEq (tVar 0) (tC (.str "rest")))) (tRet (tCB (fun xs H Q => ∃ i, xs = [.int i] ∧ i.natAbs.log2 < 1920 ∧ Q (.str (toString i)) H) (tCons (tVar 3) tNil))) tNext)
            (tRet (tCB (fun xs H Q => ∃ i, xs = [.int i] ∧ i.natAbs.log2 < 1920 ∧ Q (.str (toString i)) H) (tCons (tCall spRnd [] E0 (tCons (tOp (rI (fun _ j => j ≠ 0 ∧ j.natAbs < 2 ^ 64) fun i j => .int (i.fdiv j)) (tOp (rI0 fun i j => .int (i - j)) (tVar 1) (tVar 3)) (tVar 2)) tNil)) tNil)))
            { nx := fun _ H' => Q .non H', rt := Q } [some (.str (W7.str .over)), some (.int a), some (.int b), some (.int L)] H := by
          rintro L rfl
          refine ⟨_, rfl, rfl, _, rfl, iteNo (by decide +kernel) ?_⟩
          refine ⟨_, rfl, _, rfl, _, _, rfl, rfl, _, rfl, _, _, rfl, rfl, ⟨h0, by unfold In64 at hb; omega⟩, _, rfl, _, rfl, sm _, ?_⟩
          rw [over_eq h0]
          exact q0 en H (Grow.refl H)
        refine ⟨_, rfl, _, _, rfl, rfl, _, rfl, ?_⟩
        refine ite2 (fun z => ?_) (fun z => ?_)
        · refine ⟨_, rfl, _, _, rfl, rfl, ?_⟩
          exact fin _ (by unfold leftS; rw [if_pos z]; rfl)
        · exact fin _ (by unfold leftS; rw [if_neg z]; rfl)
    | rest =>
      refine ⟨_, rfl, rfl, _, rfl, iteNo (by decide +kernel) ⟨_, rfl, rfl, _, rfl, iteNo (by decide +kernel) ⟨_, rfl, rfl, _, rfl, iteNo (by decide +kernel) ⟨_, rfl, rfl, _, rfl, iteNo (by decide +kernel) ⟨_, rfl, rfl, _, rfl, iteNo (by decide +kernel) ⟨_, rfl, rfl, _, rfl, ?_⟩⟩⟩⟩⟩⟩
      refine ite2 (fun z => ?_) (fun z => ?_)
      · have e : b = 0 := by simpa using of_decide_eq_true z
        have := q H (Grow.refl H)
        unfold dueT nought at this
        rw [e] at this
        exact this
      · have h0 : b ≠ 0 := fun e => z (by rw [e]; exact decide_eq_true rfl)
        have en : nought .rest b = false := by unfold nought; rw [decide_eq_false h0]; rfl
        have hbb : aI b ≠ 0 ∧ (aI b).natAbs < 2 ^ 64 := by rw [aI_nat]; unfold In64 at hb; omega
        have hbm : -(2 ^ 64) < aI b ∧ aI b < 2 ^ 64 := by rw [aI_nat]; unfold In64 at hb; omega
        have bare := sum_bare ha hb en
        rw [rest_eq h0] at bare
        have sm2 : (leftS a b).natAbs.log2 < 1920 := by
          rcases bare with ⟨n, hn, e⟩ | ⟨k, e⟩
          · cases e; exact Nat.lt_trans (in64_log hn) (by decide)
          · cases e
        refine ⟨_, rfl, _, rfl, _, rfl, _, rfl, _, rfl, _, rfl, _, _, rfl, rfl, hbb, _, rfl, _, rfl, _, _, rfl, rfl, .inr hbm, _, _, rfl, rfl, ?_⟩
        dsimp only [gName, List.set]
        have q1 := q0 en H (Grow.refl H)
        rw [rest_eq h0] at q1
        refine ⟨_, rfl, _, _, rfl, rfl, _, rfl, ?_⟩
        refine ite2 (fun z => ?_) (fun z => ?_)
        · have e : 0 - leftI a b = leftS a b := by unfold leftS; rw [if_pos z]
          rw [← e] at q1 sm2
          refine ⟨_, rfl, _, _, rfl, rfl, ?_⟩
          dsimp only [gName, List.set]
          refine ⟨_, rfl, rfl, _, rfl, iteYes (by decide +kernel) ?_⟩
          exact ⟨_, rfl, _, rfl, sm2, q1⟩
        · have e : leftI a b = leftS a b := by unfold leftS; rw [if_neg z]
          rw [← e] at q1 sm2
          refine ⟨_, rfl, rfl, _, rfl, iteYes (by decide +kernel) ?_⟩
          exact ⟨_, rfl, _, rfl, sm2, q1⟩
end
end K18

set_option maxRecDepth 100000
set_option linter.all false
set_option Elab.async false
set_option maxHeartbeats 4000000
namespace K18
open PySem L2 PyProof
section
variable {P : Program} {w : World} {K : PySem.W.Frag} {mg : Str → Option Value} {base : Heap}
theorem scTold : FnScope ["_law_part", "_law_machine", "_law_word"] ["_law_part"] (defScope sTold) := ⟨rfl, rfl, rfl, by decide +kernel, rfl, by decide +kernel, by decide +kernel⟩
def spTold (K : PySem.W.Frag) : Sp := fun vs H Q _ => ∃ (pt n1 n2 : Addr) (x : W7) (a b : Int), vs = [.ref pt] ∧ SqT K H pt [.str x.str, .ref n1, .ref n2] ∧ SqT K H n1 [.str "num", .int a] ∧ SqT K H n2 [.str "num", .int b] ∧ In64 a ∧ In64 b ∧ ∀ H', Grow H H' → Q (.str (dueT x a b)) H'
theorem ok_told {C f fC fI fR fS : Addr} {fd fdC fdI fdR fdS : FuncData} (F : FunD K "_law_told" "_law_told" sTold .none f fd) (M : Mc K C) (mM : mg "Machine" = some (.ref C)) (KM : Mk K C fI) (GI : FnOk P w K mg base (CXE P w) 3 fI fdI ["self", "code", "room"] (spMaI C)) (bI : Binds K fdI ["self", "code", "room"] [])
    (GC : FnOk P w K mg base (CXE P w) 5 fC fdC ["part"] (spComp K)) (mC : mg "compiled" = some (.ref fC)) (kC : PySem.W.keepIn K (.ref fC) = true) (bC : Binds K fdC ["part"] [])
    (GR : FnOk P w K mg base (CXE P w) 7 fR fdR ["self", "steps"] (spRun K)) (MR : Meth K C "run" fR) (bR : Binds K fdR ["self", "steps"] [])
    (GS : FnOk P w K mg base (CXE P w) 4 fS fdS ["self"] (spShown K)) (MS' : Meth K C "shown" fS) (bS : Binds K fdS ["self"] []) :
    FnOk P w K mg base (CXE P w) 8 f fd ["_law_part"] (spTold K) := by
  refine F.ok0 scTold (fun vs H Q E h => ?_) (fun cdv A outer s H vs Q E hr h => ?_)
  · obtain ⟨pt, n1, n2, x, a, b, rfl, _⟩ := h
    rfl
  · obtain ⟨pt, n1, n2, x, a, b, rfl, hp, h1, h2, ha, hb, q⟩ := h
    refine ⟨_, pss_cons (ps_set (i := 1) scTold.nd rfl (Or.inl rfl) (pe_make KM GI (hr.mono (by omega)) (by rfl) mM bI .nil passE0 (pa_cons (pe_call GC (hr.mono (by omega)) (by rfl) mC kC bC .nil passE0 (pa_cons (pv 0) pa_nil)) (pa_cons pe_int pa_nil))))
      (pss_cons (ps_set (i := 2) scTold.nd rfl (Or.inl rfl) (pe_meth (pv 1) M.cl MR GR hr bR .nil passE0 (pa_cons pe_int pa_nil)))
      (pss_cons (ps_if (pt_cmpR op_eq (pv 2) pe_str (nomark _)) (pss_one (ps_ret (pe_meth0 (pv 1) M.cl MS' GS (hr.mono (by omega)) bS .nil passE0))) pss_nil)
      (pss_one (ps_ret (pv 2))))), ?_⟩
    refine ⟨_, rfl, pt, n1, n2, x, a, b, rfl, hp, h1, h2, fun l0 c1 c2 c3 c4 H1 g1 e0 e1 e2 e3 e4 => ?_⟩
    intro m dx hm hdx ndx
    have gm : Grow H1 (upd (upd H1 dx (.own m)) m (.ins C dx [])) := (Grow.put hdx).trans (Grow.put (by rw [upd_ne ndx.symm]; exact hm))
    have em : (upd (upd H1 dx (.own m)) m (.ins C dx [])) m = some (.ins C dx []) := upd_same
    have e0' := gm.same _ _ e0
    generalize upd (upd H1 dx (.own m)) m (.ins C dx []) = H2 at gm em e0' ⊢
    refine ⟨m, dx, l0, _, rfl, em, e0', fun d H3 dC dm dd i3 es ep el np nl hst => ⟨rfl, ?_⟩⟩
    subst dC dm dd
    have keep : ∀ b o, H1 b = some o → H3 b = some o := fun b o e => i3.keep b o (ne_of_none e hm) (gm.same _ _ e)
    have s0 : SG H1 ⟨d.C, d.m, d.dx, d.l, d.hp, d.st, d.pd, c1, c2, c3, c4⟩ x a b 0 H3 :=
      ⟨⟨keep, fun b e => gm.none b (i3.none b e)⟩, hm, gm.none _ hst, i3.me, es, ep, el, np, nl, keep _ _ e1, keep _ _ e2, keep _ _ e3, keep _ _ e4⟩
    dsimp only [gName, List.set]
    refine ⟨_, rfl, d.m, d.dx, _, rfl, i3.me, m_run _ _ _, ?_⟩
    refine ⟨H1, ⟨d.C, d.m, d.dx, d.l, d.hp, d.st, d.pd, c1, c2, c3, c4⟩, x, a, b, rfl, M, ha, hb, s0, fun H4 s4 => ?_⟩
    dsimp only [gName, List.set]
    have g4 : Grow H H4 := g1.trans s4.g
    by_cases z : nought x b = true
    · have e : nx x b 2 = 3 := by unfold nx; rw [if_neg (by decide), if_pos z]
      have e' : stS x b (nx x b 2) = "by nought" := by rw [e]; show (if nought x b = true then ("by nought" : Str) else "running") = ("by nought" : Str); rw [if_pos z]
      rw [e']
      refine ⟨_, rfl, rfl, _, rfl, iteNo (by decide +kernel) ⟨_, rfl, ?_⟩⟩
      have := q H4 g4
      unfold dueT at this
      rw [if_pos z] at this
      exact this
    · have zf : nought x b = false := Bool.eq_false_iff.mpr z
      have e : nx x b 2 = 4 := by unfold nx; rw [if_neg (by decide), if_neg z]
      have e' : stS x b (nx x b 2) = "done" := by rw [e]; rfl
      rw [e] at s4
      rw [e']
      refine ⟨_, rfl, rfl, _, rfl, iteYes (by decide +kernel) ?_⟩
      refine ⟨_, rfl, d.m, d.dx, _, rfl, s4.mo, m_shown _ _ _, ?_⟩
      refine ⟨H1, ⟨d.C, d.m, d.dx, d.l, d.hp, d.st, d.pd, c1, c2, c3, c4⟩, x, a, b, sumV x a b, _, rfl, M, s4, sum_bare ha hb zf, fun H5 g5 => ?_⟩
      have := q H5 (g4.trans g5)
      unfold dueT at this
      rw [if_neg z] at this
      exact this
def spLaw (K : PySem.W.Frag) : Sp := fun vs H Q _ => ∃ (a : Addr) (ns : List Int), vs = [.ref a] ∧ SqL K H a (ns.map V.int) ∧ ns.length ≤ 63 ∧ ∀ H', Q (.bl true) H'
theorem scLaw : FnScope ["_law_script", "_law_k", "_law_one", "_law_other", "_law_word"] ["_law_script"] (defScope sLaw) := ⟨rfl, rfl, rfl, by decide +kernel, rfl, by decide +kernel, by decide +kernel⟩
theorem ok_law {f fC fD fN fT fU : Addr} {fd fdC fdD fdN fdT fdU : FuncData} (F : FunD K "law" "law" sLaw .none f fd) (G : GlL mg)
    (GC : FnOk P w K mg base (CXE P w) 1 fC fdC ["_law_script", "_law_k"] (spCell K)) (mC : mg "_law_cell" = some (.ref fC)) (kC : PySem.W.keepIn K (.ref fC) = true) (bC : Binds K fdC ["_law_script", "_law_k"] [])
    (GD : FnOk P w K mg base (CXE P w) 1 fD fdD ["_law_cell_here", "_law_k"] spDrawn) (mD : mg "_law_drawn" = some (.ref fD)) (kD : PySem.W.keepIn K (.ref fD) = true) (bD : Binds K fdD ["_law_cell_here", "_law_k"] [])
    (GN : FnOk P w K mg base (CXE P w) 2 fN fdN ["_law_cell_here", "_law_k"] spNum) (mN : mg "_law_number" = some (.ref fN)) (kN : PySem.W.keepIn K (.ref fN) = true) (bN : Binds K fdN ["_law_cell_here", "_law_k"] [])
    (GT : FnOk P w K mg base (CXE P w) 8 fT fdT ["_law_part"] (spTold K)) (mT : mg "_law_told" = some (.ref fT)) (kT : PySem.W.keepIn K (.ref fT) = true) (bT : Binds K fdT ["_law_part"] [])
    (GU : FnOk P w K mg base (CXE P w) 2 fU fdU ["_law_word", "_law_one", "_law_other"] spDue) (mU : mg "_law_due" = some (.ref fU)) (kU : PySem.W.keepIn K (.ref fU) = true) (bU : Binds K fdU ["_law_word", "_law_one", "_law_other"] []) :
    FnOk P w K mg base (CXE P w) 9 f fd ["_law_script"] (spLaw K) := by
  refine F.ok0 scLaw (fun vs H Q E h => ?_) (fun cdv A outer s H vs Q E hr h => ?_)
  · obtain ⟨a, ns, rfl, _⟩ := h
    rfl
  · obtain ⟨a, ns, rfl, hS, hn, q⟩ := h
    refine ⟨_, pss_cons (ps_for PassesOwn.never rfl (pi_range02 (by rfl) G.range (pa_cons pe_int (pa_cons (pe_callB (call_max2 rfl) (by rfl) G.max PyProof.Rows.boot_max (pa_cons pe_int (pa_cons (pe_callB (call_min2 rfl) (by rfl) G.min PyProof.Rows.boot_min (pa_cons pe_int (pa_cons (pe_callB call_len_seq (by rfl) G.len PySem.boot_len (pa_cons (pv 0) pa_nil)) pa_nil))) pa_nil))) (pa_cons pe_int pa_nil))))
        (pg_name (i := 1) scLaw.nd rfl (Or.inl rfl))
        (pss_cons (ps_set (i := 2) scLaw.nd rfl (Or.inl rfl) (pe_call GN (hr.mono (by omega)) (by rfl) mN kN bN .nil passE0 (pa_cons (pe_call GC (hr.mono (by omega)) (by rfl) mC kC bC .nil passE0 (pa_cons (pv 0) (pa_cons (pv 1) pa_nil))) (pa_cons (pv 1) pa_nil))))
        (pss_cons (ps_set (i := 3) scLaw.nd rfl (Or.inl rfl) (pe_call GN (hr.mono (by omega)) (by rfl) mN kN bN .nil passE0 (pa_cons (pe_call GC (hr.mono (by omega)) (by rfl) mC kC bC .nil passE0 (pa_cons (pv 0) (pa_cons (pe_op op_add (pv 1) pe_int) pa_nil))) (pa_cons (pe_op op_add (pv 1) pe_int) pa_nil))))
        (pss_cons (ps_if (pt_cmpR op_eq (pe_op op_mod (pe_call GD (hr.mono (by omega)) (by rfl) mD kD bD .nil passE0 (pa_cons (pe_call GC (hr.mono (by omega)) (by rfl) mC kC bC .nil passE0 (pa_cons (pv 0) (pa_cons (pv 1) pa_nil))) (pa_cons (pe_op op_add (pv 1) pe_int) pa_nil))) pe_int) pe_int (nomark _))
            (pss_cons (ps_set (i := 3) scLaw.nd rfl (Or.inl rfl) (pe_callB (call_max2 rfl) (by rfl) G.max PyProof.Rows.boot_max (pa_cons (pe_op op_sub pe_int (pv 2)) (pa_cons (pe_un un_neg pe_int) pa_nil))))
              (pss_one (ps_set (i := 3) scLaw.nd rfl (Or.inl rfl) (pe_callB (call_min2 rfl) (by rfl) G.min PyProof.Rows.boot_min (pa_cons (pv 3) (pa_cons pe_int pa_nil)))))) pss_nil)
        (pss_one (ps_for PassesOwn.never rfl (pi_list (pe_lst (pa_cons pe_str (pa_cons pe_str (pa_cons pe_str (pa_cons pe_str (pa_cons pe_str (pa_cons pe_str (pa_cons pe_str pa_nil))))))))) (pg_name (i := 4) scLaw.nd rfl (Or.inl rfl))
          (pss_one (ps_if (pt_cmpR op_ne (pe_call GT hr (by rfl) mT kT bT .nil passE0 (pa_cons (pe_tup (pa_cons (pv 4) (pa_cons (pe_tup (pa_cons pe_str (pa_cons (pv 2) pa_nil))) (pa_cons (pe_tup (pa_cons pe_str (pa_cons (pv 3) pa_nil))) pa_nil)))) pa_nil))
            (pe_call GU (hr.mono (by omega)) (by rfl) mU kU bU .nil passE0 (pa_cons (pv 4) (pa_cons (pv 2) (pa_cons (pv 3) pa_nil)))) (nomark _)) (pss_one (ps_ret pe_bl)) pss_nil))))))))
      (pss_one (ps_ret pe_bl)), ?_⟩
    obtain ⟨J, hJ, hJ2⟩ : ∃ J : Nat, (if (if (((ns.map V.int).length : Nat) : Int) < 12 then (((ns.map V.int).length : Nat) : Int) else 12) > 2 then (if (((ns.map V.int).length : Nat) : Int) < 12 then (((ns.map V.int).length : Nat) : Int) else 12) else 2) = (J : Int) ∧ J ≤ 100 := by
      refine ⟨(if (if (((ns.map V.int).length : Nat) : Int) < 12 then (((ns.map V.int).length : Nat) : Int) else 12) > 2 then (if (((ns.map V.int).length : Nat) : Int) < 12 then (((ns.map V.int).length : Nat) : Int) else 12) else 2).toNat, ?_, ?_⟩
      · split <;> split <;> omega
      · split <;> split <;> omega
    refine ⟨_, rfl, a, _, rfl, .inl hS, _, _, rfl, _, _, rfl, J, ?_, hJ2, ?_⟩
    · rw [hJ]
    refine for_range2 (fun _ σ H1 => ∃ o1 o2 o3 o4, σ = [some (.ref a), o1, o2, o3, o4] ∧ Grow H H1) ⟨_, _, _, _, rfl, Grow.refl H⟩ ?_ ?_
    · rintro i σ H1 hi ⟨o1, o2, o3, o4, rfl, g1⟩
      dsimp only [gName, List.set]
      generalize (0 : Int) + (i : Int) * 2 = k
      refine ⟨_, rfl, _, rfl, a, ns, k, rfl, g1.same.seq hS, hn, fun c1 H2 g2 => ⟨_, rfl, c1, k, rfl, fun n1 H3 h1 g3 => ?_⟩⟩
      have G3 := (g1.trans g2).trans g3
      dsimp only [gName, List.set]
      refine ⟨_, rfl, _, rfl, _, _, rfl, rfl, a, ns, _, rfl, G3.same.seq hS, hn, fun c2 H4 g4 => ⟨_, rfl, _, _, rfl, rfl, c2, _, rfl, fun n2 H5 h2 g5 => ?_⟩⟩
      have G5 := (G3.trans g4).trans g5
      dsimp only [gName, List.set]
      refine ⟨_, rfl, _, rfl, a, ns, k, rfl, G5.same.seq hS, hn, fun c3 H6 g6 => ⟨_, rfl, _, _, rfl, rfl, c3, _, rfl, fun z hz => ⟨_, _, rfl, rfl, (by show (0 : Int) < 6; decide), rfl, _, rfl, ?_⟩⟩⟩
      have G6 := G5.trans g6
      have words : ∀ n2 : Int, In64 n2 → tFor (iList K (tLst (tCons (tC (.str "plus")) (tCons (tC (.str "minus")) (tCons (tC (.str "times")) (tCons (tC (.str "over")) (tCons (tC (.str "rest")) (tCons (tC (.str "less")) (tCons (tC (.str "same")) tNil))))))))) (gName 4)
          (tIfS (tTest (tOp rNe (tCall (spTold K) [] E0 (tCons (tTup (tCons (tVar 4) (tCons (tTup (tCons (tC (.str "num")) (tCons (tVar 2) tNil))) (tCons (tTup (tCons (tC (.str "num")) (tCons (tVar 3) tNil))) tNil)))) tNil))
            (tCall spDue [] E0 (tCons (tVar 4) (tCons (tVar 2) (tCons (tVar 3) tNil)))))) (tRet (tC (.bl false))) tNext)
          { nx := fun σ H1 => ∃ o1 o2 o3 o4, σ = [some (.ref a), o1, o2, o3, o4] ∧ Grow H H1, ct := fun σ H1 => ∃ o1 o2 o3 o4, σ = [some (.ref a), o1, o2, o3, o4] ∧ Grow H H1, bk := fun σ H' => tRet (tC (.bl true)) { nx := fun _ H' => Q .non H', rt := Q } σ H', rt := Q }
          [some (.ref a), some (.int k), some (.int n1), some (.int n2), o4] H6 := by
        intro n2 h2
        refine ⟨(by show 7 ≤ sizeLine; decide), fun l hl => ⟨l, rfl, ⟨_, SqL.of upd_same⟩, ?_⟩⟩
        have g7 : Grow H6 (upd H6 l (.lst [.str "plus", .str "minus", .str "times", .str "over", .str "rest", .str "less", .str "same"])) := Grow.put hl
        have e7 : (upd H6 l (.lst [.str "plus", .str "minus", .str "times", .str "over", .str "rest", .str "less", .str "same"])) l = some (.lst [.str "plus", .str "minus", .str "times", .str "over", .str "rest", .str "less", .str "same"]) := upd_same
        generalize upd H6 l (.lst [.str "plus", .str "minus", .str "times", .str "over", .str "rest", .str "less", .str "same"]) = H7 at g7 e7 ⊢
        refine for_list (K := K) (a := l) (xs := [.str "plus", .str "minus", .str "times", .str "over", .str "rest", .str "less", .str "same"]) (fun _ σ H8 => ∃ o4, σ = [some (.ref a), some (.int k), some (.int n1), some (.int n2), o4] ∧ Grow H7 H8) ⟨_, rfl, Grow.refl _⟩ (fun i σ H8 _ ⟨_, _, g⟩ => SqL.of (g.same _ _ e7)) ?_ ?_
        · rintro i y σ H8 hi ⟨o4, rfl, g8⟩
          obtain ⟨x, rfl⟩ : ∃ x : W7, y = .str x.str := by
            have hm := List.mem_of_getElem? hi
            simp only [List.mem_cons, List.not_mem_nil, or_false] at hm
            rcases hm with rfl | rfl | rfl | rfl | rfl | rfl | rfl
            · exact ⟨.plus, rfl⟩
            · exact ⟨.minus, rfl⟩
            · exact ⟨.times, rfl⟩
            · exact ⟨.over, rfl⟩
            · exact ⟨.rest, rfl⟩
            · exact ⟨.less, rfl⟩
            · exact ⟨.same, rfl⟩
          dsimp only [gName, List.set]
          refine ⟨_, rfl, _, rfl, (by show 2 ≤ sizeLine; decide), fun t1 ht1 => ?_⟩
          have ga : Grow H8 (upd H8 t1 (.tup [.str "num", .int n1])) := Grow.put ht1
          have ea : (upd H8 t1 (.tup [.str "num", .int n1])) t1 = some (.tup [.str "num", .int n1]) := upd_same
          generalize upd H8 t1 (.tup [.str "num", .int n1]) = H9 at ga ea ⊢
          refine ⟨_, rfl, (by show 2 ≤ sizeLine; decide), fun t2 ht2 => ?_⟩
          have gb : Grow H9 (upd H9 t2 (.tup [.str "num", .int n2])) := Grow.put ht2
          have eb : (upd H9 t2 (.tup [.str "num", .int n2])) t2 = some (.tup [.str "num", .int n2]) := upd_same
          generalize upd H9 t2 (.tup [.str "num", .int n2]) = H10 at gb eb ⊢
          refine ⟨(by show 3 ≤ sizeLine; decide), fun t3 ht3 => ?_⟩
          have gc : Grow H10 (upd H10 t3 (.tup [.str x.str, .ref t1, .ref t2])) := Grow.put ht3
          refine ⟨t3, t1, t2, x, n1, n2, rfl, SqT.of upd_same, SqT.of ((gb.trans gc).same _ _ ea), SqT.of (gc.same _ _ eb), h1, h2, fun H11 gd => ?_⟩
          refine ⟨_, rfl, _, rfl, _, rfl, x, n1, n2, rfl, h1, h2, fun H12 ge => ⟨rfl, _, rfl, iteNS rfl ?_⟩⟩
          exact ⟨_, rfl, (((((g8.trans ga).trans gb).trans gc).trans gd).trans ge)⟩
        · rintro σ H8 ⟨o4, rfl, g8⟩
          exact ⟨_, _, _, _, rfl, (G6.trans g7).trans g8⟩
      refine ite2 (fun _ => ?_) (fun _ => words n2 h2)
      refine ⟨_, rfl, _, _, rfl, rfl, _, rfl, _, _, rfl, ?_⟩
      dsimp only [gName, List.set]
      refine ⟨_, rfl, _, _, rfl, ?_⟩
      dsimp only [gName, List.set]
      refine words _ ?_
      unfold In64 at h1 ⊢
      split <;> split <;> omega
    · rintro σ H1 ⟨o1, o2, o3, o4, rfl, g1⟩
      exact q H1
end
end K18

set_option maxRecDepth 100000
set_option linter.all false
set_option Elab.async false
set_option maxHeartbeats 8000000
namespace K18
open PySem L2 PyProof
abbrev ksS : List Str := (["plus", "minus", "times", "over", "rest", "less", "same"] : List Str)
abbrev ksPS : List Str := (["nil", "cons", "head", "tail", "empty", "pair", "first", "second", "if", "let", "fn", "rec", "call", "plus", "minus", "times", "over", "rest", "less", "same", "and", "or", "not"] : List Str)
abbrev ksO : List Str := (["put", "nil", "get", "cons", "head", "tail", "empty", "pair", "first", "second", "plus", "minus", "times", "over", "rest", "less", "same", "not", "fn", "rec", "call", "last call", "tell", "unless", "skip", "slide"] : List Str)
abbrev ksBR : List Str := (["let", "fn", "rec"] : List Str)
abbrev ksKR : List Str := (["cons", "head", "tail", "empty", "first", "second", "if", "call"] : List Str)
abbrev ksFK : List Str := (["num", "truth", "plus", "minus", "times", "over", "rest", "less", "same", "and", "or", "not"] : List Str)
abbrev ksPC : List Str := (["call", "if", "and", "or", "let"] : List Str)
theorem isi_all (K : PySem.W.Frag) : Isi K where
  it := by
    unfold PySem.W.kitOne
    rw [if_neg (by decide)]
    show (if PySem.W.kitMeta "tuple" = true then (fastBuiltinMro "int").map (·.contains (Value.type "tuple")) else none) = some false
    decide +kernel
  bt := by
    unfold PySem.W.kitOne
    rw [if_neg (by decide)]
    show (if PySem.W.kitMeta "tuple" = true then (fastBuiltinMro "bool").map (·.contains (Value.type "tuple")) else none) = some false
    decide +kernel
  ib := by
    unfold PySem.W.kitOne
    rw [if_neg (by decide)]
    show (if PySem.W.kitMeta "bool" = true then (fastBuiltinMro "int").map (·.contains (Value.type "bool")) else none) = some false
    decide +kernel
  bb := by
    unfold PySem.W.kitOne
    rw [if_pos (by decide)]
theorem all_mk {l : PySem.W.OpenLaw} {w : World} {K : PySem.W.Frag} {h : Heap} {mg : Str → Option Value} {fa MA HP : Addr} {fBr : Addr} {oBr : Obj} {cdBr : Value} {fdBr : FuncData} {fPl : Addr} {oPl : Obj} {cdPl : Value} {fdPl : FuncData} {fMi : Addr} {oMi : Obj} {cdMi : Value} {fdMi : FuncData} {fTi : Addr} {oTi : Obj} {cdTi : Value} {fdTi : FuncData} {fOv : Addr} {oOv : Obj} {cdOv : Value} {fdOv : FuncData} {fRe : Addr} {oRe : Obj} {cdRe : Value} {fdRe : FuncData} {fLe : Addr} {oLe : Obj} {cdLe : Value} {fdLe : FuncData} {fSa : Addr} {oSa : Obj} {cdSa : Value} {fdSa : FuncData} {fNu : Addr} {oNu : Obj} {cdNu : Value} {fdNu : FuncData} {fSo : Addr} {oSo : Obj} {cdSo : Value} {fdSo : FuncData} {fVb : Addr} {oVb : Obj} {cdVb : Value} {fdVb : FuncData} {fRq : Addr} {oRq : Obj} {cdRq : Value} {fdRq : FuncData} {fFt : Addr} {oFt : Obj} {cdFt : Value} {fdFt : FuncData} {fKo : Addr} {oKo : Obj} {cdKo : Value} {fdKo : FuncData} {fVa : Addr} {oVa : Obj} {cdVa : Value} {fdVa : FuncData} {fCo : Addr} {oCo : Obj} {cdCo : Value} {fdCo : FuncData} {fOp : Addr} {oOp : Obj} {cdOp : Value} {fdOp : FuncData} {fCm : Addr} {oCm : Obj} {cdCm : Value} {fdCm : FuncData} {fPu : Addr} {oPu : Obj} {cdPu : Value} {fdPu : FuncData} {fRk : Addr} {oRk : Obj} {cdRk : Value} {fdRk : FuncData} {fTe : Addr} {oTe : Obj} {cdTe : Value} {fdTe : FuncData} {fCu : Addr} {oCu : Obj} {cdCu : Value} {fdCu : FuncData} {fOr : Addr} {oOr : Obj} {cdOr : Value} {fdOr : FuncData} {fSt : Addr} {oSt : Obj} {cdSt : Value} {fdSt : FuncData} {fRu : Addr} {oRu : Obj} {cdRu : Value} {fdRu : FuncData} {fSh : Addr} {oSh : Obj} {cdSh : Value} {fdSh : FuncData} {fHi : Addr} {oHi : Obj} {cdHi : Value} {fdHi : FuncData} {fMa : Addr} {oMa : Obj} {cdMa : Value} {fdMa : FuncData} {fIr : Addr} {oIr : Obj} {cdIr : Value} {fdIr : FuncData} {fBa : Addr} {oBa : Obj} {cdBa : Value} {fdBa : FuncData} {fPc : Addr} {oPc : Obj} {cdPc : Value} {fdPc : FuncData} {fVt : Addr} {oVt : Obj} {cdVt : Value} {fdVt : FuncData} {fCe : Addr} {oCe : Obj} {cdCe : Value} {fdCe : FuncData} {fDr : Addr} {oDr : Obj} {cdDr : Value} {fdDr : FuncData} {fNm : Addr} {oNm : Obj} {cdNm : Value} {fdNm : FuncData} {fRn : Addr} {oRn : Obj} {cdRn : Value} {fdRn : FuncData} {fDu : Addr} {oDu : Obj} {cdDu : Value} {fdDu : FuncData} {fTo : Addr} {oTo : Obj} {cdTo : Value} {fdTo : FuncData} {fLw : Addr} {oLw : Obj} {cdLw : Value} {fdLw : FuncData} {tk0 : Tok} {tk1 : Tok} {tk2 : Tok} {tk3 : Tok} {tk4 : Tok} {TS : Addr} {OS : Obj} {pPS0 : Addr} {pPS1 : Addr} {pPS2 : Addr} {pPS3 : Addr} {pPS4 : Addr} {pPS5 : Addr} {pPS6 : Addr} {pPS7 : Addr} {pPS8 : Addr} {pPS9 : Addr} {pPS10 : Addr} {pPS11 : Addr} {pPS12 : Addr} {pPS13 : Addr} {pPS14 : Addr} {pPS15 : Addr} {pPS16 : Addr} {pPS17 : Addr} {pPS18 : Addr} {pPS19 : Addr} {pPS20 : Addr} {pPS21 : Addr} {pPS22 : Addr} {TPS : Addr} {OPS : Obj} {opPS0 : Obj} {opPS1 : Obj} {opPS2 : Obj} {opPS3 : Obj} {opPS4 : Obj} {opPS5 : Obj} {opPS6 : Obj} {opPS7 : Obj} {opPS8 : Obj} {opPS9 : Obj} {opPS10 : Obj} {opPS11 : Obj} {opPS12 : Obj} {opPS13 : Obj} {opPS14 : Obj} {opPS15 : Obj} {opPS16 : Obj} {opPS17 : Obj} {opPS18 : Obj} {opPS19 : Obj} {opPS20 : Obj} {opPS21 : Obj} {opPS22 : Obj} {qO1 : Addr} {qO2 : Addr} {qO3 : Addr} {qO4 : Addr} {qO5 : Addr} {qO6 : Addr} {qO7 : Addr} {qO17 : Addr} {qO18 : Addr} {qO20 : Addr} {qO21 : Addr} {qO23 : Addr} {qO24 : Addr} {qO25 : Addr} {TO : Addr} {OO : Obj} {qBR0 : Addr} {qBR1 : Addr} {qBR2 : Addr} {TBR : Addr} {OBR : Obj} {qKR0 : Addr} {qKR1 : Addr} {qKR2 : Addr} {qKR3 : Addr} {qKR4 : Addr} {qKR5 : Addr} {qKR6 : Addr} {qKR7 : Addr} {TKR : Addr} {OKR : Obj} {pFK0 : Addr} {pFK1 : Addr} {pFK2 : Addr} {pFK3 : Addr} {pFK4 : Addr} {pFK5 : Addr} {pFK6 : Addr} {pFK7 : Addr} {pFK8 : Addr} {pFK9 : Addr} {pFK10 : Addr} {pFK11 : Addr} {TFK : Addr} {OFK : Obj} {opFK0 : Obj} {opFK1 : Obj} {opFK2 : Obj} {opFK3 : Obj} {opFK4 : Obj} {opFK5 : Obj} {opFK6 : Obj} {opFK7 : Obj} {opFK8 : Obj} {opFK9 : Obj} {opFK10 : Obj} {opFK11 : Obj} {qPC0 : Addr} {qPC1 : Addr} {qPC4 : Addr} {TPC : Addr} {OPC : Obj} {TE : Addr} {oTE : Obj} (X : K.In h) (G : h.Ns mainGlobals mg) (hfa : mg "law" = some (.ref fa))
    (aMA : PySem.W.nsIn K mainGlobals "Machine" = some (some (.ref MA)))
    (pgMA : PySem.W.plainGet K MA Str.empty = true)
    (hdMA : PySem.W.hasDictIn K MA = true)
    (poMA : PySem.W.plainOver K MA = true)
    (saMA : PySem.W.findIn K (.ref MA) "__setattr__" = some (some (.builtin "object.__setattr__")))
    (mkMA : PySem.W.makesIn K MA = true)
    (kpMA : PySem.W.keepIn K (.ref MA) = true)
    (nMA_code : PySem.W.findIn K (.ref MA) "code" = some none)
    (nMA_heap : PySem.W.findIn K (.ref MA) "heap" = some none)
    (nMA_stack : PySem.W.findIn K (.ref MA) "stack" = some none)
    (nMA_base : PySem.W.findIn K (.ref MA) "base" = some none)
    (nMA_place : PySem.W.findIn K (.ref MA) "place" = some none)
    (nMA_pending : PySem.W.findIn K (.ref MA) "pending" = some none)
    (nMA_standing : PySem.W.findIn K (.ref MA) "standing" = some none)
    (aHP : PySem.W.nsIn K mainGlobals "Heap" = some (some (.ref HP)))
    (pgHP : PySem.W.plainGet K HP Str.empty = true)
    (hdHP : PySem.W.hasDictIn K HP = true)
    (poHP : PySem.W.plainOver K HP = true)
    (saHP : PySem.W.findIn K (.ref HP) "__setattr__" = some (some (.builtin "object.__setattr__")))
    (mkHP : PySem.W.makesIn K HP = true)
    (kpHP : PySem.W.keepIn K (.ref HP) = true)
    (nHP_room : PySem.W.findIn K (.ref HP) "room" = some none)
    (nHP_things : PySem.W.findIn K (.ref HP) "things" = some none)
    (nHP_made_so_far : PySem.W.findIn K (.ref HP) "made_so_far" = some none)
    (aBr : PySem.W.nsIn K mainGlobals "brought_in" = some (some (.ref fBr)))
    (lBr : K.lookup fBr = some oBr)
    (nBr' : IsFn oBr "brought_in" "brought_in" sBr .none cdBr fdBr)
    (cBr : PySem.W.codeIn K cdBr "brought_in" = true)
    (kBr : PySem.W.keepIn K (.ref fBr) = true)
    (aPl : PySem.W.nsIn K mainGlobals "plus" = some (some (.ref fPl)))
    (lPl : K.lookup fPl = some oPl)
    (nPl' : IsFn oPl "plus" "plus" sPlus .none cdPl fdPl)
    (cPl : PySem.W.codeIn K cdPl "plus" = true)
    (kPl : PySem.W.keepIn K (.ref fPl) = true)
    (aMi : PySem.W.nsIn K mainGlobals "minus" = some (some (.ref fMi)))
    (lMi : K.lookup fMi = some oMi)
    (nMi' : IsFn oMi "minus" "minus" sMinus .none cdMi fdMi)
    (cMi : PySem.W.codeIn K cdMi "minus" = true)
    (kMi : PySem.W.keepIn K (.ref fMi) = true)
    (aTi : PySem.W.nsIn K mainGlobals "times" = some (some (.ref fTi)))
    (lTi : K.lookup fTi = some oTi)
    (nTi' : IsFn oTi "times" "times" sTimes .none cdTi fdTi)
    (cTi : PySem.W.codeIn K cdTi "times" = true)
    (kTi : PySem.W.keepIn K (.ref fTi) = true)
    (aOv : PySem.W.nsIn K mainGlobals "over" = some (some (.ref fOv)))
    (lOv : K.lookup fOv = some oOv)
    (nOv' : IsFn oOv "over" "over" sOver .none cdOv fdOv)
    (cOv : PySem.W.codeIn K cdOv "over" = true)
    (kOv : PySem.W.keepIn K (.ref fOv) = true)
    (aRe : PySem.W.nsIn K mainGlobals "rest" = some (some (.ref fRe)))
    (lRe : K.lookup fRe = some oRe)
    (nRe' : IsFn oRe "rest" "rest" sRest .none cdRe fdRe)
    (cRe : PySem.W.codeIn K cdRe "rest" = true)
    (kRe : PySem.W.keepIn K (.ref fRe) = true)
    (aLe : PySem.W.nsIn K mainGlobals "less" = some (some (.ref fLe)))
    (lLe : K.lookup fLe = some oLe)
    (nLe' : IsFn oLe "less" "less" sLess .none cdLe fdLe)
    (cLe : PySem.W.codeIn K cdLe "less" = true)
    (kLe : PySem.W.keepIn K (.ref fLe) = true)
    (aSa : PySem.W.nsIn K mainGlobals "same" = some (some (.ref fSa)))
    (lSa : K.lookup fSa = some oSa)
    (nSa' : IsFn oSa "same" "same" sSame .none cdSa fdSa)
    (cSa : PySem.W.codeIn K cdSa "same" = true)
    (kSa : PySem.W.keepIn K (.ref fSa) = true)
    (aNu : PySem.W.nsIn K mainGlobals "is_by_nought" = some (some (.ref fNu)))
    (lNu : K.lookup fNu = some oNu)
    (nNu' : IsFn oNu "is_by_nought" "is_by_nought" sNought .none cdNu fdNu)
    (cNu : PySem.W.codeIn K cdNu "is_by_nought" = true)
    (kNu : PySem.W.keepIn K (.ref fNu) = true)
    (aSo : PySem.W.nsIn K mainGlobals "sum_of" = some (some (.ref fSo)))
    (lSo : K.lookup fSo = some oSo)
    (nSo' : IsFn oSo "sum_of" "sum_of" sSumOf .none cdSo fdSo)
    (cSo : PySem.W.codeIn K cdSo "sum_of" = true)
    (kSo : PySem.W.keepIn K (.ref fSo) = true)
    (aVb : PySem.W.nsIn K mainGlobals "values_behind" = some (some (.ref fVb)))
    (lVb : K.lookup fVb = some oVb)
    (nVb' : IsFn oVb "values_behind" "values_behind" sVB .none cdVb fdVb)
    (cVb : PySem.W.codeIn K cdVb "values_behind" = true)
    (kVb : PySem.W.keepIn K (.ref fVb) = true)
    (aRq : PySem.W.nsIn K mainGlobals "require" = some (some (.ref fRq)))
    (lRq : K.lookup fRq = some oRq)
    (nRq' : IsFn oRq "require" "require" sReq .none cdRq fdRq)
    (cRq : PySem.W.codeIn K cdRq "require" = true)
    (kRq : PySem.W.keepIn K (.ref fRq) = true)
    (aFt : PySem.W.nsIn K mainGlobals "fitted" = some (some (.ref fFt)))
    (lFt : K.lookup fFt = some oFt)
    (nFt' : IsFn oFt "fitted" "fitted" sFit .none cdFt fdFt)
    (cFt : PySem.W.codeIn K cdFt "fitted" = true)
    (kFt : PySem.W.keepIn K (.ref fFt) = true)
    (aKo : PySem.W.nsIn K mainGlobals "kind_of" = some (some (.ref fKo)))
    (lKo : K.lookup fKo = some oKo)
    (nKo' : IsFn oKo "kind_of" "kind_of" sKindOf .none cdKo fdKo)
    (cKo : PySem.W.codeIn K cdKo "kind_of" = true)
    (kKo : PySem.W.keepIn K (.ref fKo) = true)
    (aVa : PySem.W.nsIn K mainGlobals "value_code" = some (some (.ref fVa)))
    (lVa : K.lookup fVa = some oVa)
    (nVa' : IsFn oVa "value_code" "value_code" sVal .none cdVa fdVa)
    (cVa : PySem.W.codeIn K cdVa "value_code" = true)
    (kVa : PySem.W.keepIn K (.ref fVa) = true)
    (aCo : PySem.W.nsIn K mainGlobals "code_of" = some (some (.ref fCo)))
    (lCo : K.lookup fCo = some oCo)
    (nCo' : IsFn oCo "code_of" "code_of" sCode .none cdCo fdCo)
    (cCo : PySem.W.codeIn K cdCo "code_of" = true)
    (kCo : PySem.W.keepIn K (.ref fCo) = true)
    (aOp : PySem.W.nsIn K mainGlobals "operands_code" = some (some (.ref fOp)))
    (lOp : K.lookup fOp = some oOp)
    (nOp' : IsFn oOp "operands_code" "operands_code" sOpd .none cdOp fdOp)
    (cOp : PySem.W.codeIn K cdOp "operands_code" = true)
    (kOp : PySem.W.keepIn K (.ref fOp) = true)
    (aCm : PySem.W.nsIn K mainGlobals "compiled" = some (some (.ref fCm)))
    (lCm : K.lookup fCm = some oCm)
    (nCm' : IsFn oCm "compiled" "compiled" sComp .none cdCm fdCm)
    (cCm : PySem.W.codeIn K cdCm "compiled" = true)
    (kCm : PySem.W.keepIn K (.ref fCm) = true)
    (aPu : PySem.W.nsIn K mainGlobals "put" = some (some (.ref fPu)))
    (lPu : K.lookup fPu = some oPu)
    (nPu' : IsFn oPu "put" "put" sPut .none cdPu fdPu)
    (cPu : PySem.W.codeIn K cdPu "put" = true)
    (kPu : PySem.W.keepIn K (.ref fPu) = true)
    (aRk : PySem.W.nsIn K mainGlobals "reckon_sum" = some (some (.ref fRk)))
    (lRk : K.lookup fRk = some oRk)
    (nRk' : IsFn oRk "reckon_sum" "reckon_sum" sReck .none cdRk fdRk)
    (cRk : PySem.W.codeIn K cdRk "reckon_sum" = true)
    (kRk : PySem.W.keepIn K (.ref fRk) = true)
    (aTe : PySem.W.nsIn K mainGlobals "tell" = some (some (.ref fTe)))
    (lTe : K.lookup fTe = some oTe)
    (nTe' : IsFn oTe "tell" "tell" sTell .none cdTe fdTe)
    (cTe : PySem.W.codeIn K cdTe "tell" = true)
    (kTe : PySem.W.keepIn K (.ref fTe) = true)
    (aCu : PySem.W.nsIn K mainGlobals "cut_stack" = some (some (.ref fCu)))
    (lCu : K.lookup fCu = some oCu)
    (nCu' : IsFn oCu "cut_stack" "cut_stack" sCut .none cdCu fdCu)
    (cCu : PySem.W.codeIn K cdCu "cut_stack" = true)
    (kCu : PySem.W.keepIn K (.ref fCu) = true)
    (aOr : PySem.W.nsIn K mainGlobals "do_order" = some (some (.ref fOr)))
    (lOr : K.lookup fOr = some oOr)
    (nOr' : IsFn oOr "do_order" "do_order" sOrder .none cdOr fdOr)
    (cOr : PySem.W.codeIn K cdOr "do_order" = true)
    (kOr : PySem.W.keepIn K (.ref fOr) = true)
    (aSt : PySem.W.nsIn K mainGlobals "do_step" = some (some (.ref fSt)))
    (lSt : K.lookup fSt = some oSt)
    (nSt' : IsFn oSt "do_step" "do_step" sStep .none cdSt fdSt)
    (cSt : PySem.W.codeIn K cdSt "do_step" = true)
    (kSt : PySem.W.keepIn K (.ref fSt) = true)
    (aRu : PySem.W.findIn K (.ref MA) "run" = some (some (.ref fRu)))
    (lRu : K.lookup fRu = some oRu)
    (nRu' : IsFn oRu "run" "Machine.run" sRun .none cdRu fdRu)
    (cRu : PySem.W.codeIn K cdRu "Machine.run" = true)
    (kRu : PySem.W.keepIn K (.ref fRu) = true)
    (aSh : PySem.W.findIn K (.ref MA) "shown" = some (some (.ref fSh)))
    (lSh : K.lookup fSh = some oSh)
    (nSh' : IsFn oSh "shown" "Machine.shown" sShown .none cdSh fdSh)
    (cSh : PySem.W.codeIn K cdSh "Machine.shown" = true)
    (kSh : PySem.W.keepIn K (.ref fSh) = true)
    (aHi : PySem.W.findIn K (.ref HP) "__init__" = some (some (.ref fHi)))
    (lHi : K.lookup fHi = some oHi)
    (nHi' : IsFn oHi "__init__" "Heap.__init__" sHpI .none cdHi fdHi)
    (cHi : PySem.W.codeIn K cdHi "Heap.__init__" = true)
    (kHi : PySem.W.keepIn K (.ref fHi) = true)
    (aMa : PySem.W.findIn K (.ref MA) "__init__" = some (some (.ref fMa)))
    (lMa : K.lookup fMa = some oMa)
    (nMa' : IsFn oMa "__init__" "Machine.__init__" sMaI .none cdMa fdMa)
    (cMa : PySem.W.codeIn K cdMa "Machine.__init__" = true)
    (kMa : PySem.W.keepIn K (.ref fMa) = true)
    (aIr : PySem.W.nsIn K mainGlobals "is_reference" = some (some (.ref fIr)))
    (lIr : K.lookup fIr = some oIr)
    (nIr' : IsFn oIr "is_reference" "is_reference" sIsRef .none cdIr fdIr)
    (cIr : PySem.W.codeIn K cdIr "is_reference" = true)
    (kIr : PySem.W.keepIn K (.ref fIr) = true)
    (aBa : PySem.W.nsIn K mainGlobals "bare_text" = some (some (.ref fBa)))
    (lBa : K.lookup fBa = some oBa)
    (nBa' : IsFn oBa "bare_text" "bare_text" sBare .none cdBa fdBa)
    (cBa : PySem.W.codeIn K cdBa "bare_text" = true)
    (kBa : PySem.W.keepIn K (.ref fBa) = true)
    (aPc : PySem.W.nsIn K mainGlobals "pieces_of" = some (some (.ref fPc)))
    (lPc : K.lookup fPc = some oPc)
    (nPc' : IsFn oPc "pieces_of" "pieces_of" sPieces .none cdPc fdPc)
    (cPc : PySem.W.codeIn K cdPc "pieces_of" = true)
    (kPc : PySem.W.keepIn K (.ref fPc) = true)
    (aVt : PySem.W.nsIn K mainGlobals "value_text" = some (some (.ref fVt)))
    (lVt : K.lookup fVt = some oVt)
    (nVt' : IsFn oVt "value_text" "value_text" sVText .none cdVt fdVt)
    (cVt : PySem.W.codeIn K cdVt "value_text" = true)
    (kVt : PySem.W.keepIn K (.ref fVt) = true)
    (aCe : PySem.W.nsIn K mainGlobals "_law_cell" = some (some (.ref fCe)))
    (lCe : K.lookup fCe = some oCe)
    (nCe' : IsFn oCe "_law_cell" "_law_cell" sCell .none cdCe fdCe)
    (cCe : PySem.W.codeIn K cdCe "_law_cell" = true)
    (kCe : PySem.W.keepIn K (.ref fCe) = true)
    (aDr : PySem.W.nsIn K mainGlobals "_law_drawn" = some (some (.ref fDr)))
    (lDr : K.lookup fDr = some oDr)
    (nDr' : IsFn oDr "_law_drawn" "_law_drawn" sDrawn .none cdDr fdDr)
    (cDr : PySem.W.codeIn K cdDr "_law_drawn" = true)
    (kDr : PySem.W.keepIn K (.ref fDr) = true)
    (aNm : PySem.W.nsIn K mainGlobals "_law_number" = some (some (.ref fNm)))
    (lNm : K.lookup fNm = some oNm)
    (nNm' : IsFn oNm "_law_number" "_law_number" sNum .none cdNm fdNm)
    (cNm : PySem.W.codeIn K cdNm "_law_number" = true)
    (kNm : PySem.W.keepIn K (.ref fNm) = true)
    (aRn : PySem.W.nsIn K mainGlobals "_law_rounded" = some (some (.ref fRn)))
    (lRn : K.lookup fRn = some oRn)
    (nRn' : IsFn oRn "_law_rounded" "_law_rounded" sRnd .none cdRn fdRn)
    (cRn : PySem.W.codeIn K cdRn "_law_rounded" = true)
    (kRn : PySem.W.keepIn K (.ref fRn) = true)
    (aDu : PySem.W.nsIn K mainGlobals "_law_due" = some (some (.ref fDu)))
    (lDu : K.lookup fDu = some oDu)
    (nDu' : IsFn oDu "_law_due" "_law_due" sDue .none cdDu fdDu)
    (cDu : PySem.W.codeIn K cdDu "_law_due" = true)
    (kDu : PySem.W.keepIn K (.ref fDu) = true)
    (aTo : PySem.W.nsIn K mainGlobals "_law_told" = some (some (.ref fTo)))
    (lTo : K.lookup fTo = some oTo)
    (nTo' : IsFn oTo "_law_told" "_law_told" sTold .none cdTo fdTo)
    (cTo : PySem.W.codeIn K cdTo "_law_told" = true)
    (kTo : PySem.W.keepIn K (.ref fTo) = true)
    (aLw : PySem.W.nsIn K mainGlobals "law" = some (some (.ref fLw)))
    (lLw : K.lookup fLw = some oLw)
    (nLw' : IsFn oLw "law" "law" sLaw .none cdLw fdLw)
    (cLw : PySem.W.codeIn K cdLw "law" = true)
    (kLw : PySem.W.keepIn K (.ref fLw) = true)
    (fnHi : PySem.W.isFn K (.ref fHi) = true)
    (fnMa : PySem.W.isFn K (.ref fMa) = true)
    (fnRu : PySem.W.isFn K (.ref fRu) = true)
    (fnSh : PySem.W.isFn K (.ref fSh) = true)
    (gq0 : PySem.W.nsIn K mainGlobals "LEAST_NUMBER" = some (some (.int (-9223372036854775808) tk0)))
    (gq1 : PySem.W.nsIn K mainGlobals "ROUND" = some (some (.int 18446744073709551616 tk1)))
    (gq2 : PySem.W.nsIn K mainGlobals "LEAST_ROOM" = some (some (.int 8 tk2)))
    (gq3 : PySem.W.nsIn K mainGlobals "GREATEST_ROOM" = some (some (.int 400 tk3)))
    (gq4 : PySem.W.nsIn K mainGlobals "LONGEST_SHOWN" = some (some (.int 1000 tk4)))
    (gE : PySem.W.nsIn K mainGlobals "EMPTY" = some (some .none))
    (aST : PySem.W.nsIn K mainGlobals "SUMS" = some (some (.ref TS)))
    (lST : K.lookup TS = some OS)
    (dST : TabD OS (ksS.zip ([.ref fPl, .ref fMi, .ref fTi, .ref fOv, .ref fRe, .ref fLe, .ref fSa] : List V)))
    (sST : (TS == sysModules) = false)
    (aPST : PySem.W.nsIn K mainGlobals "PART_SLOTS" = some (some (.ref TPS)))
    (lPST : K.lookup TPS = some OPS)
    (dPST : TabD OPS (ksPS.zip ([.ref pPS0, .ref pPS1, .ref pPS2, .ref pPS3, .ref pPS4, .ref pPS5, .ref pPS6, .ref pPS7, .ref pPS8, .ref pPS9, .ref pPS10, .ref pPS11, .ref pPS12, .ref pPS13, .ref pPS14, .ref pPS15, .ref pPS16, .ref pPS17, .ref pPS18, .ref pPS19, .ref pPS20, .ref pPS21, .ref pPS22] : List V)))
    (sPST : (TPS == sysModules) = false)
    (lpPS0 : K.lookup pPS0 = some opPS0)
    (tpPS0 : TupO opPS0 ((["kind"] : List Str).map V.str))
    (lpPS1 : K.lookup pPS1 = some opPS1)
    (tpPS1 : TupO opPS1 ((["part", "part"] : List Str).map V.str))
    (lpPS2 : K.lookup pPS2 = some opPS2)
    (tpPS2 : TupO opPS2 ((["part"] : List Str).map V.str))
    (lpPS3 : K.lookup pPS3 = some opPS3)
    (tpPS3 : TupO opPS3 ((["part"] : List Str).map V.str))
    (lpPS4 : K.lookup pPS4 = some opPS4)
    (tpPS4 : TupO opPS4 ((["part"] : List Str).map V.str))
    (lpPS5 : K.lookup pPS5 = some opPS5)
    (tpPS5 : TupO opPS5 ((["part", "part"] : List Str).map V.str))
    (lpPS6 : K.lookup pPS6 = some opPS6)
    (tpPS6 : TupO opPS6 ((["part"] : List Str).map V.str))
    (lpPS7 : K.lookup pPS7 = some opPS7)
    (tpPS7 : TupO opPS7 ((["part"] : List Str).map V.str))
    (lpPS8 : K.lookup pPS8 = some opPS8)
    (tpPS8 : TupO opPS8 ((["part", "part", "part"] : List Str).map V.str))
    (lpPS9 : K.lookup pPS9 = some opPS9)
    (tpPS9 : TupO opPS9 ((["name", "part", "part"] : List Str).map V.str))
    (lpPS10 : K.lookup pPS10 = some opPS10)
    (tpPS10 : TupO opPS10 ((["name", "kind", "part"] : List Str).map V.str))
    (lpPS11 : K.lookup pPS11 = some opPS11)
    (tpPS11 : TupO opPS11 ((["name", "name", "kind", "kind", "part"] : List Str).map V.str))
    (lpPS12 : K.lookup pPS12 = some opPS12)
    (tpPS12 : TupO opPS12 ((["part", "part"] : List Str).map V.str))
    (lpPS13 : K.lookup pPS13 = some opPS13)
    (tpPS13 : TupO opPS13 ((["part", "part"] : List Str).map V.str))
    (lpPS14 : K.lookup pPS14 = some opPS14)
    (tpPS14 : TupO opPS14 ((["part", "part"] : List Str).map V.str))
    (lpPS15 : K.lookup pPS15 = some opPS15)
    (tpPS15 : TupO opPS15 ((["part", "part"] : List Str).map V.str))
    (lpPS16 : K.lookup pPS16 = some opPS16)
    (tpPS16 : TupO opPS16 ((["part", "part"] : List Str).map V.str))
    (lpPS17 : K.lookup pPS17 = some opPS17)
    (tpPS17 : TupO opPS17 ((["part", "part"] : List Str).map V.str))
    (lpPS18 : K.lookup pPS18 = some opPS18)
    (tpPS18 : TupO opPS18 ((["part", "part"] : List Str).map V.str))
    (lpPS19 : K.lookup pPS19 = some opPS19)
    (tpPS19 : TupO opPS19 ((["part", "part"] : List Str).map V.str))
    (lpPS20 : K.lookup pPS20 = some opPS20)
    (tpPS20 : TupO opPS20 ((["part", "part"] : List Str).map V.str))
    (lpPS21 : K.lookup pPS21 = some opPS21)
    (tpPS21 : TupO opPS21 ((["part", "part"] : List Str).map V.str))
    (lpPS22 : K.lookup pPS22 = some opPS22)
    (tpPS22 : TupO opPS22 ((["part"] : List Str).map V.str))
    (aOT : PySem.W.nsIn K mainGlobals "ORDERS" = some (some (.ref TO)))
    (lOT : K.lookup TO = some OO)
    (dOT : TabD OO (ksO.zip ([.ref fPu, .ref qO1, .ref qO2, .ref qO3, .ref qO4, .ref qO5, .ref qO6, .ref qO7, .ref qO4, .ref qO5, .ref fRk, .ref fRk, .ref fRk, .ref fRk, .ref fRk, .ref fRk, .ref fRk, .ref qO17, .ref qO18, .ref qO18, .ref qO20, .ref qO21, .ref fTe, .ref qO23, .ref qO24, .ref qO25] : List V)))
    (sOT : (TO == sysModules) = false)
    (aBRT : PySem.W.nsIn K mainGlobals "BINDING_RULES" = some (some (.ref TBR)))
    (lBRT : K.lookup TBR = some OBR)
    (dBRT : TabD OBR (ksBR.zip ([.ref qBR0, .ref qBR1, .ref qBR2] : List V)))
    (sBRT : (TBR == sysModules) = false)
    (aKRT : PySem.W.nsIn K mainGlobals "KIND_RULES" = some (some (.ref TKR)))
    (lKRT : K.lookup TKR = some OKR)
    (dKRT : TabD OKR (ksKR.zip ([.ref qKR0, .ref qKR1, .ref qKR2, .ref qKR3, .ref qKR4, .ref qKR5, .ref qKR6, .ref qKR7] : List V)))
    (sKRT : (TKR == sysModules) = false)
    (aFKT : PySem.W.nsIn K mainGlobals "FIXED_KINDS" = some (some (.ref TFK)))
    (lFKT : K.lookup TFK = some OFK)
    (dFKT : TabD OFK (ksFK.zip ([.ref pFK0, .ref pFK1, .ref pFK2, .ref pFK3, .ref pFK4, .ref pFK5, .ref pFK6, .ref pFK7, .ref pFK8, .ref pFK9, .ref pFK10, .ref pFK11] : List V)))
    (sFKT : (TFK == sysModules) = false)
    (lpFK0 : K.lookup pFK0 = some opFK0)
    (tpFK0 : TupO opFK0 ((["int"] : List Str).map V.str))
    (lpFK1 : K.lookup pFK1 = some opFK1)
    (tpFK1 : TupO opFK1 ((["bool"] : List Str).map V.str))
    (lpFK2 : K.lookup pFK2 = some opFK2)
    (tpFK2 : TupO opFK2 ((["int", "int", "int"] : List Str).map V.str))
    (lpFK3 : K.lookup pFK3 = some opFK3)
    (tpFK3 : TupO opFK3 ((["int", "int", "int"] : List Str).map V.str))
    (lpFK4 : K.lookup pFK4 = some opFK4)
    (tpFK4 : TupO opFK4 ((["int", "int", "int"] : List Str).map V.str))
    (lpFK5 : K.lookup pFK5 = some opFK5)
    (tpFK5 : TupO opFK5 ((["int", "int", "int"] : List Str).map V.str))
    (lpFK6 : K.lookup pFK6 = some opFK6)
    (tpFK6 : TupO opFK6 ((["int", "int", "int"] : List Str).map V.str))
    (lpFK7 : K.lookup pFK7 = some opFK7)
    (tpFK7 : TupO opFK7 ((["int", "int", "bool"] : List Str).map V.str))
    (lpFK8 : K.lookup pFK8 = some opFK8)
    (tpFK8 : TupO opFK8 ((["int", "int", "bool"] : List Str).map V.str))
    (lpFK9 : K.lookup pFK9 = some opFK9)
    (tpFK9 : TupO opFK9 ((["bool", "bool", "bool"] : List Str).map V.str))
    (lpFK10 : K.lookup pFK10 = some opFK10)
    (tpFK10 : TupO opFK10 ((["bool", "bool", "bool"] : List Str).map V.str))
    (lpFK11 : K.lookup pFK11 = some opFK11)
    (tpFK11 : TupO opFK11 ((["bool", "bool"] : List Str).map V.str))
    (aPCT : PySem.W.nsIn K mainGlobals "PLACED_CODES" = some (some (.ref TPC)))
    (lPCT : K.lookup TPC = some OPC)
    (dPCT : TabD OPC (ksPC.zip ([.ref qPC0, .ref qPC1, .ref qPC1, .ref qPC1, .ref qPC4] : List V)))
    (sPCT : (TPC == sysModules) = false)
    (aTE : PySem.W.nsIn K mainGlobals "ENDING_ORDERS" = some (some (.ref TE)))
    (lTE : K.lookup TE = some oTE)
    (tTE : TupO oTE [.str "tell", .str "skip", .str "slide"])
    (z_abs : PySem.W.nsIn K mainGlobals "abs" = some none)
    (z_zip : PySem.W.nsIn K mainGlobals "zip" = some none)
    (z_list : PySem.W.nsIn K mainGlobals "list" = some none)
    (z_enumerate : PySem.W.nsIn K mainGlobals "enumerate" = some none)
    (z_len : PySem.W.nsIn K mainGlobals "len" = some none)
    (z_isinstance : PySem.W.nsIn K mainGlobals "isinstance" = some none)
    (z_tuple : PySem.W.nsIn K mainGlobals "tuple" = some none)
    (z_bool : PySem.W.nsIn K mainGlobals "bool" = some none)
    (z_str : PySem.W.nsIn K mainGlobals "str" = some none)
    (z_reversed : PySem.W.nsIn K mainGlobals "reversed" = some none)
    (z_int : PySem.W.nsIn K mainGlobals "int" = some none)
    (z_max : PySem.W.nsIn K mainGlobals "max" = some none)
    (z_min : PySem.W.nsIn K mainGlobals "min" = some none)
    (z_range : PySem.W.nsIn K mainGlobals "range" = some none) :
    ∃ fd : FuncData, (∀ (s : Shared) (v : Value), BindsTo s fd ⟨[v], []⟩ [("_law_script", v)]) ∧ ∀ base : Heap, K.In base → base.Ns mainGlobals mg → FnOk l.prog w K mg base (CXE l.prog w) 9 fa fd ["_law_script"] (spLaw K) := by
  have e := hfa.symm.trans (PySem.W.mg_of X G aLw)
  cases e
  have FBr := nBr'.d lBr cBr kBr
  have bBr : Binds K fdBr ["number"] [] := FBr.binds fun _ _ _ _ _ _ s us _ hl => match us, hl with | [_], _ => .of_eq rfl
  have mBr := PySem.W.mg_of X G aBr
  have FPl := nPl'.d lPl cPl kPl
  have bPl : Binds K fdPl ["one", "other"] [] := FPl.binds fun _ _ _ _ _ _ s us _ hl => match us, hl with | [_, _], _ => .of_eq rfl
  have mPl := PySem.W.mg_of X G aPl
  have FMi := nMi'.d lMi cMi kMi
  have bMi : Binds K fdMi ["one", "other"] [] := FMi.binds fun _ _ _ _ _ _ s us _ hl => match us, hl with | [_, _], _ => .of_eq rfl
  have mMi := PySem.W.mg_of X G aMi
  have FTi := nTi'.d lTi cTi kTi
  have bTi : Binds K fdTi ["one", "other"] [] := FTi.binds fun _ _ _ _ _ _ s us _ hl => match us, hl with | [_, _], _ => .of_eq rfl
  have mTi := PySem.W.mg_of X G aTi
  have FOv := nOv'.d lOv cOv kOv
  have bOv : Binds K fdOv ["one", "other"] [] := FOv.binds fun _ _ _ _ _ _ s us _ hl => match us, hl with | [_, _], _ => .of_eq rfl
  have mOv := PySem.W.mg_of X G aOv
  have FRe := nRe'.d lRe cRe kRe
  have bRe : Binds K fdRe ["one", "other"] [] := FRe.binds fun _ _ _ _ _ _ s us _ hl => match us, hl with | [_, _], _ => .of_eq rfl
  have mRe := PySem.W.mg_of X G aRe
  have FLe := nLe'.d lLe cLe kLe
  have bLe : Binds K fdLe ["one", "other"] [] := FLe.binds fun _ _ _ _ _ _ s us _ hl => match us, hl with | [_, _], _ => .of_eq rfl
  have mLe := PySem.W.mg_of X G aLe
  have FSa := nSa'.d lSa cSa kSa
  have bSa : Binds K fdSa ["one", "other"] [] := FSa.binds fun _ _ _ _ _ _ s us _ hl => match us, hl with | [_, _], _ => .of_eq rfl
  have mSa := PySem.W.mg_of X G aSa
  have FNu := nNu'.d lNu cNu kNu
  have bNu : Binds K fdNu ["word", "other"] [] := FNu.binds fun _ _ _ _ _ _ s us _ hl => match us, hl with | [_, _], _ => .of_eq rfl
  have mNu := PySem.W.mg_of X G aNu
  have FSo := nSo'.d lSo cSo kSo
  have bSo : Binds K fdSo ["word", "one", "other"] [] := FSo.binds fun _ _ _ _ _ _ s us _ hl => match us, hl with | [_, _, _], _ => .of_eq rfl
  have mSo := PySem.W.mg_of X G aSo
  have FVb := nVb'.d lVb cVb kVb
  have bVb : Binds K fdVb ["part", "sort"] [] := FVb.binds fun _ _ _ _ _ _ s us _ hl => match us, hl with | [_, _], _ => .of_eq rfl
  have mVb := PySem.W.mg_of X G aVb
  have FRq := nRq'.d lRq cRq kRq
  have bRq : Binds K fdRq ["holds"] [] := FRq.binds fun _ _ _ _ _ _ s us _ hl => match us, hl with | [_], _ => .of_eq rfl
  have mRq := PySem.W.mg_of X G aRq
  have FFt := nFt'.d lFt cFt kFt
  have bFt : Binds K fdFt ["part", "scope", "pairs"] [] := FFt.binds fun _ _ _ _ _ _ s us _ hl => match us, hl with | [_, _, _], _ => .of_eq rfl
  have mFt := PySem.W.mg_of X G aFt
  have FKo := nKo'.d lKo cKo kKo
  have bKo : Binds K fdKo ["part"] [] := FKo.binds fun _ _ _ _ _ _ s us _ hl => match us, hl with | [_], _ => .of_eq rfl
  have mKo := PySem.W.mg_of X G aKo
  have FVa := nVa'.d lVa cVa kVa
  have bVa : Binds K fdVa ["part", "slots"] [] := FVa.binds fun _ _ _ _ _ _ s us _ hl => match us, hl with | [_, _], _ => .of_eq rfl
  have mVa := PySem.W.mg_of X G aVa
  have FCo := nCo'.d lCo cCo kCo
  have bCo : Binds K fdCo ["part", "slots", "height", "last"] [] := FCo.binds fun _ _ _ _ _ _ s us _ hl => match us, hl with | [_, _, _, _], _ => .of_eq rfl
  have mCo := PySem.W.mg_of X G aCo
  have FOp := nOp'.d lOp cOp kOp
  have bOp : Binds K fdOp ["part", "slots", "height"] [] := FOp.binds fun _ _ _ _ _ _ s us _ hl => match us, hl with | [_, _, _], _ => .of_eq rfl
  have mOp := PySem.W.mg_of X G aOp
  have FCm := nCm'.d lCm cCm kCm
  have bCm : Binds K fdCm ["part"] [] := FCm.binds fun _ _ _ _ _ _ s us _ hl => match us, hl with | [_], _ => .of_eq rfl
  have mCm := PySem.W.mg_of X G aCm
  have FPu := nPu'.d lPu cPu kPu
  have bPu : Binds K fdPu ["machine", "order"] [] := FPu.binds fun _ _ _ _ _ _ s us _ hl => match us, hl with | [_, _], _ => .of_eq rfl
  have mPu := PySem.W.mg_of X G aPu
  have FRk := nRk'.d lRk cRk kRk
  have bRk : Binds K fdRk ["machine", "order"] [] := FRk.binds fun _ _ _ _ _ _ s us _ hl => match us, hl with | [_, _], _ => .of_eq rfl
  have mRk := PySem.W.mg_of X G aRk
  have FTe := nTe'.d lTe cTe kTe
  have bTe : Binds K fdTe ["machine", "order"] [] := FTe.binds fun _ _ _ _ _ _ s us _ hl => match us, hl with | [_, _], _ => .of_eq rfl
  have mTe := PySem.W.mg_of X G aTe
  have FCu := nCu'.d lCu cCu kCu
  have bCu : Binds K fdCu ["machine", "height"] [] := FCu.binds fun _ _ _ _ _ _ s us _ hl => match us, hl with | [_, _], _ => .of_eq rfl
  have mCu := PySem.W.mg_of X G aCu
  have FOr := nOr'.d lOr cOr kOr
  have bOr : Binds K fdOr ["machine"] [] := FOr.binds fun _ _ _ _ _ _ s us _ hl => match us, hl with | [_], _ => .of_eq rfl
  have mOr := PySem.W.mg_of X G aOr
  have FSt := nSt'.d lSt cSt kSt
  have bSt : Binds K fdSt ["machine"] [] := FSt.binds fun _ _ _ _ _ _ s us _ hl => match us, hl with | [_], _ => .of_eq rfl
  have mSt := PySem.W.mg_of X G aSt
  have FRu := nRu'.d lRu cRu kRu
  have bRu : Binds K fdRu ["self", "steps"] [] := FRu.binds fun _ _ _ _ _ _ s us _ hl => match us, hl with | [_, _], _ => .of_eq rfl
  have FSh := nSh'.d lSh cSh kSh
  have bSh : Binds K fdSh ["self"] [] := FSh.binds fun _ _ _ _ _ _ s us _ hl => match us, hl with | [_], _ => .of_eq rfl
  have FHi := nHi'.d lHi cHi kHi
  have bHi : Binds K fdHi ["self", "room"] [] := FHi.binds fun _ _ _ _ _ _ s us _ hl => match us, hl with | [_, _], _ => .of_eq rfl
  have FMa := nMa'.d lMa cMa kMa
  have bMa : Binds K fdMa ["self", "code", "room"] [] := FMa.binds fun _ _ _ _ _ _ s us _ hl => match us, hl with | [_, _, _], _ => .of_eq rfl
  have FIr := nIr'.d lIr cIr kIr
  have bIr : Binds K fdIr ["value"] [] := FIr.binds fun _ _ _ _ _ _ s us _ hl => match us, hl with | [_], _ => .of_eq rfl
  have mIr := PySem.W.mg_of X G aIr
  have FBa := nBa'.d lBa cBa kBa
  have bBa : Binds K fdBa ["value"] [] := FBa.binds fun _ _ _ _ _ _ s us _ hl => match us, hl with | [_], _ => .of_eq rfl
  have mBa := PySem.W.mg_of X G aBa
  have FPc := nPc'.d lPc cPc kPc
  have bPc : Binds K fdPc ["heap", "piece"] [] := FPc.binds fun _ _ _ _ _ _ s us _ hl => match us, hl with | [_, _], _ => .of_eq rfl
  have mPc := PySem.W.mg_of X G aPc
  have FVt := nVt'.d lVt cVt kVt
  have bVt : Binds K fdVt ["heap", "value"] [] := FVt.binds fun _ _ _ _ _ _ s us _ hl => match us, hl with | [_, _], _ => .of_eq rfl
  have mVt := PySem.W.mg_of X G aVt
  have FCe := nCe'.d lCe cCe kCe
  have bCe : Binds K fdCe ["_law_script", "_law_k"] [] := FCe.binds fun _ _ _ _ _ _ s us _ hl => match us, hl with | [_, _], _ => .of_eq rfl
  have mCe := PySem.W.mg_of X G aCe
  have FDr := nDr'.d lDr cDr kDr
  have bDr : Binds K fdDr ["_law_cell_here", "_law_k"] [] := FDr.binds fun _ _ _ _ _ _ s us _ hl => match us, hl with | [_, _], _ => .of_eq rfl
  have mDr := PySem.W.mg_of X G aDr
  have FNm := nNm'.d lNm cNm kNm
  have bNm : Binds K fdNm ["_law_cell_here", "_law_k"] [] := FNm.binds fun _ _ _ _ _ _ s us _ hl => match us, hl with | [_, _], _ => .of_eq rfl
  have mNm := PySem.W.mg_of X G aNm
  have FRn := nRn'.d lRn cRn kRn
  have bRn : Binds K fdRn ["_law_number_here"] [] := FRn.binds fun _ _ _ _ _ _ s us _ hl => match us, hl with | [_], _ => .of_eq rfl
  have mRn := PySem.W.mg_of X G aRn
  have FDu := nDu'.d lDu cDu kDu
  have bDu : Binds K fdDu ["_law_word", "_law_one", "_law_other"] [] := FDu.binds fun _ _ _ _ _ _ s us _ hl => match us, hl with | [_, _, _], _ => .of_eq rfl
  have mDu := PySem.W.mg_of X G aDu
  have FTo := nTo'.d lTo cTo kTo
  have bTo : Binds K fdTo ["_law_part"] [] := FTo.binds fun _ _ _ _ _ _ s us _ hl => match us, hl with | [_], _ => .of_eq rfl
  have mTo := PySem.W.mg_of X G aTo
  have FLw := nLw'.d lLw cLw kLw
  have bLw : Binds K fdLw ["_law_script"] [] := FLw.binds fun _ _ _ _ _ _ s us _ hl => match us, hl with | [_], _ => .of_eq rfl
  have mLw := PySem.W.mg_of X G aLw
  have mg0 := PySem.W.mg_of X G gq0
  have mg1 := PySem.W.mg_of X G gq1
  have mg2 := PySem.W.mg_of X G gq2
  have mg3 := PySem.W.mg_of X G gq3
  have mg4 := PySem.W.mg_of X G gq4
  have mgE := PySem.W.mg_of X G gE
  have y_abs := PySem.W.mg_none_of X G z_abs
  have y_zip := PySem.W.mg_none_of X G z_zip
  have y_list := PySem.W.mg_none_of X G z_list
  have y_enumerate := PySem.W.mg_none_of X G z_enumerate
  have y_len := PySem.W.mg_none_of X G z_len
  have y_isinstance := PySem.W.mg_none_of X G z_isinstance
  have y_tuple := PySem.W.mg_none_of X G z_tuple
  have y_bool := PySem.W.mg_none_of X G z_bool
  have y_str := PySem.W.mg_none_of X G z_str
  have y_reversed := PySem.W.mg_none_of X G z_reversed
  have y_int := PySem.W.mg_none_of X G z_int
  have y_max := PySem.W.mg_none_of X G z_max
  have y_min := PySem.W.mg_none_of X G z_min
  have y_range := PySem.W.mg_none_of X G z_range
  have mMA := PySem.W.mg_of X G aMA
  have mHP := PySem.W.mg_of X G aHP
  have Gs : GlS mg := ⟨y_abs, ⟨_, mg0⟩, ⟨_, mg1⟩⟩
  have Gw : GlW mg := ⟨y_isinstance, y_tuple, y_bool, y_str, y_list, y_reversed, y_len, mgE, ⟨_, mg4⟩⟩
  have Gl' : GlL mg := ⟨y_len, y_str, y_int, y_abs, y_max, y_min, y_range⟩
  have Is : Isi K := isi_all K
  have Gm : GlM K mg := ⟨y_len, y_list, ⟨TE, PySem.W.mg_of X G aTE, tTE.s lTE (by decide)⟩, ⟨_, mg2⟩, ⟨_, mg3⟩⟩
  have Mc' : Mc K MA := ⟨⟨pgMA, hdMA, poMA, saMA⟩, nMA_code, nMA_heap, nMA_stack, nMA_base, nMA_place, nMA_pending, nMA_standing⟩
  have Hc' : Hc K HP := ⟨⟨pgHP, hdHP, poHP, saHP⟩, nHP_room, nHP_things, nHP_made_so_far⟩
  have MkH : Mk K HP fHi := ⟨mkHP, aHi, fnHi, kpHP⟩
  have MkM : Mk K MA fMa := ⟨mkMA, aMa, fnMa, kpMA⟩
  have MtR' : Meth K MA "run" fRu := ⟨aRu, fnRu, kRu⟩
  have MtS : Meth K MA "shown" fSh := ⟨aSh, fnSh, kSh⟩
  have Gv : GlV K mg := by
    refine ⟨y_zip, TPS, _, PySem.W.mg_of X G aPST, dPST.s lPST sPST, fun wd => ?_⟩
    have hh := slots_zip (K := K) (ks := ksPS) (sss := ([["kind"], ["part", "part"], ["part"], ["part"], ["part"], ["part", "part"], ["part"], ["part"], ["part", "part", "part"], ["name", "part", "part"], ["name", "kind", "part"], ["name", "name", "kind", "kind", "part"], ["part", "part"], ["part", "part"], ["part", "part"], ["part", "part"], ["part", "part"], ["part", "part"], ["part", "part"], ["part", "part"], ["part", "part"], ["part", "part"], ["part"]] : List (List Str))) (vs := ([.ref pPS0, .ref pPS1, .ref pPS2, .ref pPS3, .ref pPS4, .ref pPS5, .ref pPS6, .ref pPS7, .ref pPS8, .ref pPS9, .ref pPS10, .ref pPS11, .ref pPS12, .ref pPS13, .ref pPS14, .ref pPS15, .ref pPS16, .ref pPS17, .ref pPS18, .ref pPS19, .ref pPS20, .ref pPS21, .ref pPS22] : List V)) rfl rfl (fun i ss v e1 e2 => ?_) wd
    rotate_left
    · match i, e1, e2 with
      | 0, e1, e2 => cases e1; cases e2; exact ⟨_, rfl, (tpPS0.s lpPS0 (by decide))⟩
      | 1, e1, e2 => cases e1; cases e2; exact ⟨_, rfl, (tpPS1.s lpPS1 (by decide))⟩
      | 2, e1, e2 => cases e1; cases e2; exact ⟨_, rfl, (tpPS2.s lpPS2 (by decide))⟩
      | 3, e1, e2 => cases e1; cases e2; exact ⟨_, rfl, (tpPS3.s lpPS3 (by decide))⟩
      | 4, e1, e2 => cases e1; cases e2; exact ⟨_, rfl, (tpPS4.s lpPS4 (by decide))⟩
      | 5, e1, e2 => cases e1; cases e2; exact ⟨_, rfl, (tpPS5.s lpPS5 (by decide))⟩
      | 6, e1, e2 => cases e1; cases e2; exact ⟨_, rfl, (tpPS6.s lpPS6 (by decide))⟩
      | 7, e1, e2 => cases e1; cases e2; exact ⟨_, rfl, (tpPS7.s lpPS7 (by decide))⟩
      | 8, e1, e2 => cases e1; cases e2; exact ⟨_, rfl, (tpPS8.s lpPS8 (by decide))⟩
      | 9, e1, e2 => cases e1; cases e2; exact ⟨_, rfl, (tpPS9.s lpPS9 (by decide))⟩
      | 10, e1, e2 => cases e1; cases e2; exact ⟨_, rfl, (tpPS10.s lpPS10 (by decide))⟩
      | 11, e1, e2 => cases e1; cases e2; exact ⟨_, rfl, (tpPS11.s lpPS11 (by decide))⟩
      | 12, e1, e2 => cases e1; cases e2; exact ⟨_, rfl, (tpPS12.s lpPS12 (by decide))⟩
      | 13, e1, e2 => cases e1; cases e2; exact ⟨_, rfl, (tpPS13.s lpPS13 (by decide))⟩
      | 14, e1, e2 => cases e1; cases e2; exact ⟨_, rfl, (tpPS14.s lpPS14 (by decide))⟩
      | 15, e1, e2 => cases e1; cases e2; exact ⟨_, rfl, (tpPS15.s lpPS15 (by decide))⟩
      | 16, e1, e2 => cases e1; cases e2; exact ⟨_, rfl, (tpPS16.s lpPS16 (by decide))⟩
      | 17, e1, e2 => cases e1; cases e2; exact ⟨_, rfl, (tpPS17.s lpPS17 (by decide))⟩
      | 18, e1, e2 => cases e1; cases e2; exact ⟨_, rfl, (tpPS18.s lpPS18 (by decide))⟩
      | 19, e1, e2 => cases e1; cases e2; exact ⟨_, rfl, (tpPS19.s lpPS19 (by decide))⟩
      | 20, e1, e2 => cases e1; cases e2; exact ⟨_, rfl, (tpPS20.s lpPS20 (by decide))⟩
      | 21, e1, e2 => cases e1; cases e2; exact ⟨_, rfl, (tpPS21.s lpPS21 (by decide))⟩
      | 22, e1, e2 => cases e1; cases e2; exact ⟨_, rfl, (tpPS22.s lpPS22 (by decide))⟩
      | n + 23, e1, e2 => simp at e1
    have eSL : SL = ksPS.zip ([["kind"], ["part", "part"], ["part"], ["part"], ["part"], ["part", "part"], ["part"], ["part"], ["part", "part", "part"], ["name", "part", "part"], ["name", "kind", "part"], ["name", "name", "kind", "kind", "part"], ["part", "part"], ["part", "part"], ["part", "part"], ["part", "part"], ["part", "part"], ["part", "part"], ["part", "part"], ["part", "part"], ["part", "part"], ["part", "part"], ["part"]] : List (List Str)) := rfl
    unfold slotsOf
    rw [eSL]
    rcases hh with ⟨h1, h2⟩ | ⟨ss, tp, h1, h2, h3⟩
    · exact .inl ⟨by rw [h1]; rfl, h2⟩
    · exact .inr ⟨tp, h2, by rw [h1]; exact h3⟩
  have Gf : GlF K mg := by
    refine ⟨y_list, ⟨TBR, _, PySem.W.mg_of X G aBRT, dBRT.s lBRT sBRT, fun m => key_no ?_⟩, ⟨TKR, _, PySem.W.mg_of X G aKRT, dKRT.s lKRT sKRT, fun m => key_no ?_⟩, ⟨TFK, _, PySem.W.mg_of X G aFKT, dFKT.s lFKT sFKT, fun m => ?_⟩⟩
    · rcases m with _ | x
      · decide +kernel
      · cases x <;> decide +kernel
    · rcases m with _ | x
      · decide +kernel
      · cases x <;> decide +kernel
    · match m with
      | none => exact ⟨_, dat_zip (i := 0) (by decide +kernel) rfl, (tpFK0.s lpFK0 (by decide))⟩
      | some .plus => exact ⟨_, dat_zip (i := 2) (by decide +kernel) rfl, (tpFK2.s lpFK2 (by decide))⟩
      | some .minus => exact ⟨_, dat_zip (i := 3) (by decide +kernel) rfl, (tpFK3.s lpFK3 (by decide))⟩
      | some .times => exact ⟨_, dat_zip (i := 4) (by decide +kernel) rfl, (tpFK4.s lpFK4 (by decide))⟩
      | some .over => exact ⟨_, dat_zip (i := 5) (by decide +kernel) rfl, (tpFK5.s lpFK5 (by decide))⟩
      | some .rest => exact ⟨_, dat_zip (i := 6) (by decide +kernel) rfl, (tpFK6.s lpFK6 (by decide))⟩
      | some .less => exact ⟨_, dat_zip (i := 7) (by decide +kernel) rfl, (tpFK7.s lpFK7 (by decide))⟩
      | some .same => exact ⟨_, dat_zip (i := 8) (by decide +kernel) rfl, (tpFK8.s lpFK8 (by decide))⟩
  have Gc : GlC K mg := by
    refine ⟨y_enumerate, ⟨TPC, _, PySem.W.mg_of X G aPCT, dPCT.s lPCT sPCT, fun m => key_no ?_⟩⟩
    rcases m with _ | x
    · decide +kernel
    · cases x <;> decide +kernel
  refine ⟨fdLw, fun s v => ?_, fun base kb nb => ?_⟩
  · obtain ⟨oc, od, kV, doc, pm, an, ct, osl, rfl, rfl⟩ := nLw'
    exact .of_eq rfl
  · have GBr := ok_br (P := l.prog) (w := w) (base := base) FBr Gs
    have GPl := ok_plus FPl GBr mBr kBr bBr
    have GMi := ok_minus FMi GBr mBr kBr bBr
    have GTi := ok_times FTi GBr mBr kBr bBr
    have GOv := ok_over FOv Gs GBr mBr kBr bBr
    have GRe := ok_rest (P := l.prog) (w := w) (base := base) FRe Gs
    have GLe := ok_less (P := l.prog) (w := w) (base := base) (mg := mg) FLe
    have GSa := ok_same (P := l.prog) (w := w) (base := base) (mg := mg) FSa
    have GNu := ok_nought (P := l.prog) (w := w) (base := base) (mg := mg) FNu
    have Su : Sums l.prog w K mg base := by
      refine ⟨TS, _, PySem.W.mg_of X G aST, dST.s lST sST, fun x => ?_⟩
      match x with
      | .plus => exact ⟨_, _, dat_zip (i := 0) (by decide +kernel) rfl, GPl, kPl, bPl⟩
      | .minus => exact ⟨_, _, dat_zip (i := 1) (by decide +kernel) rfl, GMi, kMi, bMi⟩
      | .times => exact ⟨_, _, dat_zip (i := 2) (by decide +kernel) rfl, GTi, kTi, bTi⟩
      | .over => exact ⟨_, _, dat_zip (i := 3) (by decide +kernel) rfl, GOv, kOv, bOv⟩
      | .rest => exact ⟨_, _, dat_zip (i := 4) (by decide +kernel) rfl, GRe, kRe, bRe⟩
      | .less => exact ⟨_, _, dat_zip (i := 5) (by decide +kernel) rfl, GLe, kLe, bLe⟩
      | .same => exact ⟨_, _, dat_zip (i := 6) (by decide +kernel) rfl, GSa, kSa, bSa⟩
    have GSo := ok_sumof FSo Su
    have GVb := ok_vb (P := l.prog) (w := w) (base := base) FVb Gv
    have GRq := ok_req (P := l.prog) (w := w) (base := base) (mg := mg) FRq
    have GF0 := ok_fit0 FFt Gf GVb mVb kVb bVb GRq mRq kRq bRq
    have GF1 := ok_fit1 FFt Gf GVb mVb kVb bVb GRq mRq kRq bRq GF0 mFt bFt
    have GKo := ok_ko FKo GF1 mFt kFt bFt
    have GVa := ok_val (P := l.prog) (w := w) (base := base) (mg := mg) FVa
    have GC0 := ok_code0 FCo Gc GVa mVa kVa bVa
    have GOp := ok_opd FOp Gc GVb mVb kVb bVb GC0 mCo kCo bCo
    have GC1 := ok_code1 FCo Gc GOp mOp kOp bOp
    have GCm := ok_comp FCm GKo mKo kKo bKo GC1 mCo kCo bCo
    have GPu := ok_put (P := l.prog) (w := w) (base := base) (mg := mg) FPu
    have GRk := ok_reck FRk GNu mNu kNu bNu GSo mSo kSo bSo
    have GCu := ok_cut (P := l.prog) (w := w) (base := base) FCu Gm
    have GTe := ok_tell FTe GCu mCu kCu bCu
    have Od : Ords l.prog w K mg base := by
      refine ⟨TO, _, PySem.W.mg_of X G aOT, dOT.s lOT sOT, ⟨_, _, dat_zip (i := 0) (by decide +kernel) rfl, GPu, kPu, bPu⟩, ⟨_, _, fun x => ?_, GRk, kRk, bRk⟩, ⟨_, _, dat_zip (i := 22) (by decide +kernel) rfl, GTe, kTe, bTe⟩⟩
      match x with
      | .plus => exact dat_zip (i := 10) (by decide +kernel) rfl
      | .minus => exact dat_zip (i := 11) (by decide +kernel) rfl
      | .times => exact dat_zip (i := 12) (by decide +kernel) rfl
      | .over => exact dat_zip (i := 13) (by decide +kernel) rfl
      | .rest => exact dat_zip (i := 14) (by decide +kernel) rfl
      | .less => exact dat_zip (i := 15) (by decide +kernel) rfl
      | .same => exact dat_zip (i := 16) (by decide +kernel) rfl
    have GOr := ok_ord FOr Od
    have GSt := ok_step FSt Gm GOr mOr kOr bOr
    have GRu := ok_run FRu GSt mSt kSt bSt
    have GHi := ok_hpI (P := l.prog) (w := w) (base := base) (mg := mg) FHi Hc'
    have GMa := ok_maI FMa Mc' Gm GHi mHP MkH bHi
    have GIr := ok_isref (P := l.prog) (w := w) (base := base) FIr Gw Is
    have GBa := ok_bare (P := l.prog) (w := w) (base := base) FBa Gw Is
    have GPc := ok_pieces FPc GIr mIr kIr bIr GBa mBa kBa bBa
    have GVt := ok_vtext FVt Gw GPc mPc kPc bPc
    have GSh := ok_shown FSh GVt mVt kVt bVt
    have GTo := ok_told FTo Mc' mMA MkM GMa bMa GCm mCm kCm bCm GRu MtR' bRu GSh MtS bSh
    have GCe := ok_cell (P := l.prog) (w := w) (base := base) FCe Gl'
    have GDr := ok_drawn (P := l.prog) (w := w) (base := base) (mg := mg) FDr
    have GNm := ok_num FNm GDr mDr kDr bDr
    have GRn := ok_rnd (P := l.prog) (w := w) (base := base) (mg := mg) FRn
    have GDu := ok_due FDu Gl' GRn mRn kRn bRn
    exact ok_law FLw Gl' GCe mCe kCe bCe GDr mDr kDr bDr GNm mNm kNm bNm GTo mTo kTo bTo GDu mDu kDu bDu
theorem noneE {P : Program} {w : World} {outer : List Env} {H : Hp} {s : Shared} {e : Value} {s' : Shared} (z : CXE P w outer H s (fun _ _ _ => False) e s') : False := by
  obtain ⟨_, _, _, _, _, _, _, _, _, _, _, _, _, _, _, _, y⟩ := z
  exact y
theorem walk {l : PySem.W.OpenLaw} {q : Program} {loose : List Str} {XP : (Str → Option Value) → Heap → Prop} {YP : World → Heap → Prop} {d : DefRec} {K : Params → PySem.W.Frag} (hn : l.most = some 63) (hdf : d.params.defaults = [])
    (hY : ∀ (w : World) (h : Heap), YP w h → (K w.params).In h)
    (F : ∀ (w : World) (mg : Str → Option Value) (fa : Addr) (h : Heap), (K w.params).In h → h.Ns mainGlobals mg → mg d.name = some (.ref fa) →
      ∃ fd : FuncData, (∀ (s : Shared) (u : Value), BindsTo s fd ⟨[u], []⟩ [("_law_script", u)]) ∧ ∀ base : Heap, (K w.params).In base → base.Ns mainGlobals mg → FnOk l.prog w (K w.params) mg base (CXE l.prog w) 9 fa fd ["_law_script"] (spLaw (K w.params))) :
    PySem.W.WalkO q loose XP YP l.row.toRowW d [] (fun f vs => PySem.call f vs) :=
  L2.walk_of (n := 63) (k := 9) (x := "_law_script") (CX := fun w => CXE l.prog w) (sp := fun w => spLaw (K w.params)) hn (by decide) hdf ⟨rfl, by decide, by decide⟩ hY F (fun _ _ a ns hl _ hS => ⟨a, ns, rfl, hS, hl, fun _ => rfl⟩) fun _ _ _ _ _ z => noneE z
end K18

open PySem PySem.W PyProof.Rows
set_option maxRecDepth 100000 in
set_option maxHeartbeats 0 in
theorem PySem.Challenge.cw_plainspeak_k18_numbers_reckoned_holds : PySem.Challenge.rw_plainspeak_k18_numbers_reckoned.Holds := by
  w_on; o_law; k_head; (case hw => w_witness2)
  k_fill
  refine K18.walk (l := PySem.Challenge.rw_plainspeak_k18_numbers_reckoned) rfl rfl (fun w h Y => PySem.W.kIn_of Y) ?F
  case F =>
    intro w mg fa h KX G hmg
    refine' K18.all_mk KX G hmg ?aMA ?pgMA ?hdMA ?poMA ?saMA ?mkMA ?kpMA ?nMA_code ?nMA_heap ?nMA_stack ?nMA_base ?nMA_place ?nMA_pending ?nMA_standing ?aHP ?pgHP ?hdHP ?poHP ?saHP ?mkHP ?kpHP ?nHP_room ?nHP_things ?nHP_made_so_far ?aBr ?lBr ?nBr' ?cBr ?kBr ?aPl ?lPl ?nPl' ?cPl ?kPl ?aMi ?lMi ?nMi' ?cMi ?kMi ?aTi ?lTi ?nTi' ?cTi ?kTi ?aOv ?lOv ?nOv' ?cOv ?kOv ?aRe ?lRe ?nRe' ?cRe ?kRe ?aLe ?lLe ?nLe' ?cLe ?kLe ?aSa ?lSa ?nSa' ?cSa ?kSa ?aNu ?lNu ?nNu' ?cNu ?kNu ?aSo ?lSo ?nSo' ?cSo ?kSo ?aVb ?lVb ?nVb' ?cVb ?kVb ?aRq ?lRq ?nRq' ?cRq ?kRq ?aFt ?lFt ?nFt' ?cFt ?kFt ?aKo ?lKo ?nKo' ?cKo ?kKo ?aVa ?lVa ?nVa' ?cVa ?kVa ?aCo ?lCo ?nCo' ?cCo ?kCo ?aOp ?lOp ?nOp' ?cOp ?kOp ?aCm ?lCm ?nCm' ?cCm ?kCm ?aPu ?lPu ?nPu' ?cPu ?kPu ?aRk ?lRk ?nRk' ?cRk ?kRk ?aTe ?lTe ?nTe' ?cTe ?kTe ?aCu ?lCu ?nCu' ?cCu ?kCu ?aOr ?lOr ?nOr' ?cOr ?kOr ?aSt ?lSt ?nSt' ?cSt ?kSt ?aRu ?lRu ?nRu' ?cRu ?kRu ?aSh ?lSh ?nSh' ?cSh ?kSh ?aHi ?lHi ?nHi' ?cHi ?kHi ?aMa ?lMa ?nMa' ?cMa ?kMa ?aIr ?lIr ?nIr' ?cIr ?kIr ?aBa ?lBa ?nBa' ?cBa ?kBa ?aPc ?lPc ?nPc' ?cPc ?kPc ?aVt ?lVt ?nVt' ?cVt ?kVt ?aCe ?lCe ?nCe' ?cCe ?kCe ?aDr ?lDr ?nDr' ?cDr ?kDr ?aNm ?lNm ?nNm' ?cNm ?kNm ?aRn ?lRn ?nRn' ?cRn ?kRn ?aDu ?lDu ?nDu' ?cDu ?kDu ?aTo ?lTo ?nTo' ?cTo ?kTo ?aLw ?lLw ?nLw' ?cLw ?kLw ?fnHi ?fnMa ?fnRu ?fnSh ?gq0 ?gq1 ?gq2 ?gq3 ?gq4 ?gE ?aST ?lST ?dST ?sST ?aPST ?lPST ?dPST ?sPST ?lpPS0 ?tpPS0 ?lpPS1 ?tpPS1 ?lpPS2 ?tpPS2 ?lpPS3 ?tpPS3 ?lpPS4 ?tpPS4 ?lpPS5 ?tpPS5 ?lpPS6 ?tpPS6 ?lpPS7 ?tpPS7 ?lpPS8 ?tpPS8 ?lpPS9 ?tpPS9 ?lpPS10 ?tpPS10 ?lpPS11 ?tpPS11 ?lpPS12 ?tpPS12 ?lpPS13 ?tpPS13 ?lpPS14 ?tpPS14 ?lpPS15 ?tpPS15 ?lpPS16 ?tpPS16 ?lpPS17 ?tpPS17 ?lpPS18 ?tpPS18 ?lpPS19 ?tpPS19 ?lpPS20 ?tpPS20 ?lpPS21 ?tpPS21 ?lpPS22 ?tpPS22 ?aOT ?lOT ?dOT ?sOT ?aBRT ?lBRT ?dBRT ?sBRT ?aKRT ?lKRT ?dKRT ?sKRT ?aFKT ?lFKT ?dFKT ?sFKT ?lpFK0 ?tpFK0 ?lpFK1 ?tpFK1 ?lpFK2 ?tpFK2 ?lpFK3 ?tpFK3 ?lpFK4 ?tpFK4 ?lpFK5 ?tpFK5 ?lpFK6 ?tpFK6 ?lpFK7 ?tpFK7 ?lpFK8 ?tpFK8 ?lpFK9 ?tpFK9 ?lpFK10 ?tpFK10 ?lpFK11 ?tpFK11 ?aPCT ?lPCT ?dPCT ?sPCT ?aTE ?lTE ?tTE ?z_abs ?z_zip ?z_list ?z_enumerate ?z_len ?z_isinstance ?z_tuple ?z_bool ?z_str ?z_reversed ?z_int ?z_max ?z_min ?z_range
    (case aMA => k_is)
    (case pgMA => k_is)
    (case hdMA => k_is)
    (case poMA => k_is)
    (case saMA => k_is)
    (case mkMA => k_is)
    (case kpMA => k_is)
    (case nMA_code => k_is)
    (case nMA_heap => k_is)
    (case nMA_stack => k_is)
    (case nMA_base => k_is)
    (case nMA_place => k_is)
    (case nMA_pending => k_is)
    (case nMA_standing => k_is)
    (case aHP => k_is)
    (case pgHP => k_is)
    (case hdHP => k_is)
    (case poHP => k_is)
    (case saHP => k_is)
    (case mkHP => k_is)
    (case kpHP => k_is)
    (case nHP_room => k_is)
    (case nHP_things => k_is)
    (case nHP_made_so_far => k_is)
    (case aBr => k_is)
    (case lBr => k_is)
    (case nBr' => exact ⟨_, _, _, _, _, _, _, _, rfl, rfl⟩)
    (case cBr => k_is)
    (case kBr => k_is)
    (case aPl => k_is)
    (case lPl => k_is)
    (case nPl' => exact ⟨_, _, _, _, _, _, _, _, rfl, rfl⟩)
    (case cPl => k_is)
    (case kPl => k_is)
    (case aMi => k_is)
    (case lMi => k_is)
    (case nMi' => exact ⟨_, _, _, _, _, _, _, _, rfl, rfl⟩)
    (case cMi => k_is)
    (case kMi => k_is)
    (case aTi => k_is)
    (case lTi => k_is)
    (case nTi' => exact ⟨_, _, _, _, _, _, _, _, rfl, rfl⟩)
    (case cTi => k_is)
    (case kTi => k_is)
    (case aOv => k_is)
    (case lOv => k_is)
    (case nOv' => exact ⟨_, _, _, _, _, _, _, _, rfl, rfl⟩)
    (case cOv => k_is)
    (case kOv => k_is)
    (case aRe => k_is)
    (case lRe => k_is)
    (case nRe' => exact ⟨_, _, _, _, _, _, _, _, rfl, rfl⟩)
    (case cRe => k_is)
    (case kRe => k_is)
    (case aLe => k_is)
    (case lLe => k_is)
    (case nLe' => exact ⟨_, _, _, _, _, _, _, _, rfl, rfl⟩)
    (case cLe => k_is)
    (case kLe => k_is)
    (case aSa => k_is)
    (case lSa => k_is)
    (case nSa' => exact ⟨_, _, _, _, _, _, _, _, rfl, rfl⟩)
    (case cSa => k_is)
    (case kSa => k_is)
    (case aNu => k_is)
    (case lNu => k_is)
    (case nNu' => exact ⟨_, _, _, _, _, _, _, _, rfl, rfl⟩)
    (case cNu => k_is)
    (case kNu => k_is)
    (case aSo => k_is)
    (case lSo => k_is)
    (case nSo' => exact ⟨_, _, _, _, _, _, _, _, rfl, rfl⟩)
    (case cSo => k_is)
    (case kSo => k_is)
    (case aVb => k_is)
    (case lVb => k_is)
    (case nVb' => exact ⟨_, _, _, _, _, _, _, _, rfl, rfl⟩)
    (case cVb => k_is)
    (case kVb => k_is)
    (case aRq => k_is)
    (case lRq => k_is)
    (case nRq' => exact ⟨_, _, _, _, _, _, _, _, rfl, rfl⟩)
    (case cRq => k_is)
    (case kRq => k_is)
    (case aFt => k_is)
    (case lFt => k_is)
    (case nFt' => exact ⟨_, _, _, _, _, _, _, _, rfl, rfl⟩)
    (case cFt => k_is)
    (case kFt => k_is)
    (case aKo => k_is)
    (case lKo => k_is)
    (case nKo' => exact ⟨_, _, _, _, _, _, _, _, rfl, rfl⟩)
    (case cKo => k_is)
    (case kKo => k_is)
    (case aVa => k_is)
    (case lVa => k_is)
    (case nVa' => exact ⟨_, _, _, _, _, _, _, _, rfl, rfl⟩)
    (case cVa => k_is)
    (case kVa => k_is)
    (case aCo => k_is)
    (case lCo => k_is)
    (case nCo' => exact ⟨_, _, _, _, _, _, _, _, rfl, rfl⟩)
    (case cCo => k_is)
    (case kCo => k_is)
    (case aOp => k_is)
    (case lOp => k_is)
    (case nOp' => exact ⟨_, _, _, _, _, _, _, _, rfl, rfl⟩)
    (case cOp => k_is)
    (case kOp => k_is)
    (case aCm => k_is)
    (case lCm => k_is)
    (case nCm' => exact ⟨_, _, _, _, _, _, _, _, rfl, rfl⟩)
    (case cCm => k_is)
    (case kCm => k_is)
    (case aPu => k_is)
    (case lPu => k_is)
    (case nPu' => exact ⟨_, _, _, _, _, _, _, _, rfl, rfl⟩)
    (case cPu => k_is)
    (case kPu => k_is)
    (case aRk => k_is)
    (case lRk => k_is)
    (case nRk' => exact ⟨_, _, _, _, _, _, _, _, rfl, rfl⟩)
    (case cRk => k_is)
    (case kRk => k_is)
    (case aTe => k_is)
    (case lTe => k_is)
    (case nTe' => exact ⟨_, _, _, _, _, _, _, _, rfl, rfl⟩)
    (case cTe => k_is)
    (case kTe => k_is)
    (case aCu => k_is)
    (case lCu => k_is)
    (case nCu' => exact ⟨_, _, _, _, _, _, _, _, rfl, rfl⟩)
    (case cCu => k_is)
    (case kCu => k_is)
    (case aOr => k_is)
    (case lOr => k_is)
    (case nOr' => exact ⟨_, _, _, _, _, _, _, _, rfl, rfl⟩)
    (case cOr => k_is)
    (case kOr => k_is)
    (case aSt => k_is)
    (case lSt => k_is)
    (case nSt' => exact ⟨_, _, _, _, _, _, _, _, rfl, rfl⟩)
    (case cSt => k_is)
    (case kSt => k_is)
    (case aRu => k_is)
    (case lRu => k_is)
    (case nRu' => exact ⟨_, _, _, _, _, _, _, _, rfl, rfl⟩)
    (case cRu => k_is)
    (case kRu => k_is)
    (case aSh => k_is)
    (case lSh => k_is)
    (case nSh' => exact ⟨_, _, _, _, _, _, _, _, rfl, rfl⟩)
    (case cSh => k_is)
    (case kSh => k_is)
    (case aHi => k_is)
    (case lHi => k_is)
    (case nHi' => exact ⟨_, _, _, _, _, _, _, _, rfl, rfl⟩)
    (case cHi => k_is)
    (case kHi => k_is)
    (case aMa => k_is)
    (case lMa => k_is)
    (case nMa' => exact ⟨_, _, _, _, _, _, _, _, rfl, rfl⟩)
    (case cMa => k_is)
    (case kMa => k_is)
    (case aIr => k_is)
    (case lIr => k_is)
    (case nIr' => exact ⟨_, _, _, _, _, _, _, _, rfl, rfl⟩)
    (case cIr => k_is)
    (case kIr => k_is)
    (case aBa => k_is)
    (case lBa => k_is)
    (case nBa' => exact ⟨_, _, _, _, _, _, _, _, rfl, rfl⟩)
    (case cBa => k_is)
    (case kBa => k_is)
    (case aPc => k_is)
    (case lPc => k_is)
    (case nPc' => exact ⟨_, _, _, _, _, _, _, _, rfl, rfl⟩)
    (case cPc => k_is)
    (case kPc => k_is)
    (case aVt => k_is)
    (case lVt => k_is)
    (case nVt' => exact ⟨_, _, _, _, _, _, _, _, rfl, rfl⟩)
    (case cVt => k_is)
    (case kVt => k_is)
    (case aCe => k_is)
    (case lCe => k_is)
    (case nCe' => exact ⟨_, _, _, _, _, _, _, _, rfl, rfl⟩)
    (case cCe => k_is)
    (case kCe => k_is)
    (case aDr => k_is)
    (case lDr => k_is)
    (case nDr' => exact ⟨_, _, _, _, _, _, _, _, rfl, rfl⟩)
    (case cDr => k_is)
    (case kDr => k_is)
    (case aNm => k_is)
    (case lNm => k_is)
    (case nNm' => exact ⟨_, _, _, _, _, _, _, _, rfl, rfl⟩)
    (case cNm => k_is)
    (case kNm => k_is)
    (case aRn => k_is)
    (case lRn => k_is)
    (case nRn' => exact ⟨_, _, _, _, _, _, _, _, rfl, rfl⟩)
    (case cRn => k_is)
    (case kRn => k_is)
    (case aDu => k_is)
    (case lDu => k_is)
    (case nDu' => exact ⟨_, _, _, _, _, _, _, _, rfl, rfl⟩)
    (case cDu => k_is)
    (case kDu => k_is)
    (case aTo => k_is)
    (case lTo => k_is)
    (case nTo' => exact ⟨_, _, _, _, _, _, _, _, rfl, rfl⟩)
    (case cTo => k_is)
    (case kTo => k_is)
    (case aLw => k_is)
    (case lLw => k_is)
    (case nLw' => exact ⟨_, _, _, _, _, _, _, _, rfl, rfl⟩)
    (case cLw => k_is)
    (case kLw => k_is)
    (case fnHi => k_is)
    (case fnMa => k_is)
    (case fnRu => k_is)
    (case fnSh => k_is)
    (case gq0 => k_is)
    (case gq1 => k_is)
    (case gq2 => k_is)
    (case gq3 => k_is)
    (case gq4 => k_is)
    (case gE => k_is)
    (case aST => k_is)
    (case lST => k_is)
    (case dST => exact ⟨⟨rfl, rfl, rfl⟩, _, _, rfl, .cons rfl rfl (.cons rfl rfl (.cons rfl rfl (.cons rfl rfl (.cons rfl rfl (.cons rfl rfl (.cons rfl rfl .nil))))))⟩)
    (case sST => decide)
    (case aPST => k_is)
    (case lPST => k_is)
    (case dPST => exact ⟨⟨rfl, rfl, rfl⟩, _, _, rfl, .cons rfl rfl (.cons rfl rfl (.cons rfl rfl (.cons rfl rfl (.cons rfl rfl (.cons rfl rfl (.cons rfl rfl (.cons rfl rfl (.cons rfl rfl (.cons rfl rfl (.cons rfl rfl (.cons rfl rfl (.cons rfl rfl (.cons rfl rfl (.cons rfl rfl (.cons rfl rfl (.cons rfl rfl (.cons rfl rfl (.cons rfl rfl (.cons rfl rfl (.cons rfl rfl (.cons rfl rfl (.cons rfl rfl .nil))))))))))))))))))))))⟩)
    (case sPST => decide)
    (case lpPS0 => k_is)
    (case tpPS0 => exact ⟨rfl, _, _, rfl, .cons ⟨_, rfl⟩ .nil⟩)
    (case lpPS1 => k_is)
    (case tpPS1 => exact ⟨rfl, _, _, rfl, .cons ⟨_, rfl⟩ (.cons ⟨_, rfl⟩ .nil)⟩)
    (case lpPS2 => k_is)
    (case tpPS2 => exact ⟨rfl, _, _, rfl, .cons ⟨_, rfl⟩ .nil⟩)
    (case lpPS3 => k_is)
    (case tpPS3 => exact ⟨rfl, _, _, rfl, .cons ⟨_, rfl⟩ .nil⟩)
    (case lpPS4 => k_is)
    (case tpPS4 => exact ⟨rfl, _, _, rfl, .cons ⟨_, rfl⟩ .nil⟩)
    (case lpPS5 => k_is)
    (case tpPS5 => exact ⟨rfl, _, _, rfl, .cons ⟨_, rfl⟩ (.cons ⟨_, rfl⟩ .nil)⟩)
    (case lpPS6 => k_is)
    (case tpPS6 => exact ⟨rfl, _, _, rfl, .cons ⟨_, rfl⟩ .nil⟩)
    (case lpPS7 => k_is)
    (case tpPS7 => exact ⟨rfl, _, _, rfl, .cons ⟨_, rfl⟩ .nil⟩)
    (case lpPS8 => k_is)
    (case tpPS8 => exact ⟨rfl, _, _, rfl, .cons ⟨_, rfl⟩ (.cons ⟨_, rfl⟩ (.cons ⟨_, rfl⟩ .nil))⟩)
    (case lpPS9 => k_is)
    (case tpPS9 => exact ⟨rfl, _, _, rfl, .cons ⟨_, rfl⟩ (.cons ⟨_, rfl⟩ (.cons ⟨_, rfl⟩ .nil))⟩)
    (case lpPS10 => k_is)
    (case tpPS10 => exact ⟨rfl, _, _, rfl, .cons ⟨_, rfl⟩ (.cons ⟨_, rfl⟩ (.cons ⟨_, rfl⟩ .nil))⟩)
    (case lpPS11 => k_is)
    (case tpPS11 => exact ⟨rfl, _, _, rfl, .cons ⟨_, rfl⟩ (.cons ⟨_, rfl⟩ (.cons ⟨_, rfl⟩ (.cons ⟨_, rfl⟩ (.cons ⟨_, rfl⟩ .nil))))⟩)
    (case lpPS12 => k_is)
    (case tpPS12 => exact ⟨rfl, _, _, rfl, .cons ⟨_, rfl⟩ (.cons ⟨_, rfl⟩ .nil)⟩)
    (case lpPS13 => k_is)
    (case tpPS13 => exact ⟨rfl, _, _, rfl, .cons ⟨_, rfl⟩ (.cons ⟨_, rfl⟩ .nil)⟩)
    (case lpPS14 => k_is)
    (case tpPS14 => exact ⟨rfl, _, _, rfl, .cons ⟨_, rfl⟩ (.cons ⟨_, rfl⟩ .nil)⟩)
    (case lpPS15 => k_is)
    (case tpPS15 => exact ⟨rfl, _, _, rfl, .cons ⟨_, rfl⟩ (.cons ⟨_, rfl⟩ .nil)⟩)
    (case lpPS16 => k_is)
    (case tpPS16 => exact ⟨rfl, _, _, rfl, .cons ⟨_, rfl⟩ (.cons ⟨_, rfl⟩ .nil)⟩)
    (case lpPS17 => k_is)
    (case tpPS17 => exact ⟨rfl, _, _, rfl, .cons ⟨_, rfl⟩ (.cons ⟨_, rfl⟩ .nil)⟩)
    (case lpPS18 => k_is)
    (case tpPS18 => exact ⟨rfl, _, _, rfl, .cons ⟨_, rfl⟩ (.cons ⟨_, rfl⟩ .nil)⟩)
    (case lpPS19 => k_is)
    (case tpPS19 => exact ⟨rfl, _, _, rfl, .cons ⟨_, rfl⟩ (.cons ⟨_, rfl⟩ .nil)⟩)
    (case lpPS20 => k_is)
    (case tpPS20 => exact ⟨rfl, _, _, rfl, .cons ⟨_, rfl⟩ (.cons ⟨_, rfl⟩ .nil)⟩)
    (case lpPS21 => k_is)
    (case tpPS21 => exact ⟨rfl, _, _, rfl, .cons ⟨_, rfl⟩ (.cons ⟨_, rfl⟩ .nil)⟩)
    (case lpPS22 => k_is)
    (case tpPS22 => exact ⟨rfl, _, _, rfl, .cons ⟨_, rfl⟩ .nil⟩)
    (case aOT => k_is)
    (case lOT => k_is)
    (case dOT => exact ⟨⟨rfl, rfl, rfl⟩, _, _, rfl, .cons rfl rfl (.cons rfl rfl (.cons rfl rfl (.cons rfl rfl (.cons rfl rfl (.cons rfl rfl (.cons rfl rfl (.cons rfl rfl (.cons rfl rfl (.cons rfl rfl (.cons rfl rfl (.cons rfl rfl (.cons rfl rfl (.cons rfl rfl (.cons rfl rfl (.cons rfl rfl (.cons rfl rfl (.cons rfl rfl (.cons rfl rfl (.cons rfl rfl (.cons rfl rfl (.cons rfl rfl (.cons rfl rfl (.cons rfl rfl (.cons rfl rfl (.cons rfl rfl .nil)))))))))))))))))))))))))⟩)
    (case sOT => decide)
    (case aBRT => k_is)
    (case lBRT => k_is)
    (case dBRT => exact ⟨⟨rfl, rfl, rfl⟩, _, _, rfl, .cons rfl rfl (.cons rfl rfl (.cons rfl rfl .nil))⟩)
    (case sBRT => decide)
    (case aKRT => k_is)
    (case lKRT => k_is)
    (case dKRT => exact ⟨⟨rfl, rfl, rfl⟩, _, _, rfl, .cons rfl rfl (.cons rfl rfl (.cons rfl rfl (.cons rfl rfl (.cons rfl rfl (.cons rfl rfl (.cons rfl rfl (.cons rfl rfl .nil)))))))⟩)
    (case sKRT => decide)
    (case aFKT => k_is)
    (case lFKT => k_is)
    (case dFKT => exact ⟨⟨rfl, rfl, rfl⟩, _, _, rfl, .cons rfl rfl (.cons rfl rfl (.cons rfl rfl (.cons rfl rfl (.cons rfl rfl (.cons rfl rfl (.cons rfl rfl (.cons rfl rfl (.cons rfl rfl (.cons rfl rfl (.cons rfl rfl (.cons rfl rfl .nil)))))))))))⟩)
    (case sFKT => decide)
    (case lpFK0 => k_is)
    (case tpFK0 => exact ⟨rfl, _, _, rfl, .cons ⟨_, rfl⟩ .nil⟩)
    (case lpFK1 => k_is)
    (case tpFK1 => exact ⟨rfl, _, _, rfl, .cons ⟨_, rfl⟩ .nil⟩)
    (case lpFK2 => k_is)
    (case tpFK2 => exact ⟨rfl, _, _, rfl, .cons ⟨_, rfl⟩ (.cons ⟨_, rfl⟩ (.cons ⟨_, rfl⟩ .nil))⟩)
    (case lpFK3 => k_is)
    (case tpFK3 => exact ⟨rfl, _, _, rfl, .cons ⟨_, rfl⟩ (.cons ⟨_, rfl⟩ (.cons ⟨_, rfl⟩ .nil))⟩)
    (case lpFK4 => k_is)
    (case tpFK4 => exact ⟨rfl, _, _, rfl, .cons ⟨_, rfl⟩ (.cons ⟨_, rfl⟩ (.cons ⟨_, rfl⟩ .nil))⟩)
    (case lpFK5 => k_is)
    (case tpFK5 => exact ⟨rfl, _, _, rfl, .cons ⟨_, rfl⟩ (.cons ⟨_, rfl⟩ (.cons ⟨_, rfl⟩ .nil))⟩)
    (case lpFK6 => k_is)
    (case tpFK6 => exact ⟨rfl, _, _, rfl, .cons ⟨_, rfl⟩ (.cons ⟨_, rfl⟩ (.cons ⟨_, rfl⟩ .nil))⟩)
    (case lpFK7 => k_is)
    (case tpFK7 => exact ⟨rfl, _, _, rfl, .cons ⟨_, rfl⟩ (.cons ⟨_, rfl⟩ (.cons ⟨_, rfl⟩ .nil))⟩)
    (case lpFK8 => k_is)
    (case tpFK8 => exact ⟨rfl, _, _, rfl, .cons ⟨_, rfl⟩ (.cons ⟨_, rfl⟩ (.cons ⟨_, rfl⟩ .nil))⟩)
    (case lpFK9 => k_is)
    (case tpFK9 => exact ⟨rfl, _, _, rfl, .cons ⟨_, rfl⟩ (.cons ⟨_, rfl⟩ (.cons ⟨_, rfl⟩ .nil))⟩)
    (case lpFK10 => k_is)
    (case tpFK10 => exact ⟨rfl, _, _, rfl, .cons ⟨_, rfl⟩ (.cons ⟨_, rfl⟩ (.cons ⟨_, rfl⟩ .nil))⟩)
    (case lpFK11 => k_is)
    (case tpFK11 => exact ⟨rfl, _, _, rfl, .cons ⟨_, rfl⟩ (.cons ⟨_, rfl⟩ .nil)⟩)
    (case aPCT => k_is)
    (case lPCT => k_is)
    (case dPCT => exact ⟨⟨rfl, rfl, rfl⟩, _, _, rfl, .cons rfl rfl (.cons rfl rfl (.cons rfl rfl (.cons rfl rfl (.cons rfl rfl .nil))))⟩)
    (case sPCT => decide)
    (case aTE => k_is)
    (case lTE => k_is)
    (case tTE => exact ⟨rfl, _, _, rfl, .cons ⟨_, rfl⟩ (.cons ⟨_, rfl⟩ (.cons ⟨_, rfl⟩ .nil))⟩)
    (case z_abs => k_is)
    (case z_zip => k_is)
    (case z_list => k_is)
    (case z_enumerate => k_is)
    (case z_len => k_is)
    (case z_isinstance => k_is)
    (case z_tuple => k_is)
    (case z_bool => k_is)
    (case z_str => k_is)
    (case z_reversed => k_is)
    (case z_int => k_is)
    (case z_max => k_is)
    (case z_min => k_is)
    (case z_range => k_is)
