import PyProof.Rows.All
import Wide.All
import OpenK.AllK
import Wide.FinOn
import HandS.ForMost
import HandS.Walk
import HandS.TupAny
import HandS.Rev
import HandS.Strs
import HandS.Exc
import HandS.ExcInit
import HandS.ExcIs
import HandS.ExcField
import HandS.ExcOwn
import HandS.WordsExc
import HandS.HotCalls
import HandS.IsInst
import HandS.Conv
import HandS.Codes
import HandS.Zip
import HandS.Flow
import HandS.Deep
import PyProof.Rows.ListStrD
import HandS.Star
import HandS.TupMul
import PyProof.StrOps2
import KE.IntTextLaws
import KE.KExcIs
import HandS.ExcValue
import HandS.RaiseMore
import HandS.Gcd
import HandS.Wide
import HandS.DictComp
import PyProof.ReprRoads
import PyProof.ReprLen
import HandS.SetFor
import HandS.Small
import PyProof.ExcBaseAll.ValueError
import HandS.FStr
import PySem.Challenge.RW_ledgerproof_k80_raised_claims
set_option Elab.async false
set_option linter.all false
set_option maxRecDepth 100000
namespace Fx
open PySem PySem.Spec PyProof.Rows L2
def Bare (o : Obj) : Prop := o.cls = .type "tuple" ∧ o.dict = none
/-- a new tuple of these items -/
def NewT (xs : List V) (H : Hp) (Q : VK) : Prop := ∀ (p : Addr) (o : Obj), H p = none → Bare o → Q (.ref p) (upd H p (.frz o (.tup xs)))
def tTupN (t : TA) : TE := fun σ H Q => t σ H fun xs H1 => xs.length ≤ sizeLine ∧ NewT xs H1 Q
theorem pe_tupN {X : Cx} {es : List Expr} {t : TA} {pos : Pos} {x1} (hes : PA X es t) : PE X (.Tuple es x1 pos) (tTupN t) := ⟨fun pins s σ H Q I hq =>
  wpAny_Tuple_spliced (thn (hes.run pos pins s σ H _ I hq) fun us s1 w => by
    obtain ⟨ys, H2, J, ry, hz, k⟩ := w
    refine ⟨ry.length ▸ hz, ?_⟩
    have hfree : H2 s1.heap.objs.size = none := J.hok.fresh (Nat.le_refl _)
    refine ⟨.ref s1.heap.objs.size, _, J.laid (t' := s1.toks) (o := .frz _ (.tup ys)) (fun c d e => Heap.get?_push_of_some _ e) (Nat.le_refl _) ⟨Heap.get?_push_size _ rfl, hz, us, ry, ⟨_, Heap.get?_push_size _ rfl, rfl, _, rfl⟩⟩, rfl, k _ _ hfree ⟨rfl, rfl⟩⟩)⟩
def rTupleN (K : PySem.W.Frag) : List V → Hp → VK → Prop := fun xs H Q => ∃ p ys, xs = [.ref p] ∧ ((SqL K H p ys ∧ NewT ys H Q) ∨ (SqT K H p ys ∧ Q (.ref p) H))
theorem call_tupleN {X : Cx} : CallR X (.type "tuple") (rTupleN X.K) := fun pins s σ H xs us Q I r ⟨p, ys, e, h⟩ => by
  subst e
  obtain ⟨u, rfl, ru⟩ := vals1 r
  cases ru
  rcases h with ⟨hl, k⟩ | ⟨ht, k⟩
  · obtain ⟨its, ri, isl, hz⟩ := I.list hl
    have len := ri.length
    refine call_tuple_list isl.isList (fun g kp => ?_) (by simp only [List.size_toArray] <;> omega)
    have J : Inv X pins σ H { s with heap := g } := I.kept (t' := s.toks) kp
    exact ⟨.ref g.objs.size, _, J.laid (t' := s.toks) (o := .frz { cls := .type "tuple", data := .seq its.toArray } (.tup ys)) (fun c d e => Heap.get?_push_of_some _ e) (Nat.le_refl _) ⟨Heap.get?_push_size _ rfl, hz, its, ri, IsTup.new _ _⟩, rfl, k _ _ (J.hok.fresh (Nat.le_refl _)) ⟨rfl, rfl⟩⟩
  · obtain ⟨its, ri, ist, hz⟩ := I.tuple ht
    exact call_tuple_same ist ⟨.ref p, H, I, rfl, k⟩
def rSlN (K : PySem.W.Frag) : V → Option Int → Option Int → Hp → VK → Prop := fun x lo hi H Q => ∃ a xs, x = .ref a ∧ SqT K H a xs ∧
  ((HT.sIx xs.length 0 lo = 0 ∧ HT.sIx xs.length xs.length hi = xs.length) → Q (.ref a) H) ∧ (¬ (HT.sIx xs.length 0 lo = 0 ∧ HT.sIx xs.length xs.length hi = xs.length) → NewT (cutV xs lo hi) H Q)
theorem sl_tupN {X : Cx} : SlR X (rSlN X.K) := fun pins s σ H x v vl vu lo hi sl Q I rx hs pl pu ⟨a, xs, e, hx, q1, q2⟩ => by
  subst e
  cases rx
  obtain ⟨its, ri, ist, hz⟩ := I.tuple hx
  have len : its.toArray.size = xs.length := by rw [List.size_toArray, ← ri.length]
  refine ⟨"tuple", _, PyProof.Rows.slot_tuple_getitem.lookup, ist.typeIs, ?_⟩
  by_cases hw : HT.sIx xs.length 0 lo = 0 ∧ HT.sIx xs.length xs.length hi = xs.length
  · exact getItem_tuple_whole ist hs pl pu (by rw [len]; exact hw) ⟨.ref a, H, I, rfl, q1 hw⟩
  · refine HT.getItem_tuple_cut ist hs pl pu (by rw [len]; exact hw) ?_ (by rw [len]; exact hz)
    rw [len]
    exact ⟨.ref s.heap.objs.size, _, I.laid (t' := s.toks) (o := .frz _ (.tup (cutV xs lo hi))) (fun c d e => Heap.get?_push_of_some _ e) (Nat.le_refl _) ⟨Heap.get?_push_size _ rfl, Nat.le_trans (cutV_length xs lo hi) hz, _, (ri.drop (HT.sIx xs.length 0 lo)).take (HT.sIx xs.length xs.length hi - HT.sIx xs.length 0 lo), IsTup.new _ _⟩, rfl, q2 hw _ _ (I.hok.fresh (Nat.le_refl _)) ⟨rfl, rfl⟩⟩
def rCatN (K : PySem.W.Frag) : R2 := fun x y H Q => ∃ a b xs ys, x = .ref a ∧ y = .ref b ∧ SqT K H a xs ∧ SqT K H b ys ∧ xs.length + ys.length ≤ sizeLine ∧
  (xs = [] → Q (.ref b) H) ∧ (xs ≠ [] → ys = [] → Q (.ref a) H) ∧ (xs ≠ [] → ys ≠ [] → NewT (xs ++ ys) H Q)
theorem op_catN {X : Cx} : OpR X (binaryOp .Add) (rCatN X.K) := fun pins s σ H x y v u Q I rx ry ⟨a, b, xs, ys, e1, e2, ha, hb, hz, q0, q1, q2⟩ => by
  subst e1 e2
  cases rx
  cases ry
  obtain ⟨its, r1, p1, _⟩ := I.tuple ha
  obtain ⟨its2, r2, p2, _⟩ := I.tuple hb
  by_cases hx : xs = []
  · subst hx
    cases r1
    exact cat_tup0 p1 p2 ⟨.ref b, H, I, rfl, q0 rfl⟩
  · have k2 : ∀ z : its2 ≠ [], ys ≠ [] := fun z w => z (r2.nil_iff.mpr w)
    refine HT.cat_tup p1 p2 (fun z => hx (r1.nil_iff.mp z)) (fun z => ⟨.ref a, H, I, rfl, q1 hx (r2.nil_iff.mp z)⟩) (fun z => ?_) (by rw [← r1.length, ← r2.length]; exact hz)
    exact ⟨.ref s.heap.objs.size, _, I.laid (t' := s.toks) (o := .frz _ (.tup (xs ++ ys))) (fun c d e => Heap.get?_push_of_some _ e) (Nat.le_refl _) ⟨Heap.get?_push_size _ rfl, by rw [List.length_append]; exact hz, _, r1.append r2, IsTup.new _ _⟩, rfl, q2 hx (k2 z) _ _ (I.hok.fresh (Nat.le_refl _)) ⟨rfl, rfl⟩⟩
/-- a method of a tuple -/
def BareAt (K : PySem.W.Frag) (H : Hp) (a : Addr) : Prop := (∃ o xs, H a = some (.frz o (.tup xs)) ∧ Bare o) ∨ ∃ o, K.lookup a = some o ∧ Bare o
end Fx
namespace Fx
open PySem PySem.Spec PyProof.Rows L2
inductive T where
  | non | bl (b : Bool) | int (i : Int) | str (x : Str) | obj (a : Addr) | ty (n : String)
  | tup (ts : List T) | lst (ts : List T) | kst (ts : List T) | ref (i : Nat) | wt (ts : List T)
  | exn (c : Str) (own : Bool) (ns : List Str) (ts : List T)
  | dct (ks : List Key) (ts : List T)
inductive O where
  | lst (ts : List T)
  | ins (C : Addr) (fs : List (Str × T))
  | dct (ks : List Key) (ts : List T)
abbrev Sto := List O
abbrev Env := List (Option T)
/-- an error of the program: its class's name, whether it has a dict, its fields -/
structure Exn where
  cls : Str
  own : Bool
  ns : List Str
  ts : List T
/-- where the store's things stand; what stands elsewhere and may change, too -/
structure Wd where
  at_ : List Addr
  out : List Addr
def Wd.av (ρ : Wd) : List Addr := ρ.at_ ++ ρ.out
def Wd.push (ρ : Wd) (p : Addr) : Wd := ⟨ρ.at_ ++ [p], ρ.out⟩
inductive R (α : Type) where
  | ok (a : α) (S : Sto) | err (x : Exn) (S : Sto) | bad
def R.bind {α β : Type} (r : R α) (f : α → Sto → R β) : R β := match r with
  | .ok a S => f a S
  | .err x S => .err x S
  | .bad => .bad
theorem R.bind_assoc {α β γ : Type} (r : R α) (f : α → Sto → R β) (g : β → Sto → R γ) : (r.bind f).bind g = r.bind fun a S => (f a S).bind g := by cases r <;> rfl
section
variable (K : PySem.W.Frag)
/-- a tuple, a list that never changes from here on -/
def FT (ρ : Wd) (H : Hp) (a : Addr) (xs : List V) : Prop := ((∃ o, H a = some (.frz o (.tup xs)) ∧ Bare o) ∧ a ∉ ρ.av) ∨ ∃ (o : Obj) (its : Array Value) (n : Nat), K.lookup a = some o ∧ Bare o ∧ o.data = .seq its n ∧ its.size ≤ sizeLine ∧ Vals xs its.toList
def FL (ρ : Wd) (H : Hp) (a : Addr) (xs : List V) : Prop := (Rd H a (.lst xs) ∧ a ∉ ρ.av) ∨ SqL K (fun _ => none) a xs
/-- the class that the program's top has by this name -/
def gaK (c : Str) : Option Addr := match PySem.W.nsIn K mainGlobals c with
  | some (some (.ref f)) => some f
  | _ => none
/-- at a: a caught error of the class at C, its dict at d -/
def exh (a C : Addr) (d : Option Addr) : HO := .ext fun h => ∃ (oe : Obj) (vs : Array Value), h.get? a = some oe ∧ Zc (.ref C) d oe ∧ oe.data = .fields vs
def XD (ρ : Wd) (H : Hp) (d : Option Addr) (own : Bool) (ns : List Str) (xs : List V) : Prop := match d with
  | none => own = false ∧ ns = [] ∧ xs = []
  | some dd => own = true ∧ H dd = some (.xd (ns.zip xs)) ∧ dd ∉ ρ.av ∧ ns.length = xs.length
mutual
inductive Rep (ρ : Wd) (H : Hp) : V → T → Prop
  | non : Rep ρ H .non .non
  | bl (b : Bool) : Rep ρ H (.bl b) (.bl b)
  | int (i : Int) : Rep ρ H (.int i) (.int i)
  | str (x : Str) : Rep ρ H (.str x) (.str x)
  | obj (a : Addr) : Rep ρ H (.ref a) (.obj a)
  | ty (n : String) : Rep ρ H (.ty n) (.ty n)
  | ref {i : Nat} {a : Addr} : ρ.at_[i]? = some a → Rep ρ H (.ref a) (.ref i)
  | tup {a : Addr} {xs : List V} {ts : List T} : FT K ρ H a xs → Reps ρ H xs ts → Rep ρ H (.ref a) (.tup ts)
  | wt {a : Addr} {xs : List V} {ts : List T} : Rd H a (.tup xs) → a ∉ ρ.av → Reps ρ H xs ts → Rep ρ H (.ref a) (.wt ts)
  | lst {a : Addr} {xs : List V} {ts : List T} : H a = some (.lst xs) → a ∉ ρ.av → Reps ρ H xs ts → Rep ρ H (.ref a) (.lst ts)
  | exn {a C : Addr} {d : Option Addr} {c : Str} {own : Bool} {ns : List Str} {xs : List V} {ts : List T} : gaK K c = some C → H a = some (exh a C d) → a ∉ ρ.av → XD ρ H d own ns xs → Reps ρ H xs ts → Rep ρ H (.ref a) (.exn c own ns ts)
  | dct {a : Addr} {kvs : List (Key × V)} {ks : List Key} {ts : List T} : H a = some (.dK kvs) → a ∉ ρ.av → kvs.map (·.1) = ks → Reps ρ H (kvs.map (·.2)) ts → Rep ρ H (.ref a) (.dct ks ts)
  | kst {a : Addr} {xs : List V} {ts : List T} : FL K ρ H a xs → Reps ρ H xs ts → Rep ρ H (.ref a) (.kst ts)
inductive Reps (ρ : Wd) (H : Hp) : List V → List T → Prop
  | nil : Reps ρ H [] []
  | cons {v : V} {t : T} {vs : List V} {ts : List T} : Rep ρ H v t → Reps ρ H vs ts → Reps ρ H (v :: vs) (t :: ts)
end
end
/-- from one state to a later one -/
structure Ext (ρ : Wd) (H : Hp) (ρ' : Wd) (H' : Hp) : Prop where
  pre : ∃ n, ρ'.at_ = ρ.at_ ++ n
  out : ∀ a ∈ ρ.out, a ∈ ρ'.out
  fresh : ∀ p ∈ ρ'.av, p ∉ ρ.av → H p = none
  keep : ∀ a o, H a = some o → a ∉ ρ.at_ → H' a = some o
  old : ∀ a ∈ ρ'.at_, a ∈ ρ.av → a ∈ ρ.at_
section
variable {K : PySem.W.Frag} {ρ ρ' ρ'' : Wd} {H H' H'' : Hp}
theorem Wd.at_av {ρ : Wd} {a : Addr} (h : a ∉ ρ.av) : a ∉ ρ.at_ := fun q => h (List.mem_append_left _ q)
theorem Ext.refl (ρ : Wd) (H : Hp) : Ext ρ H ρ H := ⟨⟨[], (List.append_nil _).symm⟩, fun _ h => h, fun p a b => absurd a b, fun _ _ h _ => h, fun _ h _ => h⟩
theorem Ext.here (k : ∀ a o, H a = some o → a ∉ ρ.at_ → H' a = some o) : Ext ρ H ρ H' := ⟨⟨[], (List.append_nil _).symm⟩, fun _ h => h, fun p a b => absurd a b, k, fun _ h _ => h⟩
theorem Ext.trans (a : Ext ρ H ρ' H') (b : Ext ρ' H' ρ'' H'') : Ext ρ H ρ'' H'' where
  pre := by
    obtain ⟨n, e⟩ := a.pre
    obtain ⟨m, e'⟩ := b.pre
    exact ⟨n ++ m, by rw [e', e, List.append_assoc]⟩
  out := fun x m => b.out x (a.out x m)
  fresh := fun p h1 h2 => by
    by_cases h3 : p ∈ ρ'.av
    · exact a.fresh p h3 h2
    · have h4 := b.fresh p h1 h3
      cases e : H p with
      | none => rfl
      | some o => rw [a.keep p o e (Wd.at_av h2)] at h4; cases h4
  keep := fun x o h1 h2 => by
    refine b.keep x o (a.keep x o h1 h2) fun h3 => ?_
    by_cases h4 : x ∈ ρ.av
    · exact h2 (a.old x h3 h4)
    · rw [a.fresh x (List.mem_append_left _ h3) h4] at h1
      cases h1
  old := fun x h1 h2 => by
    refine a.old x (b.old x h1 ?_) h2
    obtain ⟨n, e⟩ := a.pre
    rcases List.mem_append.mp h2 with h2 | h2
    · exact List.mem_append_left _ (by rw [e]; exact List.mem_append_left _ h2)
    · exact List.mem_append_right _ (a.out x h2)
theorem Ext.nin (a : Ext ρ H ρ' H') {x : Addr} {o : HO} (h : H x = some o) (h2 : x ∉ ρ.av) : x ∉ ρ'.av := fun h3 => by
  rw [a.fresh x h3 h2] at h
  cases h
theorem Ext.rd (e : Ext ρ H ρ' H') {a : Addr} {u : HO} (h : Rd H a u) (n : a ∉ ρ.av) : Rd H' a u ∧ a ∉ ρ'.av := by
  rcases h with h | ⟨o, h⟩
  · exact ⟨.inl (e.keep _ _ h (Wd.at_av n)), e.nin h n⟩
  · exact ⟨.inr ⟨o, e.keep _ _ h (Wd.at_av n)⟩, e.nin h n⟩
structure ExtW (ρ : Wd) (H : Hp) (ρ' : Wd) (H' : Hp) : Prop where
  pre : ∃ n, ρ'.at_ = ρ.at_ ++ n
  fresh : ∀ p ∈ ρ'.av, p ∉ ρ.av → H p = none
  keep : ∀ a o, H a = some o → a ∉ ρ.av → H' a = some o
theorem Ext.w (e : Ext ρ H ρ' H') : ExtW ρ H ρ' H' := ⟨e.pre, e.fresh, fun a o h n => e.keep a o h (Wd.at_av n)⟩
theorem ExtW.refl (ρ : Wd) (H : Hp) : ExtW ρ H ρ H := (Ext.refl ρ H).w
theorem ExtW.nin (a : ExtW ρ H ρ' H') {x : Addr} {o : HO} (h : H x = some o) (h2 : x ∉ ρ.av) : x ∉ ρ'.av := fun h3 => by
  rw [a.fresh x h3 h2] at h
  cases h
theorem ExtW.trans (a : ExtW ρ H ρ' H') (b : ExtW ρ' H' ρ'' H'') : ExtW ρ H ρ'' H'' where
  pre := by
    obtain ⟨n, e⟩ := a.pre
    obtain ⟨m, e'⟩ := b.pre
    exact ⟨n ++ m, by rw [e', e, List.append_assoc]⟩
  fresh := fun p h1 h2 => by
    by_cases h3 : p ∈ ρ'.av
    · exact a.fresh p h3 h2
    · have h4 := b.fresh p h1 h3
      cases h5 : H p with
      | none => rfl
      | some o =>
        rw [a.keep p o h5 h2] at h4
        cases h4
  keep := fun x o h n => b.keep x o (a.keep x o h n) (a.nin h n)
theorem ExtW.rd (e : ExtW ρ H ρ' H') {a : Addr} {u : HO} (h : Rd H a u) (n : a ∉ ρ.av) : Rd H' a u ∧ a ∉ ρ'.av := by
  rcases h with h | ⟨o, h⟩
  · exact ⟨.inl (e.keep _ _ h n), e.nin h n⟩
  · exact ⟨.inr ⟨o, e.keep _ _ h n⟩, e.nin h n⟩
theorem FT.extw {a : Addr} {xs : List V} (h : FT K ρ H a xs) (e : ExtW ρ H ρ' H') : FT K ρ' H' a xs := by
  rcases h with ⟨⟨o, h, b⟩, n⟩ | h
  · exact .inl ⟨⟨o, e.keep _ _ h n, b⟩, e.nin h n⟩
  · exact .inr h
theorem FL.extw {a : Addr} {xs : List V} (h : FL K ρ H a xs) (e : ExtW ρ H ρ' H') : FL K ρ' H' a xs := by
  rcases h with ⟨h, n⟩ | h
  · exact .inl (e.rd h n)
  · exact .inr h
theorem FT.ext {a : Addr} {xs : List V} (h : FT K ρ H a xs) (e : Ext ρ H ρ' H') : FT K ρ' H' a xs := h.extw e.w
theorem FL.ext {a : Addr} {xs : List V} (h : FL K ρ H a xs) (e : Ext ρ H ρ' H') : FL K ρ' H' a xs := by
  rcases h with ⟨h, n⟩ | h
  · exact .inl (e.rd h n)
  · exact .inr h
theorem FT.sq {a : Addr} {xs : List V} (h : FT K ρ H a xs) : SqT K H a xs := by
  rcases h with ⟨⟨o, h, _⟩, _⟩ | ⟨o, its, n, l, b, d, z, r⟩
  · exact .inl (.inr ⟨o, h⟩)
  · exact .inr ⟨o, its, n, l, b.1, d, z, r⟩
theorem FT.bare {a : Addr} {xs : List V} (h : FT K ρ H a xs) : BareAt K H a := by
  rcases h with ⟨⟨o, h, b⟩, _⟩ | ⟨o, its, n, l, b, d, z, r⟩
  · exact .inl ⟨o, xs, h, b⟩
  · exact .inr ⟨o, l, b⟩
theorem FL.sq {a : Addr} {xs : List V} (h : FL K ρ H a xs) : SqL K H a xs := by
  rcases h with ⟨h, _⟩ | h
  · exact .inl h
  · rcases h with (h | ⟨_, h⟩) | h
    · cases h
    · cases h
    · exact .inr h
theorem getE_pre {ρ n : List Addr} {i : Nat} {a : Addr} (h : ρ[i]? = some a) : (ρ ++ n)[i]? = some a := by
  obtain ⟨hi, _⟩ := List.getElem?_eq_some_iff.mp h
  rw [List.getElem?_append_left hi]
  exact h
theorem Ext.get (e : Ext ρ H ρ' H') {i : Nat} {a : Addr} (h : ρ.at_[i]? = some a) : ρ'.at_[i]? = some a := by
  obtain ⟨n, q⟩ := e.pre
  rw [q]
  exact getE_pre h
theorem ExtW.get (e : ExtW ρ H ρ' H') {i : Nat} {a : Addr} (h : ρ.at_[i]? = some a) : ρ'.at_[i]? = some a := by
  obtain ⟨n, q⟩ := e.pre
  rw [q]
  exact getE_pre h
theorem XD.mono {d : Option Addr} {own : Bool} {ns : List Str} {xs : List V} (k : ∀ b o, H b = some o → b ∉ ρ.av → H' b = some o ∧ b ∉ ρ'.av) (h : XD ρ H d own ns xs) : XD ρ' H' d own ns xs := by
  cases d with
  | none => exact h
  | some dd => exact ⟨h.1, (k _ _ h.2.1 h.2.2.1).1, (k _ _ h.2.1 h.2.2.1).2, h.2.2.2⟩
mutual
theorem Rep.extw (e : ExtW ρ H ρ' H') : ∀ {v : V} {t : T}, Rep K ρ H v t → Rep K ρ' H' v t
  | _, _, .non => .non
  | _, _, .bl b => .bl b
  | _, _, .int i => .int i
  | _, _, .str x => .str x
  | _, _, .obj a => .obj a
  | _, _, .ty n => .ty n
  | _, _, .ref h => .ref (e.get h)
  | _, _, .tup h r => .tup (h.extw e) (Reps.extw e r)
  | _, _, .wt h n r => .wt (e.rd h n).1 (e.rd h n).2 (Reps.extw e r)
  | _, _, .exn g h n x r => .exn g (e.keep _ _ h n) (e.nin h n) (x.mono fun b o z m => ⟨e.keep _ _ z m, e.nin z m⟩) (Reps.extw e r)
  | _, _, .lst h n r => .lst (e.keep _ _ h n) (e.nin h n) (Reps.extw e r)
  | _, _, .dct h n k r => .dct (e.keep _ _ h n) (e.nin h n) k (Reps.extw e r)
  | _, _, .kst h r => .kst (h.extw e) (Reps.extw e r)
theorem Reps.extw (e : ExtW ρ H ρ' H') : ∀ {v : List V} {t : List T}, Reps K ρ H v t → Reps K ρ' H' v t
  | _, _, .nil => .nil
  | _, _, .cons h r => .cons (Rep.extw e h) (Reps.extw e r)
end
mutual
theorem Rep.ext (e : Ext ρ H ρ' H') : ∀ {v : V} {t : T}, Rep K ρ H v t → Rep K ρ' H' v t
  | _, _, .non => .non
  | _, _, .bl b => .bl b
  | _, _, .int i => .int i
  | _, _, .str x => .str x
  | _, _, .obj a => .obj a
  | _, _, .ty n => .ty n
  | _, _, .ref h => .ref (e.get h)
  | _, _, .tup h r => .tup (h.ext e) (Reps.ext e r)
  | _, _, .wt h n r => .wt (e.rd h n).1 (e.rd h n).2 (Reps.ext e r)
  | _, _, .exn g h n x r => .exn g (e.keep _ _ h (Wd.at_av n)) (e.nin h n) (x.mono fun b o z m => ⟨e.keep _ _ z (Wd.at_av m), e.nin z m⟩) (Reps.ext e r)
  | _, _, .lst h n r => .lst (e.keep _ _ h (Wd.at_av n)) (e.nin h n) (Reps.ext e r)
  | _, _, .dct h n k r => .dct (e.keep _ _ h (Wd.at_av n)) (e.nin h n) k (Reps.ext e r)
  | _, _, .kst h r => .kst (h.ext e) (Reps.ext e r)
theorem Reps.ext (e : Ext ρ H ρ' H') : ∀ {v : List V} {t : List T}, Reps K ρ H v t → Reps K ρ' H' v t
  | _, _, .nil => .nil
  | _, _, .cons h r => .cons (Rep.ext e h) (Reps.ext e r)
end
theorem Reps.length : ∀ {v : List V} {t : List T}, Reps K ρ H v t → v.length = t.length
  | _, _, .nil => rfl
  | _, _, .cons _ r => congrArg (· + 1) (Reps.length r)
theorem Reps.append : ∀ {v v' : List V} {t t' : List T}, Reps K ρ H v t → Reps K ρ H v' t' → Reps K ρ H (v ++ v') (t ++ t')
  | _, _, _, _, .nil, r => r
  | _, _, _, _, .cons h r, r' => .cons h (Reps.append r r')
theorem Reps.get : ∀ {v : List V} {t : List T} {i : Nat} {x : T}, Reps K ρ H v t → t[i]? = some x → ∃ y, v[i]? = some y ∧ Rep K ρ H y x
  | _, _, i, _, .nil, e => by simp at e
  | _, _, 0, _, .cons h r, e => by
    have e := Option.some.inj e
    subst e
    exact ⟨_, rfl, h⟩
  | _, _, i + 1, _, .cons h r, e => Reps.get (i := i) r (by simpa using e)
theorem Reps.set : ∀ {v : List V} {t : List T} (i : Nat) {y : V} {x : T}, Rep K ρ H y x → Reps K ρ H v t → Reps K ρ H (v.set i y) (t.set i x)
  | _, _, _, _, _, _, .nil => .nil
  | _, _, 0, _, _, q, .cons h r => .cons q r
  | _, _, i + 1, _, _, q, .cons h r => .cons h (Reps.set i q r)
theorem Reps.take : ∀ {v : List V} {t : List T} (n : Nat), Reps K ρ H v t → Reps K ρ H (v.take n) (t.take n)
  | _, _, 0, _ => by simpa using Reps.nil
  | _, _, n + 1, .nil => .nil
  | _, _, n + 1, .cons h r => .cons h (Reps.take n r)
theorem Reps.drop : ∀ {v : List V} {t : List T} (n : Nat), Reps K ρ H v t → Reps K ρ H (v.drop n) (t.drop n)
  | _, _, 0, r => r
  | _, _, n + 1, .nil => .nil
  | _, _, n + 1, .cons h r => Reps.drop n r
theorem Reps.reverse : ∀ {v : List V} {t : List T}, Reps K ρ H v t → Reps K ρ H v.reverse t.reverse
  | _, _, .nil => .nil
  | _, _, .cons h r => by
    rw [List.reverse_cons, List.reverse_cons]
    exact Reps.append (Reps.reverse r) (.cons h .nil)
theorem Reps.dropLast {v : List V} {t : List T} (h : Reps K ρ H v t) : Reps K ρ H v.dropLast t.dropLast := by
  rw [List.dropLast_eq_take, List.dropLast_eq_take, h.length]
  exact h.take _
end
section
variable {K : PySem.W.Frag} {ρ ρ' : Wd} {H : Hp}
mutual
/-- the same under another world that avoids no more -/
theorem Rep.to (hr : ∀ (i : Nat) (a : Addr), ρ.at_[i]? = some a → ρ'.at_[i]? = some a) (ha : ∀ a, a ∉ ρ.av → a ∉ ρ'.av) : ∀ {v : V} {t : T}, Rep K ρ H v t → Rep K ρ' H v t
  | _, _, .non => .non
  | _, _, .bl b => .bl b
  | _, _, .int i => .int i
  | _, _, .str x => .str x
  | _, _, .obj a => .obj a
  | _, _, .ty n => .ty n
  | _, _, .ref h => .ref (hr _ _ h)
  | _, _, .tup h r => .tup (h.imp (fun q => ⟨q.1, ha _ q.2⟩) id) (Reps.to hr ha r)
  | _, _, .wt h n r => .wt h (ha _ n) (Reps.to hr ha r)
  | _, _, .exn g h n x r => .exn g h (ha _ n) (x.mono fun b o z m => ⟨z, ha _ m⟩) (Reps.to hr ha r)
  | _, _, .lst h n r => .lst h (ha _ n) (Reps.to hr ha r)
  | _, _, .dct h n k r => .dct h (ha _ n) k (Reps.to hr ha r)
  | _, _, .kst h r => .kst (h.imp (fun q => ⟨q.1, ha _ q.2⟩) id) (Reps.to hr ha r)
theorem Reps.to (hr : ∀ (i : Nat) (a : Addr), ρ.at_[i]? = some a → ρ'.at_[i]? = some a) (ha : ∀ a, a ∉ ρ.av → a ∉ ρ'.av) : ∀ {v : List V} {t : List T}, Reps K ρ H v t → Reps K ρ' H v t
  | _, _, .nil => .nil
  | _, _, .cons h r => .cons (Rep.to hr ha h) (Reps.to hr ha r)
end
end
inductive RepF (K : PySem.W.Frag) (ρ : Wd) (H : Hp) : List (Str × V) → List (Str × T) → Prop
  | nil : RepF K ρ H [] []
  | cons {f : Str} {v : V} {t : T} {vs : List (Str × V)} {ts : List (Str × T)} : Rep K ρ H v t → RepF K ρ H vs ts → RepF K ρ H ((f, v) :: vs) ((f, t) :: ts)
def RepO (K : PySem.W.Frag) (ρ : Wd) (H : Hp) (a : Addr) : O → Prop
  | .lst ts => ∃ xs, H a = some (.lst xs) ∧ Reps K ρ H xs ts
  | .ins C fs => ∃ dx vs, H a = some (.ins C dx vs) ∧ RepF K ρ H vs fs
  | .dct ks ts => ∃ kvs, H a = some (.dK kvs) ∧ kvs.map (·.1) = ks ∧ Reps K ρ H (kvs.map (·.2)) ts
structure Sta (K : PySem.W.Frag) (ρ : Wd) (H : Hp) (S : Sto) : Prop where
  len : ρ.at_.length = S.length
  nd : ρ.av.Nodup
  al : ∀ a ∈ ρ.out, ∃ u, H a = some u
  at_ : ∀ (i : Nat) (a : Addr) (o : O), ρ.at_[i]? = some a → S[i]? = some o → RepO K ρ H a o
structure REnv (K : PySem.W.Frag) (ρ : Wd) (H : Hp) (σ : L2.St) (τ : Env) : Prop where
  len : σ.length = τ.length
  at_ : ∀ (i : Nat) (t : T), τ[i]? = some (some t) → ∃ v, σ[i]? = some (some v) ∧ Rep K ρ H v t
section
variable {K : PySem.W.Frag} {ρ ρ' ρ'' : Wd} {H H' H'' : Hp} {S S' : Sto} {σ : L2.St} {τ : Env}
theorem RepF.ext (e : Ext ρ H ρ' H') : ∀ {v : List (Str × V)} {t : List (Str × T)}, RepF K ρ H v t → RepF K ρ' H' v t
  | _, _, .nil => .nil
  | _, _, .cons h r => .cons (h.ext e) (RepF.ext e r)
theorem REnv.ext (h : REnv K ρ H σ τ) (e : Ext ρ H ρ' H') : REnv K ρ' H' σ τ := ⟨h.len, fun i t q => by
  obtain ⟨v, a, b⟩ := h.at_ i t q
  exact ⟨v, a, b.ext e⟩⟩
theorem REnv.set (h : REnv K ρ H σ τ) (i : Nat) {v : V} {t : T} (r : Rep K ρ H v t) : REnv K ρ H (σ.set i (some v)) (τ.set i (some t)) := ⟨by rw [List.length_set, List.length_set, h.len], fun j u q => by
  rw [List.getElem?_set] at q ⊢
  by_cases e : i = j
  · rw [if_pos e] at q ⊢
    by_cases l : i < τ.length
    · have l' : i < σ.length := by rw [h.len]; exact l
      rw [if_pos l] at q
      rw [if_pos l']
      have q := Option.some.inj (Option.some.inj q)
      subst q
      exact ⟨v, rfl, r⟩
    · rw [if_neg l] at q
      cases q
  · rw [if_neg e] at q ⊢
    exact h.at_ j u q⟩
theorem Sta.look (h : Sta K ρ H S) {i : Nat} {o : O} (q : S[i]? = some o) : ∃ a, ρ.at_[i]? = some a ∧ RepO K ρ H a o := by
  obtain ⟨hi, _⟩ := List.getElem?_eq_some_iff.mp q
  have hj : i < ρ.at_.length := by rw [h.len]; exact hi
  exact ⟨ρ.at_[i], List.getElem?_eq_getElem hj, h.at_ i _ o (List.getElem?_eq_getElem hj) q⟩
theorem RepO.is {a : Addr} : ∀ {o : O}, RepO K ρ H a o → ∃ u, H a = Option.some u
  | .lst _, ⟨_, h, _⟩ => ⟨_, h⟩
  | .ins _ _, ⟨_, _, h, _⟩ => ⟨_, h⟩
  | .dct _ _, ⟨_, h, _⟩ => ⟨_, h⟩
theorem RepO.ext {a : Addr} (e : Ext ρ H ρ' H') (k : H' a = H a) : ∀ {o : O}, RepO K ρ H a o → RepO K ρ' H' a o
  | .lst _, ⟨_, h, r⟩ => ⟨_, k.trans h, r.ext e⟩
  | .ins _ _, ⟨_, _, h, r⟩ => ⟨_, _, k.trans h, r.ext e⟩
  | .dct _ _, ⟨_, h, q, r⟩ => ⟨_, k.trans h, q, r.ext e⟩
theorem Sta.alive (h : Sta K ρ H S) {p : Addr} (m : p ∈ ρ.av) : ∃ u, H p = Option.some u := by
  rcases List.mem_append.mp m with m | m
  · obtain ⟨i, hi, e⟩ := List.getElem_of_mem m
    have hj : i < S.length := by rw [← h.len]; exact hi
    exact (h.at_ i p S[i] (by rw [List.getElem?_eq_getElem hi, e]) (List.getElem?_eq_getElem hj)).is
  · exact h.al p m
/-- what is new stands nowhere in the store -/
theorem Sta.new (h : Sta K ρ H S) {p : Addr} (n : H p = none) : p ∉ ρ.av := fun m => by
  obtain ⟨u, q⟩ := h.alive m
  rw [q] at n
  cases n
/-- what stands elsewhere stays -/
theorem Sta.off (h : Sta K ρ H S) {a : Addr} (m : a ∈ ρ.out) : a ∉ ρ.at_ := fun q => by
  have d := (List.nodup_append.mp h.nd).2.2
  exact d a q a m rfl
/-- a new frozen thing -/
theorem Ext.push {p : Addr} {o : HO} (n : H p = none) (hn : p ∉ ρ.av) : Ext ρ H ρ (upd H p o) := Ext.here fun a u h _ => by
  rw [upd_ne (ne_of_none h n)]
  exact h
theorem Sta.al' (h : Sta K ρ H S) (k : ∀ a o, H a = Option.some o → a ∉ ρ.at_ → H' a = Option.some o) : ∀ a ∈ ρ.out, ∃ u, H' a = Option.some u := fun a m => by
  obtain ⟨u, q⟩ := h.al a m
  exact ⟨u, k _ _ q (h.off m)⟩
theorem Sta.push (h : Sta K ρ H S) {p : Addr} {o : HO} (n : H p = none) : Sta K ρ (upd H p o) S := ⟨h.len, h.nd, h.al' (Ext.push n (h.new n)).keep, fun i a u e q => by
  have r := h.at_ i a u e q
  have ne : a ≠ p := fun z => by
    obtain ⟨w, hw⟩ := r.is
    rw [z, n] at hw
    cases hw
  exact r.ext (Ext.push n (h.new n)) (upd_ne ne)⟩
/-- a new thing of the store -/
theorem Ext.more {p : Addr} {o : HO} (n : H p = none) (hn : p ∉ ρ.av) : Ext ρ H (ρ.push p) (upd H p o) where
  pre := ⟨[p], rfl⟩
  out := fun _ h => h
  fresh := fun q a b => by
    rcases List.mem_append.mp a with a | a
    · rcases List.mem_append.mp a with a | a
      · exact absurd (List.mem_append_left _ a) b
      · rw [List.mem_singleton.mp a]; exact n
    · exact absurd (List.mem_append_right _ a) b
  keep := fun a u h _ => by
    rw [upd_ne (ne_of_none h n)]
    exact h
  old := fun a h1 h2 => by
    rcases List.mem_append.mp h1 with h1 | h1
    · exact h1
    · rw [List.mem_singleton.mp h1] at h2
      exact absurd h2 hn
theorem nd_push {ρ : Wd} {p : Addr} (h : ρ.av.Nodup) (hn : p ∉ ρ.av) : (ρ.push p).av.Nodup := by
  unfold Wd.push Wd.av at *
  rw [List.append_assoc]
  simp only [List.nodup_append, List.mem_append, List.singleton_append, List.nodup_cons, List.mem_cons, not_or] at h hn ⊢
  refine ⟨h.1, ⟨hn.2, h.2.1⟩, fun a ha b hb => ?_⟩
  rcases hb with hb | hb
  · rw [hb]
    exact fun e => hn.1 (e ▸ ha)
  · exact h.2.2 a ha b hb
theorem Sta.more (h : Sta K ρ H S) {p : Addr} {o : HO} {u : O} (n : H p = none) (r : RepO K (ρ.push p) (upd H p o) p u) : Sta K (ρ.push p) (upd H p o) (S ++ [u]) := by
  have hn := h.new n
  have x := Ext.more (o := o) n hn
  refine ⟨by simp [Wd.push, h.len], nd_push h.nd hn, h.al' x.keep, fun i a w e q => ?_⟩
  by_cases hi : i < S.length
  · rw [List.getElem?_append_left hi] at q
    have e : (ρ.at_ ++ [p])[i]? = Option.some a := e
    rw [List.getElem?_append_left (by rw [h.len]; exact hi)] at e
    have r := h.at_ i a w e q
    have ne : a ≠ p := fun z => by
      obtain ⟨w, hw⟩ := r.is
      rw [z, n] at hw
      cases hw
    exact r.ext x (upd_ne ne)
  · have hj : i = S.length := by
      obtain ⟨q1, _⟩ := List.getElem?_eq_some_iff.mp q
      rw [List.length_append, List.length_singleton] at q1
      omega
    subst hj
    rw [List.getElem?_append_right (Nat.le_refl _), Nat.sub_self] at q
    have e : (ρ.at_ ++ [p])[S.length]? = Option.some a := e
    rw [← h.len, List.getElem?_append_right (Nat.le_refl _), Nat.sub_self] at e
    have q := Option.some.inj q
    have e := Option.some.inj e
    subst q
    subst e
    exact r
/-- a thing of the store is changed -/
theorem Ext.put {a : Addr} {o : HO} (m : a ∈ ρ.at_) : Ext ρ H ρ (upd H a o) := Ext.here fun b u h n => by
  rw [upd_ne (show b ≠ a from fun z => n (by rw [z]; exact m))]
  exact h
theorem Sta.put (h : Sta K ρ H S) {i : Nat} {a : Addr} {o : HO} {u : O} (e : ρ.at_[i]? = Option.some a) (r : RepO K ρ (upd H a o) a u) : Sta K ρ (upd H a o) (S.set i u) := by
  have m : a ∈ ρ.at_ := List.mem_of_getElem? e
  refine ⟨by rw [List.length_set, h.len], h.nd, h.al' (Ext.put m).keep, fun j b w ej q => ?_⟩
  rw [List.getElem?_set] at q
  by_cases z : i = j
  · rw [if_pos z] at q
    split at q
    · have q := Option.some.inj q
      subst q
      subst z
      rw [e] at ej
      have ej := Option.some.inj ej
      subst ej
      exact r
    · cases q
  · rw [if_neg z] at q
    have ne : b ≠ a := fun y => z (by
      subst y
      obtain ⟨i1, e1⟩ := List.getElem?_eq_some_iff.mp e
      obtain ⟨j1, e2⟩ := List.getElem?_eq_some_iff.mp ej
      exact (List.getElem_inj (List.nodup_append.mp h.nd).1).mp (e1.trans e2.symm))
    exact (h.at_ j b w ej q).ext (Ext.put m) (upd_ne ne)
end
section
variable {K : PySem.W.Frag} {ρ ρ' : Wd} {H : Hp} {S : Sto}
theorem RepF.to (hr : ∀ (i : Nat) (a : Addr), ρ.at_[i]? = some a → ρ'.at_[i]? = some a) (ha : ∀ a, a ∉ ρ.av → a ∉ ρ'.av) : ∀ {v : List (Str × V)} {t : List (Str × T)}, RepF K ρ H v t → RepF K ρ' H v t
  | _, _, .nil => .nil
  | _, _, .cons h r => .cons (h.to hr ha) (RepF.to hr ha r)
theorem RepO.to (hr : ∀ (i : Nat) (a : Addr), ρ.at_[i]? = some a → ρ'.at_[i]? = some a) (ha : ∀ a, a ∉ ρ.av → a ∉ ρ'.av) {a : Addr} : ∀ {o : O}, RepO K ρ H a o → RepO K ρ' H a o
  | .lst _, ⟨_, h, r⟩ => ⟨_, h, r.to hr ha⟩
  | .ins _ _, ⟨_, _, h, r⟩ => ⟨_, _, h, r.to hr ha⟩
  | .dct _ _, ⟨_, h, q, r⟩ => ⟨_, h, q, r.to hr ha⟩
end
def Post (K : PySem.W.Frag) (E : XK) (ρ : Wd) (H : Hp) {α : Type} (r : R α) (Q : Wd → Hp → α → Sto → Prop) : Prop := match r with
  | .ok a S' => ∀ ρ' H', Ext ρ H ρ' H' → Sta K ρ' H' S' → Q ρ' H' a S'
  | .err x S' => ∀ ρ' H' C d vs, Ext ρ H ρ' H' → Sta K ρ' H' S' → gaK K x.cls = some C → XD ρ' H' d x.own x.ns vs → Reps K ρ' H' vs x.ts → E (.ref C) d H'
  | .bad => False
end Fx
namespace Fx
open PySem PySem.Spec PyProof.Rows L2
section
variable {K : PySem.W.Frag} {E : XK} {ρ ρ' ρ1 : Wd} {H H' H1 : Hp} {α β : Type}
theorem Post.imp {r : R α} {Q Q' : Wd → Hp → α → Sto → Prop} (h : Post K E ρ H r Q) (i : ∀ ρ1 H1 a S1, Ext ρ H ρ1 H1 → Sta K ρ1 H1 S1 → Q ρ1 H1 a S1 → Q' ρ1 H1 a S1) : Post K E ρ H r Q' := by
  cases r with
  | ok a S => exact fun ρ' H' e s => i _ _ _ _ e s (h ρ' H' e s)
  | err x S => exact h
  | bad => exact h
theorem Post.ext {r : R α} {Q : Wd → Hp → α → Sto → Prop} (h : Post K E ρ H r Q) (e : Ext ρ H ρ1 H1) : Post K E ρ1 H1 r Q := by
  cases r with
  | ok a S => exact fun ρ' H' e' s => h ρ' H' (e.trans e') s
  | err x S => exact fun ρ' H' C d vs e' s => h ρ' H' C d vs (e.trans e') s
  | bad => exact h
theorem Post.step {r : R α} {f : α → Sto → R β} {Q : Wd → Hp → β → Sto → Prop} {Q' : Wd → Hp → α → Sto → Prop} (h : Post K E ρ H (r.bind f) Q)
    (i : ∀ ρ1 H1 a S1, Ext ρ H ρ1 H1 → Sta K ρ1 H1 S1 → Post K E ρ1 H1 (f a S1) Q → Q' ρ1 H1 a S1) : Post K E ρ H r Q' := by
  cases r with
  | ok a S => exact fun ρ' H' e s => i _ _ _ _ e s (Post.ext (r := f a S) h e)
  | err x S => exact h
  | bad => exact h
theorem Post.ok {a : α} {S : Sto} {Q : Wd → Hp → α → Sto → Prop} (h : Post K E ρ H (.ok a S) Q) (s : Sta K ρ H S) : Q ρ H a S := h ρ H (Ext.refl ρ H) s
end
abbrev QE (K : PySem.W.Frag) (Q : VK) : Wd → Hp → T → Sto → Prop := fun ρ H t _ => ∀ v, Rep K ρ H v t → Q v H
def tM (K : PySem.W.Frag) (E : XK) (m : Env → Sto → R T) : TE := fun σ H Q => ∃ ρ τ S, Sta K ρ H S ∧ REnv K ρ H σ τ ∧ Post K E ρ H (m τ S) (QE K Q)
def tB (K : PySem.W.Frag) (E : XK) (m : Env → Sto → R Bool) : TT := fun σ H Q => ∃ ρ τ S, Sta K ρ H S ∧ REnv K ρ H σ τ ∧ Post K E ρ H (m τ S) (fun _ H' b _ => Q b H')
def tA (K : PySem.W.Frag) (E : XK) (m : Env → Sto → R (List T)) : TA := fun σ H Q => ∃ ρ τ S, Sta K ρ H S ∧ REnv K ρ H σ τ ∧ Post K E ρ H (m τ S) (fun ρ' H' ts _ => ∀ vs, Reps K ρ' H' vs ts → Q vs H')
inductive Fl where
  | nx (τ : Env) | rt (t : T) | bk (τ : Env) | ct (τ : Env)
def QS (K : PySem.W.Frag) (D : Ends) : Wd → Hp → Fl → Sto → Prop := fun ρ H f _ => match f with
  | .nx τ => ∀ σ, REnv K ρ H σ τ → D.nx σ H
  | .bk τ => ∀ σ, REnv K ρ H σ τ → D.bk σ H
  | .ct τ => ∀ σ, REnv K ρ H σ τ → D.ct σ H
  | .rt t => ∀ v, Rep K ρ H v t → D.rt v H
def tS (K : PySem.W.Frag) (E : XK) (m : Env → Sto → R Fl) : TS := fun D σ H => ∃ ρ τ S, Sta K ρ H S ∧ REnv K ρ H σ τ ∧ Post K E ρ H (m τ S) (QS K D)
section
variable {X : Cx}
theorem PE.of {e : Expr} {t t' : TE} (h : PE X e t) (i : ∀ σ H Q, t' σ H Q → t σ H Q) : PE X e t' := ⟨fun pins s σ H Q I hw => h.run pins s σ H Q I (i σ H Q hw)⟩
theorem PT.of {e : Expr} {t t' : TT} (h : PT X e t) (i : ∀ σ H Q, t' σ H Q → t σ H Q) : PT X e t' := ⟨fun pins s σ H Q I hw => h.run pins s σ H Q I (i σ H Q hw)⟩
theorem PW.of {e : Expr} {t t' : TT} (h : PW X e t) (i : ∀ σ H Q, t' σ H Q → t σ H Q) : PW X e t' := ⟨fun wh pins s σ H Q I hw => h.run wh pins s σ H Q I (i σ H Q hw)⟩
theorem PA.of {e : List Expr} {t t' : TA} (h : PA X e t) (i : ∀ σ H Q, t' σ H Q → t σ H Q) : PA X e t' := ⟨fun pos pins s σ H Q I hw => h.run pos pins s σ H Q I (i σ H Q hw)⟩
theorem PS.of {e : Stmt} {t t' : TS} (h : PS X e t) (i : ∀ D σ H, t' D σ H → t D σ H) : PS X e t' := ⟨fun pins s σ H D I hw => h.run pins s σ H D I (i D σ H hw)⟩
theorem PSs.of {e : List Stmt} {t t' : TS} (h : PSs X e t) (i : ∀ D σ H, t' D σ H → t D σ H) : PSs X e t' := ⟨fun pins s σ H D I hw => h.run pins s σ H D I (i D σ H hw)⟩
end
def mVar (i : Nat) : Env → Sto → R T := fun τ S => match τ[i]? with
  | some (some t) => .ok t S
  | _ => .bad
def mC (t : T) : Env → Sto → R T := fun _ S => .ok t S
def mBin (f : T → T → Sto → R T) (a b : Env → Sto → R T) : Env → Sto → R T := fun τ S => (a τ S).bind fun x S1 => (b τ S1).bind fun y S2 => f x y S2
def mUn (f : T → Sto → R T) (a : Env → Sto → R T) : Env → Sto → R T := fun τ S => (a τ S).bind fun x S1 => f x S1
def mNil : Env → Sto → R (List T) := fun _ S => .ok [] S
def mCons (a : Env → Sto → R T) (b : Env → Sto → R (List T)) : Env → Sto → R (List T) := fun τ S => (a τ S).bind fun x S1 => (b τ S1).bind fun y S2 => .ok (x :: y) S2
def mFn (f : List T → Sto → R T) (a : Env → Sto → R (List T)) : Env → Sto → R T := fun τ S => (a τ S).bind f
def mIte (c : Env → Sto → R Bool) (a b : Env → Sto → R T) : Env → Sto → R T := fun τ S => (c τ S).bind fun k S1 => if k = true then a τ S1 else b τ S1
def toB (t : T) (S : Sto) : R Bool := match t with
  | .bl b => .ok b S
  | _ => .bad
def mTst (a : Env → Sto → R T) : Env → Sto → R Bool := fun τ S => (a τ S).bind toB
def mAnd (a b : Env → Sto → R Bool) : Env → Sto → R Bool := fun τ S => (a τ S).bind fun k S1 => if k = true then b τ S1 else .ok false S1
def mOr (a b : Env → Sto → R Bool) : Env → Sto → R Bool := fun τ S => (a τ S).bind fun k S1 => if k = true then .ok true S1 else b τ S1
def mNot (a : Env → Sto → R Bool) : Env → Sto → R Bool := fun τ S => (a τ S).bind fun k S1 => .ok (!k) S1
def mAndV (a b : Env → Sto → R T) : Env → Sto → R T := fun τ S => (a τ S).bind fun x S1 => (toB x S1).bind fun k S2 => if k = true then b τ S2 else .ok (.bl false) S2
def mOrV (a b : Env → Sto → R T) : Env → Sto → R T := fun τ S => (a τ S).bind fun x S1 => (toB x S1).bind fun k S2 => if k = true then .ok (.bl true) S2 else b τ S2
def mNotV (a : Env → Sto → R T) : Env → Sto → R T := fun τ S => (a τ S).bind fun x S1 => (toB x S1).bind fun k S2 => .ok (.bl (!k)) S2
def mTup (a : Env → Sto → R (List T)) : Env → Sto → R T := fun τ S => (a τ S).bind fun ts S1 => if ts.length ≤ 100000 then .ok (.tup ts) S1 else .bad
/-- a new list: one that never changes from here on, or one of the store -/
def newL (fz : Bool) (ts : List T) (S : Sto) : R T := if fz = true then .ok (.lst ts) S else .ok (.ref S.length) (S ++ [.lst ts])
def mLst (fz : Bool) (a : Env → Sto → R (List T)) : Env → Sto → R T := fun τ S => (a τ S).bind fun ts S1 => if ts.length ≤ 100000 then newL fz ts S1 else .bad
def sNext : Env → Sto → R Fl := fun τ S => .ok (.nx τ) S
def sSeq (a b : Env → Sto → R Fl) : Env → Sto → R Fl := fun τ S => (a τ S).bind fun f S1 => match f with
  | .nx τ1 => b τ1 S1
  | .rt t => .ok (.rt t) S1
  | .bk τ1 => .ok (.bk τ1) S1
  | .ct τ1 => .ok (.ct τ1) S1
def sSet (i : Nat) (a : Env → Sto → R T) : Env → Sto → R Fl := fun τ S => (a τ S).bind fun x S1 => .ok (.nx (τ.set i (some x))) S1
def sDrop (a : Env → Sto → R T) : Env → Sto → R Fl := fun τ S => (a τ S).bind fun _ S1 => .ok (.nx τ) S1
def sRet (a : Env → Sto → R T) : Env → Sto → R Fl := fun τ S => (a τ S).bind fun x S1 => .ok (.rt x) S1
def sRetN : Env → Sto → R Fl := fun _ S => .ok (.rt .non) S
def sIf (c : Env → Sto → R Bool) (a b : Env → Sto → R Fl) : Env → Sto → R Fl := fun τ S => (c τ S).bind fun k S1 => if k = true then a τ S1 else b τ S1
def sAug (i : Nat) (f : T → T → Sto → R T) (a : Env → Sto → R T) : Env → Sto → R Fl := fun τ S => (mVar i τ S).bind fun x S0 => (a τ S0).bind fun y S1 => (f x y S1).bind fun z S2 => .ok (.nx (τ.set i (some z))) S2
inductive Pat where
  | nm (i : Nat) | tp (ps : List Pat)
mutual
def bindP : Pat → T → Env → Option Env
  | .nm i, t, τ => some (τ.set i (some t))
  | .tp ps, .tup ts, τ => bindPs ps ts τ
  | .tp ps, .wt ts, τ => bindPs ps ts τ
  | .tp _, _, _ => none
def bindPs : List Pat → List T → Env → Option Env
  | [], [], τ => some τ
  | p :: ps, t :: ts, τ => (bindP p t τ).bind fun τ1 => bindPs ps ts τ1
  | _, _, _ => none
end
def sAsg (p : Pat) (a : Env → Sto → R T) : Env → Sto → R Fl := fun τ S => (a τ S).bind fun x S1 => match bindP p x τ with
  | some τ1 => .ok (.nx τ1) S1
  | none => .bad
/-- an operation on two values and its mirror -/
def Op2 (K : PySem.W.Frag) (E : XK) (r : R2) (f : T → T → Sto → R T) : Prop := ∀ (ρ : Wd) (H : Hp) (S : Sto) (v w : V) (x y : T) (Q : VK), Sta K ρ H S → Rep K ρ H v x → Rep K ρ H w y → Post K E ρ H (f x y S) (QE K Q) → r v w H Q
def Op1 (K : PySem.W.Frag) (E : XK) (r : V → Hp → VK → Prop) (f : T → Sto → R T) : Prop := ∀ (ρ : Wd) (H : Hp) (S : Sto) (v : V) (x : T) (Q : VK), Sta K ρ H S → Rep K ρ H v x → Post K E ρ H (f x S) (QE K Q) → r v H Q
def OpN (K : PySem.W.Frag) (E : XK) (r : List V → Hp → VK → Prop) (f : List T → Sto → R T) : Prop := ∀ (ρ : Wd) (H : Hp) (S : Sto) (vs : List V) (ts : List T) (Q : VK), Sta K ρ H S → Reps K ρ H vs ts → Post K E ρ H (f ts S) (QE K Q) → r vs H Q
section
variable {X : Cx} {E : XK} {a b c : Expr} {rest : List Expr} {ma mb : Env → Sto → R T} {mc md : Env → Sto → R Bool} {ms : Env → Sto → R (List T)} {pos : Pos}
theorem xv (i : Nat) {x : Str} {pos : Pos} (hN : X.N[i]? = some x := by rfl) (hv : Vis X.env.scope x := by first | exact Or.inl rfl | exact Or.inr (Or.inl rfl) | exact Or.inr (Or.inr rfl)) (hd : (x == ("__debug__" : Str)) = false := by decide)
    (hcd : (x == ("__classdict__" : Str)) = false := by decide) : PE X (.Name x pos) (tM X.K E (mVar i)) := PE.of (pe_var hN hv hd hcd) fun σ H Q ⟨ρ, τ, S, s, e, h⟩ => by
  unfold mVar at h
  split at h
  · rename_i t q
    obtain ⟨v, q1, r⟩ := e.at_ _ _ q
    exact ⟨v, q1, h.ok s v r⟩
  · exact h.elim
theorem x_con {t : T} {v : V} (r : ∀ ρ H, Rep X.K ρ H v t) (h : PE X a (tC v)) : PE X a (tM X.K E (mC t)) := PE.of h fun σ H Q ⟨ρ, τ, S, s, e, h⟩ => h.ok s v (r ρ H)
theorem x_int {i j pos} : PE X (.Constant (.int i) j pos) (tM X.K E (mC (.int i))) := x_con (fun _ _ => .int i) pe_int
theorem x_bl {i j pos} : PE X (.Constant (.bool i) j pos) (tM X.K E (mC (.bl i))) := x_con (fun _ _ => .bl i) pe_bl
theorem x_non {j pos} : PE X (.Constant .none j pos) (tM X.K E (mC .non)) := x_con (fun _ _ => .non) pe_non
theorem x_str {i j pos} : PE X (.Constant (.str i) j pos) (tM X.K E (mC (.str i))) := x_con (fun _ _ => .str i) pe_str
theorem x_bin {op : Operator} {r : R2} {f : T → T → Sto → R T} (ho : OpR X (binaryOp op) r) (hs : Op2 X.K E r f) (ha : PE X a (tM X.K E ma)) (hb : PE X b (tM X.K E mb)) : PE X (.BinOp a op b pos) (tM X.K E (mBin f ma mb)) :=
  PE.of (pe_op ho ha hb) fun σ H Q ⟨ρ, τ, S, s, e, h⟩ => ⟨ρ, τ, S, s, e, h.step fun ρ1 H1 x S1 e1 s1 h1 v rv => ⟨ρ1, τ, S1, s1, e.ext e1, h1.step fun ρ2 H2 y S2 e2 s2 h2 w rw => hs ρ2 H2 S2 v w x y Q s2 (rv.ext e2) rw h2⟩⟩
theorem x_un {op : UnaryOp} {r : V → Hp → VK → Prop} {f : T → Sto → R T} (ho : UnR X (unaryOp op) r) (hs : Op1 X.K E r f) (ha : PE X a (tM X.K E ma)) : PE X (.UnaryOp op a pos) (tM X.K E (mUn f ma)) :=
  PE.of (pe_un ho ha) fun σ H Q ⟨ρ, τ, S, s, e, h⟩ => ⟨ρ, τ, S, s, e, h.step fun ρ1 H1 x S1 e1 s1 h1 v rv => hs ρ1 H1 S1 v x Q s1 rv h1⟩
theorem x_cmp {op : CmpOp} {r : R2} {f : T → T → Sto → R T} (ho : OpR X (compareOp op) r) (hs : Op2 X.K E r f) (ha : PE X a (tM X.K E ma)) (hb : PE X b (tM X.K E mb)) (hm : behindInMarks op b = false := by first | exact nomark _ | rfl) : PE X (.Compare a [op] [b] pos) (tM X.K E (mBin f ma mb)) :=
  PE.of (pe_cmpR ho ha hb hm) fun σ H Q ⟨ρ, τ, S, s, e, h⟩ => ⟨ρ, τ, S, s, e, h.step fun ρ1 H1 x S1 e1 s1 h1 v rv => ⟨ρ1, τ, S1, s1, e.ext e1, h1.step fun ρ2 H2 y S2 e2 s2 h2 w rw => hs ρ2 H2 S2 v w x y Q s2 (rv.ext e2) rw h2⟩⟩
theorem rep_bl {K : PySem.W.Frag} {ρ : Wd} {H : Hp} {v : V} {b : Bool} (r : Rep K ρ H v (.bl b)) : v = .bl b := by cases r; rfl
theorem rep_int {K : PySem.W.Frag} {ρ : Wd} {H : Hp} {v : V} {b : Int} (r : Rep K ρ H v (.int b)) : v = .int b := by cases r; rfl
theorem rep_str {K : PySem.W.Frag} {ρ : Wd} {H : Hp} {v : V} {b : Str} (r : Rep K ρ H v (.str b)) : v = .str b := by cases r; rfl
theorem rep_non {K : PySem.W.Frag} {ρ : Wd} {H : Hp} {v : V} (r : Rep K ρ H v .non) : v = .non := by cases r; rfl
theorem rep_tup {K : PySem.W.Frag} {ρ : Wd} {H : Hp} {v : V} {ts : List T} (r : Rep K ρ H v (.tup ts)) : ∃ a xs, v = .ref a ∧ FT K ρ H a xs ∧ Reps K ρ H xs ts := by cases r with | tup h r => exact ⟨_, _, rfl, h, r⟩
/-- a test out of a value -/
theorem tst_of {σ : L2.St} {H : Hp} {Q : Bool → Hp → Prop} (h : tB X.K E (mTst ma) σ H Q) : tM X.K E ma σ H (fun x H' => ∃ k, x = .bl k ∧ Q k H') := by
  obtain ⟨ρ, τ, S, s, e, h⟩ := h
  refine ⟨ρ, τ, S, s, e, h.step fun ρ1 H1 x S1 e1 s1 h1 v rv => ?_⟩
  cases x with
  | bl k => exact ⟨k, rep_bl rv, h1.ok s1⟩
  | _ => exact h1.elim
theorem t_cmp {op : CmpOp} {r : R2} {f : T → T → Sto → R T} (ho : OpR X (compareOp op) r) (hs : Op2 X.K E r f) (ha : PE X a (tM X.K E ma)) (hb : PE X b (tM X.K E mb)) (hm : behindInMarks op b = false := by first | exact nomark _ | rfl) : PT X (.Compare a [op] [b] pos) (tB X.K E (mTst (mBin f ma mb))) :=
  PT.of (pt_cmpR ho ha hb hm) fun σ H Q h => by
  obtain ⟨ρ, τ, S, s, e, h⟩ := tst_of h
  exact ⟨ρ, τ, S, s, e, h.step fun ρ1 H1 x S1 e1 s1 h1 v rv => ⟨ρ1, τ, S1, s1, e.ext e1, h1.step fun ρ2 H2 y S2 e2 s2 h2 w rw => hs ρ2 H2 S2 v w x y _ s2 (rv.ext e2) rw h2⟩⟩
theorem t_and1 (h : PT X a (tB X.K E mc)) : PW X (.BoolOp .And [a] pos) (tB X.K E mc) := pw_and1 h
theorem t_or1 (h : PT X a (tB X.K E mc)) : PW X (.BoolOp .Or [a] pos) (tB X.K E mc) := pw_or1 h
theorem t_and (h1 : PT X a (tB X.K E mc)) (h2 : PW X (.BoolOp .And (b :: rest) pos) (tB X.K E md)) : PW X (.BoolOp .And (a :: b :: rest) pos) (tB X.K E (mAnd mc md)) :=
  PW.of (pw_and h1 h2) fun σ H Q ⟨ρ, τ, S, s, e, h⟩ => ⟨ρ, τ, S, s, e, h.step fun ρ1 H1 k S1 e1 s1 h1 => by
    cases k with
    | true => exact (if_pos rfl).symm ▸ ⟨ρ1, τ, S1, s1, e.ext e1, h1⟩
    | false => exact Post.ok (K := X.K) (E := E) (ρ := ρ1) (S := S1) h1 s1⟩
theorem t_or (h1 : PT X a (tB X.K E mc)) (h2 : PW X (.BoolOp .Or (b :: rest) pos) (tB X.K E md)) : PW X (.BoolOp .Or (a :: b :: rest) pos) (tB X.K E (mOr mc md)) :=
  PW.of (pw_or h1 h2) fun σ H Q ⟨ρ, τ, S, s, e, h⟩ => ⟨ρ, τ, S, s, e, h.step fun ρ1 H1 k S1 e1 s1 h1 => by
    cases k with
    | true => exact Post.ok (K := X.K) (E := E) (ρ := ρ1) (S := S1) h1 s1
    | false => exact ⟨ρ1, τ, S1, s1, e.ext e1, h1⟩⟩
theorem t_not (h1 : PT X a (tB X.K E mc)) : PT X (.UnaryOp .Not a pos) (tB X.K E (mNot mc)) :=
  PT.of (pt_not h1) fun σ H Q ⟨ρ, τ, S, s, e, h⟩ => ⟨ρ, τ, S, s, e, h.step fun ρ1 H1 k S1 e1 s1 h1 => h1.ok s1⟩
theorem x_ite (hc : PT X c (tB X.K E mc)) (ha : PE X a (tM X.K E ma)) (hb : PE X b (tM X.K E mb)) : PE X (.IfExp c a b pos) (tM X.K E (mIte mc ma mb)) :=
  PE.of (pe_ifExp hc ha hb) fun σ H Q ⟨ρ, τ, S, s, e, h⟩ => ⟨ρ, τ, S, s, e, h.step fun ρ1 H1 k S1 e1 s1 h1 => by
    cases k with
    | true => exact ⟨ρ1, τ, S1, s1, e.ext e1, h1⟩
    | false => exact ⟨ρ1, τ, S1, s1, e.ext e1, h1⟩⟩
theorem bl_step {ρ : Wd} {H : Hp} {x : T} {S : Sto} {β : Type} {f : Bool → Sto → R β} {Q : Wd → Hp → β → Sto → Prop} {v : V} (rv : Rep X.K ρ H v x) (h : Post X.K E ρ H ((toB x S).bind f) Q) : ∃ k, v = .bl k ∧ Post X.K E ρ H (f k S) Q := by
  cases x with
  | bl k => exact ⟨k, rep_bl rv, h⟩
  | _ => exact h.elim
theorem x_one {op} (h : PE X a (tM X.K E ma)) : PE X (.BoolOp op [a] pos) (tM X.K E ma) := pe_one h
theorem x_and (ha : PE X a (tM X.K E ma)) (hb : PE X (.BoolOp .And (b :: rest) pos) (tM X.K E mb)) : PE X (.BoolOp .And (a :: b :: rest) pos) (tM X.K E (mAndV ma mb)) :=
  PE.of (pe_and ha hb) fun σ H Q ⟨ρ, τ, S, s, e, h⟩ => ⟨ρ, τ, S, s, e, h.step fun ρ1 H1 x S1 e1 s1 h1 v rv => by
    obtain ⟨k, ev, h2⟩ := bl_step rv h1
    refine ⟨k, ev, ?_⟩
    cases k with
    | true => exact ⟨ρ1, τ, S1, s1, e.ext e1, h2⟩
    | false => exact Post.ok (K := X.K) (E := E) (ρ := ρ1) (S := S1) h2 s1 (.bl false) (.bl false)⟩
theorem x_or (ha : PE X a (tM X.K E ma)) (hb : PE X (.BoolOp .Or (b :: rest) pos) (tM X.K E mb)) : PE X (.BoolOp .Or (a :: b :: rest) pos) (tM X.K E (mOrV ma mb)) :=
  PE.of (pe_or ha hb) fun σ H Q ⟨ρ, τ, S, s, e, h⟩ => ⟨ρ, τ, S, s, e, h.step fun ρ1 H1 x S1 e1 s1 h1 v rv => by
    obtain ⟨k, ev, h2⟩ := bl_step rv h1
    refine ⟨k, ev, ?_⟩
    cases k with
    | true => exact Post.ok (K := X.K) (E := E) (ρ := ρ1) (S := S1) h2 s1 (.bl true) (.bl true)
    | false => exact ⟨ρ1, τ, S1, s1, e.ext e1, h2⟩⟩
theorem x_not (ha : PE X a (tM X.K E ma)) : PE X (.UnaryOp .Not a pos) (tM X.K E (mNotV ma)) :=
  PE.of (pe_not ha) fun σ H Q ⟨ρ, τ, S, s, e, h⟩ => ⟨ρ, τ, S, s, e, h.step fun ρ1 H1 x S1 e1 s1 h1 v rv => by
    obtain ⟨k, ev, h2⟩ := bl_step rv h1
    exact ⟨k, ev, h2.ok s1 _ (.bl _)⟩⟩
theorem a_nil : PA X [] (tA X.K E mNil) := PA.of pa_nil fun σ H Q ⟨ρ, τ, S, s, e, h⟩ => h.ok s [] .nil
theorem a_cons {es : List Expr} (ha : PE X a (tM X.K E ma)) (hr : PA X es (tA X.K E ms)) (hs : starEach (a :: es) X.env = (false, eval a X.env) :: starEach es X.env := by rfl) : PA X (a :: es) (tA X.K E (mCons ma ms)) :=
  PA.of (pa_cons ha hr hs) fun σ H Q ⟨ρ, τ, S, s, e, h⟩ => ⟨ρ, τ, S, s, e, h.step fun ρ1 H1 x S1 e1 s1 h1 v rv => ⟨ρ1, τ, S1, s1, e.ext e1, h1.step fun ρ2 H2 ts S2 e2 s2 h2 vs rs => h2.ok s2 _ (.cons (rv.ext e2) rs)⟩⟩
theorem sz5 {n : Nat} (h : n ≤ 100000) : n ≤ sizeLine := Nat.le_trans h (by decide)
theorem new_tup {K : PySem.W.Frag} {ρ : Wd} {H : Hp} {S : Sto} {ts : List T} {xs : List V} {Q : VK} (s : Sta K ρ H S) (r : Reps K ρ H xs ts) (h : Post K E ρ H (.ok (.tup ts) S) (QE K Q)) : NewT xs H Q := fun p o n b =>
  h ρ _ (Ext.push n (s.new n)) (s.push n) _ (.tup (.inl ⟨⟨o, upd_same, b⟩, s.new n⟩) (r.ext (Ext.push n (s.new n))))
theorem new_lst {K : PySem.W.Frag} {ρ : Wd} {H : Hp} {S : Sto} {ts : List T} {xs : List V} {Q : VK} {fz : Bool} (s : Sta K ρ H S) (r : Reps K ρ H xs ts) (h : Post K E ρ H (newL fz ts S) (QE K Q)) (p : Addr) (n : H p = none) : Q (.ref p) (upd H p (.lst xs)) := by
  cases fz with
  | true => exact h ρ _ (Ext.push n (s.new n)) (s.push n) _ (.lst upd_same (s.new n) (r.ext (Ext.push n (s.new n))))
  | false =>
    refine h (ρ.push p) _ (Ext.more n (s.new n)) (s.more n ⟨xs, upd_same, r.ext (Ext.more n (s.new n))⟩) _ (.ref ?_)
    show (ρ.at_ ++ [p])[S.length]? = some p
    rw [← s.len, List.getElem?_append_right (Nat.le_refl _), Nat.sub_self]
    rfl
theorem x_tup {es : List Expr} {x1} (h : PA X es (tA X.K E ms)) : PE X (.Tuple es x1 pos) (tM X.K E (mTup ms)) :=
  PE.of (pe_tupN h) fun σ H Q ⟨ρ, τ, S, s, e, h⟩ => ⟨ρ, τ, S, s, e, h.step fun ρ1 H1 ts S1 e1 s1 h1 vs rs => by
    by_cases hl : ts.length ≤ 100000
    · rw [if_pos hl] at h1
      exact ⟨sz5 (rs.length ▸ hl), new_tup s1 rs h1⟩
    · rw [if_neg hl] at h1
      exact h1.elim⟩
theorem x_lst (fz : Bool) {es : List Expr} (h : PA X es (tA X.K E ms)) : PE X (.List es pos) (tM X.K E (mLst fz ms)) :=
  PE.of (pe_lst h) fun σ H Q ⟨ρ, τ, S, s, e, h⟩ => ⟨ρ, τ, S, s, e, h.step fun ρ1 H1 ts S1 e1 s1 h1 vs rs => by
    by_cases hl : ts.length ≤ 100000
    · rw [if_pos hl] at h1
      exact ⟨sz5 (rs.length ▸ hl), new_lst s1 rs h1⟩
    · rw [if_neg hl] at h1
      exact h1.elim⟩
/-- a built-in function, a built-in type called -/
theorem x_callB {x : Str} {p : Pos} {e : Expr} {es : List Expr} {id : String} {r : List V → Hp → VK → Prop} {f : List T → Sto → R T} (hc : CallR X (.builtin id) r) (hs : OpN X.K E r f) (hg : Gl X x) (hm : X.mg x = none) (hv : bootBuiltins x = some (.builtin id)) (ha : PA X (e :: es) (tA X.K E ms)) (hn : x ≠ "__name__" := by decide) (hdb : (x == ("__debug__" : Str)) = false := by decide)
    (he : starEach (e :: es) X.env = (false, eval e X.env) :: starEach es X.env := by rfl) (hpl : (backTo pos (starEach es X.env)).any (·.1) = false := by rfl) : PE X (.Call (.Name x p) (e :: es) [] pos) (tM X.K E (mFn f ms)) :=
  PE.of (pe_callB hc hg hm hv ha hn hdb he hpl) fun σ H Q ⟨ρ, τ, S, s, e, h⟩ => ⟨ρ, τ, S, s, e, h.step fun ρ1 H1 ts S1 e1 s1 h1 vs rs => hs ρ1 H1 S1 vs ts Q s1 rs h1⟩
theorem x_callT {x : Str} {p : Pos} {e : Expr} {es : List Expr} {id : String} {r : List V → Hp → VK → Prop} {f : List T → Sto → R T} (hc : CallR X (.type id) r) (hs : OpN X.K E r f) (hg : Gl X x) (hm : X.mg x = none) (hv : bootBuiltins x = some (.type id)) (ha : PA X (e :: es) (tA X.K E ms)) (hn : x ≠ "__name__" := by decide) (hdb : (x == ("__debug__" : Str)) = false := by decide)
    (he : starEach (e :: es) X.env = (false, eval e X.env) :: starEach es X.env := by rfl) (hpl : (backTo pos (starEach es X.env)).any (·.1) = false := by rfl) : PE X (.Call (.Name x p) (e :: es) [] pos) (tM X.K E (mFn f ms)) :=
  PE.of (pe_callTy hc hg hm hv ha hn hdb he hpl) fun σ H Q ⟨ρ, τ, S, s, e, h⟩ => ⟨ρ, τ, S, s, e, h.step fun ρ1 H1 ts S1 e1 s1 h1 vs rs => hs ρ1 H1 S1 vs ts Q s1 rs h1⟩
theorem x_ix {r : R2} {f : T → T → Sto → R T} (hr : IxR X r) (hs : Op2 X.K E r f) (ha : PE X a (tM X.K E ma)) (hb : PE X b (tM X.K E mb)) (hp : PlainIx b := by exact fun _ _ => rfl) : PE X (.Subscript a b pos) (tM X.K E (mBin f ma mb)) :=
  PE.of (pe_ix hr ha hb hp) fun σ H Q ⟨ρ, τ, S, s, e, h⟩ => ⟨ρ, τ, S, s, e, h.step fun ρ1 H1 x S1 e1 s1 h1 v rv => ⟨ρ1, τ, S1, s1, e.ext e1, h1.step fun ρ2 H2 y S2 e2 s2 h2 w rw => hs ρ2 H2 S2 v w x y Q s2 (rv.ext e2) rw h2⟩⟩
end
section
variable {X : Cx} {E : XK} {st : Stmt} {rest sts : List Stmt} {e c : Expr} {m : Env → Sto → R T} {mb : Env → Sto → R Bool} {u w : Env → Sto → R Fl} {pos : Pos}
theorem s_nil : PSs X [] (tS X.K E sNext) := PSs.of pss_nil fun D σ H ⟨ρ, τ, S, s, e, h⟩ => h.ok s σ e
theorem qs_seq {ρ : Wd} {H : Hp} {f : Fl} {S : Sto} {D : Ends} (s : Sta X.K ρ H S) (h : Post X.K E ρ H (match f with
  | .nx τ1 => w τ1 S
  | .rt t => R.ok (.rt t) S
  | .bk τ1 => .ok (.bk τ1) S
  | .ct τ1 => .ok (.ct τ1) S) (QS X.K D)) : QS X.K { D with nx := tS X.K E w D } ρ H f S := by
  cases f with
  | nx τ => exact fun σ e => ⟨ρ, τ, S, s, e, h⟩
  | rt t => exact h.ok s
  | bk τ => exact h.ok s
  | ct τ => exact h.ok s
theorem s_cons (h1 : PS X st (tS X.K E u)) (h2 : PSs X rest (tS X.K E w)) : PSs X (st :: rest) (tS X.K E (sSeq u w)) :=
  PSs.of (pss_cons h1 h2) fun D σ H ⟨ρ, τ, S, s, e, h⟩ => ⟨ρ, τ, S, s, e, h.step fun ρ1 H1 f S1 e1 s1 h1 => qs_seq s1 h1⟩
theorem s_one (h1 : PS X st (tS X.K E u)) : PSs X [st] (tS X.K E u) := pss_one h1
theorem s_expr (he : PE X e (tM X.K E m)) (hs : swapsWith e none pos.line X.env = pure false := by rfl) : PS X (.Expr e pos) (tS X.K E (sDrop m)) :=
  PS.of (ps_expr he hs) fun D σ H ⟨ρ, τ, S, s, e, h⟩ => ⟨ρ, τ, S, s, e, h.step fun ρ1 H1 f S1 e1 s1 h1 v rv => h1.ok s1 σ (e.ext e1)⟩
theorem s_ret (he : PE X e (tM X.K E m)) : PS X (.Return (some e) pos) (tS X.K E (sRet m)) :=
  PS.of (ps_ret he) fun D σ H ⟨ρ, τ, S, s, e, h⟩ => ⟨ρ, τ, S, s, e, h.step fun ρ1 H1 f S1 e1 s1 h1 v rv => h1.ok s1 v rv⟩
theorem s_if {a b : List Stmt} (hc : PT X c (tB X.K E mb)) (ha : PSs X a (tS X.K E u)) (hb : PSs X b (tS X.K E w)) : PS X (.If c a b pos) (tS X.K E (sIf mb u w)) :=
  PS.of (ps_if hc ha hb) fun D σ H ⟨ρ, τ, S, s, e, h⟩ => ⟨ρ, τ, S, s, e, h.step fun ρ1 H1 k S1 e1 s1 h1 => by
    cases k with
    | true => exact ⟨ρ1, τ, S1, s1, e.ext e1, h1⟩
    | false => exact ⟨ρ1, τ, S1, s1, e.ext e1, h1⟩⟩
theorem s_set {i : Nat} {x : Str} {pos' : Pos} (hN : X.N.Nodup) (hi : X.N[i]? = some x) (hx : Loc X.env.scope x) (he : PE X e (tM X.K E m)) (hs : swapsWith e (some (.Name x pos')) pos.line X.env = pure false := by rfl) (hf : X.fn x = true ∨ X.env.scope.names.lookup x = some .local := by first | exact .inl rfl | exact .inr rfl | assumption) :
    PS X (.Assign [.Name x pos'] e pos) (tS X.K E (sSet i m)) :=
  PS.of (ps_set hN hi hx he hs hf) fun D σ H ⟨ρ, τ, S, s, e, h⟩ => ⟨ρ, τ, S, s, e, h.step fun ρ1 H1 f S1 e1 s1 h1 v rv => h1.ok s1 _ ((e.ext e1).set _ rv)⟩
/-- targets -/
def Near (vs : List Nat) (σ σ' : L2.St) : Prop := σ'.length = σ.length ∧ ∀ j, j ∉ vs → σ'[j]? = σ[j]?
mutual
def Pat.slots : Pat → List Nat
  | .nm i => [i]
  | .tp ps => Pat.slotss ps
def Pat.slotss : List Pat → List Nat
  | [] => []
  | p :: ps => p.slots ++ Pat.slotss ps
end
theorem Near.refl (vs : List Nat) (σ : L2.St) : Near vs σ σ := ⟨rfl, fun _ _ => rfl⟩
theorem Near.trans {v w : List Nat} {σ σ' σ'' : L2.St} (a : Near v σ σ') (b : Near w σ' σ'') : Near (v ++ w) σ σ'' := ⟨b.1.trans a.1, fun j n => by
  rw [List.mem_append, not_or] at n
  exact (b.2 j n.2).trans (a.2 j n.1)⟩
def tG (K : PySem.W.Frag) (p : Pat) : TG := fun v σ H Q => ∃ ρ τ t τ', REnv K ρ H σ τ ∧ Rep K ρ H v t ∧ bindP p t τ = some τ' ∧ ∀ σ', REnv K ρ H σ' τ' → Near p.slots σ σ' → Q σ' H
def tGs (K : PySem.W.Frag) (p : List Pat) : TGs := fun v σ H Q => ∃ ρ τ t τ', REnv K ρ H σ τ ∧ Reps K ρ H v t ∧ bindPs p t τ = some τ' ∧ ∀ σ', REnv K ρ H σ' τ' → Near (Pat.slotss p) σ σ' → Q σ' H
theorem PG.of {tg : Expr} {t t' : TG} (h : PG X tg t) (i : ∀ v σ H Q, t' v σ H Q → t v σ H Q) : PG X tg t' := ⟨fun pins s σ H v u Q I r hw => h.run pins s σ H v u Q I r (i v σ H Q hw)⟩
theorem PGs.of {tg : List Expr} {t t' : TGs} (h : PGs X tg t) (i : ∀ v σ H Q, t' v σ H Q → t v σ H Q) : PGs X tg t' := ⟨fun pins s σ H v u Q I r hw => h.run pins s σ H v u Q I r (i v σ H Q hw)⟩
theorem g_name' {i : Nat} {x : Str} {pos' : Pos} (h : PG X (.Name x pos') (gName i)) : PG X (.Name x pos') (tG X.K (.nm i)) := PG.of h fun v σ H Q ⟨ρ, τ, t, τ', e, r, b, q⟩ => by
  unfold bindP at b
  have b := Option.some.inj b
  subst b
  refine q _ (e.set i r) ⟨List.length_set .., fun j n => ?_⟩
  have n : ¬ j = i := fun e => n (by unfold Pat.slots; rw [e]; exact List.mem_singleton.mpr rfl)
  rw [List.getElem?_set_ne (Ne.symm n)]
theorem g_name {i : Nat} {x : Str} {pos : Pos} (hN : X.N.Nodup) (hi : X.N[i]? = some x) (hx : Loc X.env.scope x) (hf : X.fn x = true ∨ X.env.scope.names.lookup x = some .local := by first | exact .inl rfl | exact .inr rfl | assumption) : PG X (.Name x pos) (tG X.K (.nm i)) := g_name' (pg_name hN hi hx hf)
theorem gs_nil : PGs X [] (tGs X.K []) := PGs.of pgs_nil fun v σ H Q ⟨ρ, τ, t, τ', e, r, b, q⟩ => by
  cases r with
  | nil =>
    unfold bindPs at b
    have b := Option.some.inj b
    subst b
    exact ⟨rfl, q _ e (Near.refl _ _)⟩
  | cons _ _ => unfold bindPs at b; cases b
theorem gs_cons {t : Expr} {ts : List Expr} {p : Pat} {ps : List Pat} (h : PG X t (tG X.K p)) (hr : PGs X ts (tGs X.K ps)) (hs : (assignEach (t :: ts) X.env).map (·.2) = assign t X.env :: (assignEach ts X.env).map (·.2) := by rfl) : PGs X (t :: ts) (tGs X.K (p :: ps)) := PGs.of (pgs_cons h hr hs) fun v σ H Q ⟨ρ, τ, us, τ', e, r, b, q⟩ => by
  cases r with
  | nil => unfold bindPs at b; cases b
  | cons r rs =>
    rename_i v0 u0 vs0 us0 q0
    have b : (bindP p u0 τ).bind (fun τ1 => bindPs ps us0 τ1) = some τ' := by
      have b' := b
      unfold bindPs at b'
      exact b'
    obtain ⟨τ1, b1, b2⟩ := Option.bind_eq_some_iff.mp b
    exact ⟨v0, vs0, rfl, ρ, τ, u0, τ1, e, r, b1, fun σ' e' n' => ⟨ρ, τ1, us0, τ', e', rs, b2, fun σ'' e'' n'' => q σ'' e'' (by unfold Pat.slotss; exact n'.trans n'')⟩⟩
theorem bindPs_len : ∀ {ps : List Pat} {ts : List T} {τ τ' : Env}, bindPs ps ts τ = some τ' → ts.length = ps.length
  | [], [], _, _, _ => rfl
  | [], _ :: _, _, _, h => by unfold bindPs at h; cases h
  | _ :: _, [], _, _, h => by unfold bindPs at h; cases h
  | p :: ps, t :: ts, τ, τ', h => by
    unfold bindPs at h
    obtain ⟨τ1, b1, b2⟩ := Option.bind_eq_some_iff.mp h
    rw [List.length_cons, List.length_cons, bindPs_len b2]
theorem g_tup' {es : List Expr} {ps : List Pat} {n : Nat} {x1} {pos : Pos} (hn : ps.length = n) (h : PG X (.Tuple es x1 pos) (gTup X.K n (tGs X.K ps))) : PG X (.Tuple es x1 pos) (tG X.K (.tp ps)) := PG.of h fun v σ H Q ⟨ρ, τ, t, τ', e, r, b, q⟩ => by
  unfold bindP at b
  cases t with
  | tup ts =>
    obtain ⟨a, xs, ev, ft, rs⟩ := rep_tup r
    have b : bindPs ps ts τ = some τ' := b
    exact ⟨a, xs, ev, ft.sq, by rw [rs.length, bindPs_len b, hn], ρ, τ, ts, τ', e, rs, b, fun σ' e' n' => q σ' e' (by unfold Pat.slots; exact n')⟩
  | wt ts =>
    cases r with
    | wt ft na rs =>
      have b : bindPs ps ts τ = some τ' := b
      exact ⟨_, _, rfl, .inl ft, by rw [rs.length, bindPs_len b, hn], ρ, τ, ts, τ', e, rs, b, fun σ' e' n' => q σ' e' (by unfold Pat.slots; exact n')⟩
  | _ => cases b
theorem g_tup {es : List Expr} {k : Nat} {ps : List Pat} {pos : Pos} (hc : X.calm = true) (h : PGs X es (tGs X.K ps)) (hn : (assignEach es X.env).length = ps.length := by rfl) (hst : (assignEach es X.env).findIdx? (·.1) = none := by rfl) : PG X (.Tuple es k pos) (tG X.K (.tp ps)) := g_tup' rfl (pg_tup hc h hn hst)
theorem s_asg {tg e : Expr} {p : Pat} (he : PE X e (tM X.K E m)) (hg : PG X tg (tG X.K p)) (hs : swapsWithSole [tg] e pos.line X.env = pure false := by rfl) (hw : swappedStores [tg] e X.env = pure none := by rfl)
    (h1 : (assignEach [tg] X.env).map (·.2) = [assign tg X.env] := by rfl) : PS X (.Assign [tg] e pos) (tS X.K E (sAsg p m)) :=
  PS.of (ps_asg he hg hs hw h1) fun D σ H ⟨ρ, τ, S, s, e, h⟩ => ⟨ρ, τ, S, s, e, h.step fun ρ1 H1 x S1 e1 s1 h1 v rv => by
    cases b : bindP p x τ with
    | none => rw [b] at h1; exact h1.elim
    | some τ1 => rw [b] at h1; exact ⟨ρ1, τ, x, τ1, e.ext e1, rv, b, fun σ' e' _ => h1.ok s1 σ' e'⟩⟩
end
end Fx
namespace Fx
open PySem PySem.Spec PyProof.Rows L2
def lstD (S : Sto) : T → Option (List T)
  | .lst ts => some ts
  | .ref i => match S[i]? with
    | some (.lst ts) => some ts
    | _ => none
  | _ => none
def lstOf (S : Sto) : T → Option (List T)
  | .kst ts => some ts
  | t => lstD S t
def seqOf (S : Sto) : T → Option (List T)
  | .tup ts => some ts
  | .kst ts => some ts
  | t => lstD S t
section
variable {K : PySem.W.Frag} {ρ : Wd} {H : Hp} {S : Sto} {v : V} {t : T} {ts : List T}
theorem lstD_at (s : Sta K ρ H S) (r : Rep K ρ H v t) (h : lstD S t = some ts) : ∃ a xs, v = .ref a ∧ H a = some (.lst xs) ∧ Reps K ρ H xs ts := by
  cases r with
  | lst e n rs => cases h; exact ⟨_, _, rfl, e, rs⟩
  | ref e =>
    rename_i i a
    have h : (match S[i]? with
      | some (.lst ts) => some ts
      | _ => none) = some ts := h
    split at h
    · rename_i ts' q
      cases h
      obtain ⟨b, e', ⟨xs, h1, h2⟩⟩ := s.look q
      rw [e] at e'
      cases e'
      exact ⟨_, _, rfl, h1, h2⟩
    · cases h
  | _ => cases h
theorem lstD_ref {i : Nat} (s : Sta K ρ H S) (r : Rep K ρ H v (.ref i)) (h : S[i]? = some (.lst ts)) : ∃ a xs, v = .ref a ∧ ρ.at_[i]? = some a ∧ H a = some (.lst xs) ∧ Reps K ρ H xs ts := by
  cases r with
  | ref e =>
    obtain ⟨b, e', ⟨xs, h1, h2⟩⟩ := s.look h
    rw [e] at e'
    cases e'
    exact ⟨_, _, rfl, e, h1, h2⟩
theorem lstOf_at (s : Sta K ρ H S) (r : Rep K ρ H v t) (h : lstOf S t = some ts) : ∃ a xs, v = .ref a ∧ SqL K H a xs ∧ Reps K ρ H xs ts := by
  by_cases c : ∃ us, t = .kst us
  · obtain ⟨us, rfl⟩ := c
    cases h
    cases r with
    | kst f rs => exact ⟨_, _, rfl, f.sq, rs⟩
  · have h' : lstD S t = some ts := by
      unfold lstOf at h
      split at h
      · exact absurd ⟨_, rfl⟩ c
      · exact h
    obtain ⟨a, xs, e, h1, h2⟩ := lstD_at s r h'
    exact ⟨a, xs, e, SqL.of h1, h2⟩
theorem seqOf_at (s : Sta K ρ H S) (r : Rep K ρ H v t) (h : seqOf S t = some ts) : ∃ a xs, v = .ref a ∧ (SqL K H a xs ∨ SqT K H a xs) ∧ Reps K ρ H xs ts := by
  by_cases c : ∃ us, t = .kst us
  · obtain ⟨us, rfl⟩ := c
    cases h
    cases r with
    | kst f rs => exact ⟨_, _, rfl, .inl f.sq, rs⟩
  · by_cases c2 : ∃ us, t = .tup us
    · obtain ⟨us, rfl⟩ := c2
      cases h
      cases r with
      | tup f rs => exact ⟨_, _, rfl, .inr f.sq, rs⟩
    · have h' : lstD S t = some ts := by
        unfold seqOf at h
        split at h
        · exact absurd ⟨_, rfl⟩ c2
        · exact absurd ⟨_, rfl⟩ c
        · exact h
      obtain ⟨a, xs, e, h1, h2⟩ := lstD_at s r h'
      exact ⟨a, xs, e, .inl (SqL.of h1), h2⟩
end
mutual
def toD : T → Option PyData
  | .non => some .none
  | .bl b => some (.bool b)
  | .int i => some (.int i)
  | .str x => some (.str x)
  | .tup ts => (toDs ts).map .tuple
  | .lst ts => (toDs ts).map .list
  | .kst ts => (toDs ts).map .list
  | .obj _ => none
  | .ty _ => none
  | .ref _ => none
  | .wt _ => none
  | .exn _ _ _ _ => none
  | .dct _ _ => none
def toDs : List T → Option (List PyData)
  | [] => some []
  | t :: ts => (toD t).bind fun d => (toDs ts).map fun ds => d :: ds
end
section
variable {K : PySem.W.Frag} {ρ : Wd} {H : Hp}
mutual
theorem dp_of : ∀ {v : V} {t : T} {d : PyData}, Rep K ρ H v t → toD t = some d → Dp K H v d
  | _, _, _, .non, h => by cases h; exact .non
  | _, _, _, .bl b, h => by cases h; exact .bl b
  | _, _, _, .int i, h => by cases h; exact .int i
  | _, _, _, .str x, h => by cases h; exact .str x
  | _, _, _, .obj a, h => by cases h
  | _, _, _, .ty n, h => by cases h
  | _, _, _, .ref e, h => by cases h
  | _, _, _, .wt _ _ _, h => by cases h
  | _, _, _, .exn _ _ _ _ _, h => by cases h
  | _, _, _, .dct _ _ _ _, h => by cases h
  | _, .tup ts, _, .tup f r, h => by
    obtain ⟨ds, e, h⟩ := Option.map_eq_some_iff.mp (show (toDs ts).map PyData.tuple = _ from h)
    cases h
    exact .tup f.sq (dps_of r e)
  | _, .lst ts, _, .lst f n r, h => by
    obtain ⟨ds, e, h⟩ := Option.map_eq_some_iff.mp (show (toDs ts).map PyData.list = _ from h)
    cases h
    exact .lst (SqL.of f) (dps_of r e)
  | _, .kst ts, _, .kst f r, h => by
    obtain ⟨ds, e, h⟩ := Option.map_eq_some_iff.mp (show (toDs ts).map PyData.list = _ from h)
    cases h
    exact .lst f.sq (dps_of r e)
theorem dps_of : ∀ {v : List V} {t : List T} {d : List PyData}, Reps K ρ H v t → toDs t = some d → DpAll K H v d
  | _, _, _, .nil, h => by cases h; exact .nil
  | _, t :: ts, _, .cons r rs, h => by
    obtain ⟨d, e, h⟩ := Option.bind_eq_some_iff.mp (show (toD t).bind (fun d => (toDs ts).map fun ds => d :: ds) = _ from h)
    obtain ⟨ds, e2, h⟩ := Option.map_eq_some_iff.mp h
    cases h
    exact .cons (dp_of r e) (dps_of rs e2)
end
end
def rOr (r r' : R2) : R2 := fun x y H Q => r x y H Q ∨ r' x y H Q
theorem OpR.or {X : Cx} {f : Value → Value → Sem Value} {r r' : R2} (h : OpR X f r) (h' : OpR X f r') : OpR X f (rOr r r') := fun pins s σ H x y v u Q I rx ry q => q.elim (fun q => h pins s σ H x y v u Q I rx ry q) fun q => h' pins s σ H x y v u Q I rx ry q
theorem IxR.or' {X : Cx} {r r' : R2} (h : IxR X r) (h' : IxR X r') : IxR X (rOr r r') := fun a b pins s σ H x y v u Q I rx ry q hs => q.elim (fun q => h a b pins s σ H x y v u Q I rx ry q hs) fun q => h' a b pins s σ H x y v u Q I rx ry q hs
def fAdd (x y : T) (S : Sto) : R T := match x, y with
  | .int i, .int j => .ok (.int (i + j)) S
  | .str a, .str b => if a.length + b.length ≤ 1000000 then .ok (.str (a ++ b)) S else .bad
  | .tup xs, .tup ys => if xs.length + ys.length ≤ 100000 then .ok (.tup (xs ++ ys)) S else .bad
  | _, _ => .bad
/-- the sum of two lists is a new list -/
def fCat (fz : Bool) (x y : T) (S : Sto) : R T := match lstD S x, lstD S y with
  | some xs, some ys => if xs.length + ys.length ≤ 100000 then newL fz (xs ++ ys) S else .bad
  | _, _ => .bad
def fI2 (g : Int → Int → T) (x y : T) (S : Sto) : R T := match x, y with
  | .int i, .int j => .ok (g i j) S
  | _, _ => .bad
def fI2c (C : Int → Int → Bool) (g : Int → Int → T) (x y : T) (S : Sto) : R T := match x, y with
  | .int i, .int j => if C i j = true then .ok (g i j) S else .bad
  | _, _ => .bad
section
variable {X : Cx} {E : XK}
def rAddA (K : PySem.W.Frag) : R2 := rOr (rI0 fun i j => .int (i + j)) (rOr (fun x y H Q => ∃ i j, x = .str i ∧ y = .str j ∧ i.length + j.length ≤ sizeLine ∧ Q (.str (i ++ j)) H) (rCatN K))
theorem o_add : OpR X (binaryOp .Add) (rAddA X.K) := op_add.or (op_add_str.or op_catN)
theorem sz6 {n : Nat} (h : n ≤ 1000000) : n ≤ sizeLine := Nat.le_trans h (by decide)
theorem f_add : Op2 X.K E (rAddA X.K) fAdd := by
  intro ρ H S v w x y Q s rv rw h
  unfold fAdd at h
  split at h
  · exact .inl ⟨_, _, rep_int rv, rep_int rw, h.ok s _ (.int _)⟩
  · split at h
    · rename_i a b hl
      exact .inr (.inl ⟨_, _, rep_str rv, rep_str rw, sz6 hl, h.ok s _ (.str _)⟩)
    · exact h.elim
  · split at h
    · rename_i xs ys hl
      obtain ⟨a, us, rfl, fa, ra⟩ := rep_tup rv
      obtain ⟨b, ws, rfl, fb, rb⟩ := rep_tup rw
      refine .inr (.inr ⟨a, b, us, ws, rfl, rfl, fa.sq, fb.sq, by rw [ra.length, rb.length]; exact sz5 hl, fun e => ?_, fun _ e => ?_, fun _ _ => new_tup s (ra.append rb) h⟩)
      · subst e
        cases ra
        exact h.ok s _ rw
      · subst e
        cases rb
        rw [List.append_nil] at h
        exact h.ok s _ rv
    · exact h.elim
  · exact h.elim
theorem f_cat (fz : Bool) : Op2 X.K E rCat (fCat fz) := by
  intro ρ H S v w x y Q s rv rw h
  unfold fCat at h
  split at h
  · rename_i xs ys ex ey
    split at h
    · rename_i hl
      obtain ⟨a, us, rfl, ha, ra⟩ := lstD_at s rv ex
      obtain ⟨b, ws, rfl, hb, rb⟩ := lstD_at s rw ey
      exact ⟨a, b, us, ws, rfl, rfl, ha, hb, by rw [ra.length, rb.length]; exact sz5 hl, fun p n => new_lst s (ra.append rb) h p n⟩
    · exact h.elim
  · exact h.elim
theorem f_i2 {g : Int → Int → V} {g' : Int → Int → T} (hg : ∀ ρ H i j, Rep X.K ρ H (g i j) (g' i j)) : Op2 X.K E (rI0 g) (fI2 g') := by
  intro ρ H S v w x y Q s rv rw h
  unfold fI2 at h
  split at h
  · exact ⟨_, _, rep_int rv, rep_int rw, h.ok s _ (hg _ _ _ _)⟩
  · exact h.elim
theorem f_i2c {C : Int → Int → Prop} {C' : Int → Int → Bool} {g : Int → Int → V} {g' : Int → Int → T} (hC : ∀ i j, C' i j = true → C i j) (hg : ∀ ρ H i j, Rep X.K ρ H (g i j) (g' i j)) : Op2 X.K E (rI C g) (fI2c C' g') := by
  intro ρ H S v w x y Q s rv rw h
  unfold fI2c at h
  split at h
  · split at h
    · rename_i hc
      exact ⟨_, _, rep_int rv, rep_int rw, hC _ _ hc, h.ok s _ (hg _ _ _ _)⟩
    · exact h.elim
  · exact h.elim
def fSub := fI2 fun i j => .int (i - j)
theorem f_sub : Op2 X.K E (rI0 fun i j => .int (i - j)) fSub := f_i2 fun _ _ _ _ => .int _
def cMul (i j : Int) : Bool := (decide (-(2 ^ 64) < i) && decide (i < 2 ^ 64)) || (decide (-(2 ^ 64) < j) && decide (j < 2 ^ 64))
def fMul := fI2c cMul fun i j => .int (i * j)
theorem f_mul : Op2 X.K E (rI CMul fun i j => .int (i * j)) fMul := f_i2c (fun i j h => by
  unfold cMul at h
  unfold CMul
  simpa [Bool.or_eq_true, Bool.and_eq_true, decide_eq_true_eq] using h) fun _ _ _ _ => .int _
def fDiv := fI2c (fun _ j => decide (0 < j) && decide (j < 1073741824)) fun i j => .int (i / j)
theorem f_div : Op2 X.K E (rI CDiv fun i j => .int (i / j)) fDiv := f_i2c (fun i j h => by
  unfold CDiv
  simpa [Bool.and_eq_true, decide_eq_true_eq] using h) fun _ _ _ _ => .int _
def fMod := fI2c (fun _ j => decide (0 < j)) fun i j => .int (i % j)
theorem f_mod : Op2 X.K E (rI (fun _ j => 0 < j) fun i j => .int (i % j)) fMod := f_i2c (fun i j h => by simpa [decide_eq_true_eq] using h) fun _ _ _ _ => .int _
def cPow (i j : Int) : Bool := decide (0 ≤ j) && (decide (j ≤ 1000000) && decide (i.natAbs < 2 ^ 64))
theorem cPow_of {i j : Int} (h : cPow i j = true) : CPow i j := by
  unfold cPow at h
  unfold CPow
  simpa [Bool.and_eq_true, decide_eq_true_eq] using h
def fPow := fI2c cPow fun i j => .int (i ^ j.toNat)
theorem f_pow : Op2 X.K E (rI CPow fun i j => .int (i ^ j.toNat)) fPow := f_i2c (fun _ _ h => cPow_of h) fun _ _ _ _ => .int _
def fLt := fI2 fun i j => .bl (decide (i < j))
theorem f_lt : Op2 X.K E (rI0 fun i j => .bl (decide (i < j))) fLt := f_i2 fun _ _ _ _ => .bl _
def fLe := fI2 fun i j => .bl (decide (i ≤ j))
def fGt := fI2 fun i j => .bl (decide (j < i))
theorem f_gt : Op2 X.K E (rI0 fun i j => .bl (decide (j < i))) fGt := f_i2 fun _ _ _ _ => .bl _
def fGe := fI2 fun i j => .bl (decide (j ≤ i))
def fNeg (x : T) (S : Sto) : R T := match x with
  | .int i => .ok (.int (-i)) S
  | _ => .bad
theorem f_neg : Op1 X.K E (rU fun i => .int (-i)) fNeg := by
  intro ρ H S v x Q s rv h
  unfold fNeg at h
  split at h
  · exact ⟨_, rep_int rv, h.ok s _ (.int _)⟩
  · exact h.elim
/-- == of data -/
def eqT (x y : T) : Option Bool := match x, y with
  | .int i, .int j => some (decide (i = j))
  | .str i, .str j => some (decide (i = j))
  | .bl i, .bl j => some (decide (i = j))
  | .non, .non => some true
  | .non, .int _ => some false
  | .int _, .non => some false
  | .non, .str _ => some false
  | .str _, .non => some false
  | .int _, .str _ => some false
  | .str _, .int _ => some false
  | x, y => match toD x, toD y with
    | some d, some e => if (SeqAt.shaped d && SeqAt.shaped e) = true then some (PyData.eqv d e) else none
    | _, _ => none
def fEq (x y : T) (S : Sto) : R T := match eqT x y with
  | some b => .ok (.bl b) S
  | none => .bad
def fNe (x y : T) (S : Sto) : R T := match eqT x y with
  | some b => .ok (.bl (!b)) S
  | none => .bad
theorem eqT_of {ρ : Wd} {H : Hp} {v w : V} {x y : T} {b : Bool} (rv : Rep X.K ρ H v x) (rw' : Rep X.K ρ H w y) (h : eqT x y = some b) : (scal v w = true ∧ decide (v = w) = b) ∨ ∃ d e, Dp X.K H v d ∧ Dp X.K H w e ∧ SeqAt.shaped d = true ∧ SeqAt.shaped e = true ∧ PyData.eqv d e = b := by
  unfold eqT at h
  split at h
  · rw [rep_int rv, rep_int rw']
    cases h
    exact .inl ⟨rfl, by rw [Bool.eq_iff_iff]; simp⟩
  · rw [rep_str rv, rep_str rw']
    cases h
    exact .inl ⟨rfl, by rw [Bool.eq_iff_iff]; simp⟩
  · rw [rep_bl rv, rep_bl rw']
    cases h
    exact .inl ⟨rfl, by rw [Bool.eq_iff_iff]; simp⟩
  · rw [rep_non rv, rep_non rw']
    cases h
    exact .inl ⟨rfl, by simp⟩
  · rw [rep_non rv, rep_int rw']
    cases h
    exact .inl ⟨rfl, by simp⟩
  · rw [rep_int rv, rep_non rw']
    cases h
    exact .inl ⟨rfl, by simp⟩
  · rw [rep_non rv, rep_str rw']
    cases h
    exact .inl ⟨rfl, by simp⟩
  · rw [rep_str rv, rep_non rw']
    cases h
    exact .inl ⟨rfl, by simp⟩
  · rw [rep_int rv, rep_str rw']
    cases h
    exact .inl ⟨rfl, by simp⟩
  · rw [rep_str rv, rep_int rw']
    cases h
    exact .inl ⟨rfl, by simp⟩
  · split at h
    · rename_i d e hd he
      split at h
      · rename_i hs
        cases h
        rw [Bool.and_eq_true] at hs
        exact .inr ⟨d, e, dp_of rv hd, dp_of rw' he, hs.1, hs.2, rfl⟩
      · cases h
    · cases h
def rEqA (K : PySem.W.Frag) : R2 := rOr rEq (rEqD K)
def rNeA (K : PySem.W.Frag) : R2 := rOr rNe (rNeD K)
theorem o_eq (hu : X.A.units + 64 < cLine) : OpR X (compareOp .Eq) (rEqA X.K) := op_eq.or (op_eqD hu)
theorem o_ne (hu : X.A.units + 64 < cLine) : OpR X (compareOp .NotEq) (rNeA X.K) := op_ne.or (op_neD hu)
theorem f_eq : Op2 X.K E (rEqA X.K) fEq := by
  intro ρ H S v w x y Q s rv rw' h
  unfold fEq at h
  split at h
  · rename_i b hb
    have q := h.ok s (.bl b) (.bl b)
    rcases eqT_of rv rw' hb with ⟨h1, h2⟩ | ⟨d, e, h1, h2, h3, h4, h5⟩
    · exact .inl ⟨h1, by rw [h2]; exact q⟩
    · exact .inr ⟨d, e, h1, h2, h3, h4, by rw [h5]; exact q⟩
  · exact h.elim
theorem f_ne : Op2 X.K E (rNeA X.K) fNe := by
  intro ρ H S v w x y Q s rv rw' h
  unfold fNe at h
  split at h
  · rename_i b hb
    have q := h.ok s (.bl (!b)) (.bl (!b))
    rcases eqT_of rv rw' hb with ⟨h1, h2⟩ | ⟨d, e, h1, h2, h3, h4, h5⟩
    · exact .inl ⟨h1, by rw [h2]; exact q⟩
    · exact .inr ⟨d, e, h1, h2, h3, h4, by rw [h5]; exact q⟩
  · exact h.elim
/-- is None -/
def isN (x : T) : Bool := match x with
  | .non => true
  | _ => false
def fIsN (neg : Bool) (x y : T) (S : Sto) : R T := match y with
  | .non => .ok (.bl (if neg = true then !isN x else isN x)) S
  | _ => .bad
theorem isN_of {ρ : Wd} {H : Hp} {v : V} {x : T} (rv : Rep X.K ρ H v x) : decide (v = .non) = isN x := by
  cases rv <;> simp [isN]
theorem f_isN : Op2 X.K E (fun x y H Q => y = .non ∧ Q (.bl (decide (x = .non))) H) (fIsN false) := by
  intro ρ H S v w x y Q s rv rw' h
  unfold fIsN at h
  split at h
  · exact ⟨rep_non rw', by rw [isN_of rv]; exact h.ok s _ (.bl _)⟩
  · exact h.elim
def flatT : T → Bool
  | .non => true
  | .bl _ => true
  | .int _ => true
  | .str _ => true
  | _ => false
def eqF : T → T → Bool
  | .non, .non => true
  | .bl a, .bl b => a == b
  | .bl a, .int b => (if a then 1 else 0) == b
  | .int a, .bl b => a == (if b then 1 else 0)
  | .int a, .int b => a == b
  | .str a, .str b => a == b
  | _, _ => false
def inF (x : T) (ts : List T) : Bool := ts.any fun y => eqF y x
section
variable {K : PySem.W.Frag} {ρ : Wd} {H : Hp}
theorem flat_of {v : V} {t : T} (r : Rep K ρ H v t) (h : flatT t = true) : flatV v = true := by
  cases r <;> first | rfl | cases h
theorem flats_of : ∀ {v : List V} {t : List T}, Reps K ρ H v t → t.all flatT = true → v.all flatV = true
  | _, _, .nil, _ => rfl
  | _, _, .cons r rs, h => by
    rw [List.all_cons, Bool.and_eq_true] at h ⊢
    exact ⟨flat_of r h.1, flats_of rs h.2⟩
theorem eqF_of {v w : V} {t u : T} (r : Rep K ρ H v t) (r' : Rep K ρ H w u) (h : flatT t = true) (h' : flatT u = true) : eqV v w = eqF t u := by
  cases r <;> first | (cases h; done) | (cases r' <;> first | rfl | (cases h'; done))
theorem inF_of {w : V} {u : T} (r' : Rep K ρ H w u) (h' : flatT u = true) : ∀ {v : List V} {t : List T}, Reps K ρ H v t → t.all flatT = true → inV w v = inF u t
  | _, _, .nil, _ => rfl
  | _, _, .cons r rs, h => by
    rw [List.all_cons, Bool.and_eq_true] at h
    have ih := inF_of r' h' rs h.2
    unfold inV inF at ih ⊢
    rw [List.any_cons, List.any_cons, eqF_of r r' h.1 h', ih]
end
/-- x in a text: one sign, or more -/
def inS (a b : Str) : Bool := match a.cps.toList with
  | [c] => decide (c ∈ b.cps.toList)
  | _ => !(Builtin.Str.occurrences b a 0 b.length 1).isEmpty
def fIn (neg : Bool) (x y : T) (S : Sto) : R T := match x, y with
  | .str a, .str b => .ok (.bl (if neg = true then !inS a b else inS a b)) S
  | x, y => match seqOf S y with
    | some ts => if (flatT x && ts.all flatT) = true then .ok (.bl (if neg = true then !inF x ts else inF x ts)) S
      else match toD x, toD y with
        | some d, some (.list ds) => if (SeqAt.shaped d && SeqAt.shaped (.list ds)) = true then .ok (.bl (if neg = true then !(ds.any fun z => PyData.eqv z d) else ds.any fun z => PyData.eqv z d)) S else .bad
        | _, _ => .bad
    | none => .bad
def rInA (K : PySem.W.Frag) : R2 := rOr (rIn K false) (rOr (fun x y H Q => ∃ (c : Nat) (z : Str), x = .str ⟨#[c]⟩ ∧ y = .str z ∧ Q (.bl (decide (c ∈ z.cps.toList))) H) (rOr (fun x y H Q => ∃ i j, x = .str i ∧ y = .str j ∧ Q (.bl (!(Builtin.Str.occurrences j i 0 j.length 1).isEmpty)) H) (rInD K)))
theorem o_in (hu : X.A.units + 65 < cLine) : OpR X (compareOp .In) (rInA X.K) := op_in_seq.or (op_in_sign.or (op_in_str.or (op_inD hu)))
theorem sign_of {a : Str} {c : Nat} (h : a.cps.toList = [c]) : a = ⟨#[c]⟩ := by
  cases a with
  | mk cps =>
    congr 1
    exact Array.ext' h
theorem inS_one {a b : Str} {n : Nat} (h : a.cps.toList = [n]) : inS a b = decide (n ∈ b.cps.toList) := by unfold inS; rw [h]
theorem inS_more {a b : Str} (h : ¬ ∃ n, a.cps.toList = [n]) : inS a b = !(Builtin.Str.occurrences b a 0 b.length 1).isEmpty := by
  unfold inS
  split
  · rename_i n e
    exact absurd ⟨n, e⟩ h
  · rfl
theorem f_in : Op2 X.K E (rInA X.K) (fIn false) := by
  intro ρ H S v w x y Q s rv rw' h
  unfold fIn at h
  split at h
  · rename_i a b
    have q := h.ok s _ (.bl _)
    rw [rep_str rv, rep_str rw']
    by_cases c : ∃ n, a.cps.toList = [n]
    · obtain ⟨n, c⟩ := c
      refine .inr (.inl ⟨n, b, by rw [sign_of c], rfl, ?_⟩)
      rw [inS_one c] at q
      exact q
    · refine .inr (.inr (.inl ⟨a, b, rfl, rfl, ?_⟩))
      rw [inS_more c] at q
      exact q
  · split at h
    · rename_i ts hs
      split at h
      · rename_i hf
        rw [Bool.and_eq_true] at hf
        obtain ⟨a, xs, rfl, hx, rs⟩ := seqOf_at s rw' hs
        have q := h.ok s _ (.bl _)
        refine .inl ⟨a, xs, rfl, hx, flat_of rv hf.1, flats_of rs hf.2, ?_⟩
        rw [inF_of rv hf.1 rs hf.2]
        exact q
      · split at h
        · rename_i d ds hd he
          split at h
          · rename_i hsh
            rw [Bool.and_eq_true] at hsh
            exact .inr (.inr (.inr ⟨d, ds, dp_of rv hd, dp_of rw' he, hsh.1, hsh.2, h.ok s _ (.bl _)⟩))
          · exact h.elim
        · exact h.elim
    · exact h.elim
theorem Reps.atI {K : PySem.W.Frag} {ρ : Wd} {H : Hp} {v : List V} {t : List T} {i : Int} {x : T} (r : Reps K ρ H v t) (h : L2.atI t i = some x) : ∃ y, L2.atI v i = some y ∧ Rep K ρ H y x := by
  unfold L2.atI at h ⊢
  rw [r.length]
  obtain ⟨j, e, h⟩ := Option.bind_eq_some_iff.mp h
  obtain ⟨y, e2, r2⟩ := r.get h
  exact ⟨y, by rw [e]; exact e2, r2⟩
def fIx (x y : T) (S : Sto) : R T := match y with
  | .int i => match x with
    | .str z => match L2.atI z.cps.toList i with
      | some c => if z.length ≤ 1000000 then .ok (.str ⟨#[c]⟩) S else .bad
      | none => .bad
    | x => match seqOf S x with
      | some ts => match L2.atI ts i with
        | some t => .ok t S
        | none => .bad
      | none => .bad
  | _ => .bad
def rIxA (K : PySem.W.Frag) : R2 := rOr (rIxL K) (rOr (rIxT K) rIxS)
theorem o_ix : IxR X (rIxA X.K) := Fx.IxR.or' ix_list (Fx.IxR.or' ix_tup ix_str)
theorem f_ix : Op2 X.K E (rIxA X.K) fIx := by
  intro ρ H S v w x y Q s rv rw' h
  unfold fIx at h
  split at h
  · rename_i i
    rw [rep_int rw']
    split at h
    · rename_i z
      rw [rep_str rv]
      split at h
      · rename_i c hc
        split at h
        · rename_i hl
          exact .inr (.inr ⟨z, i, c, rfl, rfl, sz6 hl, hc, h.ok s _ (.str _)⟩)
        · exact h.elim
      · exact h.elim
    · split at h
      · rename_i ts hs
        split at h
        · rename_i t ht
          obtain ⟨a, xs, rfl, hx, rs⟩ := seqOf_at s rv hs
          obtain ⟨u, hu, ru⟩ := rs.atI ht
          have q := h.ok s u ru
          rcases hx with hx | hx
          · exact .inl ⟨a, xs, i, u, rfl, rfl, hx, hu, q⟩
          · exact .inr (.inl ⟨a, xs, i, u, rfl, rfl, hx, hu, q⟩)
        · exact h.elim
      · exact h.elim
  · exact h.elim
def fLen (xs : List T) (S : Sto) : R T := match xs with
  | [.str z] => if z.length ≤ 1000000 then .ok (.int z.length) S else .bad
  | [x] => match seqOf S x with
    | some ts => .ok (.int ts.length) S
    | none => .bad
  | _ => .bad
def rN1 (r r' : List V → Hp → VK → Prop) : List V → Hp → VK → Prop := fun xs H Q => r xs H Q ∨ r' xs H Q
theorem CallR.or {f : Value} {r r' : List V → Hp → VK → Prop} (h : CallR X f r) (h' : CallR X f r') : CallR X f (rN1 r r') := fun pins s σ H xs us Q I rx q => q.elim (fun q => h pins s σ H xs us Q I rx q) fun q => h' pins s σ H xs us Q I rx q
def rLenA (K : PySem.W.Frag) : List V → Hp → VK → Prop := fun xs H Q => ∃ x n, xs = [x] ∧ LenV K x H n ∧ Q (.int n) H
theorem o_len : CallR X (.builtin "len") (rLenA X.K) := call_len
theorem Reps.one {K : PySem.W.Frag} {ρ : Wd} {H : Hp} {v : List V} {x : T} (r : Reps K ρ H v [x]) : ∃ y, v = [y] ∧ Rep K ρ H y x := by
  cases r with
  | cons r rs => cases rs; exact ⟨_, rfl, r⟩
theorem Reps.two {K : PySem.W.Frag} {ρ : Wd} {H : Hp} {v : List V} {x y : T} (r : Reps K ρ H v [x, y]) : ∃ a b, v = [a, b] ∧ Rep K ρ H a x ∧ Rep K ρ H b y := by
  cases r with
  | cons r rs =>
    obtain ⟨b, rfl, rb⟩ := rs.one
    exact ⟨_, b, rfl, r, rb⟩
theorem Reps.none {K : PySem.W.Frag} {ρ : Wd} {H : Hp} {v : List V} (r : Reps K ρ H v []) : v = [] := by
  cases r
  rfl
theorem f_len : OpN X.K E (rLenA X.K) fLen := by
  intro ρ H S vs ts Q s rs h
  unfold fLen at h
  split at h
  · rename_i z
    obtain ⟨y, rfl, r⟩ := rs.one
    rw [rep_str r]
    split at h
    · rename_i hl
      exact ⟨_, _, rfl, ⟨sz6 hl, rfl⟩, h.ok s _ (.int _)⟩
    · exact h.elim
  · rename_i x _
    obtain ⟨y, rfl, r⟩ := rs.one
    split at h
    · rename_i us hs
      obtain ⟨a, xs, rfl, hx, rx⟩ := seqOf_at s r hs
      have q := h.ok s _ (.int _)
      rw [← rx.length] at q
      refine ⟨_, _, rfl, ?_, q⟩
      exact hx.elim (fun hx => .inl ⟨xs, hx, rfl⟩) fun hx => .inr ⟨xs, hx, rfl⟩
    · exact h.elim
  · exact h.elim
def fAbs (xs : List T) (S : Sto) : R T := match xs with
  | [.int i] => .ok (.int (if i < 0 then -i else i)) S
  | _ => .bad
def rAbs : List V → Hp → VK → Prop := fun xs H Q => ∃ i, xs = [.int i] ∧ Q (.int (if i < 0 then -i else i)) H
theorem o_abs : CallR X (.builtin "abs") rAbs := call_abs
theorem f_abs : OpN X.K E rAbs fAbs := by
  intro ρ H S vs ts Q s rs h
  unfold fAbs at h
  split at h
  · obtain ⟨y, rfl, r⟩ := rs.one
    exact ⟨_, by rw [rep_int r], h.ok s _ (.int _)⟩
  · exact h.elim
def fInt (xs : List T) (S : Sto) : R T := match xs with
  | [.int i] => .ok (.int i) S
  | [.bl k] => .ok (.int (if k then 1 else 0)) S
  | [.str a] => match PySem.intText? a with
    | some n => if a.length ≤ 640 then .ok (.int n) S else .bad
    | none => .bad
  | _ => .bad
def rIntA : List V → Hp → VK → Prop := rN1 (fun xs H Q => (∃ i, xs = [.int i] ∧ Q (.int i) H) ∨ ∃ k, xs = [.bl k] ∧ Q (.int (if k then 1 else 0)) H) (fun xs H Q => ∃ a n, xs = [.str a] ∧ PySem.intText? a = some n ∧ a.length ≤ 640 ∧ Q (.int n) H)
theorem o_int : CallR X (.type "int") rIntA := call_int1.or call_int_str
theorem f_int : OpN X.K E rIntA fInt := by
  intro ρ H S vs ts Q s rs h
  unfold fInt at h
  split at h
  · obtain ⟨y, rfl, r⟩ := rs.one
    exact .inl (.inl ⟨_, by rw [rep_int r], h.ok s _ (.int _)⟩)
  · obtain ⟨y, rfl, r⟩ := rs.one
    exact .inl (.inr ⟨_, by rw [rep_bl r], h.ok s _ (.int _)⟩)
  · obtain ⟨y, rfl, r⟩ := rs.one
    split at h
    · rename_i n hn
      split at h
      · rename_i hl
        exact .inr ⟨_, _, by rw [rep_str r], hn, hl, h.ok s _ (.int _)⟩
      · exact h.elim
    · exact h.elim
  · exact h.elim
def fMax2 (xs : List T) (S : Sto) : R T := match xs with
  | [.int i, .int j] => .ok (.int (if j > i then j else i)) S
  | _ => .bad
def rMax2 : List V → Hp → VK → Prop := fun xs H Q => ∃ i j, xs = [.int i, .int j] ∧ Q (.int (if j > i then j else i)) H
theorem o_max2 (hc : X.calm = true) : CallR X (.builtin "max") rMax2 := call_max2 hc
theorem f_max2 : OpN X.K E rMax2 fMax2 := by
  intro ρ H S vs ts Q s rs h
  unfold fMax2 at h
  split at h
  · obtain ⟨a, b, rfl, ra, rb⟩ := rs.two
    exact ⟨_, _, by rw [rep_int ra, rep_int rb], h.ok s _ (.int _)⟩
  · exact h.elim
def fMin2 (xs : List T) (S : Sto) : R T := match xs with
  | [.int i, .int j] => .ok (.int (if j < i then j else i)) S
  | _ => .bad
def rMin2 : List V → Hp → VK → Prop := fun xs H Q => ∃ i j, xs = [.int i, .int j] ∧ Q (.int (if j < i then j else i)) H
theorem o_min2 (hc : X.calm = true) : CallR X (.builtin "min") rMin2 := call_min2 hc
theorem f_min2 : OpN X.K E rMin2 fMin2 := by
  intro ρ H S vs ts Q s rs h
  unfold fMin2 at h
  split at h
  · obtain ⟨a, b, rfl, ra, rb⟩ := rs.two
    exact ⟨_, _, by rw [rep_int ra, rep_int rb], h.ok s _ (.int _)⟩
  · exact h.elim
def fStr (xs : List T) (S : Sto) : R T := match xs with
  | [.int i] => if i.natAbs.log2 < 1920 then .ok (.str (toString i)) S else .bad
  | _ => .bad
def rStrI : List V → Hp → VK → Prop := fun xs H Q => ∃ i, xs = [.int i] ∧ i.natAbs.log2 < 1920 ∧ Q (.str (toString i)) H
theorem o_str : CallR X (.type "str") rStrI := call_str_int
theorem f_str : OpN X.K E rStrI fStr := by
  intro ρ H S vs ts Q s rs h
  unfold fStr at h
  split at h
  · obtain ⟨y, rfl, r⟩ := rs.one
    split at h
    · rename_i hl
      exact ⟨_, by rw [rep_int r], hl, h.ok s _ (.str _)⟩
    · exact h.elim
  · exact h.elim
def rListA (K : PySem.W.Frag) : List V → Hp → VK → Prop := fun xs H Q => ∃ p ys, xs = [.ref p] ∧ (SqL K H p ys ∨ SqT K H p ys) ∧ ∀ l, H l = none → Q (.ref l) (upd H l (.lst ys))
theorem o_list : CallR X (.type "list") (rListA X.K) := call_list_of
def fTuple (xs : List T) (S : Sto) : R T := match xs with
  | [.tup ts] => .ok (.tup ts) S
  | [x] => match lstOf S x with
    | some ts => .ok (.tup ts) S
    | none => .bad
  | _ => .bad
def rTupleA (K : PySem.W.Frag) : List V → Hp → VK → Prop := rTupleN K
theorem o_tuple : CallR X (.type "tuple") (rTupleA X.K) := call_tupleN
theorem f_tuple : OpN X.K E (rTupleA X.K) fTuple := by
  intro ρ H S vs ts Q s rs h
  unfold fTuple at h
  split at h
  · obtain ⟨y, rfl, r⟩ := rs.one
    obtain ⟨a, xs, rfl, hx, rx⟩ := rep_tup r
    exact ⟨a, xs, rfl, .inr ⟨hx.sq, h.ok s _ r⟩⟩
  · obtain ⟨y, rfl, r⟩ := rs.one
    split at h
    · rename_i us hs
      obtain ⟨a, xs, rfl, hx, rx⟩ := lstOf_at s r hs
      exact ⟨a, xs, rfl, .inl ⟨hx, new_tup s rx h⟩⟩
    · exact h.elim
  · exact h.elim
def intsOf : List T → Option (List Int)
  | [] => some []
  | .int i :: ts => (intsOf ts).map fun l => i :: l
  | _ => none
theorem ints_of {K : PySem.W.Frag} {ρ : Wd} {H : Hp} : ∀ {v : List V} {t : List T} {ns : List Int}, Reps K ρ H v t → intsOf t = some ns → v = ns.map V.int
  | _, _, _, .nil, h => by cases h; rfl
  | _, t :: ts, ns, .cons r rs, h => by
    cases t with
    | int i =>
      obtain ⟨l, e, h⟩ := Option.map_eq_some_iff.mp (show (intsOf ts).map (fun l => i :: l) = _ from h)
      subst h
      rw [rep_int r, ints_of rs e]
      rfl
    | _ => cases h
def fSum (xs : List T) (S : Sto) : R T := match xs with
  | [x] => match lstOf S x with
    | some ts => match intsOf ts with
      | some ns => .ok (.int ns.sum) S
      | none => .bad
    | none => .bad
  | _ => .bad
theorem o_sum (hc : X.calm = true) : CallR X (.builtin "sum") (rSum X.K) := cr_sum hc
theorem f_sum : OpN X.K E (rSum X.K) fSum := by
  intro ρ H S vs ts Q s rs h
  unfold fSum at h
  split at h
  · obtain ⟨y, rfl, r⟩ := rs.one
    split at h
    · rename_i us hs
      split at h
      · rename_i ns hn
        obtain ⟨a, xs, rfl, hx, rx⟩ := lstOf_at s r hs
        have e := ints_of rx hn
        subst e
        exact ⟨a, ns, rfl, hx, h.ok s _ (.int _)⟩
      · exact h.elim
    · exact h.elim
  · exact h.elim
def tyN (S : Sto) : T → Option String
  | .non => some "NoneType"
  | .bl _ => some "bool"
  | .int _ => some "int"
  | .str _ => some "str"
  | .tup _ => some "tuple"
  | .lst _ => some "list"
  | .kst _ => some "list"
  | .ref i => match S[i]? with
    | some (.lst _) => some "list"
    | _ => none
  | _ => none
def fIsi (xs : List T) (S : Sto) : R T := match xs with
  | [x, .ty n] => match tyN S x with
    | some a => match kitB a n with
      | some b => .ok (.bl b) S
      | none => .bad
    | none => .bad
  | _ => .bad
theorem tyN_of {ρ : Wd} {H : Hp} {S : Sto} {v : V} {t : T} {a : String} (s : Sta X.K ρ H S) (r : Rep X.K ρ H v t) (h : tyN S t = some a) : TyX X.K H v (.type a) := by
  cases r with
  | non => cases h; exact .base .non
  | bl b => cases h; exact .base (.bl b)
  | int i => cases h; exact .base (.int i)
  | str x => cases h; exact .base (.str x)
  | obj a => cases h
  | ty n => cases h
  | tup f rs =>
    cases h
    rcases f with ⟨⟨o, f, _⟩, _⟩ | ⟨o, its, n, f, c, _⟩
    · exact .fTuple f
    · exact .kTuple f c.1
  | wt _ _ _ => cases h
  | exn _ _ _ _ _ => cases h
  | dct _ _ _ _ => cases h
  | lst f _ rs => cases h; exact .base (.lst f)
  | kst f rs =>
    cases h
    rcases f with ⟨f | ⟨o, f⟩, _⟩ | (f | ⟨_, f⟩) | ⟨o, its, n, f, c, _⟩
    · exact .base (.lst f)
    · exact .base (.frz f)
    · cases f
    · cases f
    · exact .kList f c
  | ref e =>
    rename_i i b
    have h : (match S[i]? with
      | some (.lst _) => some "list"
      | _ => none) = some a := h
    split at h
    · rename_i us q
      cases h
      obtain ⟨xs, h1, _⟩ := s.at_ _ _ _ e q
      exact .base (.lst h1)
    · cases h
theorem o_isi : CallR X (.builtin "isinstance") (rIsi X.K) := call_isi
theorem f_isi : OpN X.K E (rIsi X.K) fIsi := by
  intro ρ H S vs ts Q s rs h
  unfold fIsi at h
  split at h
  · rename_i x n
    obtain ⟨u, c, rfl, r, rc⟩ := rs.two
    cases rc
    split at h
    · rename_i a ha
      split at h
      · rename_i b hb
        exact ⟨u, .ty n, .type a, .type n, b, rfl, .ty n, tyN_of s r ha, kit_ty hb, h.ok s _ (.bl b)⟩
      · exact h.elim
    · exact h.elim
  · exact h.elim
theorem x_ty {n : String} {x : Str} {pos : Pos} (hg : Gl X x) (hm : X.mg x = none) (hv : bootBuiltins x = some (.type n)) (hn : x ≠ "__name__" := by decide) (hd : (x == ("__debug__" : Str)) = false := by decide) : PE X (.Name x pos) (tM X.K E (mC (.ty n))) :=
  x_con (fun _ _ => .ty n) (pe_bltn hg hm hv rfl hn hd)
end
end Fx
namespace Fx
open PySem PySem.Spec PyProof.Rows L2
open Classical in
noncomputable def ifP {α : Type} (p : Prop) (a b : α) : α := if p then a else b
theorem ifP_t {α : Type} {p : Prop} {a b : α} (h : p) : ifP p a b = a := if_pos h
theorem ifP_f {α : Type} {p : Prop} {a b : α} (h : ¬ p) : ifP p a b = b := if_neg h
def OpM (K : PySem.W.Frag) (E : XK) (r : V → List V → Hp → VK → Prop) (f : T → List T → Sto → R T) : Prop := ∀ (ρ : Wd) (H : Hp) (S : Sto) (v : V) (x : T) (vs : List V) (ts : List T) (Q : VK), Sta K ρ H S → Rep K ρ H v x → Reps K ρ H vs ts → Post K E ρ H (f x ts S) (QE K Q) → r v vs H Q
def isStr (x : T) (_ : Sto) : Bool := match x with
  | .str _ => true
  | _ => false
def isLst (x : T) (S : Sto) : Bool := (lstOf S x).isSome
def mMeth (c : T → Sto → Bool) (f : T → List T → Sto → R T) (o : Env → Sto → R T) (a : Env → Sto → R (List T)) : Env → Sto → R T := fun τ S => (o τ S).bind fun x S1 => if c x S1 = true then (a τ S1).bind fun ts S2 => f x ts S2 else .bad
def TyC (K : PySem.W.Frag) (n : String) (c : T → Sto → Bool) : Prop := ∀ ρ H S v x, Sta K ρ H S → Rep K ρ H v x → c x S = true → tyV K n v H
theorem ty_str {K : PySem.W.Frag} : TyC K "str" isStr := fun ρ H S v x s r h => by
  unfold isStr at h
  split at h
  · rw [rep_str r]; rfl
  · cases h
theorem ty_lst {K : PySem.W.Frag} : TyC K "list" isLst := fun ρ H S v x s r h => by
  unfold isLst at h
  obtain ⟨ts, e⟩ := Option.isSome_iff_exists.mp h
  obtain ⟨a, xs, rfl, hx, _⟩ := lstOf_at s r e
  exact .inl ⟨rfl, xs, hx⟩
section
variable {X : Cx} {E : XK} {o e : Expr} {es : List Expr} {mo : Env → Sto → R T} {ms : Env → Sto → R (List T)} {name : Str} {apos cpos : Pos} {n id : String} {r : V → List V → Hp → VK → Prop} {f : T → List T → Sto → R T} {c : T → Sto → Bool}
theorem x_meth (pa : PlainAttrs n) (slot : Slot n name id) (hty : typeOf (.builtin id) = pure (.type "method_descriptor")) (hm : MtR X id r) (hs : OpM X.K E r f) (hc : TyC X.K n c) (ho : PE X o (tM X.K E mo)) (ha : PA X (e :: es) (tA X.K E ms))
    (hbase : attributeBase o name X.env (eval o X.env) = eval o X.env := by rfl)
    (hfew : ((backTo cpos (starEach (e :: es) X.env)).all (fun x => !x.1) && (backToKw cpos (keywordEach [] X.env)).all (fun x => x.1.isSome) && decide ((e :: es).length + ([] : List Keyword).length + (if ([] : List Keyword).isEmpty then 0 else 1) < 30)) = true := by rfl)
    (hline : (apos.endLine == cpos.line) = true := by rfl) (he : starEach (e :: es) X.env = (false, eval e X.env) :: starEach es X.env := by rfl) (hpl : (backTo cpos (starEach es X.env)).any (·.1) = false := by rfl) :
    PE X (.Call (.Attribute o name apos) (e :: es) [] cpos) (tM X.K E (mMeth c f mo ms)) :=
  PE.of (pe_bm pa slot hty hm ho ha hbase hfew hline he hpl) fun σ H Q ⟨ρ, τ, S, s, e, h⟩ => ⟨ρ, τ, S, s, e, h.step fun ρ1 H1 x S1 e1 s1 h1 v rv => by
    by_cases hx : c x S1 = true
    · rw [if_pos hx] at h1
      exact ⟨hc ρ1 H1 S1 v x s1 rv hx, ρ1, τ, S1, s1, e.ext e1, h1.step fun ρ2 H2 ts S2 e2 s2 h2 vs rs => hs ρ2 H2 S2 v x vs ts Q s2 (rv.ext e2) rs h2⟩
    · rw [if_neg hx] at h1
      exact h1.elim⟩
theorem x_meth0 (pa : PlainAttrs n) (slot : Slot n name id) (hty : typeOf (.builtin id) = pure (.type "method_descriptor")) (hm : MtR X id r) (hs : OpM X.K E r f) (hc : TyC X.K n c) (ho : PE X o (tM X.K E mo))
    (hbase : attributeBase o name X.env (eval o X.env) = eval o X.env := by rfl) (hline : (apos.endLine == cpos.line) = true := by rfl) :
    PE X (.Call (.Attribute o name apos) [] [] cpos) (tM X.K E (mMeth c f mo mNil)) :=
  PE.of (pe_bm0 pa slot hty hm ho hbase hline) fun σ H Q ⟨ρ, τ, S, s, e, h⟩ => ⟨ρ, τ, S, s, e, h.step fun ρ1 H1 x S1 e1 s1 h1 v rv => by
    by_cases hx : c x S1 = true
    · rw [if_pos hx] at h1
      exact ⟨hc ρ1 H1 S1 v x s1 rv hx, hs ρ1 H1 S1 v x [] [] Q s1 rv .nil h1⟩
    · rw [if_neg hx] at h1
      exact h1.elim⟩
def fAppend (x : T) (ts : List T) (S : Sto) : R T := match x, ts with
  | .ref i, [t] => match S[i]? with
    | some (.lst us) => if us.length < 100000 then .ok .non (S.set i (.lst (us ++ [t]))) else .bad
    | _ => .bad
  | _, _ => .bad
theorem sz_lt5 {n : Nat} (h : n < 100000) : n < sizeLine := Nat.lt_of_lt_of_le h (by decide)
/-- the list at a reference is another one now -/
theorem put_lst {K : PySem.W.Frag} {ρ : Wd} {H : Hp} {S : Sto} {i : Nat} {a : Addr} {xs : List V} {ts : List T} {t : T} {v : V} {Q : VK} (s : Sta K ρ H S) (e : ρ.at_[i]? = some a) (rs : Reps K ρ H xs ts) (rv : Rep K ρ H v t)
    (h : Post K E ρ H (.ok t (S.set i (.lst ts))) (QE K Q)) : Q v (upd H a (.lst xs)) :=
  have m : a ∈ ρ.at_ := List.mem_of_getElem? e
  h ρ _ (Ext.put m) (s.put e ⟨xs, upd_same, rs.ext (Ext.put m)⟩) v (rv.ext (Ext.put m))
theorem f_append : OpM X.K E rAppend fAppend := by
  intro ρ H S v x vs ts Q s rv rs h
  unfold fAppend at h
  split at h
  · rename_i i t
    obtain ⟨y, rfl, ry⟩ := rs.one
    split at h
    · rename_i us hu
      split at h
      · rename_i hl
        obtain ⟨a, xs, rfl, ha, hx, rx⟩ := lstD_ref s rv hu
        exact ⟨a, xs, y, rfl, rfl, hx, by rw [rx.length]; exact sz_lt5 hl, put_lst s ha (rx.append (.cons ry .nil)) .non h⟩
      · exact h.elim
    · exact h.elim
  · exact h.elim
def fReverse (x : T) (ts : List T) (S : Sto) : R T := match x, ts with
  | .ref i, [] => match S[i]? with
    | some (.lst us) => .ok .non (S.set i (.lst us.reverse))
    | _ => .bad
  | _, _ => .bad
theorem f_reverse : OpM X.K E rReverse fReverse := by
  intro ρ H S v x vs ts Q s rv rs h
  unfold fReverse at h
  split at h
  · rename_i i
    have e := rs.none
    subst e
    split at h
    · rename_i us hu
      obtain ⟨a, xs, rfl, ha, hx, rx⟩ := lstD_ref s rv hu
      exact ⟨a, xs, rfl, rfl, hx, put_lst s ha rx.reverse .non h⟩
    · exact h.elim
  · exact h.elim
def strsOf : List T → Option (List Str)
  | [] => some []
  | .str i :: ts => (strsOf ts).map fun l => i :: l
  | _ => none
theorem strs_of {K : PySem.W.Frag} {ρ : Wd} {H : Hp} : ∀ {v : List V} {t : List T} {ns : List Str}, Reps K ρ H v t → strsOf t = some ns → v = ns.map V.str
  | _, _, _, .nil, h => by cases h; rfl
  | _, t :: ts, ns, .cons r rs, h => by
    cases t with
    | str i =>
      obtain ⟨l, e, h⟩ := Option.map_eq_some_iff.mp (show (strsOf ts).map (fun l => i :: l) = _ from h)
      subst h
      rw [rep_str r, strs_of rs e]
      rfl
    | _ => cases h
def fJoin (x : T) (ts : List T) (S : Sto) : R T := match x, ts with
  | .str a, [t] => match seqOf S t with
    | some us => match strsOf us with
      | some ys => if (ys.map (·.length)).sum + ys.length * a.length ≤ 1000000 then .ok (.str (Txt.join a ys)) S else .bad
      | none => .bad
    | none => .bad
  | _, _ => .bad
def rJoinA (K : PySem.W.Frag) : V → List V → Hp → VK → Prop := fun x xs H Q => ∃ a p, ∃ ys : List Str, x = .str a ∧ xs = [.ref p] ∧ (SqL K H p (ys.map V.str) ∨ SqT K H p (ys.map V.str)) ∧ (ys.map (·.length)).sum + ys.length * a.length ≤ 16777216 ∧ Q (.str (Txt.join a ys)) H
theorem f_join : OpM X.K E (rJoinA X.K) fJoin := by
  intro ρ H S v x vs ts Q s rv rs h
  unfold fJoin at h
  split at h
  · rename_i a t
    obtain ⟨y, rfl, ry⟩ := rs.one
    split at h
    · rename_i us hu
      split at h
      · rename_i ys hy
        split at h
        · rename_i hl
          obtain ⟨p, xs, rfl, hx, rx⟩ := seqOf_at s ry hu
          have e := strs_of rx hy
          subst e
          exact ⟨a, p, ys, rep_str rv, rfl, hx, Nat.le_trans hl (by decide), h.ok s _ (.str _)⟩
        · exact h.elim
      · exact h.elim
    · exact h.elim
  · exact h.elim
/-- the first place of an equal item -/
def ixF (x : T) (ts : List T) : Option Nat := ts.findIdx? fun y => eqF y x
def fIndex (x : T) (ts : List T) (S : Sto) : R T := match ts with
  | [t] => match lstOf S x with
    | some us => if (flatT t && us.all flatT) = true then match ixF t us with
      | some j => .ok (.int j) S
      | none => .bad else .bad
    | none => .bad
  | _ => .bad
theorem f_index : OpM X.K E (rIndex X.K) fIndex := by
  intro ρ H S v x vs ts Q s rv rs h
  unfold fIndex at h
  split at h
  · rename_i t
    obtain ⟨y, rfl, ry⟩ := rs.one
    split at h
    · rename_i us hu
      split at h
      · rename_i hf
        rw [Bool.and_eq_true] at hf
        split at h
        · rename_i j hj
          obtain ⟨p, xs, rfl, hx, rx⟩ := lstOf_at s rv hu
          unfold ixF at hj
          obtain ⟨hj1, hj2, hj3⟩ := List.findIdx?_eq_some_iff_getElem.mp hj
          obtain ⟨z, hz, rz⟩ := rx.get (List.getElem?_eq_getElem hj1)
          have fl : ∀ m (hm : m < us.length), flatT us[m] = true := fun m hm => List.all_eq_true.mp hf.2 _ (List.getElem_mem hm)
          refine ⟨p, xs, y, j, z, rfl, rfl, hx, flat_of ry hf.1, flats_of rx hf.2, hz, ?_, fun m z' hm hz' => ?_, h.ok s _ (.int _)⟩
          · rw [eqF_of rz ry (fl j hj1) hf.1]
            exact hj2
          · have hml : m < us.length := Nat.lt_trans hm hj1
            obtain ⟨z2, hz2, rz2⟩ := rx.get (List.getElem?_eq_getElem hml)
            rw [hz'] at hz2
            cases hz2
            rw [eqF_of rz2 ry (fl m hml) hf.1]
            simpa using hj3 m hm
        · exact h.elim
      · exact h.elim
    · exact h.elim
  · exact h.elim
def cutT (xs : List T) (lo hi : Option Int) : List T := (xs.drop (HT.sIx xs.length 0 lo)).take (HT.sIx xs.length xs.length hi - HT.sIx xs.length 0 lo)
theorem Reps.cut {K : PySem.W.Frag} {ρ : Wd} {H : Hp} {v : List V} {t : List T} (r : Reps K ρ H v t) (lo hi : Option Int) : Reps K ρ H (cutV v lo hi) (cutT t lo hi) := by
  unfold cutV cutT
  rw [r.length]
  exact (r.drop _).take _
def tO (K : PySem.W.Frag) (E : XK) (m : Env → Sto → R (Option Int)) : TO := fun σ H Q => ∃ ρ τ S, Sta K ρ H S ∧ REnv K ρ H σ τ ∧ Post K E ρ H (m τ S) (fun _ H' o _ => Q o H')
def mO0 : Env → Sto → R (Option Int) := fun _ S => .ok none S
def mO1 (a : Env → Sto → R T) : Env → Sto → R (Option Int) := fun τ S => (a τ S).bind fun x S1 => match x with
  | .int i => .ok (some i) S1
  | _ => .bad
def mSl (f : T → Option Int → Option Int → Sto → R T) (a : Env → Sto → R T) (l u : Env → Sto → R (Option Int)) : Env → Sto → R T := fun τ S => (a τ S).bind fun x S1 => (l τ S1).bind fun lo S2 => (u τ S2).bind fun hi S3 => f x lo hi S3
def OpS (K : PySem.W.Frag) (E : XK) (r : V → Option Int → Option Int → Hp → VK → Prop) (f : T → Option Int → Option Int → Sto → R T) : Prop := ∀ (ρ : Wd) (H : Hp) (S : Sto) (v : V) (x : T) (lo hi : Option Int) (Q : VK), Sta K ρ H S → Rep K ρ H v x → Post K E ρ H (f x lo hi S) (QE K Q) → r v lo hi H Q
theorem PO.of {e : Option Expr} {t t' : TO} (h : PO X e t) (i : ∀ σ H Q, t' σ H Q → t σ H Q) : PO X e t' := ⟨fun pins s σ H Q I hw => h.run pins s σ H Q I (i σ H Q hw)⟩
theorem o0 : PO X none (tO X.K E mO0) := PO.of po_none fun σ H Q ⟨ρ, τ, S, s, e, h⟩ => h.ok s
theorem o1 {a : Expr} {m : Env → Sto → R T} (ha : PE X a (tM X.K E m)) : PO X (some a) (tO X.K E (mO1 m)) := PO.of (po_some ha) fun σ H Q ⟨ρ, τ, S, s, e, h⟩ => ⟨ρ, τ, S, s, e, h.step fun ρ1 H1 x S1 e1 s1 h1 v rv => by
  cases x with
  | int i => exact ⟨i, rep_int rv, h1.ok s1⟩
  | _ => exact h1.elim⟩
theorem x_sl {a : Expr} {lo hi : Option Expr} {p1 p2} {ma : Env → Sto → R T} {ml mh : Env → Sto → R (Option Int)} {r : V → Option Int → Option Int → Hp → VK → Prop} {f : T → Option Int → Option Int → Sto → R T} (hr : SlR X r) (hs : OpS X.K E r f) (ha : PE X a (tM X.K E ma)) (hl : PO X lo (tO X.K E ml)) (hh : PO X hi (tO X.K E mh)) :
    PE X (.Subscript a (.Slice lo hi none p2) p1) (tM X.K E (mSl f ma ml mh)) :=
  PE.of (pe_slice hr ha hl hh) fun σ H Q ⟨ρ, τ, S, s, e, h⟩ => ⟨ρ, τ, S, s, e, h.step fun ρ1 H1 x S1 e1 s1 h1 v rv => ⟨ρ1, τ, S1, s1, e.ext e1, h1.step fun ρ2 H2 lo S2 e2 s2 h2 => ⟨ρ2, τ, S2, s2, (e.ext e1).ext e2, h2.step fun ρ3 H3 hi S3 e3 s3 h3 => hs ρ3 H3 S3 v x lo hi Q s3 ((rv.ext e2).ext e3) h3⟩⟩⟩
def fSl (x : T) (lo hi : Option Int) (S : Sto) : R T := match x with
  | .tup ts => .ok (.tup (cutT ts lo hi)) S
  | .str z => if z.length ≤ 1000000 then .ok (.str (Txt.slice z lo hi)) S else .bad
  | _ => .bad
/-- a list's slice is a new list -/
def fSlL (fz : Bool) (x : T) (lo hi : Option Int) (S : Sto) : R T := match lstOf S x with
  | some ts => newL fz (cutT ts lo hi) S
  | none => .bad
def sOr (r r' : V → Option Int → Option Int → Hp → VK → Prop) : V → Option Int → Option Int → Hp → VK → Prop := fun x lo hi H Q => r x lo hi H Q ∨ r' x lo hi H Q
def rSlTX (K : PySem.W.Frag) : V → Option Int → Option Int → Hp → VK → Prop := sOr (rSlN K) C8.rSlX
theorem o_sl : SlR X (rSlTX X.K) := L2.SlR.or sl_tupN C8.sl_txt
theorem cut_all (xs : List T) {lo hi : Option Int} (h : HT.sIx xs.length 0 lo = 0 ∧ HT.sIx xs.length xs.length hi = xs.length) : cutT xs lo hi = xs := by
  unfold cutT
  rw [h.1, h.2]
  simp
theorem f_sl : OpS X.K E (rSlTX X.K) fSl := by
  intro ρ H S v x lo hi Q s rv h
  unfold fSl at h
  split at h
  · rename_i ts
    obtain ⟨a, xs, rfl, fa, ra⟩ := rep_tup rv
    refine .inl ⟨a, xs, rfl, fa.sq, fun q => ?_, fun _ => new_tup s (ra.cut lo hi) h⟩
    rw [ra.length] at q
    rw [cut_all ts q] at h
    exact h.ok s _ rv
  · split at h
    · rename_i z hl
      exact .inr ⟨z, rep_str rv, sz6 hl, h.ok s _ (.str _)⟩
    · exact h.elim
  · exact h.elim
theorem f_slL (fz : Bool) : OpS X.K E (rSlL X.K) (fSlL fz) := by
  intro ρ H S v x lo hi Q s rv h
  unfold fSlL at h
  split at h
  · rename_i ts ht
    obtain ⟨a, xs, rfl, hx, rx⟩ := lstOf_at s rv ht
    exact ⟨a, xs, rfl, hx, fun p n => new_lst s (rx.cut lo hi) h p n⟩
  · exact h.elim
def sPut (o i a : Env → Sto → R T) : Env → Sto → R Fl := fun τ S => (a τ S).bind fun t S1 => (o τ S1).bind fun x S2 => (i τ S2).bind fun y S3 => match x, y with
  | .ref k, .int n => match S3[k]? with
    | some (.lst us) => match ixN us.length n with
      | some j => .ok (.nx τ) (S3.set k (.lst (us.set j t)))
      | none => .bad
    | _ => .bad
  | _, _ => .bad
theorem s_put {o i a : Expr} {p1 pos : Pos} {mo mi ma : Env → Sto → R T} (ha : PE X a (tM X.K E ma)) (ho : PE X o (tM X.K E mo)) (hi : PE X i (tM X.K E mi)) (hg : PG X (.Subscript o i p1) (gSub (tM X.K E mo) (tM X.K E mi) rSetL))
    (hs : swapsWithSole [(.Subscript o i p1)] a pos.line X.env = pure false := by rfl) (hw : swappedStores [(.Subscript o i p1)] a X.env = pure none := by rfl)
    (h1 : (assignEach [(.Subscript o i p1)] X.env).map (·.2) = [assign (.Subscript o i p1) X.env] := by rfl) : PS X (.Assign [.Subscript o i p1] a pos) (tS X.K E (sPut mo mi ma)) :=
  PS.of (ps_asg ha hg hs hw h1) fun D σ H ⟨ρ, τ, S, s, e, h⟩ => ⟨ρ, τ, S, s, e, h.step fun ρ1 H1 t S1 e1 s1 h1 v rv => ⟨ρ1, τ, S1, s1, e.ext e1, h1.step fun ρ2 H2 x S2 e2 s2 h2 w rw' => ⟨ρ2, τ, S2, s2, (e.ext e1).ext e2, h2.step fun ρ3 H3 y S3 e3 s3 h3 z rz => by
    split at h3
    · rename_i k n
      split at h3
      · rename_i us hu
        split at h3
        · rename_i j hj
          have ez := rep_int rz
          subst ez
          obtain ⟨b, xs, ew, hb, hx, rx⟩ := lstD_ref s3 (rw'.ext e3) hu
          subst ew
          have m : b ∈ ρ3.at_ := List.mem_of_getElem? hb
          exact ⟨b, xs, n, j, rfl, rfl, hx, by rw [rx.length]; exact hj, h3 ρ3 _ (Ext.put m) (s3.put hb ⟨_, upd_same, (rx.set j ((rv.ext e2).ext e3)).ext (Ext.put m)⟩) σ ((((e.ext e1).ext e2).ext e3).ext (Ext.put m))⟩
        · exact h3.elim
      · exact h3.elim
    · exact h3.elim⟩⟩⟩
theorem s_aug {i : Nat} {x : Str} {e : Expr} {op : Operator} {pos' pos : Pos} {r : TIp} {f : T → T → Sto → R T} {m : Env → Sto → R T} (hN : X.N.Nodup) (hi : X.N[i]? = some x) (hx : Loc X.env.scope x) (he : PE X e (tM X.K E m)) (ho : PIp X op r) (hs : Op2 X.K E r f) (hf : X.fn x = true ∨ X.env.scope.names.lookup x = some .local := by first | exact .inl rfl | exact .inr rfl | assumption) :
    PS X (.AugAssign (.Name x pos') op e pos) (tS X.K E (sAug i f m)) :=
  PS.of (ps_aug hN hi hx he ho hf) fun D σ H ⟨ρ, τ, S, s, e, h⟩ => by
    unfold sAug mVar at h
    split at h
    · rename_i t q
      obtain ⟨v, q1, r1⟩ := e.at_ _ _ q
      have h : Post X.K E ρ H ((m τ S).bind fun y S1 => (f t y S1).bind fun z S2 => R.ok (Fl.nx (τ.set i (some z))) S2) (QS X.K D) := h
      refine ⟨v, q1, ρ, τ, S, s, e, h.step fun ρ1 H1 y S1 e1 s1 h1 w rw' => hs ρ1 H1 S1 v w t y _ s1 (r1.ext e1) rw' (h1.step fun ρ2 H2 z S2 e2 s2 h2 u ru => h2.ok s2 _ (((e.ext e1).ext e2).set i ru))⟩
    · exact h.elim
end
end Fx
namespace Fx
open PySem PySem.Spec PyProof.Rows L2
structure Its where
  ts : List T
  src : List (Nat × List T)
def Its.chk (it : Its) (S : Sto) : Prop := ∀ p ∈ it.src, S[p.1]? = some (.lst p.2)
theorem chk_nil (ts : List T) (S : Sto) : Its.chk ⟨ts, []⟩ S := fun _ h => nomatch h
section
variable {K : PySem.W.Frag} {E : XK} {ρ ρ' ρ1 ρ2 : Wd} {H H' H1 H2 : Hp} {α β : Type}
/-- a step later on, what is wanted kept as it was said at the start -/
theorem Post.at {r : R α} {f : α → Sto → R β} {Q : Wd → Hp → β → Sto → Prop} {Q' : Wd → Hp → α → Sto → Prop} (h : Post K E ρ H (r.bind f) Q) (e : Ext ρ H ρ' H')
    (i : ∀ ρ2 H2 a S2, Ext ρ' H' ρ2 H2 → Sta K ρ2 H2 S2 → Post K E ρ H (f a S2) Q → Q' ρ2 H2 a S2) : Post K E ρ' H' r Q' := by
  cases r with
  | ok a S => exact fun ρ2 H2 e2 s => i _ _ _ _ e2 s h
  | err x S => exact fun ρ2 H2 C d vs e2 s => h ρ2 H2 C d vs (e.trans e2) s
  | bad => exact h
def noErr (r : R α) : R α := match r with
  | .ok a S => .ok a S
  | _ => .bad
/-- the same where nothing may be raised -/
theorem Post.at0 {E0' : XK} {r : R α} {f : α → Sto → R β} {Q : Wd → Hp → β → Sto → Prop} {Q' : Wd → Hp → α → Sto → Prop} (h : Post K E ρ H ((noErr r).bind f) Q) (e : Ext ρ H ρ' H')
    (i : ∀ ρ2 H2 a S2, Ext ρ' H' ρ2 H2 → Sta K ρ2 H2 S2 → Post K E ρ H (f a S2) Q → Q' ρ2 H2 a S2) : Post K E0' ρ' H' r Q' := by
  cases r with
  | ok a S => exact fun ρ2 H2 e2 s => i _ _ _ _ e2 s h
  | err x S => exact h.elim
  | bad => exact h
theorem Post.ifP {p : Prop} {a : R α} {Q : Wd → Hp → α → Sto → Prop} (h : Post K E ρ H (ifP p a .bad) Q) : p ∧ Post K E ρ H a Q := by
  by_cases c : p
  · rw [ifP_t c] at h
    exact ⟨c, h⟩
  · rw [ifP_f c] at h
    exact h.elim
end
def WalkM (K : PySem.W.Frag) (J : It) (ρ1 : Wd) (H1 : Hp) (it : Its) : Prop :=
  ∀ ρ H S, ExtW ρ1 H1 ρ H → Sta K ρ H S → it.chk S → J.stop it.ts.length H ∧ ∀ i t, it.ts[i]? = some t → J.go i H ∧ ∀ x H', J.yld i H x H' → Ext ρ H ρ H' ∧ Sta K ρ H' S ∧ Rep K ρ H' x t
def tI (K : PySem.W.Frag) (E : XK) (m : Env → Sto → R Its) : TI := fun σ H R => ∃ ρ τ S, Sta K ρ H S ∧ REnv K ρ H σ τ ∧ Post K E ρ H (m τ S) (fun ρ1 H1 it _ => ∀ J, WalkM K J ρ1 H1 it → R J H1)
def stepFl (go : Env → Sto → R Fl) (f : Fl) (S : Sto) : R Fl := match f with
  | .nx τ => go τ S
  | .ct τ => go τ S
  | .bk τ => .ok (.nx τ) S
  | .rt t => .ok (.rt t) S
def bound {α : Type} (p : Pat) (t : T) (τ : Env) (k : Env → R α) : R α := match bindP p t τ with
  | some τ1 => k τ1
  | none => .bad
noncomputable def sForGo (it : Its) (p : Pat) (b : Env → Sto → R Fl) : List T → Env → Sto → R Fl
  | [], τ, S => ifP (it.chk S) (.ok (.nx τ) S) .bad
  | t :: ts, τ, S => ifP (it.chk S) (bound p t τ fun τ1 => (b τ1 S).bind (stepFl (sForGo it p b ts))) .bad
noncomputable def sFor (m : Env → Sto → R Its) (p : Pat) (b : Env → Sto → R Fl) : Env → Sto → R Fl := fun τ S => (m τ S).bind fun it S1 => sForGo it p b it.ts τ S1
theorem Post.bound {K : PySem.W.Frag} {E : XK} {ρ : Wd} {H : Hp} {α : Type} {p : Pat} {t : T} {τ : Env} {k : Env → R α} {Q : Wd → Hp → α → Sto → Prop} (h : Post K E ρ H (bound p t τ k) Q) : ∃ τ1, bindP p t τ = some τ1 ∧ Post K E ρ H (k τ1) Q := by
  unfold Fx.bound at h
  split at h
  · rename_i τ1 e
    exact ⟨τ1, e, h⟩
  · exact h.elim
section
variable {X : Cx} {E : XK}
theorem s_for {tg iter : Expr} {body : List Stmt} {pos : Pos} {m : Env → Sto → R Its} {p : Pat} {b : Env → Sto → R Fl} (hp : PassesOwn (model X.prog X.w) X.A X.env X.xe) (hc : X.calm = true) (hi : PI X tg iter (tI X.K E m)) (hg : PG X tg (tG X.K p)) (hb : PSs X body (tS X.K E b))
    (hs : ∀ x, foldedSetIterable iter X.env x = pure x := by intro _; rfl) : PS X (.For tg iter body [] pos) (tS X.K E (sFor m p b)) :=
  PS.of (ps_for hp hc hi hg hb hs) fun D σ H ⟨ρ, τ, S, s, e, h⟩ => ⟨ρ, τ, S, s, e, h.step fun ρ1 H1 it S1 e1 s1 h1 J wm => by
    refine ⟨fun i n σ' H' => ∃ ρ' τ' S' rest, Ext ρ1 H1 ρ' H' ∧ Sta X.K ρ' H' S' ∧ REnv X.K ρ' H' σ' τ' ∧ i ≤ it.ts.length ∧ it.ts.drop i = rest ∧ n = rest.length ∧ Post X.K E ρ1 H1 (sForGo it p b rest τ' S') (QS X.K D), ⟨_, ρ1, τ, S1, _, Ext.refl _ _, s1, e.ext e1, Nat.zero_le _, rfl, rfl, h1⟩, fun i n σ' H' hW => ?_⟩
    obtain ⟨ρ', τ', S', rest, x1, s', e', hil, hr, hn, q⟩ := hW
    cases rest with
    | nil =>
      unfold sForGo at q
      obtain ⟨c, q⟩ := q.ifP
      obtain ⟨w1, _⟩ := wm ρ' H' S' x1.w s' c
      have ei : i = it.ts.length := Nat.le_antisymm hil (List.drop_eq_nil_iff.mp hr)
      rw [ei]
      exact .inl ⟨w1, q ρ' H' x1 s' σ' e'⟩
    | cons t ts =>
      unfold sForGo at q
      obtain ⟨c, q⟩ := q.ifP
      obtain ⟨_, w2⟩ := wm ρ' H' S' x1.w s' c
      have hlt : i < it.ts.length := by
        refine Nat.lt_of_not_le fun z => ?_
        rw [List.drop_eq_nil_of_le z] at hr
        cases hr
      have hcons := List.drop_eq_getElem_cons hlt
      rw [hr] at hcons
      injection hcons with ht hts
      obtain ⟨go, yld⟩ := w2 i t (by rw [List.getElem?_eq_getElem hlt, ht])
      obtain ⟨τ1, hb1, q⟩ := q.bound
      refine .inr ⟨go, fun σ2 H2 => ∃ ρ' τ' S', Ext ρ1 H1 ρ' H2 ∧ Sta X.K ρ' H2 S' ∧ REnv X.K ρ' H2 σ2 τ' ∧ Post X.K E ρ1 H1 (sForGo it p b ts τ' S') (QS X.K D), fun σ2 H2 hN => ?_, fun v H2 hy => ?_⟩
      · obtain ⟨ρ2, τ2, S2, a1, a2, a3, a4⟩ := hN
        exact ⟨ts.length, by rw [hn]; exact Nat.lt_succ_self _, ρ2, τ2, S2, ts, a1, a2, a3, hlt, hts.symm, rfl, a4⟩
      · obtain ⟨y1, y2, y3⟩ := yld v H2 hy
        refine ⟨ρ', τ', t, τ1, e'.ext y1, y3, hb1, fun σ3 e3 _ => ⟨ρ', τ1, S', y2, e3, q.at (x1.trans y1) fun ρ4 H4 f S4 x4 s4 q4 => ?_⟩⟩
        have xx := (x1.trans y1).trans x4
        cases f with
        | nx τ5 => exact fun σ5 e5 => ⟨ρ4, τ5, S4, xx, s4, e5, q4⟩
        | ct τ5 => exact fun σ5 e5 => ⟨ρ4, τ5, S4, xx, s4, e5, q4⟩
        | bk τ5 => exact fun σ5 e5 => q4 ρ4 H4 xx s4 σ5 e5
        | rt t5 => exact fun v5 r5 => q4 ρ4 H4 xx s4 v5 r5⟩
end
def wipeT (τ : Env) : List Nat → Env
  | [] => τ
  | v :: vs => (wipeT τ vs).set v none
noncomputable def mLcGo (it : Its) (p : Pat) (c : Env → Sto → R Bool) (b : Env → Sto → R T) (τ : Env) : List T → List T → Sto → R (List T)
  | [], acc, S => ifP (it.chk S) (.ok acc S) .bad
  | t :: ts, acc, S => ifP (it.chk S) (bound p t τ fun τ1 => (noErr (c τ1 S)).bind fun k S1 => if k = true then (noErr (b τ1 S1)).bind fun y S2 => if acc.length < 100000 then mLcGo it p c b τ ts (acc ++ [y]) S2 else .bad else mLcGo it p c b τ ts acc S1) .bad
noncomputable def mLc (fz : Bool) (vs : List Nat) (m : Env → Sto → R Its) (p : Pat) (c : Env → Sto → R Bool) (b : Env → Sto → R T) : Env → Sto → R T := fun τ S => (m τ S).bind fun it S1 => (mLcGo it p c b (wipeT τ vs) it.ts [] S1).bind fun acc S2 => newL fz acc S2
def mTrue : Env → Sto → R Bool := fun _ S => .ok true S
section
variable {K : PySem.W.Frag} {ρ : Wd} {H : Hp}
theorem REnv.unset {σ : L2.St} {τ : Env} (h : REnv K ρ H σ τ) (i : Nat) : REnv K ρ H (σ.set i none) (τ.set i none) := ⟨by rw [List.length_set, List.length_set, h.len], fun j u q => by
  rw [List.getElem?_set] at q ⊢
  by_cases e : i = j
  · rw [if_pos e] at q
    split at q
    · cases q
    · cases q
  · rw [if_neg e] at q ⊢
    exact h.at_ j u q⟩
theorem REnv.wipe {σ : L2.St} {τ : Env} (h : REnv K ρ H σ τ) : ∀ vs : List Nat, REnv K ρ H (L2.wipe σ vs) (wipeT τ vs)
  | [] => h
  | v :: vs => by
    unfold L2.wipe wipeT
    exact (REnv.wipe h vs).unset v
theorem wipe_at (σ : L2.St) : ∀ (vs : List Nat) (j : Nat), (L2.wipe σ vs)[j]? = if j ∈ vs then (if j < σ.length then some none else none) else σ[j]?
  | [], j => by simp [L2.wipe]
  | v :: vs, j => by
    unfold L2.wipe
    rw [List.getElem?_set, wipe_at σ vs j, L2.wipe_length]
    by_cases e : v = j
    · subst e
      simp
    · rw [if_neg e]
      have : (j ∈ v :: vs) ↔ j ∈ vs := by simp [List.mem_cons, Ne.symm e]
      by_cases m : j ∈ vs
      · rw [if_pos m, if_pos (this.mpr m)]
      · rw [if_neg m, if_neg (fun q => m (this.mp q))]
theorem near_wipe {ws vs : List Nat} {σ σ' : L2.St} (h : Near ws (L2.wipe σ vs) σ') (hs : ws.all (fun j => vs.contains j) = true) : L2.wipe σ' vs = L2.wipe σ vs := by
  apply List.ext_getElem?
  intro j
  have hl : σ'.length = σ.length := h.1.trans (L2.wipe_length σ vs)
  rw [wipe_at, wipe_at, hl]
  by_cases m : j ∈ vs
  · rw [if_pos m, if_pos m]
  · rw [if_neg m, if_neg m]
    have n : j ∉ ws := fun q => m (by
      have := List.all_eq_true.mp hs j q
      simpa using this)
    rw [h.2 j n, wipe_at, if_neg m]
end
/-- without the address that a made list has -/
def Wd.less (ρ : Wd) (D : Addr) : Wd := ⟨ρ.at_, ρ.out.erase D⟩
def Wd.plus (ρ : Wd) (D : Addr) : Wd := ⟨ρ.at_, D :: ρ.out⟩
def Wd.move (ρ : Wd) (D : Addr) : Wd := ⟨ρ.at_ ++ [D], ρ.out.erase D⟩
section
variable {K : PySem.W.Frag} {E : XK} {ρ ρ1 : Wd} {H H1 : Hp} {S : Sto} {D : Addr}
theorem less_av {a : Addr} (h : a ∉ ρ.av) : a ∉ (ρ.less D).av := fun q => by
  rcases List.mem_append.mp q with q | q
  · exact h (List.mem_append_left _ q)
  · exact h (List.mem_append_right _ (List.mem_of_mem_erase q))
theorem move_av (hD : D ∈ ρ.out) {a : Addr} (h : a ∉ ρ.av) : a ∉ (ρ.move D).av := fun q => by
  rcases List.mem_append.mp q with q | q
  · rcases List.mem_append.mp q with q | q
    · exact h (List.mem_append_left _ q)
    · rw [List.mem_singleton.mp q] at h
      exact h (List.mem_append_right _ hD)
  · exact h (List.mem_append_right _ (List.mem_of_mem_erase q))
theorem Ext.less (e : Ext ρ1 H1 ρ H) (hD : H1 D = none) (hn : D ∉ ρ1.av) : Ext ρ1 H1 (ρ.less D) H where
  pre := e.pre
  out := fun a m => (List.mem_erase_of_ne (fun z => hn (by rw [← z]; exact List.mem_append_right _ m))).mpr (e.out a m)
  fresh := fun p h1 h2 => e.fresh p (by
    rcases List.mem_append.mp h1 with q | q
    · exact List.mem_append_left _ q
    · exact List.mem_append_right _ (List.mem_of_mem_erase q)) h2
  keep := e.keep
  old := e.old
theorem Ext.move (e : Ext ρ1 H1 ρ H) (hD : H1 D = none) (hn : D ∉ ρ1.av) : Ext ρ1 H1 (ρ.move D) H where
  pre := by
    obtain ⟨n, q⟩ := e.pre
    exact ⟨n ++ [D], by show ρ.at_ ++ [D] = _; rw [q, List.append_assoc]⟩
  out := (e.less hD hn).out
  fresh := fun p h1 h2 => by
    rcases List.mem_append.mp h1 with q | q
    · rcases List.mem_append.mp q with q | q
      · exact e.fresh p (List.mem_append_left _ q) h2
      · rw [List.mem_singleton.mp q]; exact hD
    · exact e.fresh p (List.mem_append_right _ (List.mem_of_mem_erase q)) h2
  keep := e.keep
  old := fun a h1 h2 => by
    rcases List.mem_append.mp h1 with q | q
    · exact e.old a q h2
    · rw [List.mem_singleton.mp q] at h2
      exact absurd h2 hn
theorem Sta.less (s : Sta K ρ H S) : Sta K (ρ.less D) H S where
  len := s.len
  nd := by
    obtain ⟨h1, h2, h3⟩ := List.nodup_append.mp s.nd
    exact List.nodup_append.mpr ⟨h1, h2.erase D, fun a ha b hb => h3 a ha b (List.mem_of_mem_erase hb)⟩
  al := fun a m => s.al a (List.mem_of_mem_erase m)
  at_ := fun i a o h1 h2 => RepO.to (ρ := ρ) (ρ' := ρ.less D) (fun _ _ h => h) (fun _ h => less_av h) (s.at_ i a o h1 h2)
theorem Ext.plus {o : HO} (n : H D = none) (hn : D ∉ ρ.av) : Ext ρ H (ρ.plus D) (upd H D o) where
  pre := ⟨[], (List.append_nil _).symm⟩
  out := fun a h => List.mem_cons_of_mem _ h
  fresh := fun p h1 h2 => by
    rcases List.mem_append.mp h1 with q | q
    · exact absurd (List.mem_append_left _ q) h2
    · rcases List.mem_cons.mp q with q | q
      · rw [q]; exact n
      · exact absurd (List.mem_append_right _ q) h2
  keep := (Ext.push n hn).keep
  old := fun _ h _ => h
theorem Sta.plus {o : HO} (s : Sta K ρ H S) (n : H D = none) : Sta K (ρ.plus D) (upd H D o) S where
  len := s.len
  nd := by
    have hn := s.new n
    unfold Wd.plus Wd.av
    obtain ⟨h1, h2, h3⟩ := List.nodup_append.mp s.nd
    refine List.nodup_append.mpr ⟨h1, List.nodup_cons.mpr ⟨fun q => hn (List.mem_append_right _ q), h2⟩, fun a ha b hb => ?_⟩
    rcases List.mem_cons.mp hb with hb | hb
    · rw [hb]; exact fun z => hn (List.mem_append_left _ (z ▸ ha))
    · exact h3 a ha b hb
  al := fun a m => by
    rcases List.mem_cons.mp m with m | m
    · rw [m]; exact ⟨_, upd_same⟩
    · exact (s.push n).al a m
  at_ := fun i a o h1 h2 => by
    have r := s.at_ i a o h1 h2
    have ne : a ≠ D := fun z => by
      obtain ⟨w, hw⟩ := r.is
      rw [z, n] at hw
      cases hw
    exact r.ext (Ext.plus n (s.new n)) (upd_ne ne)
/-- the list that is being made grows -/
theorem Ext.grow {o : HO} (e : Ext ρ1 H1 ρ H) (hD : H1 D = none) : Ext ρ1 H1 ρ (upd H D o) where
  pre := e.pre
  out := e.out
  fresh := e.fresh
  keep := fun a u h m => by
    rw [upd_ne (ne_of_none h hD)]
    exact e.keep a u h m
  old := e.old
theorem fro_ne {a : Addr} (hD : D ∈ ρ.out) (h : a ∉ ρ.av) : a ≠ D := fun z => h (by rw [z]; exact List.mem_append_right _ hD)
theorem Ext.mine {o : HO} (hD : D ∈ ρ.out) : ∀ a u, H a = some u → a ∉ ρ.av → upd H D o a = some u := fun a u h n => by
  rw [upd_ne (fro_ne hD n)]
  exact h
mutual
theorem Rep.grow {o : HO} (hD : D ∈ ρ.out) : ∀ {v : V} {t : T}, Rep K ρ H v t → Rep K ρ (upd H D o) v t
  | _, _, .non => .non
  | _, _, .bl b => .bl b
  | _, _, .int i => .int i
  | _, _, .str x => .str x
  | _, _, .obj a => .obj a
  | _, _, .ty n => .ty n
  | _, _, .ref h => .ref h
  | _, _, .tup h r => .tup (h.imp (fun ⟨⟨o, z, b⟩, q⟩ => ⟨⟨o, Ext.mine hD _ _ z q, b⟩, q⟩) id) (Reps.grow hD r)
  | _, _, .wt h n r => .wt (h.imp (fun z => Ext.mine hD _ _ z n) (fun ⟨u, z⟩ => ⟨u, Ext.mine hD _ _ z n⟩)) n (Reps.grow hD r)
  | _, _, .exn g h n x r => .exn g (Ext.mine hD _ _ h n) n (x.mono fun b u z m => ⟨Ext.mine hD _ _ z m, m⟩) (Reps.grow hD r)
  | _, _, .lst h n r => .lst (Ext.mine hD _ _ h n) n (Reps.grow hD r)
  | _, _, .dct h n k r => .dct (Ext.mine hD _ _ h n) n k (Reps.grow hD r)
  | _, _, .kst h r => .kst (h.imp (fun q => ⟨q.1.imp (fun z => Ext.mine hD _ _ z q.2) (fun ⟨u, z⟩ => ⟨u, Ext.mine hD _ _ z q.2⟩), q.2⟩) id) (Reps.grow hD r)
theorem Reps.grow {o : HO} (hD : D ∈ ρ.out) : ∀ {v : List V} {t : List T}, Reps K ρ H v t → Reps K ρ (upd H D o) v t
  | _, _, .nil => .nil
  | _, _, .cons h r => .cons (Rep.grow hD h) (Reps.grow hD r)
end
theorem RepF.grow {o : HO} (hD : D ∈ ρ.out) : ∀ {v : List (Str × V)} {t : List (Str × T)}, RepF K ρ H v t → RepF K ρ (upd H D o) v t
  | _, _, .nil => .nil
  | _, _, .cons h r => .cons (h.grow hD) (RepF.grow hD r)
theorem Sta.grow {o : HO} (s : Sta K ρ H S) (hD : D ∈ ρ.out) : Sta K ρ (upd H D o) S where
  len := s.len
  nd := s.nd
  al := fun a m => by
    by_cases z : a = D
    · rw [z]; exact ⟨_, upd_same⟩
    · rw [upd_ne z]; exact s.al a m
  at_ := fun i a o h1 h2 => by
    have r := s.at_ i a o h1 h2
    have ne : a ≠ D := fun z => s.off hD (by rw [← z]; exact List.mem_of_getElem? h1)
    cases o with
    | lst ts => obtain ⟨ys, q1, q2⟩ := r; exact ⟨ys, by rw [upd_ne ne]; exact q1, q2.grow hD⟩
    | ins C fs => obtain ⟨dx, vs, q1, q2⟩ := r; exact ⟨dx, vs, by rw [upd_ne ne]; exact q1, q2.grow hD⟩
    | dct ks ts => obtain ⟨kvs, q1, q2, q3⟩ := r; exact ⟨kvs, by rw [upd_ne ne]; exact q1, q2, q3.grow hD⟩
theorem Sta.move {us : List T} {xs : List V} (s : Sta K ρ H S) (hD : D ∈ ρ.out) (hx : H D = some (.lst xs)) (rs : Reps K ρ H xs us) : Sta K (ρ.move D) H (S ++ [.lst us]) where
  len := by simp [Wd.move, s.len]
  nd := by
    obtain ⟨h1, h2, h3⟩ := List.nodup_append.mp s.nd
    unfold Wd.move Wd.av
    rw [List.append_assoc]
    refine List.nodup_append.mpr ⟨h1, List.nodup_cons.mpr ⟨fun q => (List.Nodup.not_mem_erase h2) q, h2.erase D⟩, fun a ha b hb => ?_⟩
    rcases List.mem_cons.mp hb with hb | hb
    · rw [hb]; exact h3 a ha D hD
    · exact h3 a ha b (List.mem_of_mem_erase hb)
  al := fun a m => s.al a (List.mem_of_mem_erase m)
  at_ := fun i a o h1 h2 => by
    have up : ∀ (i : Nat) (a : Addr), ρ.at_[i]? = some a → (ρ.move D).at_[i]? = some a := fun i a h => getE_pre h
    have h1 : (ρ.at_ ++ [D])[i]? = some a := h1
    by_cases hi : i < S.length
    · rw [List.getElem?_append_left hi] at h2
      rw [List.getElem?_append_left (by rw [s.len]; exact hi)] at h1
      exact (s.at_ i a o h1 h2).to up fun _ h => move_av hD h
    · have hj : i = S.length := by
        obtain ⟨q1, _⟩ := List.getElem?_eq_some_iff.mp h2
        rw [List.length_append, List.length_singleton] at q1
        omega
      subst hj
      rw [List.getElem?_append_right (Nat.le_refl _), Nat.sub_self] at h2
      rw [← s.len, List.getElem?_append_right (Nat.le_refl _), Nat.sub_self] at h1
      have q := Option.some.inj h2
      have e := Option.some.inj h1
      subst q
      subst e
      exact ⟨xs, hx, rs.to up fun _ h => move_av hD h⟩
/-- the made list is handed out -/
theorem give_lst {ts : List T} {xs : List V} {Q : VK} {fz : Bool} (hD : H1 D = none) (hn1 : D ∉ ρ1.av) (hx : H D = some (.lst xs)) (e : Ext ρ1 H1 ρ H) (s : Sta K ρ H S) (hm : D ∈ ρ.out) (r : Reps K ρ H xs ts) (h : Post K E ρ1 H1 (newL fz ts S) (QE K Q)) : Q (.ref D) H := by
  cases fz with
  | true =>
    refine h (ρ.less D) H (e.less hD hn1) s.less _ (.lst hx (fun q => ?_) (Reps.to (ρ := ρ) (ρ' := ρ.less D) (fun _ _ h => h) (fun _ h => less_av h) r))
    rcases List.mem_append.mp q with q | q
    · exact s.off hm q
    · exact (List.Nodup.not_mem_erase (List.nodup_append.mp s.nd).2.1) q
  | false =>
    refine h (ρ.move D) H (e.move hD hn1) (s.move hm hx r) _ (.ref ?_)
    show (ρ.at_ ++ [D])[S.length]? = some D
    rw [← s.len, List.getElem?_append_right (Nat.le_refl _), Nat.sub_self]
    rfl
end
theorem lc_fn {K : PySem.W.Frag} {E : XK} {fz : Bool} {σ : L2.St} {ρ1 : Wd} {H1 : Hp} {S1 : Sto} {τ : Env} {it : Its} {J : It} {D : Addr} {Q : VK} {p : Pat} {c : Env → Sto → R Bool} {b : Env → Sto → R T} (own : List (Str × Nat)) (hsl : p.slots.all (fun j => (own.map (·.2)).contains j) = true) (hD : H1 D = none) (s1 : Sta K ρ1 H1 S1) (e1 : REnv K ρ1 H1 σ τ)
    (h : Post K E ρ1 H1 ((mLcGo it p c b (wipeT τ (own.map (·.2))) it.ts [] S1).bind fun acc S2 => newL fz acc S2) (QE K Q)) (wm : WalkM K J ρ1 H1 it) :
    ∃ W : Nat → Nat → Hp → Prop, (∃ m, W 0 m (upd H1 D (.lst []))) ∧ ∀ i m H, W i m H →
      (J.stop i H ∧ Q (.ref D) H) ∨ (J.go i H ∧ ∃ Nx : Hp → Prop, (∀ H', Nx H' → ∃ m', m' < m ∧ W (i + 1) m' H') ∧ ∀ x H', J.yld i H x H' → tG K p x (L2.wipe σ (own.map (·.2))) H' fun σ2 H2 => L2.wipe σ2 (own.map (·.2)) = L2.wipe σ (own.map (·.2)) ∧ tB K E0 c σ2 H2 fun k H3 =>
        if k = true then tM K E0 b σ2 H3 fun y H4 => ∃ acc, H4 D = some (.lst acc) ∧ acc.length < sizeLine ∧ Nx (upd H4 D (.lst (acc ++ [y]))) else Nx H3) := by
  generalize hvs : own.map (·.2) = vs at *
  have hn1 := s1.new hD
  refine ⟨fun i n H => ∃ ρ S rest acc us, Ext ρ1 H1 ρ H ∧ Sta K ρ H S ∧ D ∈ ρ.out ∧ H D = some (.lst us) ∧ Reps K ρ H us acc ∧ i ≤ it.ts.length ∧ it.ts.drop i = rest ∧ n = rest.length ∧ Post K E ρ1 H1 ((mLcGo it p c b (wipeT τ vs) rest acc S).bind fun acc S2 => newL fz acc S2) (QE K Q),
    ⟨_, ρ1.plus D, S1, _, [], [], Ext.plus hD hn1, s1.plus hD, List.mem_cons_self, upd_same, .nil, Nat.zero_le _, rfl, rfl, h⟩, fun i n H hW => ?_⟩
  obtain ⟨ρ, S, rest, acc, us, x1, s, hm, hd, ra, hil, hr, hn, q⟩ := hW
  cases rest with
  | nil =>
    unfold mLcGo at q
    have q' : it.chk S ∧ Post K E ρ1 H1 (newL fz acc S) (QE K Q) := by
      by_cases ck : it.chk S
      · rw [ifP_t ck] at q; exact ⟨ck, q⟩
      · rw [ifP_f ck] at q; exact q.elim
    obtain ⟨w1, _⟩ := wm ρ H S x1.w s q'.1
    have ei : i = it.ts.length := Nat.le_antisymm hil (List.drop_eq_nil_iff.mp hr)
    rw [ei]
    exact .inl ⟨w1, give_lst hD hn1 hd x1 s hm ra q'.2⟩
  | cons t ts =>
    unfold mLcGo at q
    by_cases ck : it.chk S
    case neg => rw [ifP_f ck] at q; exact q.elim
    rw [ifP_t ck] at q
    obtain ⟨_, w2⟩ := wm ρ H S x1.w s ck
    have hlt : i < it.ts.length := by
      refine Nat.lt_of_not_le fun z => ?_
      rw [List.drop_eq_nil_of_le z] at hr
      cases hr
    have hcons := List.drop_eq_getElem_cons hlt
    rw [hr] at hcons
    injection hcons with ht hts
    obtain ⟨go, yld⟩ := w2 i t (by rw [List.getElem?_eq_getElem hlt, ht])
    unfold Fx.bound at q
    split at q
    case h_2 => exact q.elim
    rename_i τ1 hb1
    refine .inr ⟨go, fun H' => ∃ ρ S acc us, Ext ρ1 H1 ρ H' ∧ Sta K ρ H' S ∧ D ∈ ρ.out ∧ H' D = some (.lst us) ∧ Reps K ρ H' us acc ∧ Post K E ρ1 H1 ((mLcGo it p c b (wipeT τ vs) ts acc S).bind fun acc S2 => newL fz acc S2) (QE K Q), fun H' hN => ?_, fun v H2 hy => ?_⟩
    · obtain ⟨ρ', S', acc', us', a1, a2, a3, a4, a5, a6⟩ := hN
      exact ⟨ts.length, by rw [hn]; exact Nat.lt_succ_self _, ρ', S', ts, acc', us', a1, a2, a3, a4, a5, hlt, hts.symm, rfl, a6⟩
    · obtain ⟨y1, y2, y3⟩ := yld v H2 hy
      have hoff : ∀ {ρ : Wd} {H : Hp} {S : Sto}, Sta K ρ H S → D ∈ ρ.out → D ∉ ρ.at_ := fun s m => s.off m
      have ew : REnv K ρ H2 (L2.wipe σ vs) (wipeT τ vs) := ((e1.ext x1).ext y1).wipe vs
      refine ⟨ρ, wipeT τ vs, t, τ1, ew, y3, hb1, fun σ3 e3 nr => ⟨near_wipe nr hsl, ρ, τ1, S, y2, e3, ?_⟩⟩
      refine Post.at0 (K := K) (E := E) (ρ := ρ1) (H := H1) (f := fun k S1 => (if k = true then (noErr (b τ1 S1)).bind fun y S2 => if acc.length < 100000 then mLcGo it p c b (wipeT τ vs) ts (acc ++ [y]) S2 else .bad else mLcGo it p c b (wipeT τ vs) ts acc S1).bind fun acc S2 => newL fz acc S2) (Q := QE K Q) ?_ (x1.trans y1) fun ρ4 H4 k S4 x4 s4 q4 => ?_
      · rw [← R.bind_assoc]; exact q
      · have d4 : H4 D = some (.lst us) := x4.keep _ _ (y1.keep _ _ hd (s.off hm)) (y2.off hm)
        have m4 : D ∈ ρ4.out := x4.out _ hm
        have xx := (x1.trans y1).trans x4
        cases k with
        | false => exact ⟨ρ4, S4, acc, us, xx, s4, m4, d4, (ra.ext y1).ext x4, q4⟩
        | true =>
          refine ⟨ρ4, τ1, S4, s4, e3.ext x4, ?_⟩
          refine Post.at0 (K := K) (E := E) (ρ := ρ1) (H := H1) (f := fun y S2 => (if acc.length < 100000 then mLcGo it p c b (wipeT τ vs) ts (acc ++ [y]) S2 else .bad).bind fun acc S2 => newL fz acc S2) (Q := QE K Q) ?_ xx fun ρ5 H5 y S5 x5 s5 q5 w rw' => ?_
          · rw [← R.bind_assoc]; exact q4
          · have d5 : H5 D = some (.lst us) := x5.keep _ _ d4 (s4.off m4)
            have m5 : D ∈ ρ5.out := x5.out _ m4
            have r5 := ((ra.ext y1).ext x4).ext x5
            by_cases hl : acc.length < 100000
            · rw [if_pos hl] at q5
              exact ⟨us, d5, by rw [ra.length]; exact sz_lt5 hl, ρ5, S5, acc ++ [y], us ++ [w], (xx.trans x5).grow hD, s5.grow m5, m5, upd_same, (r5.append (.cons rw' .nil)).grow m5, q5⟩
            · rw [if_neg hl] at q5
              exact q5.elim
section
variable {X : Cx} {E : XK}
theorem x_lc (fz : Bool) {elt tg iter : Expr} {ifs : List Expr} {scope : Scope} {own : List (Str × Nat)} {pos : Pos} {m : Env → Sto → R Its} {p : Pat} {c : Env → Sto → R Bool} {b : Env → Sto → R T} (hc : X.calm = true) (hN : X.N.Nodup) (hi : PI X tg iter (tI X.K E m)) (ok : BlkOk X.N X.env.scope scope own)
    (hsl : p.slots.all (fun j => (own.map (·.2)).contains j) = true)
    (hg : ∀ (s : Shared) (H : Hp) (C : Addr) (cl : List (Str × Addr)) (fp : List Addr), PG (X.blk s H scope (compEnvC scope cl C X.env) fp) tg (tG X.K p)) (ht : ∀ (s : Shared) (H : Hp) (C : Addr) (cl : List (Str × Addr)) (fp : List Addr), PTs (X.blk s H scope (compEnvC scope cl C X.env) fp) ifs (tB X.K E0 c))
    (he : ∀ (s : Shared) (H : Hp) (C : Addr) (cl : List (Str × Addr)) (fp : List Addr), PE (X.blk s H scope (compEnvC scope cl C X.env) fp) elt (tM X.K E0 b)) (hs : ∀ x, foldedSetIterable iter X.env x = pure x := by intro _; rfl) :
    PE X (.ListComp elt [⟨tg, iter, ifs, 0⟩] scope pos) (tM X.K E (mLc fz (own.map (·.2)) m p c b)) :=
  PE.of (pe_lc hc hN hi ok hg ht he hs) fun σ H Q ⟨ρ, τ, S, s, e, h⟩ => ⟨ρ, τ, S, s, e, h.step fun ρ1 H1 it S1 e1 s1 h1 J wm D hD => lc_fn own hsl hD s1 (e.ext e1) h1 wm⟩
end
end Fx
namespace Fx
open PySem PySem.Spec PyProof.Rows L2
section
variable {K : PySem.W.Frag} {E : XK} {ρ ρ1 : Wd} {H H1 : Hp} {S S1 : Sto} {it : Its} {a : Addr}
theorem walk_l (g : ∀ ρ H S, ExtW ρ1 H1 ρ H → Sta K ρ H S → it.chk S → ∃ xs, SqL K H a xs ∧ Reps K ρ H xs it.ts) : WalkM K (Itl K a) ρ1 H1 it := fun ρ H S e s c => by
  obtain ⟨xs, hx, rs⟩ := g ρ H S e s c
  refine ⟨⟨xs, hx, by rw [rs.length]; exact Nat.le_refl _⟩, fun i t ht => ?_⟩
  obtain ⟨y, hy, ry⟩ := rs.get ht
  refine ⟨⟨xs, y, hx, hy⟩, fun x H' q => ?_⟩
  obtain ⟨rfl, q⟩ := q
  have z := q xs hx
  rw [hy] at z
  cases z
  exact ⟨Ext.refl _ _, s, ry⟩
theorem walk_t (g : ∀ ρ H S, ExtW ρ1 H1 ρ H → Sta K ρ H S → it.chk S → ∃ xs, SqT K H a xs ∧ Reps K ρ H xs it.ts) : WalkM K (Itt K a) ρ1 H1 it := fun ρ H S e s c => by
  obtain ⟨xs, hx, rs⟩ := g ρ H S e s c
  refine ⟨⟨xs, hx, by rw [rs.length]; exact Nat.le_refl _⟩, fun i t ht => ?_⟩
  obtain ⟨y, hy, ry⟩ := rs.get ht
  refine ⟨⟨xs, y, hx, hy⟩, fun x H' q => ?_⟩
  obtain ⟨rfl, q⟩ := q
  have z := q xs hx
  rw [hy] at z
  cases z
  exact ⟨Ext.refl _ _, s, ry⟩
/-- a list's items stay where they are said to -/
theorem keep_l {v : V} {t : T} {ts : List T} {src : List (Nat × List T)} (s : Sta K ρ1 H1 S1) (r : Rep K ρ1 H1 v t) (h : lstOf S1 t = some ts) (hs : ∀ k, t = .ref k → (k, ts) ∈ src) : ∃ a, v = .ref a ∧ ∃ xs0, SqL K H1 a xs0 ∧ xs0.length = ts.length ∧ ∀ ρ H S, ExtW ρ1 H1 ρ H → Sta K ρ H S → Its.chk ⟨ts, src⟩ S → ∃ xs, SqL K H a xs ∧ Reps K ρ H xs ts := by
  obtain ⟨a, xs0, rfl, h0, r0⟩ := lstOf_at s r h
  refine ⟨a, rfl, xs0, h0, r0.length, fun ρ H S e s' c => ?_⟩
  cases t with
  | ref k =>
    have hk := c (k, ts) (hs k rfl)
    obtain ⟨b, xs, eb, h1, h2⟩ := lstOf_at s' (r.extw e) (ts := ts) (by show (match S[k]? with | some (.lst ts) => some ts | _ => none) = _; rw [hk])
    cases eb
    exact ⟨xs, h1, h2⟩
  | lst us =>
    obtain ⟨b, xs, eb, h1, h2⟩ := lstOf_at s' (r.extw e) (ts := ts) h
    cases eb
    exact ⟨xs, h1, h2⟩
  | kst us =>
    obtain ⟨b, xs, eb, h1, h2⟩ := lstOf_at s' (r.extw e) (ts := ts) h
    cases eb
    exact ⟨xs, h1, h2⟩
  | _ => cases h
end
def srcOf (S : Sto) : T → List (Nat × List T)
  | .ref k => match S[k]? with
    | some (.lst ts) => [(k, ts)]
    | _ => []
  | _ => []
theorem srcOf_mem {S : Sto} {t : T} {ts : List T} (h : lstOf S t = some ts) : ∀ k, t = .ref k → (k, ts) ∈ srcOf S t := fun k e => by
  subst e
  have h : (match S[k]? with | some (.lst ts) => some ts | _ => none) = some ts := h
  unfold srcOf
  split at h
  · rename_i us q
    cases h
    show (k, ts) ∈ (match S[k]? with
      | some (.lst ts) => [(k, ts)]
      | _ => [])
    rw [q]
    exact List.mem_singleton.mpr rfl
  · cases h
def strT (z : Str) : List T := z.cps.toList.map fun c => .str ⟨#[c]⟩
def itOf (t : T) (S : Sto) : R Its := match t with
  | .tup ts => .ok ⟨ts, []⟩ S
  | .str z => .ok ⟨strT z, []⟩ S
  | t => match lstOf S t with
    | some ts => .ok ⟨ts, srcOf S t⟩ S
    | none => .bad
def mIt (m : Env → Sto → R T) : Env → Sto → R Its := fun τ S => (m τ S).bind itOf
section
variable {X : Cx} {E : XK}
theorem PI.or3 {tg iter : Expr} {w w1 w2 w3 : TI} (h1 : PI X tg iter w1) (h2 : PI X tg iter w2) (h3 : PI X tg iter w3) (i : ∀ σ H R, w σ H R → w1 σ H R ∨ w2 σ H R ∨ w3 σ H R) : PI X tg iter w := ⟨fun pins s σ H R I hw => by
  rcases i σ H R hw with q | q | q
  · exact h1.run pins s σ H R I q
  · exact h2.run pins s σ H R I q
  · exact h3.run pins s σ H R I q⟩
theorem PI.of {tg iter : Expr} {w w1 : TI} (h1 : PI X tg iter w1) (i : ∀ σ H R, w σ H R → w1 σ H R) : PI X tg iter w := ⟨fun pins s σ H R I hw => h1.run pins s σ H R I (i σ H R hw)⟩
theorem walk_s {ρ1 : Wd} {H1 : Hp} {z : Str} : WalkM X.K (L2.Its z) ρ1 H1 ⟨strT z, []⟩ := fun ρ H S e s c => by
  refine ⟨by show z.cps.size ≤ (strT z).length; simp [strT], fun i t ht => ?_⟩
  have ht : (z.cps.toList.map fun c => T.str ⟨#[c]⟩)[i]? = some t := ht
  rw [List.getElem?_map] at ht
  obtain ⟨c, hc, rfl⟩ := Option.map_eq_some_iff.mp ht
  have hi : i < z.cps.size := by
    obtain ⟨q, _⟩ := List.getElem?_eq_some_iff.mp hc
    simpa using q
  refine ⟨hi, fun x H' q => ?_⟩
  obtain ⟨rfl, c', hc', rfl⟩ := q
  have e2 : c' = c := by
    rw [← Array.getElem?_toList] at hc'
    rw [hc] at hc'
    exact (Option.some.inj hc').symm
  rw [e2]
  exact ⟨Ext.refl _ _, s, .str _⟩
theorem i_seq {tg e : Expr} {m : Env → Sto → R T} (h : PE X e (tM X.K E m)) : PI X tg e (tI X.K E (mIt m)) :=
  PI.or3 (pi_list h) (pi_tup h) (pi_str h) fun σ H R ⟨ρ, τ, S, s, en, q⟩ => by
    unfold mIt at q
    cases hm : m τ S with
    | bad => rw [hm] at q; exact q.elim
    | err x S' =>
      rw [hm] at q
      exact .inl ⟨ρ, τ, S, s, en, by rw [hm]; exact q⟩
    | ok t S' =>
      have q0 := q
      rw [hm] at q
      have q : Post X.K E ρ H (itOf t S') (fun ρ1 H1 it _ => ∀ J, WalkM X.K J ρ1 H1 it → R J H1) := q
      cases t with
      | tup ts =>
        refine .inr (.inl ⟨ρ, τ, S, s, en, ?_⟩)
        rw [hm]
        intro ρ1 H1 e1 s1 v rv
        obtain ⟨a, xs, rfl, fa, ra⟩ := rep_tup rv
        exact ⟨a, rfl, ⟨xs, fa.sq⟩, q ρ1 H1 e1 s1 _ (walk_t fun ρ2 H2 S2 e2 s2 _ => ⟨xs, (fa.extw e2).sq, ra.extw e2⟩)⟩
      | str z =>
        refine .inr (.inr ⟨ρ, τ, S, s, en, ?_⟩)
        rw [hm]
        intro ρ1 H1 e1 s1 v rv
        exact ⟨z, rep_str rv, q ρ1 H1 e1 s1 _ walk_s⟩
      | lst ts =>
        refine .inl ⟨ρ, τ, S, s, en, ?_⟩
        rw [hm]
        intro ρ1 H1 e1 s1 v rv
        obtain ⟨a, rfl, xs, h0, _, hk⟩ := keep_l (src := []) s1 rv (ts := ts) rfl (fun k z => nomatch z)
        exact ⟨a, rfl, ⟨xs, h0⟩, q ρ1 H1 e1 s1 _ (walk_l hk)⟩
      | kst ts =>
        refine .inl ⟨ρ, τ, S, s, en, ?_⟩
        rw [hm]
        intro ρ1 H1 e1 s1 v rv
        obtain ⟨a, rfl, xs, h0, _, hk⟩ := keep_l (src := []) s1 rv (ts := ts) rfl (fun k z => nomatch z)
        exact ⟨a, rfl, ⟨xs, h0⟩, q ρ1 H1 e1 s1 _ (walk_l hk)⟩
      | ref k =>
        refine .inl ⟨ρ, τ, S, s, en, ?_⟩
        rw [hm]
        intro ρ1 H1 e1 s1 v rv
        cases hl : lstOf S' (.ref k) with
        | none =>
          have q : Post X.K E ρ H (match lstOf S' (.ref k) with | some ts => .ok ⟨ts, srcOf S' (.ref k)⟩ S' | none => .bad) (fun ρ1 H1 it _ => ∀ J, WalkM X.K J ρ1 H1 it → R J H1) := q
          rw [hl] at q
          exact q.elim
        | some ts =>
          have q : Post X.K E ρ H (match lstOf S' (.ref k) with | some ts => .ok ⟨ts, srcOf S' (.ref k)⟩ S' | none => .bad) (fun ρ1 H1 it _ => ∀ J, WalkM X.K J ρ1 H1 it → R J H1) := q
          rw [hl] at q
          obtain ⟨a, rfl, xs, h0, _, hk⟩ := keep_l (src := srcOf S' (.ref k)) s1 rv hl (srcOf_mem hl)
          exact ⟨a, rfl, ⟨xs, h0⟩, q ρ1 H1 e1 s1 _ (walk_l hk)⟩
      | _ => exact q.elim
def rangeT (lo : Int) (n : Nat) : List T := (List.range n).map fun i : Nat => .int (lo + (i : Int))
def fRange1 (ts : List T) (S : Sto) : R Its := match ts with
  | [.int j] => if (decide (-(2 ^ 62) ≤ j) && decide (j < 2 ^ 62)) = true then .ok ⟨rangeT 0 j.toNat, []⟩ S else .bad
  | _ => .bad
def mItN (f : List T → Sto → R Its) (a : Env → Sto → R (List T)) : Env → Sto → R Its := fun τ S => (a τ S).bind f
theorem walk_r {ρ1 : Wd} {H1 : Hp} {lo : Int} {n : Nat} : WalkM X.K (Itr lo n) ρ1 H1 ⟨rangeT lo n, []⟩ := fun ρ H S e s c => by
  refine ⟨by show n ≤ (rangeT lo n).length; simp [rangeT], fun i t ht => ?_⟩
  have ht : ((List.range n).map fun i : Nat => T.int (lo + (i : Int)))[i]? = some t := ht
  rw [List.getElem?_map] at ht
  obtain ⟨c, hc, rfl⟩ := Option.map_eq_some_iff.mp ht
  obtain ⟨hi, hci⟩ := List.getElem?_eq_some_iff.mp hc
  rw [List.getElem_range] at hci
  rw [List.length_range] at hi
  subst hci
  refine ⟨hi, fun x H' q => ?_⟩
  obtain ⟨rfl, rfl⟩ := q
  exact ⟨Ext.refl _ _, s, .int _⟩
theorem i_range1 {tg a : Expr} {ms : Env → Sto → R (List T)} {p pos : Pos} (hg : Gl X "range") (hm : X.mg "range" = none) (ha : PA X [a] (tA X.K E ms)) (hs : starEach [a] X.env = [(false, eval a X.env)] := by rfl) : PI X tg (.Call (.Name "range" p) [a] [] pos) (tI X.K E (mItN fRange1 ms)) :=
  PI.of (pi_range1 hg hm ha hs) fun σ H R ⟨ρ, τ, S, s, en, q⟩ => ⟨ρ, τ, S, s, en, q.step fun ρ1 H1 ts S1 e1 s1 h1 vs rs => by
    unfold fRange1 at h1
    split at h1
    · rename_i j
      split at h1
      · rename_i hb
        rw [Bool.and_eq_true, decide_eq_true_eq, decide_eq_true_eq] at hb
        obtain ⟨y, rfl, ry⟩ := rs.one
        exact ⟨j, by rw [rep_int ry], hb.1, hb.2, h1.ok s1 _ walk_r⟩
      · exact h1.elim
    · exact h1.elim⟩
end
def iterW (c : Env → Sto → R Bool) (b : Env → Sto → R Fl) : Nat → Env → Sto → R Fl
  | 0, _, _ => .bad
  | n + 1, τ, S => (c τ S).bind fun k S1 => if k = true then (b τ S1).bind (stepFl (iterW c b n)) else .ok (.nx τ) S1
open Classical in
noncomputable def sWhile (c : Env → Sto → R Bool) (b : Env → Sto → R Fl) : Env → Sto → R Fl := fun τ S => if h : ∃ n, iterW c b n τ S ≠ .bad then iterW c b h.choose τ S else .bad
theorem iterW_succ {c : Env → Sto → R Bool} {b : Env → Sto → R Fl} : ∀ {n : Nat} {τ : Env} {S : Sto}, iterW c b n τ S ≠ .bad → iterW c b (n + 1) τ S = iterW c b n τ S
  | 0, τ, S, h => absurd rfl h
  | n + 1, τ, S, h => by
    unfold iterW at h ⊢
    cases hc : c τ S with
    | bad => rfl
    | err x S1 => rfl
    | ok k S1 =>
      rw [hc] at h
      cases k with
      | false => rfl
      | true =>
        show (b τ S1).bind (stepFl (iterW c b (n + 1))) = (b τ S1).bind (stepFl (iterW c b n))
        have h : (b τ S1).bind (stepFl (iterW c b n)) ≠ .bad := h
        cases hb : b τ S1 with
        | bad => rfl
        | err x S2 => rfl
        | ok f S2 =>
          rw [hb] at h
          cases f with
          | nx τ2 => exact iterW_succ (n := n) (τ := τ2) (S := S2) h
          | ct τ2 => exact iterW_succ (n := n) (τ := τ2) (S := S2) h
          | bk τ2 => rfl
          | rt t => rfl
theorem iterW_add {c : Env → Sto → R Bool} {b : Env → Sto → R Fl} {n : Nat} {τ : Env} {S : Sto} (h : iterW c b n τ S ≠ .bad) : ∀ k, iterW c b (n + k) τ S = iterW c b n τ S
  | 0 => rfl
  | k + 1 => by
    have ih := iterW_add h k
    rw [← Nat.add_assoc, iterW_succ (by rw [ih]; exact h), ih]
theorem sWhile_of {c : Env → Sto → R Bool} {b : Env → Sto → R Fl} {n : Nat} {τ : Env} {S : Sto} {r : R Fl} (h : iterW c b n τ S = r) (hr : r ≠ .bad) : sWhile c b τ S = r := by
  have hn : iterW c b n τ S ≠ .bad := by rw [h]; exact hr
  have he : ∃ n, iterW c b n τ S ≠ .bad := ⟨n, hn⟩
  unfold sWhile
  rw [dif_pos he]
  have hk := he.choose_spec
  have e1 := iterW_add hn he.choose
  have e2 := iterW_add hk n
  rw [Nat.add_comm] at e2
  rw [← e2, e1, h]
section
variable {X : Cx} {E : XK}
theorem s_while {c : Expr} {body : List Stmt} {pos : Pos} {mc : Env → Sto → R Bool} {mb : Env → Sto → R Fl} (hp : PassesOwn (model X.prog X.w) X.A X.env X.xe) (hc : PT X c (tB X.K E mc)) (hb : PSs X body (tS X.K E mb)) : PS X (.While c body [] pos) (tS X.K E (sWhile mc mb)) :=
  PS.of (ps_while hp hc hb) fun D σ H ⟨ρ, τ, S, s, e, h⟩ => by
    unfold sWhile at h
    split at h
    case isFalse => exact h.elim
    rename_i he
    generalize he.choose = n at h
    refine ⟨fun m σ' H' => ∃ ρ' τ' S', Ext ρ H ρ' H' ∧ Sta X.K ρ' H' S' ∧ REnv X.K ρ' H' σ' τ' ∧ Post X.K E ρ H (iterW mc mb m τ' S') (QS X.K D), ⟨n, ρ, τ, S, Ext.refl _ _, s, e, h⟩, fun m σ' H' hW => ?_⟩
    obtain ⟨ρ', τ', S', x1, s', e', q⟩ := hW
    cases m with
    | zero => exact q.elim
    | succ m =>
      unfold iterW at q
      refine ⟨ρ', τ', S', s', e', q.at x1 fun ρ2 H2 k S2 x2 s2 q2 => ?_⟩
      have xx := x1.trans x2
      cases k with
      | false => exact q2 ρ2 H2 xx s2 σ' (e'.ext x2)
      | true =>
        refine ⟨fun σ3 H3 => ∃ ρ3 τ3 S3, Ext ρ H ρ3 H3 ∧ Sta X.K ρ3 H3 S3 ∧ REnv X.K ρ3 H3 σ3 τ3 ∧ Post X.K E ρ H (iterW mc mb m τ3 S3) (QS X.K D), fun σ3 H3 hN => ⟨m, Nat.lt_succ_self _, hN⟩, ρ2, τ', S2, s2, e'.ext x2, ?_⟩
        have q3 : Post X.K E ρ H ((mb τ' S2).bind (stepFl (iterW mc mb m))) (QS X.K D) := q2
        refine q3.at xx fun ρ4 H4 f S4 x4 s4 q4 => ?_
        have xy := xx.trans x4
        cases f with
        | nx τ5 => exact fun σ5 e5 => ⟨ρ4, τ5, S4, xy, s4, e5, q4⟩
        | ct τ5 => exact fun σ5 e5 => ⟨ρ4, τ5, S4, xy, s4, e5, q4⟩
        | bk τ5 => exact fun σ5 e5 => q4 ρ4 H4 xy s4 σ5 e5
        | rt t5 => exact fun v5 r5 => q4 ρ4 H4 xy s4 v5 r5
end
end Fx
namespace Fx
open PySem PySem.Spec PyProof.Rows L2
mutual
def cl (n : Nat) : T → Bool
  | .tup ts => cls n ts
  | .lst ts => cls n ts
  | .kst ts => cls n ts
  | .ref i => decide (i < n)
  | .wt _ => false
  | .exn _ _ _ ts => cls n ts
  | .dct _ ts => cls n ts
  | _ => true
def cls (n : Nat) : List T → Bool
  | [] => true
  | t :: ts => cl n t && cls n ts
end
def clO (n : Nat) : O → Bool
  | .lst ts => cls n ts
  | .ins _ fs => fs.all fun f => cl n f.2
  | .dct _ ts => cls n ts
section
variable {K : PySem.W.Frag} {ρ ρ' : Wd} {H : Hp} {n : Nat}
mutual
theorem Rep.toC (hr : ∀ (i : Nat) (a : Addr), i < n → ρ.at_[i]? = some a → ρ'.at_[i]? = some a) (ha : ∀ a, a ∉ ρ.av → a ∉ ρ'.av) : ∀ {v : V} {t : T}, cl n t = true → Rep K ρ H v t → Rep K ρ' H v t
  | _, _, _, .non => .non
  | _, _, _, .bl b => .bl b
  | _, _, _, .int i => .int i
  | _, _, _, .str x => .str x
  | _, _, _, .obj a => .obj a
  | _, _, _, .ty m => .ty m
  | _, .ref i, c, .ref h => .ref (hr _ _ (of_decide_eq_true (show decide (i < n) = true by unfold cl at c; exact c)) h)
  | _, .tup ts, c, .tup h r => .tup (h.imp (fun q => ⟨q.1, ha _ q.2⟩) id) (Reps.toC hr ha (show cls n ts = true by unfold cl at c; exact c) r)
  | _, .lst ts, c, .lst h m r => .lst h (ha _ m) (Reps.toC hr ha (show cls n ts = true by unfold cl at c; exact c) r)
  | _, .wt ts, c, .wt h m r => absurd (show false = true by unfold cl at c; exact c) Bool.false_ne_true
  | _, .exn _ _ _ ts, c, .exn g h m x r => .exn g h (ha _ m) (x.mono fun b o z q => ⟨z, ha _ q⟩) (Reps.toC hr ha (show cls n ts = true by unfold cl at c; exact c) r)
  | _, .dct _ ts, c, .dct h m k r => .dct h (ha _ m) k (Reps.toC hr ha (show cls n ts = true by unfold cl at c; exact c) r)
  | _, .kst ts, c, .kst h r => .kst (h.imp (fun q => ⟨q.1, ha _ q.2⟩) id) (Reps.toC hr ha (show cls n ts = true by unfold cl at c; exact c) r)
theorem Reps.toC (hr : ∀ (i : Nat) (a : Addr), i < n → ρ.at_[i]? = some a → ρ'.at_[i]? = some a) (ha : ∀ a, a ∉ ρ.av → a ∉ ρ'.av) : ∀ {v : List V} {t : List T}, cls n t = true → Reps K ρ H v t → Reps K ρ' H v t
  | _, _, _, .nil => .nil
  | _, t :: ts, c, .cons h r => by
    have c : (cl n t && cls n ts) = true := by unfold cls at c; exact c
    rw [Bool.and_eq_true] at c
    exact .cons (Rep.toC hr ha c.1 h) (Reps.toC hr ha c.2 r)
end
theorem RepF.toC (hr : ∀ (i : Nat) (a : Addr), i < n → ρ.at_[i]? = some a → ρ'.at_[i]? = some a) (ha : ∀ a, a ∉ ρ.av → a ∉ ρ'.av) : ∀ {v : List (Str × V)} {t : List (Str × T)}, (t.all fun f => cl n f.2) = true → RepF K ρ H v t → RepF K ρ' H v t
  | _, _, _, .nil => .nil
  | _, _, c, .cons h r => by
    rw [List.all_cons, Bool.and_eq_true] at c
    exact .cons (h.toC hr ha c.1) (RepF.toC hr ha c.2 r)
theorem RepO.toC (hr : ∀ (i : Nat) (a : Addr), i < n → ρ.at_[i]? = some a → ρ'.at_[i]? = some a) (ha : ∀ a, a ∉ ρ.av → a ∉ ρ'.av) {a : Addr} : ∀ {o : O}, clO n o = true → RepO K ρ H a o → RepO K ρ' H a o
  | .lst _, c, ⟨_, h, r⟩ => ⟨_, h, r.toC hr ha c⟩
  | .ins _ _, c, ⟨_, _, h, r⟩ => ⟨_, _, h, r.toC hr ha c⟩
  | .dct _ _, c, ⟨_, h, q, r⟩ => ⟨_, h, q, r.toC hr ha c⟩
end
def runF (N : Nat) (b : Env → Sto → R Fl) (ts : List T) (S : Sto) : R T := (noErr (b (ts.map some ++ List.replicate (N - ts.length) none) S)).bind fun f S1 => match f with
  | .nx _ => .ok .non S1
  | .rt t => .ok t S1
  | _ => .bad
/-- what a def promises: what its mirror gives -/
def spM (K : PySem.W.Frag) (n : Nat) (F : List T → Sto → R T) : Sp := fun vs H Q E => ∃ ρ S ts, ts.length = n ∧ Sta K ρ H S ∧ Reps K ρ H vs ts ∧ Post K E ρ H (F ts S) (QE K Q)
theorem reps_env {K : PySem.W.Frag} {ρ : Wd} {H : Hp} {N : List Str} {vs : List V} {ts : List T} (r : Reps K ρ H vs ts) : REnv K ρ H (L2.start N vs) (ts.map some ++ List.replicate (N.length - ts.length) none) := by
  have l := r.length
  unfold L2.start
  rw [l]
  refine ⟨by simp [l], fun i t h => ?_⟩
  by_cases hi : i < ts.length
  · rw [List.getElem?_append_left (by simpa using hi), List.getElem?_map] at h
    obtain ⟨u, hu, e⟩ := Option.map_eq_some_iff.mp h
    cases e
    obtain ⟨y, hy, ry⟩ := r.get hu
    refine ⟨y, ?_, ry⟩
    rw [List.getElem?_append_left (by simpa [l] using hi), List.getElem?_map, hy]
    rfl
  · rw [List.getElem?_append_right (by simpa using hi)] at h
    rw [List.getElem?_replicate] at h
    split at h <;> cases h
section
variable {P : Program} {w : World} {K : PySem.W.Frag} {mg : Str → Option Value} {base : Heap}
theorem fn_ok {x qual : Str} {st : Stmt} {f : Addr} {fd : FuncData} {N ps : List Str} {k : Nat} {b : Env → Sto → R Fl} (F : L2.Fun K x qual st f fd) (S : FnScope N ps (defScope st))
    (hb : ∀ (cdv : Value) (A : Around) (outer : List PySem.Env) (s : Shared) (H : Hp) (E : XK), Room k (A.deeper (envOfC qual (defScope st) s.heap.objs.size f cdv)) → PSs (cxOf CX0 P w K mg base N qual (defScope st) f cdv A outer s H E).nox (defBody st) (tS K E0 b)) :
    FnOk P w K mg base CX0 (k + 1) f fd ps (spM K ps.length (runF N.length b)) :=
  F.ok S (fun vs H Q E ⟨ρ, S, ts, l, s, r, h⟩ => by rw [r.length, l]) fun cdv A outer s H vs Q E hr ⟨ρ, S, ts, l, st, r, h⟩ => ⟨_, hb cdv A outer s H E hr, ρ, _, S, st, reps_env r, by
    unfold runF at h
    refine h.at0 (Ext.refl _ _) fun ρ2 H2 f S2 x2 s2 q => ?_
    cases f with
    | nx τ => exact fun σ e => q ρ2 H2 x2 s2 _ .non
    | rt t => exact fun v rv => q ρ2 H2 x2 s2 v rv
    | bk τ => exact q.elim
    | ct τ => exact q.elim⟩
end
section
variable {X : Cx} {E : XK} {k n : Nat} {f : Addr} {fd : FuncData} {ps : List Str} {F : List T → Sto → R T} {x : Str} {p pos : Pos} {e : Expr} {es : List Expr} {ms : Env → Sto → R (List T)}
theorem passA {X : Cx} {E : XK} : Passes CX0 X E := fun _ _ _ _ _ _ _ h => h.elim
theorem x_call (G : FnOk X.prog X.w X.K X.mg X.base CX0 k f fd ps (spM X.K n F)) (hr : Room k X.A) (hg : Gl X x) (hm : X.mg x = some (.ref f)) (hk : PySem.W.keepIn X.K (.ref f) = true) (hb : Binds X.K fd ps [])
    (ha : PA X (e :: es) (tA X.K E ms)) (hn : (e :: es).length = n := by rfl) (hdb : (x == ("__debug__" : Str)) = false := by decide) (he : starEach (e :: es) X.env = (false, eval e X.env) :: starEach es X.env := by rfl) (hpl : (backTo pos (starEach es X.env)).any (·.1) = false := by rfl) :
    PE X (.Call (.Name x p) (e :: es) [] pos) (tM X.K E (mFn (fun ts S => if ts.length = n then F ts S else .bad) ms)) :=
  PE.of (pe_call G hr hg hm hk hb .nil (passA (E := E)) ha hdb he hpl) fun σ H Q ⟨ρ, τ, S, s, e, h⟩ => ⟨ρ, τ, S, s, e, h.step fun ρ1 H1 ts S1 e1 s1 h1 vs rs => by
    split at h1
    · rename_i hl
      exact ⟨ρ1, S1, ts, hl, s1, by rw [List.append_nil]; exact rs, h1⟩
    · exact h1.elim⟩
end
def thaw (n : Nat) (fz : Bool) (t : T) (S : Sto) : T := if fz = true then match t with
    | .ref i => match S[i]? with
      | some (.lst us) => if n ≤ i then .lst us else .ref i
      | _ => .ref i
    | t => t else t
noncomputable def frame (n : Nat) (fz : Bool) (F : List T → Sto → R T) (ts : List T) (S : Sto) : R T :=
  ifP (n ≤ S.length ∧ cls n ts = true ∧ (S.take n).all (clO n) = true) (match F ts (S.take n) with
    | .ok t S1 => ifP (n ≤ S1.length ∧ (S1.take n).all (clO n) = true ∧ cl n (thaw n fz t S1) = true) (.ok (thaw n fz t S1) (S1.take n ++ S.drop n)) .bad
    | _ => .bad) .bad
def Wd.part (ρ : Wd) (n : Nat) : Wd := ⟨ρ.at_.take n, ρ.at_.drop n ++ ρ.out⟩
theorem part_av (ρ : Wd) (n : Nat) : (ρ.part n).av = ρ.av := by
  unfold Wd.part Wd.av
  show ρ.at_.take n ++ (ρ.at_.drop n ++ ρ.out) = ρ.at_ ++ ρ.out
  rw [← List.append_assoc, List.take_append_drop]
section
variable {K : PySem.W.Frag} {ρ ρ' : Wd} {H H' : Hp} {S S1 : Sto} {n : Nat}
theorem take_at {α : Type} {xs : List α} {i : Nat} {a : α} (h : (xs.take n)[i]? = some a) : i < n ∧ xs[i]? = some a := by
  rw [List.getElem?_take] at h
  split at h
  · rename_i hi; exact ⟨hi, h⟩
  · cases h
theorem Sta.part (s : Sta K ρ H S) (hn : n ≤ S.length) (hc : (S.take n).all (clO n) = true) : Sta K (ρ.part n) H (S.take n) where
  len := by
    show (ρ.at_.take n).length = (S.take n).length
    rw [List.length_take, List.length_take, s.len]
  nd := by rw [part_av]; exact s.nd
  al := fun a m => by
    rcases List.mem_append.mp m with m | m
    · have m := List.mem_of_mem_drop m
      obtain ⟨i, hi, e⟩ := List.getElem_of_mem m
      have hj : i < S.length := by rw [← s.len]; exact hi
      have r := s.at_ i a S[i] (by rw [List.getElem?_eq_getElem hi, e]) (List.getElem?_eq_getElem hj)
      revert r
      cases S[i] with
      | lst ts => exact fun ⟨xs, h, _⟩ => ⟨_, h⟩
      | ins C fs => exact fun ⟨dx, vs, h, _⟩ => ⟨_, h⟩
      | dct ks ts => exact fun ⟨kvs, h, _⟩ => ⟨_, h⟩
    · exact s.al a m
  at_ := fun i a o h1 h2 => by
    obtain ⟨hi, h1⟩ := take_at h1
    obtain ⟨_, h3⟩ := take_at h2
    have c := List.all_eq_true.mp hc o (List.mem_of_getElem? h2)
    refine (s.at_ i a o h1 h3).toC (fun j b hj q => ?_) (fun b q => by rw [part_av]; exact q) c
    show (ρ.at_.take n)[j]? = some b
    rw [List.getElem?_take, if_pos hj]
    exact q
theorem nd_at {α : Type} {l : List α} (h : l.Nodup) {i j : Nat} {a : α} (e1 : l[i]? = some a) (e2 : l[j]? = some a) : i = j := by
  obtain ⟨i1, q1⟩ := List.getElem?_eq_some_iff.mp e1
  obtain ⟨j1, q2⟩ := List.getElem?_eq_some_iff.mp e2
  exact (List.getElem_inj h).mp (q1.trans q2.symm)
theorem part_back (s : Sta K ρ H S) (hn : n ≤ S.length) (e : Ext (ρ.part n) H ρ' H') (s' : Sta K ρ' H' S1) (hn1 : n ≤ S1.length) (hc : (S1.take n).all (clO n) = true) :
    (∀ (i : Nat) (a : Addr), i < n → ρ'.at_[i]? = some a → ρ.at_[i]? = some a) ∧ (∀ a, a ∉ ρ'.av → a ∉ ρ.av) ∧ Ext ρ H ρ H' ∧ Sta K ρ H' (S1.take n ++ S.drop n) := by
  have hl : (ρ.part n).at_.length = n := by
    show (ρ.at_.take n).length = n
    rw [List.length_take, s.len]
    exact Nat.min_eq_left hn
  have A : ∀ (i : Nat) (a : Addr), i < n → ρ'.at_[i]? = some a → ρ.at_[i]? = some a := fun i a hi q => by
    obtain ⟨m, z⟩ := e.pre
    rw [z, List.getElem?_append_left (by rw [hl]; exact hi)] at q
    exact (take_at q).2
  have A' : ∀ (i : Nat) (a : Addr), i < n → ρ.at_[i]? = some a → ρ'.at_[i]? = some a := fun i a hi q => e.get (by
    show (ρ.at_.take n)[i]? = some a
    rw [List.getElem?_take, if_pos hi]
    exact q)
  have B : ∀ a, a ∉ ρ'.av → a ∉ ρ.av := fun a h q => h (by
    rw [← part_av ρ n] at q
    rcases List.mem_append.mp q with q | q
    · obtain ⟨m, z⟩ := e.pre
      exact List.mem_append_left _ (by rw [z]; exact List.mem_append_left _ q)
    · exact List.mem_append_right _ (e.out a q))
  have C : Ext ρ H ρ H' := Ext.here fun a o h m => e.keep a o h fun q => m (List.mem_of_mem_take q)
  refine ⟨A, B, C, ?_, s.nd, fun a m => s'.al a (e.out a (List.mem_append_right _ m)), fun i a o h1 h2 => ?_⟩
  · rw [List.length_append, List.length_take, List.length_drop, Nat.min_eq_left hn1, s.len]
    omega
  · by_cases hi : i < n
    · have h2 : (S1.take n)[i]? = some o := by
        rw [List.getElem?_append_left (by rw [List.length_take, Nat.min_eq_left hn1]; exact hi)] at h2
        exact h2
      have c := List.all_eq_true.mp hc o (List.mem_of_getElem? h2)
      exact (s'.at_ i a o (A' i a hi h1) (take_at h2).2).toC A B c
    · have h2 : S[i]? = some o := by
        rw [List.getElem?_append_right (by rw [List.length_take, Nat.min_eq_left hn1]; omega), List.length_take, Nat.min_eq_left hn1, List.getElem?_drop] at h2
        rw [show n + (i - n) = i by omega] at h2
        exact h2
      have r := s.at_ i a o h1 h2
      obtain ⟨u, hu⟩ := r.is
      have k : H' a = H a := by
        rw [hu]
        refine e.keep a u hu fun q => ?_
        obtain ⟨j, hj⟩ := List.mem_iff_getElem?.mp q
        obtain ⟨hjn, hj⟩ := take_at hj
        have := nd_at (List.nodup_append.mp s.nd).1 hj h1
        omega
      exact r.ext C k
theorem thaw_rep {fz : Bool} {v : V} {t : T} (s : Sta K ρ H S) (e : Ext (ρ.part n) H ρ' H') (hn : n ≤ S.length) (s' : Sta K ρ' H' S1) (B : ∀ a, a ∉ ρ'.av → a ∉ ρ.av) (A : ∀ (i : Nat) (a : Addr), i < n → ρ'.at_[i]? = some a → ρ.at_[i]? = some a) (c : cl n (thaw n fz t S1) = true) (r : Rep K ρ' H' v t) : Rep K ρ H' v (thaw n fz t S1) := by
  unfold thaw at c ⊢
  cases fz with
  | false => exact r.toC A B c
  | true =>
    rw [if_pos rfl] at c ⊢
    split at c
    · rename_i i
      split at c
      · rename_i us hu
        show Rep K ρ H' v (if n ≤ i then .lst us else .ref i)
        by_cases hi : n ≤ i
        · rw [if_pos hi] at c ⊢
          obtain ⟨a, xs, rfl, ha, hx, rx⟩ := lstD_ref s' r hu
          have c : cls n us = true := by unfold cl at c; exact c
          refine .lst hx (fun q => ?_) (rx.toC A B c)
          have hm : a ∈ ρ'.at_ := List.mem_of_getElem? ha
          have q := e.old a hm (by rw [part_av]; exact q)
          obtain ⟨j, hj⟩ := List.mem_iff_getElem?.mp q
          obtain ⟨hjn, _⟩ := take_at (show (ρ.at_.take n)[j]? = some a from hj)
          have := nd_at (List.nodup_append.mp s'.nd).1 (e.get hj) ha
          omega
        · rw [if_neg hi] at c ⊢
          exact r.toC A B c
      · rename_i hno
        exact r.toC A B c
    · exact r.toC A B c
theorem frame_sp {m : Nat} {fz : Bool} {F : List T → Sto → R T} {vs : List V} {Q : VK} {E : XK} (h : spM K m (frame n fz F) vs H Q E) : spM K m F vs H Q E := by
  obtain ⟨ρ, S, ts, l, s, r, h⟩ := h
  unfold frame at h
  obtain ⟨⟨h1, h2, h3⟩, h⟩ := h.ifP
  refine ⟨ρ.part n, S.take n, ts, l, s.part h1 h3, r.toC (fun i a hi q => ?_) (fun b q => by rw [part_av]; exact q) h2, ?_⟩
  · show (ρ.at_.take n)[i]? = some a
    rw [List.getElem?_take, if_pos hi]
    exact q
  · cases hF : F ts (S.take n) with
    | bad => rw [hF] at h; exact h.elim
    | err x S1 => rw [hF] at h; exact h.elim
    | ok t S1 =>
      rw [hF] at h
      obtain ⟨⟨q1, q2, q3⟩, h⟩ := Post.ifP h
      intro ρ' H' e s' v rv
      obtain ⟨A, B, C, s2⟩ := part_back s h1 e s' q1 q2
      exact h ρ H' C s2 v (thaw_rep s e h1 s' B A q3 rv)
end
theorem FnOk.framed {P : Program} {w : World} {K : PySem.W.Frag} {mg : Str → Option Value} {base : Heap} {k : Nat} {f : Addr} {fd : FuncData} {ps : List Str} {m : Nat} {F : List T → Sto → R T} (G : FnOk P w K mg base CX0 k f fd ps (spM K m F)) (n : Nat) (fz : Bool) : FnOk P w K mg base CX0 k f fd ps (spM K m (frame n fz F)) :=
  G.imp fun _ _ _ _ h => frame_sp h
end Fx
namespace Fx
open PySem PySem.Spec PyProof.Rows L2
section
variable {X : Cx} {E : XK}
def truT (S : Sto) : T → Option Bool
  | .non => some false
  | .bl b => some b
  | .int i => some (i != 0)
  | .str z => if z.length ≤ 1000000 then some ((z.length : Int) != 0) else none
  | .tup ts => some (!ts.isEmpty)
  | t => (lstOf S t).map fun ts => !ts.isEmpty
def fTru (t : T) (S : Sto) : R Bool := match truT S t with
  | some b => .ok b S
  | none => .bad
def mTru (m : Env → Sto → R T) : Env → Sto → R Bool := fun τ S => (m τ S).bind fTru
theorem reps_empty {K : PySem.W.Frag} {ρ : Wd} {H : Hp} {xs : List V} {ts : List T} (r : Reps K ρ H xs ts) : xs.isEmpty = ts.isEmpty := by cases r <;> rfl
theorem tru_of {ρ : Wd} {H : Hp} {S : Sto} {v : V} {t : T} {b : Bool} (s : Sta X.K ρ H S) (r : Rep X.K ρ H v t) (h : truT S t = some b) : TruV X.K v H b := by
  cases t with
  | non => cases h; rw [rep_non r]; rfl
  | bl k => cases h; rw [rep_bl r]; rfl
  | int i => cases h; rw [rep_int r]; rfl
  | str z =>
    rw [rep_str r]
    have h : (if z.length ≤ 1000000 then some ((z.length : Int) != 0) else none) = some b := h
    split at h
    · rename_i hl
      cases h
      exact ⟨sz6 hl, rfl⟩
    · cases h
  | tup ts =>
    cases h
    obtain ⟨a, xs, rfl, fa, ra⟩ := rep_tup r
    exact .inr (.inl ⟨xs, fa.sq, by rw [reps_empty ra]⟩)
  | lst ts =>
    cases h
    obtain ⟨a, xs, rfl, hx, rx⟩ := lstOf_at s r (ts := ts) rfl
    exact .inl ⟨xs, hx, by rw [reps_empty rx]⟩
  | kst ts =>
    cases h
    obtain ⟨a, xs, rfl, hx, rx⟩ := lstOf_at s r (ts := ts) rfl
    exact .inl ⟨xs, hx, by rw [reps_empty rx]⟩
  | ref k =>
    obtain ⟨ts, ht, h⟩ := Option.map_eq_some_iff.mp (show (lstOf S (.ref k)).map (fun ts => !ts.isEmpty) = some b from h)
    cases h
    obtain ⟨a, xs, rfl, hx, rx⟩ := lstOf_at s r ht
    exact .inl ⟨xs, hx, by rw [reps_empty rx]⟩
  | _ => cases h
theorem t_tru {a : Expr} {m : Env → Sto → R T} (ha : PE X a (tM X.K E m)) (he : ∀ whole, isTrue a X.env whole = (do let v ← whole; standAt a.pos; holding [v] (truthy v)) := by intro _; rfl) : PT X a (tB X.K E (mTru m)) :=
  PT.of (pt_truth ha he) fun σ H Q ⟨ρ, τ, S, s, en, q⟩ => ⟨ρ, τ, S, s, en, q.step fun ρ1 H1 t S1 e1 s1 h1 v rv => by
    unfold fTru at h1
    split at h1
    · rename_i b hb
      exact ⟨b, tru_of s1 rv hb, h1.ok s1⟩
    · exact h1.elim⟩
theorem ts_nil : PTs X [] (tB X.K E mTrue) := ⟨fun pins s σ H Q I ⟨ρ, τ, S, st, en, q⟩ => (pts_nil (X := X)).run pins s σ H Q I (q.ok st)⟩
theorem ts_one {c : Expr} {m : Env → Sto → R Bool} (h : PT X c (tB X.K E m)) : PTs X [c] (tB X.K E m) := pts_one h
end
def spLaw (K : PySem.W.Frag) : Sp := fun vs H Q _ => ∃ (a : Addr) (ns : List Int), vs = [.ref a] ∧ SqL K H a (ns.map V.int) ∧ ns.length ≤ 63 ∧ ∀ H', Q (.bl true) H'
theorem reps_ints {K : PySem.W.Frag} {ρ : Wd} {H : Hp} : ∀ ys : List Int, Reps K ρ H (ys.map V.int) (ys.map T.int)
  | [] => .nil
  | y :: ys => .cons (.int y) (reps_ints ys)
end Fx
namespace Fx
open PySem PySem.Spec PyProof.Rows L2
def strV (z : Str) : List V := z.cps.toList.map fun c => V.str ⟨#[c]⟩
theorem reps_signs {K : PySem.W.Frag} {ρ : Wd} {H : Hp} {z : Str} : Reps K ρ H (strV z) (strT z) := by
  unfold strV strT
  induction z.cps.toList with
  | nil => exact .nil
  | cons c cs ih => exact .cons (.str _) ih
def rListStr : List V → Hp → VK → Prop := fun xs H Q => ∃ z, xs = [.str z] ∧ z.length ≤ sizeLine ∧ ∀ l, H l = none → Q (.ref l) (upd H l (.lst (strV z)))
section
variable {X : Cx} {E : XK}
theorem o_listStr (hc : X.calm = true) : CallR X (.type "list") rListStr := by
  intro pins s σ H xs us Q I r ⟨z, e, hz, q⟩
  subst e
  cases r with
  | cons r rr =>
    cases rr
    obtain ⟨t, rfl⟩ := r
    refine call_list_str (I.ok.hd hc) z t (hn := hz) fun h' tk acc n k e it => ⟨.ref s.heap.objs.size, _, I.laid (t' := tk) k (Nat.le_refl _) ?_, rfl, q _ (I.hok.fresh (Nat.le_refl _))⟩
    have hl : acc.toList.length = z.cps.size := by rw [Array.length_toList]; exact it.1
    refine ⟨by unfold strV; rw [List.length_map, Array.length_toList]; exact hz, acc.toList, n, ?_, by simpa using e⟩
    refine vals_of_at (by unfold strV; rw [List.length_map, Array.length_toList, hl]) fun j x u hx hu => ?_
    obtain ⟨c, u', hc', rfl⟩ := it.2 j u (by simpa using hu)
    have hx : (z.cps.toList.map fun c => V.str ⟨#[c]⟩)[j]? = some x := hx
    rw [List.getElem?_map] at hx
    obtain ⟨c2, h2, rfl⟩ := Option.map_eq_some_iff.mp hx
    have : c2 = c := by
      rw [← Array.getElem?_toList] at hc'
      rw [h2] at hc'
      exact Option.some.inj hc'
    rw [this]
    exact ⟨_, rfl⟩
def fListA (fz : Bool) (xs : List T) (S : Sto) : R T := match xs with
  | [.str z] => if z.length ≤ 100000 then newL fz (strT z) S else .bad
  | [x] => match seqOf S x with
    | some ts => newL fz ts S
    | none => .bad
  | _ => .bad
def rListB (K : PySem.W.Frag) : List V → Hp → VK → Prop := rN1 (rListA K) rListStr
theorem o_listA (hc : X.calm = true) : CallR X (.type "list") (rListB X.K) := o_list.or (o_listStr hc)
theorem f_listA (fz : Bool) : OpN X.K E (rListB X.K) (fListA fz) := by
  intro ρ H S vs ts Q s rs h
  unfold fListA at h
  split at h
  · rename_i z
    obtain ⟨y, rfl, r⟩ := rs.one
    split at h
    · rename_i hl
      rw [rep_str r]
      exact .inr ⟨z, rfl, sz5 hl, fun l hl => new_lst s reps_signs h l hl⟩
    · exact h.elim
  · obtain ⟨y, rfl, r⟩ := rs.one
    split at h
    · rename_i us hs
      obtain ⟨a, xs, rfl, hx, rx⟩ := seqOf_at s r hs
      exact .inl ⟨a, xs, rfl, hx, fun l hl => new_lst s rx h l hl⟩
    · exact h.elim
  · exact h.elim
def mLstRg (fz : Bool) (m : Env → Sto → R T) : Env → Sto → R T := fun τ S => (m τ S).bind fun x S1 => match x with
  | .int n => if (decide (-(2 ^ 62) ≤ n) && decide (n ≤ 100000)) = true then newL fz (rangeT 0 n.toNat) S1 else .bad
  | _ => .bad
def fAddA (fz : Bool) (x y : T) (S : Sto) : R T := match x, y with
  | .int i, .int j => .ok (.int (i + j)) S
  | .str a, .str b => if a.length + b.length ≤ 1000000 then .ok (.str (a ++ b)) S else .bad
  | .tup xs, .tup ys => if xs.length + ys.length ≤ 100000 then .ok (.tup (xs ++ ys)) S else .bad
  | x, y => fCat fz x y S
def rAddB (K : PySem.W.Frag) : R2 := rOr (rAddA K) rCat
theorem o_addA : OpR X (binaryOp .Add) (rAddB X.K) := o_add.or op_cat
theorem f_addA (fz : Bool) : Op2 X.K E (rAddB X.K) (fAddA fz) := by
  intro ρ H S v w x y Q s rv rw' h
  unfold fAddA at h
  split at h
  · exact .inl (f_add (E := E) ρ H S v w _ _ Q s rv rw' h)
  · exact .inl (f_add (E := E) ρ H S v w _ _ Q s rv rw' h)
  · exact .inl (f_add (E := E) ρ H S v w _ _ Q s rv rw' h)
  · exact .inr (f_cat fz (E := E) ρ H S v w _ _ Q s rv rw' h)
def fSlA (fz : Bool) (x : T) (lo hi : Option Int) (S : Sto) : R T := match x with
  | .tup ts => .ok (.tup (cutT ts lo hi)) S
  | .str z => if z.length ≤ 1000000 then .ok (.str (Txt.slice z lo hi)) S else .bad
  | x => fSlL fz x lo hi S
def rSlB (K : PySem.W.Frag) : V → Option Int → Option Int → Hp → VK → Prop := sOr (rSlTX K) (rSlL K)
theorem o_slA : SlR X (rSlB X.K) := L2.SlR.or o_sl sl_list
theorem f_slA (fz : Bool) : OpS X.K E (rSlB X.K) (fSlA fz) := by
  intro ρ H S v x lo hi Q s rv h
  unfold fSlA at h
  split at h
  · exact .inl (f_sl (E := E) ρ H S v _ lo hi Q s rv h)
  · exact .inl (f_sl (E := E) ρ H S v _ lo hi Q s rv h)
  · exact .inr (f_slL fz (E := E) ρ H S v _ lo hi Q s rv h)
theorem s_setLc (fz : Bool) {i : Nat} {y : Str} {py : Pos} {elt tg iter : Expr} {ifs : List Expr} {scope : Scope} {own : List (Str × Nat)} {pos spos : Pos} {m : Env → Sto → R Its} {p : Pat} {c : Env → Sto → R Bool} {b : Env → Sto → R T} (hc : X.calm = true) (hN : X.N.Nodup) (hy : X.N[i]? = some y) (hyl : X.env.scope.names.lookup y = some .local)
    (hsw : swapsWith (.ListComp elt [⟨tg, iter, ifs, 0⟩] scope pos) (some (.Name y py)) spos.line X.env = pure true) (hi : PI X tg iter (tI X.K E m)) (ok : BlkOk X.N X.env.scope scope own)
    (hsl : p.slots.all (fun j => (own.map (·.2)).contains j) = true)
    (hg : ∀ (s : Shared) (H : Hp) (C : Addr) (cl : List (Str × Addr)) (fp : List Addr), PG (X.blk s H scope (compEnvC scope cl C X.env) fp) tg (tG X.K p)) (ht : ∀ (s : Shared) (H : Hp) (C : Addr) (cl : List (Str × Addr)) (fp : List Addr), PTs (X.blk s H scope (compEnvC scope cl C X.env) fp) ifs (tB X.K E0 c))
    (he : ∀ (s : Shared) (H : Hp) (C : Addr) (cl : List (Str × Addr)) (fp : List Addr), PE (X.blk s H scope (compEnvC scope cl C X.env) fp) elt (tM X.K E0 b)) (hs : ∀ x, foldedSetIterable iter X.env x = pure x := by intro _; rfl) :
    PS X (.Assign [.Name y py] (.ListComp elt [⟨tg, iter, ifs, 0⟩] scope pos) spos) (tS X.K E (sSet i (mLc fz (own.map (·.2)) m p c b))) :=
  PS.of (ps_setLc hc hN hy hyl hsw hi ok hg ht he hs) fun D σ H ⟨ρ, τ, S, s, e, h⟩ => ⟨ρ, τ, S, s, e, by
    have h : Post X.K E ρ H ((mLc fz (own.map (·.2)) m p c b τ S).bind fun x S1 => R.ok (Fl.nx (τ.set i (some x))) S1) (QS X.K D) := h
    have h : Post X.K E ρ H (((m τ S).bind fun it S1 => (mLcGo it p c b (wipeT τ (own.map (·.2))) it.ts [] S1).bind fun acc S2 => newL fz acc S2).bind fun x S1 => R.ok (Fl.nx (τ.set i (some x))) S1) (QS X.K D) := h
    rw [R.bind_assoc] at h
    exact h.step fun ρ1 H1 it S1 e1 s1 h1 J wm D' hD => lc_fn (E := E) (fz := fz) own hsl hD s1 (e.ext e1) (Q := fun x H => D.nx (σ.set i (some x)) H) (h1.step fun ρ2 H2 x S2 e2 s2 q v rv => q.ok s2 _ (((e.ext e1).ext e2).set i rv)) wm⟩
def mStar (a : Env → Sto → R T) (b : Env → Sto → R (List T)) : Env → Sto → R (List T) := fun τ S => (a τ S).bind fun x S1 => match seqOf S1 x with
  | some xs => (b τ S1).bind fun ys S2 => .ok (xs ++ ys) S2
  | none => .bad
theorem a_star {e : Expr} {p : Pos} {es : List Expr} {m : Env → Sto → R T} {ms : Env → Sto → R (List T)} (he : PE X e (tM X.K E m)) (hr : PA X es (tA X.K E ms)) (hs : starEach (.Starred e p :: es) X.env = (true, eval e X.env) :: starEach es X.env := by rfl) : PA X (.Starred e p :: es) (tA X.K E (mStar m ms)) :=
  PA.of (StX.pa_star he hr hs) fun σ H Q ⟨ρ, τ, S, s, en, q⟩ => ⟨ρ, τ, S, s, en, q.step fun ρ1 H1 t S1 e1 s1 h1 v rv => by
    split at h1
    · rename_i xs hx
      obtain ⟨a, vs, rfl, hv, rx⟩ := seqOf_at s1 rv hx
      exact ⟨a, vs, rfl, hv.symm, ρ1, τ, S1, s1, en.ext e1, h1.step fun ρ2 H2 ys S2 e2 s2 h2 ws rw' => h2.ok s2 _ ((rx.ext e2).append rw')⟩
    · exact h1.elim⟩
end
end Fx
namespace Fx
open PySem PySem.Spec PyProof.Rows L2
theorem bt_len : bootBuiltins "len" = some (.builtin "len") := by decide +kernel
theorem bt_abs : bootBuiltins "abs" = some (.builtin "abs") := by decide +kernel
theorem bt_max : bootBuiltins "max" = some (.builtin "max") := by decide +kernel
theorem bt_min : bootBuiltins "min" = some (.builtin "min") := by decide +kernel
theorem bt_sum : bootBuiltins "sum" = some (.builtin "sum") := by decide +kernel
theorem bt_isinstance : bootBuiltins "isinstance" = some (.builtin "isinstance") := by decide +kernel
theorem bt_int : bootBuiltins "int" = some (.type "int") := by decide +kernel
theorem bt_str : bootBuiltins "str" = some (.type "str") := by decide +kernel
theorem bt_bool : bootBuiltins "bool" = some (.type "bool") := by decide +kernel
theorem bt_tuple : bootBuiltins "tuple" = some (.type "tuple") := by decide +kernel
theorem bt_list : bootBuiltins "list" = some (.type "list") := by decide +kernel
theorem hu65 {k : Nat} {A : Around} (hr : Room k A) : A.units + 65 < cLine := by
  have := hr.un
  omega
theorem fn_bad {P : Program} {w : World} {K : PySem.W.Frag} {mg : Str → Option Value} {base : Heap} {k : Nat} {f : Addr} {fd : FuncData} {ps : List Str} {m : Nat} : FnOk P w K mg base CX0 k f fd ps (spM K m fun _ _ => .bad) :=
  ⟨fun vs H Q E ⟨_, _, _, _, _, _, h⟩ => h.elim, fun A outer s H args us vs Q E hr he hb hv ⟨_, _, _, _, _, _, h⟩ => h.elim⟩
end Fx
namespace Fx
open PySem PySem.Spec PyProof.Rows L2
section
variable {α β : Type} (τ : Fx.Env) (S : Sto)
@[simp] theorem ev_ok (a : α) (f : α → Sto → R β) : R.bind (.ok a S) f = f a S := id rfl
@[simp] theorem ev_noErr (a : α) : noErr (.ok a S) = .ok a S := id rfl
@[simp] theorem ev_C (t : T) : mC t τ S = .ok t S := id rfl
@[simp] theorem ev_V (i : Nat) : mVar i τ S = match τ[i]? with
  | some (some t) => .ok t S
  | _ => .bad := id rfl
@[simp] theorem ev_bin (f a b) : mBin f a b τ S = (a τ S).bind fun x S1 => (b τ S1).bind fun y S2 => f x y S2 := id rfl
@[simp] theorem ev_un (f a) : mUn f a τ S = (a τ S).bind fun x S1 => f x S1 := id rfl
@[simp] theorem ev_nil : mNil τ S = .ok [] S := id rfl
@[simp] theorem ev_cons (a b) : mCons a b τ S = (a τ S).bind fun x S1 => (b τ S1).bind fun y S2 => .ok (x :: y) S2 := id rfl
@[simp] theorem ev_fn (f a) : mFn f a τ S = (a τ S).bind f := id rfl
@[simp] theorem ev_ite (c a b) : mIte c a b τ S = (c τ S).bind fun k S1 => if k = true then a τ S1 else b τ S1 := id rfl
@[simp] theorem ev_tst (a) : mTst a τ S = (a τ S).bind toB := id rfl
@[simp] theorem ev_toB (b : Bool) : toB (.bl b) S = .ok b S := id rfl
@[simp] theorem ev_and (a b) : mAnd a b τ S = (a τ S).bind fun k S1 => if k = true then b τ S1 else .ok false S1 := id rfl
@[simp] theorem ev_or (a b) : mOr a b τ S = (a τ S).bind fun k S1 => if k = true then .ok true S1 else b τ S1 := id rfl
@[simp] theorem ev_not (a) : mNot a τ S = (a τ S).bind fun k S1 => .ok (!k) S1 := id rfl
@[simp] theorem ev_andV (a b) : mAndV a b τ S = (a τ S).bind fun x S1 => (toB x S1).bind fun k S2 => if k = true then b τ S2 else .ok (.bl false) S2 := id rfl
@[simp] theorem ev_orV (a b) : mOrV a b τ S = (a τ S).bind fun x S1 => (toB x S1).bind fun k S2 => if k = true then .ok (.bl true) S2 else b τ S2 := id rfl
@[simp] theorem ev_notV (a) : mNotV a τ S = (a τ S).bind fun x S1 => (toB x S1).bind fun k S2 => .ok (.bl (!k)) S2 := id rfl
@[simp] theorem ev_tup (a) : mTup a τ S = (a τ S).bind fun ts S1 => if ts.length ≤ 100000 then .ok (.tup ts) S1 else .bad := id rfl
@[simp] theorem ev_lst (fz a) : mLst fz a τ S = (a τ S).bind fun ts S1 => if ts.length ≤ 100000 then newL fz ts S1 else .bad := id rfl
@[simp] theorem ev_newT (ts) : newL true ts S = .ok (.lst ts) S := id rfl
@[simp] theorem ev_newF (ts) : newL false ts S = .ok (.ref S.length) (S ++ [.lst ts]) := id rfl
@[simp] theorem ev_meth (c f o a) : mMeth c f o a τ S = (o τ S).bind fun x S1 => if c x S1 = true then (a τ S1).bind fun ts S2 => f x ts S2 else .bad := id rfl
@[simp] theorem ev_tru (a) : mTru a τ S = (a τ S).bind fTru := id rfl
@[simp] theorem ev_true : mTrue τ S = .ok true S := id rfl
@[simp] theorem ev_it (a) : mIt a τ S = (a τ S).bind itOf := id rfl
@[simp] theorem ev_itN (f a) : mItN f a τ S = (a τ S).bind f := id rfl
@[simp] theorem ev_itOfT (ts : List T) : itOf (.tup ts) S = .ok ⟨ts, []⟩ S := id rfl
@[simp] theorem ev_itOfL (ts : List T) : itOf (.lst ts) S = .ok ⟨ts, []⟩ S := id rfl
@[simp] theorem ev_itOfK (ts : List T) : itOf (.kst ts) S = .ok ⟨ts, []⟩ S := id rfl
@[simp] theorem ev_itOfS (z : Str) : itOf (.str z) S = .ok ⟨strT z, []⟩ S := id rfl
@[simp] theorem ev_lstOfL (ts : List T) : lstOf S (.lst ts) = some ts := id rfl
@[simp] theorem ev_lstOfK (ts : List T) : lstOf S (.kst ts) = some ts := id rfl
@[simp] theorem ev_sl (f a l u) : mSl f a l u τ S = (a τ S).bind fun x S1 => (l τ S1).bind fun lo S2 => (u τ S2).bind fun hi S3 => f x lo hi S3 := id rfl
@[simp] theorem ev_O0 : mO0 τ S = .ok none S := id rfl
@[simp] theorem ev_O1 (a) : mO1 a τ S = (a τ S).bind fun x S1 => match x with
  | .int i => .ok (some i) S1
  | _ => .bad := id rfl
@[simp] theorem ev_lc (fz vs m p c b) : mLc fz vs m p c b τ S = (m τ S).bind fun it S1 => (mLcGo it p c b (wipeT τ vs) it.ts [] S1).bind fun acc S2 => newL fz acc S2 := id rfl
@[simp] theorem ev_lstRg (fz m) : mLstRg fz m τ S = (m τ S).bind fun x S1 => match x with
  | .int n => if (decide (-(2 ^ 62) ≤ n) && decide (n ≤ 100000)) = true then newL fz (rangeT 0 n.toNat) S1 else .bad
  | _ => .bad := id rfl
@[simp] theorem ev_next : sNext τ S = .ok (.nx τ) S := id rfl
@[simp] theorem ev_seq (a b) : sSeq a b τ S = (a τ S).bind fun f S1 => match f with
  | .nx τ1 => b τ1 S1
  | .rt t => .ok (.rt t) S1
  | .bk τ1 => .ok (.bk τ1) S1
  | .ct τ1 => .ok (.ct τ1) S1 := id rfl
@[simp] theorem ev_set (i a) : sSet i a τ S = (a τ S).bind fun x S1 => .ok (.nx (τ.set i (some x))) S1 := id rfl
@[simp] theorem ev_drop (a) : sDrop a τ S = (a τ S).bind fun _ S1 => .ok (.nx τ) S1 := id rfl
@[simp] theorem ev_ret (a) : sRet a τ S = (a τ S).bind fun x S1 => .ok (.rt x) S1 := id rfl
@[simp] theorem ev_retN : sRetN τ S = .ok (.rt .non) S := id rfl
@[simp] theorem ev_if (c a b) : sIf c a b τ S = (c τ S).bind fun k S1 => if k = true then a τ S1 else b τ S1 := id rfl
@[simp] theorem ev_for (m p b) : sFor m p b τ S = (m τ S).bind fun it S1 => sForGo it p b it.ts τ S1 := id rfl
@[simp] theorem ev_put (o i a) : sPut o i a τ S = (a τ S).bind fun t S1 => (o τ S1).bind fun x S2 => (i τ S2).bind fun y S3 => match x, y with
  | .ref k, .int n => match S3[k]? with
    | some (.lst us) => match ixN us.length n with
      | some j => .ok (.nx τ) (S3.set k (.lst (us.set j t)))
      | none => .bad
    | _ => .bad
  | _, _ => .bad := id rfl
@[simp] theorem ev_eqI (i j : Int) : fEq (.int i) (.int j) S = .ok (.bl (decide (i = j))) S := id rfl
@[simp] theorem ev_eqS (i j : Str) : fEq (.str i) (.str j) S = .ok (.bl (decide (i = j))) S := id rfl
@[simp] theorem ev_neI (i j : Int) : fNe (.int i) (.int j) S = .ok (.bl (!decide (i = j))) S := id rfl
@[simp] theorem ev_neS (i j : Str) : fNe (.str i) (.str j) S = .ok (.bl (!decide (i = j))) S := id rfl
@[simp] theorem ev_lt (i j : Int) : fLt (.int i) (.int j) S = .ok (.bl (decide (i < j))) S := id rfl
@[simp] theorem ev_le (i j : Int) : fLe (.int i) (.int j) S = .ok (.bl (decide (i ≤ j))) S := id rfl
@[simp] theorem ev_gt (i j : Int) : fGt (.int i) (.int j) S = .ok (.bl (decide (j < i))) S := id rfl
@[simp] theorem ev_ge (i j : Int) : fGe (.int i) (.int j) S = .ok (.bl (decide (j ≤ i))) S := id rfl
@[simp] theorem ev_sub (i j : Int) : fSub (.int i) (.int j) S = .ok (.int (i - j)) S := id rfl
@[simp] theorem ev_neg (i : Int) : fNeg (.int i) S = .ok (.int (-i)) S := id rfl
@[simp] theorem ev_addI (fz) (i j : Int) : fAddA fz (.int i) (.int j) S = .ok (.int (i + j)) S := id rfl
@[simp] theorem ev_addT (fz) (i j : List T) : fAddA fz (.tup i) (.tup j) S = if i.length + j.length ≤ 100000 then .ok (.tup (i ++ j)) S else .bad := id rfl
@[simp] theorem ev_addS (fz) (i j : Str) : fAddA fz (.str i) (.str j) S = if i.length + j.length ≤ 1000000 then .ok (.str (i ++ j)) S else .bad := id rfl
@[simp] theorem ev_addL (fz) (i j : List T) : fAddA fz (.lst i) (.lst j) S = if i.length + j.length ≤ 100000 then newL fz (i ++ j) S else .bad := id rfl
@[simp] theorem ev_int (i : Int) : fInt [.int i] S = .ok (.int i) S := id rfl
@[simp] theorem ev_abs (i : Int) : fAbs [.int i] S = .ok (.int i.natAbs) S := by
  show R.ok (T.int (if i < 0 then -i else i)) S = _
  congr 2
  split <;> omega
@[simp] theorem ev_max (i j : Int) : fMax2 [.int i, .int j] S = .ok (.int (max i j)) S := by
  show R.ok (T.int (if j > i then j else i)) S = _
  congr 2
  split <;> omega
@[simp] theorem ev_min (i j : Int) : fMin2 [.int i, .int j] S = .ok (.int (min i j)) S := by
  show R.ok (T.int (if j < i then j else i)) S = _
  congr 2
  split <;> omega
@[simp] theorem ev_lenT (ts : List T) : fLen [.tup ts] S = .ok (.int ts.length) S := id rfl
@[simp] theorem ev_lenL (ts : List T) : fLen [.lst ts] S = .ok (.int ts.length) S := id rfl
@[simp] theorem ev_lenK (ts : List T) : fLen [.kst ts] S = .ok (.int ts.length) S := id rfl
@[simp] theorem ev_lenS (z : Str) : fLen [.str z] S = if z.length ≤ 1000000 then .ok (.int z.length) S else .bad := id rfl
@[simp] theorem ev_lenR (k : Nat) : fLen [.ref k] S = match seqOf S (.ref k) with
    | some ts => .ok (.int ts.length) S
    | none => .bad := id rfl
@[simp] theorem ev_seqR (k : Nat) : seqOf S (.ref k) = match S[k]? with
    | some (.lst ts) => some ts
    | _ => none := id rfl
@[simp] theorem ev_lstR (k : Nat) : lstOf S (.ref k) = match S[k]? with
    | some (.lst ts) => some ts
    | _ => none := id rfl
@[simp] theorem ev_tupT (ts : List T) : fTuple [.tup ts] S = .ok (.tup ts) S := id rfl
@[simp] theorem ev_tupL (ts : List T) : fTuple [.lst ts] S = .ok (.tup ts) S := id rfl
@[simp] theorem ev_tupK (ts : List T) : fTuple [.kst ts] S = .ok (.tup ts) S := id rfl
@[simp] theorem ev_ixT (ts : List T) (i : Int) : fIx (.tup ts) (.int i) S = match L2.atI ts i with
        | some t => .ok t S
        | none => .bad := id rfl
@[simp] theorem ev_ixL (ts : List T) (i : Int) : fIx (.lst ts) (.int i) S = match L2.atI ts i with
        | some t => .ok t S
        | none => .bad := id rfl
@[simp] theorem ev_ixR (k : Nat) (i : Int) : fIx (.ref k) (.int i) S = match seqOf S (.ref k) with
      | some ts => match L2.atI ts i with
        | some t => .ok t S
        | none => .bad
      | none => .bad := id rfl
@[simp] theorem ev_mul {i j : Int} (h : -18446744073709551616 < j ∧ j < 18446744073709551616) : fMul (.int i) (.int j) S = .ok (.int (i * j)) S := by
  have c : cMul i j = true := by
    unfold cMul
    simp only [Bool.or_eq_true, Bool.and_eq_true, decide_eq_true_eq]
    exact .inr ⟨by omega, by omega⟩
  show (if cMul i j = true then R.ok (T.int (i * j)) S else .bad) = _
  rw [if_pos c]
@[simp] theorem ev_mod {i j : Int} (h : 0 < j) : fMod (.int i) (.int j) S = .ok (.int (i % j)) S := by
  unfold fMod fI2c
  simp [h]
@[simp] theorem ev_div {i j : Int} (h : 0 < j ∧ j < 1073741824) : fDiv (.int i) (.int j) S = .ok (.int (i / j)) S := by
  unfold fDiv fI2c
  simp [h.1, h.2]
@[simp] theorem ev_pow : fPow (.int 10) (.int 18) S = .ok (.int 1000000000000000000) S := id rfl
theorem atI_in (xs : List α) (i : Int) (h0 : 0 ≤ i) (h : i < xs.length) : L2.atI xs i = xs[i.toNat]? := by
  unfold L2.atI ixN
  rw [if_pos h0, if_pos h]
  rfl
theorem ixN_in (n : Nat) (i : Int) (h0 : 0 ≤ i) (h : i < n) : ixN n i = some i.toNat := by
  unfold ixN
  rw [if_pos h0, if_pos h]
@[simp] theorem atI_0 (x : α) (xs : List α) : L2.atI (x :: xs) 0 = some x := by rw [atI_in _ _ (by omega) (by simp)]; rfl
@[simp] theorem atI_1 (x y : α) (xs : List α) : L2.atI (x :: y :: xs) 1 = some y := by rw [atI_in _ _ (by omega) (by simp; omega)]; rfl
@[simp] theorem atI_2 (x y z : α) (xs : List α) : L2.atI (x :: y :: z :: xs) 2 = some z := by rw [atI_in _ _ (by omega) (by simp; omega)]; rfl
@[simp] theorem atI_3 (x y z u : α) (xs : List α) : L2.atI (x :: y :: z :: u :: xs) 3 = some u := by rw [atI_in _ _ (by omega) (by simp; omega)]; rfl
@[simp] theorem atI_4 (x y z u v : α) (xs : List α) : L2.atI (x :: y :: z :: u :: v :: xs) 4 = some v := by rw [atI_in _ _ (by omega) (by simp; omega)]; rfl
@[simp] theorem ixN_0 (n : Nat) : ixN (n + 1) 0 = some 0 := by rw [ixN_in _ _ (by omega) (by omega)]; rfl
@[simp] theorem ifP_true (a b : α) : ifP True a b = a := ifP_t trivial
@[simp] theorem ifP_false (a b : α) : ifP False a b = b := ifP_f id
end
section
variable (n : Nat)
@[simp] theorem cl_non : cl n .non = true := by unfold cl; rfl
@[simp] theorem cl_bl (b) : cl n (.bl b) = true := by unfold cl; rfl
@[simp] theorem cl_int (b) : cl n (.int b) = true := by unfold cl; rfl
@[simp] theorem cl_str (b) : cl n (.str b) = true := by unfold cl; rfl
@[simp] theorem cl_tup (b) : cl n (.tup b) = cls n b := by rw [cl]
@[simp] theorem cl_lst (b) : cl n (.lst b) = cls n b := by rw [cl]
@[simp] theorem cl_kst (b) : cl n (.kst b) = cls n b := by rw [cl]
@[simp] theorem cl_ref (b) : cl n (.ref b) = decide (b < n) := by rw [cl]
@[simp] theorem cls_nil : cls n [] = true := by rw [cls]
@[simp] theorem cls_cons (t ts) : cls n (t :: ts) = (cl n t && cls n ts) := by rw [cls]
@[simp] theorem clO_lst (b) : clO n (.lst b) = cls n b := rfl
theorem cls_all (ts : List T) (h : ∀ t ∈ ts, cl n t = true) : cls n ts = true := by
  induction ts with
  | nil => simp
  | cons t ts ih => simp [h t List.mem_cons_self, ih fun t m => h t (List.mem_cons_of_mem _ m)]
@[simp] theorem cls_ints (xs : List Int) : cls n (xs.map T.int) = true := cls_all n _ fun t m => by
  obtain ⟨i, _, rfl⟩ := List.mem_map.mp m
  simp
@[simp] theorem cls_strs (xs : List Str) : cls n (xs.map T.str) = true := cls_all n _ fun t m => by
  obtain ⟨i, _, rfl⟩ := List.mem_map.mp m
  simp
end
@[simp] theorem thaw_int (n fz i S) : thaw n fz (.int i) S = .int i := by unfold thaw; split <;> rfl
@[simp] theorem thaw_str (n fz i S) : thaw n fz (.str i) S = .str i := by unfold thaw; split <;> rfl
@[simp] theorem thaw_bl (n fz i S) : thaw n fz (.bl i) S = .bl i := by unfold thaw; split <;> rfl
@[simp] theorem thaw_non (n fz S) : thaw n fz .non S = .non := by unfold thaw; split <;> rfl
@[simp] theorem thaw_tup (n fz i S) : thaw n fz (.tup i) S = .tup i := by unfold thaw; split <;> rfl
@[simp] theorem thaw_lst (n fz i S) : thaw n fz (.lst i) S = .lst i := by unfold thaw; split <;> rfl
@[simp] theorem thaw_kst (n fz i S) : thaw n fz (.kst i) S = .kst i := by unfold thaw; split <;> rfl
def Ok {α : Type} (r : R α) (Q : α → Sto → Prop) : Prop := match r with
  | .ok a S => Q a S
  | _ => False
section
variable {α β : Type}
@[simp] theorem Ok_ok (a : α) (S : Sto) (Q : α → Sto → Prop) : Ok (.ok a S) Q = Q a S := id rfl
@[simp] theorem Ok_bad (Q : α → Sto → Prop) : Ok (.bad) Q = False := id rfl
theorem Ok_bind (r : R α) (f : α → Sto → R β) (Q : β → Sto → Prop) : Ok (r.bind f) Q = Ok r fun a S => Ok (f a S) Q := by cases r <;> rfl
theorem Ok_noErr (r : R α) (Q : α → Sto → Prop) : Ok (noErr r) Q = Ok r Q := by cases r <;> rfl
theorem Ok_if (c : Prop) [Decidable c] (a b : R α) (Q : α → Sto → Prop) : Ok (if c then a else b) Q = if c then Ok a Q else Ok b Q := by split <;> rfl
theorem Ok.mono {r : R α} {Q Q' : α → Sto → Prop} (h : Ok r Q) (i : ∀ a S, Q a S → Q' a S) : Ok r Q' := by
  cases r with
  | ok a S => exact i a S h
  | err x S => exact h
  | bad => exact h
theorem Ok.get {r : R α} {Q : α → Sto → Prop} (h : Ok r Q) : ∃ a S, r = .ok a S ∧ Q a S := by
  cases r with
  | ok a S => exact ⟨a, S, rfl, h⟩
  | err x S => exact h.elim
  | bad => exact h.elim
theorem Ok.of {r : R α} {Q : α → Sto → Prop} {a : α} {S : Sto} (e : r = .ok a S) (h : Q a S) : Ok r Q := by rw [e]; exact h
end
def endQ (Q : T → Sto → Prop) : Fl → Sto → Prop := fun f S => match f with
  | .nx _ => Q .non S
  | .rt t => Q t S
  | _ => False
theorem ok_run {N : Nat} {b : Env → Sto → R Fl} {ts : List T} {S : Sto} {Q : T → Sto → Prop} (h : Ok (b (ts.map some ++ List.replicate (N - ts.length) none) S) (endQ Q)) : Ok (runF N b ts S) Q := by
  unfold runF
  rw [Ok_bind, Ok_noErr]
  refine h.mono fun f S1 q => ?_
  cases f with
  | nx τ => exact q
  | rt t => exact q
  | bk τ => exact q
  | ct τ => exact q
theorem ok_frame0 {F : List T → Sto → R T} {ts : List T} {S : Sto} {Q : T → Sto → Prop} (hc : cls 0 ts = true) (h : Ok (F ts []) fun t S1 => cl 0 (thaw 0 true t S1) = true ∧ Q (thaw 0 true t S1) S) : Ok (frame 0 true F ts S) Q := by
  unfold frame
  rw [ifP_t ⟨Nat.zero_le _, hc, rfl⟩]
  obtain ⟨t, S1, e, q1, q2⟩ := h.get
  have e : F ts (S.take 0) = .ok t S1 := e
  rw [e]
  show Ok (ifP (0 ≤ S1.length ∧ (S1.take 0).all (clO 0) = true ∧ cl 0 (thaw 0 true t S1) = true) (.ok (thaw 0 true t S1) (S1.take 0 ++ S.drop 0)) .bad) Q
  rw [ifP_t ⟨Nat.zero_le _, rfl, q1⟩]
  exact q2
theorem ok_frame1 {F : List T → Sto → R T} {ts : List T} {o : O} {rest : Sto} {Q : T → Sto → Prop} (hc : cls 1 ts = true) (ho : clO 1 o = true) (h : Ok (F ts [o]) fun t S1 => ∃ o' g, S1 = o' :: g ∧ clO 1 o' = true ∧ cl 1 (thaw 1 true t S1) = true ∧ Q (thaw 1 true t S1) (o' :: rest)) : Ok (frame 1 true F ts (o :: rest)) Q := by
  unfold frame
  rw [ifP_t ⟨by simp, hc, by simpa using ho⟩]
  obtain ⟨t, S1, e, o', g, rfl, q0, q1, q2⟩ := h.get
  have e : F ts ((o :: rest).take 1) = .ok t (o' :: g) := e
  rw [e]
  show Ok (ifP (1 ≤ (o' :: g).length ∧ ((o' :: g).take 1).all (clO 1) = true ∧ cl 1 (thaw 1 true t (o' :: g)) = true) (.ok (thaw 1 true t (o' :: g)) ((o' :: g).take 1 ++ (o :: rest).drop 1)) .bad) Q
  rw [ifP_t ⟨by simp, by simpa using q0, q1⟩]
  exact q2
def forQ (I : Env → Sto → Prop) (Q : Fl → Sto → Prop) : Fl → Sto → Prop := fun f S => match f with
  | .nx τ => I τ S
  | .ct τ => I τ S
  | .bk τ => Q (.nx τ) S
  | .rt t => Q (.rt t) S
theorem ok_forGo {it : Its} {p : Pat} {b : Env → Sto → R Fl} {Q : Fl → Sto → Prop} (I : Nat → Env → Sto → Prop) (hchk : ∀ k τ S, I k τ S → it.chk S) : ∀ (ts : List T) (k : Nat) (τ : Env) (S : Sto),
    (∀ i t τ S, ts[i]? = some t → I (k + i) τ S → ∃ τ1, bindP p t τ = some τ1 ∧ Ok (b τ1 S) (forQ (I (k + i + 1)) Q)) → (∀ τ S, I (k + ts.length) τ S → Q (.nx τ) S) → I k τ S → Ok (sForGo it p b ts τ S) Q
  | [], k, τ, S, _, hq, h => by
    rw [sForGo, ifP_t (hchk _ _ _ h)]
    exact hq τ S h
  | t :: ts, k, τ, S, hs, hq, h => by
    obtain ⟨τ1, h1, h2⟩ := hs 0 t τ S rfl h
    rw [sForGo, ifP_t (hchk _ _ _ h), bound, h1]
    dsimp only
    rw [Ok_bind]
    have go : ∀ τ2 S2, I (k + 0 + 1) τ2 S2 → Ok (sForGo it p b ts τ2 S2) Q := fun τ2 S2 q => ok_forGo I hchk ts (k + 1) τ2 S2 (fun i t τ S e q => by
      have := hs (i + 1) t τ S (by simpa using e) (by rw [show k + (i + 1) = k + 1 + i by omega]; exact q)
      rw [show k + (i + 1) = k + 1 + i by omega] at this
      exact this) (fun τ S q => hq τ S (by rw [List.length_cons, show k + (ts.length + 1) = k + 1 + ts.length by omega]; exact q)) q
    refine h2.mono fun f S2 q => ?_
    cases f with
    | nx τ2 => exact go τ2 S2 q
    | ct τ2 => exact go τ2 S2 q
    | bk τ2 => exact q
    | rt t2 => exact q
/-- a for over what no one changes -/
theorem ok_for {ts : List T} {p : Pat} {b : Env → Sto → R Fl} {Q : Fl → Sto → Prop} {τ : Env} {S : Sto} (I : Nat → Env → Sto → Prop) (h0 : I 0 τ S)
    (hs : ∀ i t τ S, ts[i]? = some t → I i τ S → ∃ τ1, bindP p t τ = some τ1 ∧ Ok (b τ1 S) (forQ (I (i + 1)) Q)) (hq : ∀ τ S, I ts.length τ S → Q (.nx τ) S) : Ok (sForGo ⟨ts, []⟩ p b ts τ S) Q :=
  ok_forGo I (fun _ _ S _ => chk_nil ts S) ts 0 τ S (fun i t τ S e q => by rw [Nat.zero_add] at q ⊢; exact hs i t τ S e q) (fun τ S q => hq τ S (by rw [Nat.zero_add] at q; exact q)) h0
theorem ok_lcGo {it : Its} {p : Pat} {c : Env → Sto → R Bool} {b : Env → Sto → R T} {τ : Env} {Q : List T → Sto → Prop} (I : Nat → List T → Sto → Prop) (hchk : ∀ k acc S, I k acc S → it.chk S) : ∀ (ts : List T) (k : Nat) (acc : List T) (S : Sto),
    (∀ i t acc S, ts[i]? = some t → I (k + i) acc S → ∃ τ1, bindP p t τ = some τ1 ∧ Ok (c τ1 S) fun r S1 => if r = true then Ok (b τ1 S1) fun y S2 => acc.length < 100000 ∧ I (k + i + 1) (acc ++ [y]) S2 else I (k + i + 1) acc S1) →
    (∀ acc S, I (k + ts.length) acc S → Q acc S) → I k acc S → Ok (mLcGo it p c b τ ts acc S) Q
  | [], k, acc, S, _, hq, h => by
    rw [mLcGo, ifP_t (hchk _ _ _ h)]
    exact hq acc S h
  | t :: ts, k, acc, S, hs, hq, h => by
    obtain ⟨τ1, h1, h2⟩ := hs 0 t acc S rfl h
    rw [mLcGo, ifP_t (hchk _ _ _ h), bound, h1]
    dsimp only
    rw [Ok_bind, Ok_noErr]
    have go : ∀ acc2 S2, I (k + 0 + 1) acc2 S2 → Ok (mLcGo it p c b τ ts acc2 S2) Q := fun acc2 S2 q => ok_lcGo I hchk ts (k + 1) acc2 S2 (fun i t acc S e q => by
      have := hs (i + 1) t acc S (by simpa using e) (by rw [show k + (i + 1) = k + 1 + i by omega]; exact q)
      rw [show k + (i + 1) = k + 1 + i by omega] at this
      exact this) (fun acc S q => hq acc S (by rw [List.length_cons, show k + (ts.length + 1) = k + 1 + ts.length by omega]; exact q)) q
    refine h2.mono fun r S2 q => ?_
    cases r with
    | false =>
      rw [if_neg Bool.false_ne_true] at q ⊢
      exact go acc S2 q
    | true =>
      rw [if_pos rfl] at q ⊢
      rw [Ok_bind, Ok_noErr]
      refine q.mono fun y S3 q3 => ?_
      rw [if_pos q3.1]
      exact go _ S3 q3.2
theorem ok_lc {ts : List T} {p : Pat} {c : Env → Sto → R Bool} {b : Env → Sto → R T} {τ : Env} {S : Sto} {Q : List T → Sto → Prop} (I : Nat → List T → Sto → Prop) (h0 : I 0 [] S)
    (hs : ∀ i t acc S, ts[i]? = some t → I i acc S → ∃ τ1, bindP p t τ = some τ1 ∧ Ok (c τ1 S) fun r S1 => if r = true then Ok (b τ1 S1) fun y S2 => acc.length < 100000 ∧ I (i + 1) (acc ++ [y]) S2 else I (i + 1) acc S1)
    (hq : ∀ acc S, I ts.length acc S → Q acc S) : Ok (mLcGo ⟨ts, []⟩ p c b τ ts [] S) Q :=
  ok_lcGo I (fun _ _ S _ => chk_nil ts S) ts 0 [] S (fun i t acc S e q => by rw [Nat.zero_add] at q ⊢; exact hs i t acc S e q) (fun acc S q => hq acc S (by rw [Nat.zero_add] at q; exact q)) h0
/-- tests that hold of some items, an element that is a function of the item -/
theorem lc_pure {ts0 : List T} {p : Pat} {c : Env → Sto → R Bool} {b : Env → Sto → R T} {τ : Env} {S : Sto} (f : T → Bool) (g : T → T) : ∀ (ts acc : List T), acc.length + ts.length ≤ 100000 →
    (∀ t ∈ ts, ∃ τ1, bindP p t τ = some τ1 ∧ c τ1 S = .ok (f t) S ∧ (f t = true → b τ1 S = .ok (g t) S)) → mLcGo ⟨ts0, []⟩ p c b τ ts acc S = .ok (acc ++ (ts.filter f).map g) S
  | [], acc, _, _ => by rw [mLcGo, ifP_t (chk_nil _ _)]; simp
  | t :: ts, acc, hl, hs => by
    obtain ⟨τ1, h1, h2, h3⟩ := hs t List.mem_cons_self
    rw [List.length_cons] at hl
    rw [mLcGo, ifP_t (chk_nil _ _), bound, h1]
    dsimp only
    rw [h2, ev_noErr, ev_ok]
    cases hf : f t with
    | true =>
      rw [if_pos rfl, h3 hf, ev_noErr, ev_ok, if_pos (by omega), lc_pure f g ts (acc ++ [g t]) (by simp; omega) fun t m => hs t (List.mem_cons_of_mem _ m)]
      simp [hf]
    | false =>
      rw [if_neg Bool.false_ne_true, lc_pure f g ts acc (by omega) fun t m => hs t (List.mem_cons_of_mem _ m)]
      simp [hf]
theorem lc_map {ts0 : List T} {p : Pat} {b : Env → Sto → R T} {τ : Env} {S : Sto} (g : T → T) (ts : List T) (hl : ts.length ≤ 100000)
    (hs : ∀ t ∈ ts, ∃ τ1, bindP p t τ = some τ1 ∧ b τ1 S = .ok (g t) S) : mLcGo ⟨ts0, []⟩ p mTrue b τ ts [] S = .ok (ts.map g) S := by
  rw [lc_pure (fun _ => true) g ts [] (by simpa using hl) fun t m => by
    obtain ⟨τ1, h1, h2⟩ := hs t m
    exact ⟨τ1, h1, rfl, fun _ => h2⟩]
  rw [List.filter_eq_self.mpr (fun _ _ => rfl), List.nil_append]
theorem rangeT_at {lo : Int} {n i : Nat} {t : T} (h : (rangeT lo n)[i]? = some t) : i < n ∧ t = .int (lo + i) := by
  unfold rangeT at h
  rw [List.getElem?_map] at h
  obtain ⟨c, hc, rfl⟩ := Option.map_eq_some_iff.mp h
  obtain ⟨hi, hci⟩ := List.getElem?_eq_some_iff.mp hc
  rw [List.getElem_range] at hci
  rw [List.length_range] at hi
  exact ⟨hi, by rw [hci]⟩
@[simp] theorem rangeT_length (lo : Int) (n : Nat) : (rangeT lo n).length = n := by simp [rangeT]
@[simp] theorem bindP_nm (i : Nat) (t : T) (τ : Env) : bindP (.nm i) t τ = some (τ.set i (some t)) := by rw [bindP]
theorem range1_ev (j : Int) (S : Sto) (h : -4611686018427387904 ≤ j ∧ j < 4611686018427387904) : fRange1 [.int j] S = .ok ⟨rangeT 0 j.toNat, []⟩ S := by
  show (if (decide (-(2 ^ 62) ≤ j) && decide (j < 2 ^ 62)) = true then R.ok (⟨rangeT 0 j.toNat, []⟩ : Its) S else .bad) = _
  rw [if_pos (by simp only [Bool.and_eq_true, decide_eq_true_eq]; omega)]
end Fx
namespace Fx
open PySem PySem.Spec PyProof.Rows L2
noncomputable def mLc2Go (it : Its) (p : Pat) (c : Env → Sto → R Bool) (m1 : Env → Sto → R Its) (p1 : Pat) (c1 : Env → Sto → R Bool) (b : Env → Sto → R T) (vs1 : List Nat) (τ : Env) : List T → List T → Sto → R (List T)
  | [], acc, S => ifP (it.chk S) (.ok acc S) .bad
  | t :: ts, acc, S => ifP (it.chk S) (bound p t τ fun τ1 => (noErr (c τ1 S)).bind fun k S1 => if k = true then (noErr (m1 τ1 S1)).bind fun it1 S2 => (mLcGo it1 p1 c1 b (wipeT τ1 vs1) it1.ts acc S2).bind fun acc2 S3 => mLc2Go it p c m1 p1 c1 b vs1 τ ts acc2 S3 else mLc2Go it p c m1 p1 c1 b vs1 τ ts acc S1) .bad
noncomputable def mLc2 (fz : Bool) (vs vs1 : List Nat) (m : Env → Sto → R Its) (p : Pat) (c : Env → Sto → R Bool) (m1 : Env → Sto → R Its) (p1 : Pat) (c1 : Env → Sto → R Bool) (b : Env → Sto → R T) : Env → Sto → R T := fun τ S => (m τ S).bind fun it S1 => (mLc2Go it p c m1 p1 c1 b vs1 (wipeT τ vs) it.ts [] S1).bind fun acc S2 => newL fz acc S2
theorem ExtW.set {K : PySem.W.Frag} {ρ ρ' : Wd} {H H' : Hp} {D : Addr} {o : HO} (e : ExtW ρ H ρ' H') (hD : D ∈ ρ.av) : ExtW ρ H ρ' (upd H' D o) := ⟨e.pre, e.fresh, fun a u h n => by
  rw [upd_ne (show a ≠ D from fun z => n (by rw [z]; exact hD))]
  exact e.keep a u h n⟩
theorem REnv.grow {K : PySem.W.Frag} {ρ : Wd} {H : Hp} {σ : L2.St} {τ : Env} {D : Addr} {o : HO} (h : REnv K ρ H σ τ) (hD : D ∈ ρ.out) : REnv K ρ (upd H D o) σ τ := ⟨h.len, fun i t q => by
  obtain ⟨v, h1, h2⟩ := h.at_ i t q
  exact ⟨v, h1, h2.grow hD⟩⟩
@[simp] theorem ev_lc2 (fz vs vs1 m p c m1 p1 c1 b) (τ : Env) (S : Sto) : mLc2 fz vs vs1 m p c m1 p1 c1 b τ S = (m τ S).bind fun it S1 => (mLc2Go it p c m1 p1 c1 b vs1 (wipeT τ vs) it.ts [] S1).bind fun acc S2 => newL fz acc S2 := id rfl
end Fx
namespace Fx
open PySem PySem.Spec PyProof.Rows L2
def fTupRev (t : T) (S : Sto) : R T := match lstOf S t with
  | some ts => .ok (.tup ts.reverse) S
  | none => .bad
@[simp] theorem ev_tupRev (ts : List T) (S : Sto) : fTupRev (.lst ts) S = .ok (.tup ts.reverse) S := id rfl
theorem str_ext {a b : Str} (h : a.cps.toList = b.cps.toList) : a = b := by
  cases a
  cases b
  congr 1
  exact Array.ext' h
end Fx
namespace Fx
open PySem PySem.Spec PyProof.Rows L2
mutual
def thawD (n : Nat) (S : Sto) : Nat → T → T
  | 0, t => t
  | d + 1, .ref i => match S[i]? with
    | some (.lst us) => if n ≤ i then .lst (us.map (thawD n S d)) else .ref i
    | _ => .ref i
  | d + 1, .lst us => .lst (us.map (thawD n S d))
  | d + 1, .tup us => .tup (us.map (thawD n S d))
  | _ + 1, t => t
end
noncomputable def frameD (n : Nat) (F : List T → Sto → R T) (ts : List T) (S : Sto) : R T :=
  ifP (n ≤ S.length ∧ cls n ts = true ∧ (S.take n).all (clO n) = true) (match F ts (S.take n) with
    | .ok t S1 => ifP (n ≤ S1.length ∧ (S1.take n).all (clO n) = true ∧ cl n (thawD n S1 4 t) = true) (.ok (thawD n S1 4 t) (S1.take n ++ S.drop n)) .bad
    | _ => .bad) .bad
section
variable {K : PySem.W.Frag} {ρ ρ' : Wd} {H H' : Hp} {S S1 : Sto} {n : Nat}
theorem FT.toB (B : ∀ a, a ∉ ρ'.av → a ∉ ρ.av) {a : Addr} {xs : List V} (h : FT K ρ' H a xs) : FT K ρ H a xs := by
  rcases h with ⟨h, q⟩ | h
  · exact .inl ⟨h, B a q⟩
  · exact .inr h
theorem cls_mem {ts : List T} (h : cls n ts = true) : ∀ t ∈ ts, cl n t = true := by
  induction ts with
  | nil => intro t m; cases m
  | cons t ts ih =>
    rw [cls_cons, Bool.and_eq_true] at h
    intro u m
    rcases List.mem_cons.mp m with rfl | m
    · exact h.1
    · exact ih h.2 u m
theorem Reps.mapT {g : T → T} : ∀ {vs : List V} {ts : List T}, Reps K ρ' H' vs ts → (∀ v t, t ∈ ts → Rep K ρ' H' v t → Rep K ρ H' v (g t)) → Reps K ρ H' vs (ts.map g)
  | _, _, .nil, _ => .nil
  | _, _, .cons r rs, h => .cons (h _ _ List.mem_cons_self r) (Reps.mapT rs fun v t m r => h v t (List.mem_cons_of_mem _ m) r)
theorem thawD_rep (s : Sta K ρ H S) (e : Ext (ρ.part n) H ρ' H') (hn : n ≤ S.length) (s' : Sta K ρ' H' S1) (B : ∀ a, a ∉ ρ'.av → a ∉ ρ.av) (A : ∀ (i : Nat) (a : Addr), i < n → ρ'.at_[i]? = some a → ρ.at_[i]? = some a) : ∀ (d : Nat) {v : V} {t : T}, cl n (thawD n S1 d t) = true → Rep K ρ' H' v t → Rep K ρ H' v (thawD n S1 d t)
  | 0, v, t, c, r => by
    unfold thawD at c ⊢
    exact r.toC A B c
  | d + 1, v, t, c, r => by
    have go : ∀ (us : List T) {xs : List V}, cls n (us.map (thawD n S1 d)) = true → Reps K ρ' H' xs us → Reps K ρ H' xs (us.map (thawD n S1 d)) := fun us xs cc rs => rs.mapT fun v t m r => thawD_rep s e hn s' B A d (cls_mem cc _ (List.mem_map_of_mem m)) r
    cases t with
    | ref i =>
      unfold thawD at c ⊢
      split at c
      · rename_i us hu
        by_cases hi : n ≤ i
        · rw [if_pos hi] at c ⊢
          obtain ⟨a, xs, rfl, ha, hx, rx⟩ := lstD_ref s' r hu
          rw [cl_lst] at c
          refine .lst hx (fun q => ?_) (go us c rx)
          have hm : a ∈ ρ'.at_ := List.mem_of_getElem? ha
          have q := e.old a hm (by rw [part_av]; exact q)
          obtain ⟨j, hj⟩ := List.mem_iff_getElem?.mp q
          obtain ⟨hjn, _⟩ := take_at (show (ρ.at_.take n)[j]? = some a from hj)
          have := nd_at (List.nodup_append.mp s'.nd).1 (e.get hj) ha
          omega
        · rw [if_neg hi] at c ⊢
          exact r.toC A B c
      · exact r.toC A B c
    | lst us =>
      unfold thawD at c ⊢
      rw [cl_lst] at c
      cases r with
      | lst h na rs => exact .lst h (B _ na) (go us c rs)
    | tup us =>
      unfold thawD at c ⊢
      rw [cl_tup] at c
      cases r with
      | tup h rs => exact .tup (h.toB B) (go us c rs)
    | _ =>
      unfold thawD at c ⊢
      exact r.toC A B c
theorem frameD_sp {m : Nat} {F : List T → Sto → R T} {vs : List V} {Q : VK} {E : XK} (h : spM K m (frameD n F) vs H Q E) : spM K m F vs H Q E := by
  obtain ⟨ρ, S, ts, l, s, r, h⟩ := h
  unfold frameD at h
  obtain ⟨⟨h1, h2, h3⟩, h⟩ := h.ifP
  refine ⟨ρ.part n, S.take n, ts, l, s.part h1 h3, r.toC (fun i a hi q => ?_) (fun b q => by rw [part_av]; exact q) h2, ?_⟩
  · show (ρ.at_.take n)[i]? = some a
    rw [List.getElem?_take, if_pos hi]
    exact q
  · cases hF : F ts (S.take n) with
    | bad => rw [hF] at h; exact h.elim
    | err x S1 => rw [hF] at h; exact h.elim
    | ok t S1 =>
      rw [hF] at h
      obtain ⟨⟨q1, q2, q3⟩, h⟩ := Post.ifP h
      intro ρ' H' e s' v rv
      obtain ⟨A, B, C, s2⟩ := part_back s h1 e s' q1 q2
      exact h ρ H' C s2 v (thawD_rep s e h1 s' B A 4 q3 rv)
end
theorem FnOk.framedD {P : Program} {w : World} {K : PySem.W.Frag} {mg : Str → Option Value} {base : Heap} {k : Nat} {f : Addr} {fd : FuncData} {ps : List Str} {m : Nat} {F : List T → Sto → R T} (G : FnOk P w K mg base CX0 k f fd ps (spM K m F)) (n : Nat) : FnOk P w K mg base CX0 k f fd ps (spM K m (frameD n F)) :=
  G.imp fun _ _ _ _ h => frameD_sp h
theorem ok_frameD0 {F : List T → Sto → R T} {ts : List T} {S : Sto} {Q : T → Sto → Prop} (hc : cls 0 ts = true) (h : Ok (F ts []) fun t S1 => cl 0 (thawD 0 S1 4 t) = true ∧ Q (thawD 0 S1 4 t) S) : Ok (frameD 0 F ts S) Q := by
  unfold frameD
  rw [ifP_t ⟨Nat.zero_le _, hc, rfl⟩]
  obtain ⟨t, S1, e, q1, q2⟩ := h.get
  have e : F ts (S.take 0) = .ok t S1 := e
  rw [e]
  show Ok (ifP (0 ≤ S1.length ∧ (S1.take 0).all (clO 0) = true ∧ cl 0 (thawD 0 S1 4 t) = true) (.ok (thawD 0 S1 4 t) (S1.take 0 ++ S.drop 0)) .bad) Q
  rw [ifP_t ⟨Nat.zero_le _, rfl, q1⟩]
  exact q2
def isTup (x : T) (_ : Sto) : Bool := match x with
  | .tup _ => true
  | _ => false
@[simp] theorem ev_isTup (ts : List T) (S : Sto) : isTup (.tup ts) S = true := rfl
end Fx
namespace Fx
open PySem PySem.Spec PyProof.Rows L2
end Fx
set_option maxHeartbeats 2000000
namespace Fx
open PySem PySem.Spec PyProof.Rows L2 L2H
structure FnHot (P : Program) (w : World) (K : PySem.W.Frag) (mg : Str → Option Value) (base : Heap) (k : Nat) (f : Addr) (fd : FuncData) (ps : List Str) (sp : Sp) : Prop where
  len : ∀ vs H Q E, sp vs H Q E → vs.length = ps.length
  run : ∀ (A : Around) (outer : List PySem.Env) (s : Shared) (H : Hp) (args : Args) (us : List Value) (vs : List V) (Q : VK) (E : XK), RoomH k A → Env0 P w K mg base A outer s H → BindsTo s fd args (ps.zip us) → Vals vs us → sp vs H Q E →
    codeAny (model P w) A (.call (.ref f) args) (CR CX0 outer P w H s Q E) s
/-- its body's context -/
def cxHot (P : Program) (w : World) (K : PySem.W.Frag) (mg : Str → Option Value) (base : Heap) (N : List Str) (qual : Str) (scope : Scope) (f : Addr) (cd : Value) (A : Around) (outer : List PySem.Env) (s : Shared) (H : Hp) (E : XK) : Cx :=
  { (cxOf CX0 P w K mg base N qual scope f cd A outer s H E).nox with calm := false }
def cool (A : Around) : Around := { A with handled := none }
section
variable {P : Program} {w : World} {K : PySem.W.Frag} {mg : Str → Option Value} {base : Heap}
theorem inv_hot {N : List Str} {qual : Str} {scope : Scope} {f : Addr} {cd : Value} {A : Around} {outer : List PySem.Env} {s s1 : Shared} {H : Hp} {E : XK} {σ : L2.St}
    (I : Inv (cxOf CX0 P w K mg base N qual scope f cd (cool A) outer s H E) [] σ H s1) (hf : A.frames = some outer) : Inv (cxHot P w K mg base N qual scope f cd A outer s H E) [] σ H s1 :=
  have ok := I.ok
  ⟨⟨ok.mod, ok.kind, ok.glob, ok.blt, ok.above, ok.inj, ok.has, ok.cab, (fun z => absurd (show false = true from z) Bool.false_ne_true), Around.frames_deeper hf, ok.stk, ok.exf, ok.bs, ok.bsz, ok.noex, ok.exfs, ok.funs, ok.frf⟩,
    I.os, I.bare, I.base, I.loc, I.cell, I.free, I.freeC, I.pin, I.hok, I.len⟩
theorem fn_hot {x qual : Str} {st : Stmt} {f : Addr} {fd : FuncData} {N ps : List Str} {k : Nat} {b : Env → Sto → R Fl} (F : L2.Fun K x qual st f fd) (S : FnScope N ps (defScope st))
    (hb : ∀ (cdv : Value) (A : Around) (outer : List PySem.Env) (s : Shared) (H : Hp) (E : XK), RoomH k (A.deeper (envOfC qual (defScope st) s.heap.objs.size f cdv)) → PSs (cxHot P w K mg base N qual (defScope st) f cdv A outer s H E) (defBody st) (tS K E0 b)) :
    FnHot P w K mg base (k + 1) f fd ps (spM K ps.length (runF N.length b)) := by
  obtain ⟨oc, od, kV, doc, pm, an, cdv, ct, osl, rfl, lk, hcd⟩ := F.ex
  refine ⟨fun vs H Q E ⟨ρ, S, ts, l, s, r, h⟩ => by rw [r.length, l], fun A outer s H args us vs Q E hr e0 hbi r hsp => ?_⟩
  obtain ⟨ρ, S0, ts, l, st0, rts, h⟩ := hsp
  have hl : vs.length = ps.length := by rw [rts.length, l]
  have KX : K.In s.heap := e0.mod.kin.keeps fun b o e => (e0.bs b o e).1
  have lim : s.heap.NoLimit := e0.mod.nolimit.keeps fun b o e => (e0.bs b o e).1
  have hkind : ∀ y ∈ ps.zip us, (defScope st).names.lookup y.1 = some .local ∨ ((defScope st).names.lookup y.1 = some .cell ∧ ((cellsFrom (s.heap.objs.size + 1) (defScope st).names []).lookup y.1).isSome = true) := fun ⟨n, v⟩ hy => by
    rcases S.par n (List.of_mem_zip hy).1 with q | q
    · exact .inl q
    · exact .inr ⟨q, PySem.W.cellsFrom_some _ _ _ (.inl q)⟩
  refine codeAny_call_function hr.depth (KX _ _ lk) rfl S.co S.gen rfl (PySem.W.codeRec_of KX hcd) (hbi _ _ _ _ ?_)
  refine wpAny_newFunctionEnv_cells S.kind hkind fun env he s1 y => ?_
  subst he
  refine ⟨lim.keeps y.toInCall.keep, codeAny_func ?_⟩
  have e1 : Env0 P w K mg base (cool A) outer s H := ⟨e0.frames, e0.mod, e0.bs, e0.bsz, e0.funs, e0.frf, e0.hok, e0.bare⟩
  have I := inv_hot (inv_start (CX := CX0) (E := E) S (rfl : (cool A).handled = none) e1 hl r y) e0.frames
  have hq : tS K E0 b { nx := fun _ H' => Q .non H', rt := Q } (start N vs) H := by
    refine ⟨ρ, _, S0, st0, reps_env rts, ?_⟩
    unfold runF at h
    refine h.at0 (Ext.refl _ _) fun ρ2 H2 f S2 x2 s2 q => ?_
    cases f with
    | nx τ => exact fun σ e => q ρ2 H2 x2 s2 _ .non
    | rt t => exact fun v rv => q ρ2 H2 x2 s2 v rv
    | bk τ => exact q.elim
    | ct τ => exact q.elim
  refine wpAny_mono ((hb cdv A outer s H E (hr.deeper _)).run [] s1 (start N vs) H _ I hq) (fun fl s' hs => ?_) fun e s' hs => False.elim hs
  have fin : ∀ {σ' : L2.St} {H' : Hp} {v : V} {u : Value}, Inv (cxHot P w K mg base N qual (defScope st) f cdv A outer s H E) [] σ' H' s' → RelV v u → Q v H' → CE outer P w H s Q u s' :=
    fun {σ' H' v u} J rv q => ⟨v, H', J.os, J.bare, J.base, J.hok, rv, q⟩
  cases fl with
  | ret u =>
    obtain ⟨v, σ', H', J, rv, q⟩ := hs
    exact fin J rv q
  | next =>
    obtain ⟨σ', H', J, q⟩ := hs
    exact fin (v := V.non) (u := Value.none) J rfl q
  | brk =>
    obtain ⟨_, _, _, q⟩ := hs
    exact False.elim q
  | cont =>
    obtain ⟨_, _, _, q⟩ := hs
    exact False.elim q
theorem FnHot.imp {k : Nat} {f : Addr} {fd : FuncData} {ps : List Str} {sp sp' : Sp} (F : FnHot P w K mg base k f fd ps sp) (h : ∀ vs H Q E, sp' vs H Q E → sp vs H Q E) : FnHot P w K mg base k f fd ps sp' :=
  ⟨fun vs H Q E q => F.len vs H Q E (h _ _ _ _ q), fun A outer s H args us vs Q E hr he hb hv hs => F.run A outer s H args us vs Q E hr he hb hv (h _ _ _ _ hs)⟩
theorem FnHot.framed {k : Nat} {f : Addr} {fd : FuncData} {ps : List Str} {m : Nat} {F : List T → Sto → R T} (G : FnHot P w K mg base k f fd ps (spM K m F)) (n : Nat) (fz : Bool) : FnHot P w K mg base k f fd ps (spM K m (frame n fz F)) :=
  G.imp fun _ _ _ _ h => frame_sp h
end
section
variable {X : Cx} {E : XK} {k n : Nat} {f : Addr} {fd : FuncData} {ps : List Str} {F : List T → Sto → R T} {x : Str} {p pos : Pos} {e : Expr} {es : List Expr} {ms : Env → Sto → R (List T)}
theorem run_hot {sp : Sp} {pins : List (Addr × Obj)} {σ : L2.St} {H : Hp} {s : Shared} {Q : VK} {us : List Value} {vs : List V} (F : FnHot X.prog X.w X.K X.mg X.base k f fd ps sp) (hr : RoomH k X.A) (hb : Binds X.K fd ps [])
    (I : Inv X pins σ H s) (r : Vals vs us) (h : sp vs H Q E) : wpAny (model X.prog X.w) X.A (call (.ref f) us) (EP X pins σ Q) X.xe s := by
  have hl : us.length = ps.length := by rw [← r.length]; exact F.len _ _ _ _ h
  have b := hb s us I.kIn (by rw [List.append_nil]; exact hl)
  rw [List.append_nil] at b
  refine wpAny_call (codeAny_mono (F.run X.A X.stack s H ⟨us, []⟩ us vs Q E hr I.env0 b r h) fun r s' hq => ?_)
  cases r with
  | error e => exact False.elim hq
  | ok fl =>
    cases fl with
    | ret u => exact I.after hq
    | next => exact False.elim hq
    | brk => exact False.elim hq
    | cont => exact False.elim hq
/-- a call within an except suite, or within such a def -/
theorem x_callH (G : FnHot X.prog X.w X.K X.mg X.base k f fd ps (spM X.K n F)) (hr : RoomH k X.A) (hg : Gl X x) (hm : X.mg x = some (.ref f)) (hk : PySem.W.keepIn X.K (.ref f) = true) (hb : Binds X.K fd ps [])
    (ha : PA X (e :: es) (tA X.K E ms)) (hn : (e :: es).length = n := by rfl) (hdb : (x == ("__debug__" : Str)) = false := by decide) (he : starEach (e :: es) X.env = (false, eval e X.env) :: starEach es X.env := by rfl) (hpl : (backTo pos (starEach es X.env)).any (·.1) = false := by rfl) :
    PE X (.Call (.Name x p) (e :: es) [] pos) (tM X.K E (mFn (fun ts S => if ts.length = n then F ts S else .bad) ms)) := by
  refine ⟨fun pins s σ H Q I h => ?_⟩
  refine wpAny_Call_Name_kw (ld_glob I hg hm ?_ hdb)
  obtain ⟨ρ, τ, S, st, en, h⟩ := h
  refine PySem.W.callWith_K (h₀ := X.base) I.ok.mod.kin hk (thn (ha.run pos pins s σ H (fun vs H1 => ∃ ρ1 S1 ts, ts.length = n ∧ Sta X.K ρ1 H1 S1 ∧ Reps X.K ρ1 H1 vs ts ∧ Post X.K E ρ1 H1 (F ts S1) (QE X.K Q)) I ⟨ρ, τ, S, st, en, h.step fun ρ1 H1 ts S1 e1 s1 h1 vs rs => by
    split at h1
    · rename_i hl
      exact ⟨ρ1, S1, ts, hl, s1, rs, h1⟩
    · exact h1.elim⟩) fun us s1 ⟨vs, H1, I1, r, q⟩ => ⟨I1.kIn, ?_⟩) he hpl
  exact run_hot (E := E) G hr hb I1 r q
end
end Fx
set_option maxHeartbeats 2000000
namespace Fx
open PySem PySem.Spec PyProof.Rows L2 L2H
/-- what the written part says of an error class at C -/
def excB (K : PySem.W.Frag) (C : Addr) : Bool :=
  (PySem.W.clsIn K C).isSome && (decide (PySem.W.findIn K (.ref C) "__getattribute__" = some (some (.builtin "BaseException.__getattribute__"))) && (decide (PySem.W.findIn K (.ref C) "__getattr__" = some none) &&
  (decide (PySem.W.subIn K (.ref C) (.type "BaseException") = some true) && (decide (PySem.W.findIn K (.ref C) "__class__" = some (some (.builtin "object.__class__"))) && (decide (PySem.W.specialIn K (.builtin "object.__class__") "__get__" = some (some (.builtin "getset_descriptor.__get__"))) &&
  (decide (PySem.W.takesIn K (.builtin "object.__class__") = some true) && (decide (PySem.W.mroIn K C (.type "object") = some true) && PySem.W.hasDictIn K C)))))))
structure ExcD (K : PySem.W.Frag) (C : Addr) : Prop where
  cl : (PySem.W.clsIn K C).isSome = true
  hg : PySem.W.findIn K (.ref C) "__getattribute__" = some (some (.builtin "BaseException.__getattribute__"))
  hk : PySem.W.findIn K (.ref C) "__getattr__" = some none
  hs : PySem.W.subIn K (.ref C) (.type "BaseException") = some true
  ha : PySem.W.findIn K (.ref C) "__class__" = some (some (.builtin "object.__class__"))
  hn : PySem.W.specialIn K (.builtin "object.__class__") "__get__" = some (some (.builtin "getset_descriptor.__get__"))
  ht : PySem.W.takesIn K (.builtin "object.__class__") = some true
  hm : PySem.W.mroIn K C (.type "object") = some true
  hd : PySem.W.hasDictIn K C = true
theorem excB_ok {K : PySem.W.Frag} {C : Addr} (h : excB K C = true) : ExcD K C := by
  unfold excB at h
  simp only [Bool.and_eq_true, decide_eq_true_eq] at h
  exact ⟨h.1, h.2.1, h.2.2.1, h.2.2.2.1, h.2.2.2.2.1, h.2.2.2.2.2.1, h.2.2.2.2.2.2.1, h.2.2.2.2.2.2.2.1, h.2.2.2.2.2.2.2.2⟩
/-- isinstance(e, D) of an error of the class named c: D's value is cD -/
def KitT (K : PySem.W.Frag) (c : Str) (cD : V) (b : Bool) : Prop := ∀ C, gaK K c = some C → ExcD K C ∧ ∃ cv : Value, (∀ u, RelV cD u → u = cv) ∧ PySem.W.kitOne K (.ref C) cv = some b
theorem kitT_ref {K : PySem.W.Frag} {c : Str} {C D : Addr} {b : Bool} (g : gaK K c = some C) (x : excB K C = true) (h : PySem.W.kitOne K (.ref C) (.ref D) = some b) : KitT K c (.ref D) b := fun C' g' => by
  rw [g] at g'
  cases g'
  exact ⟨excB_ok x, .ref D, fun u r => r, h⟩
theorem kitT_ty {K : PySem.W.Frag} {c : Str} {C : Addr} {n : String} {b : Bool} (g : gaK K c = some C) (x : excB K C = true) (h : PySem.W.kitOne K (.ref C) (.type n) = some b) : KitT K c (.ty n) b := fun C' g' => by
  rw [g] at g'
  cases g'
  exact ⟨excB_ok x, .type n, fun u r => r, h⟩
def fIsX (tab : Str → Option Bool) (t : T) (S : Sto) : R T := match t with
  | .exn c _ _ _ => match tab c with
    | some b => .ok (.bl b) S
    | none => .bad
  | _ => .bad
theorem exh_at {P : Program} {w : World} {H : Hp} {h : Heap} {a C : Addr} {d : Option Addr} (hok : HOk P w H h) (he : H a = some (exh a C d)) : ∃ (oe : Obj) (vs : Array Value), h.get? a = some oe ∧ Zc (.ref C) d oe ∧ oe.data = .fields vs := by
  have x : ObjOk P w H h a (.ext fun h => ∃ (oe : Obj) (vs : Array Value), h.get? a = some oe ∧ Zc (.ref C) d oe ∧ oe.data = .fields vs) := hok a _ he
  exact x.1
section
variable {X : Cx} {E : XK} {e : Expr} {m : Env → Sto → R T}
theorem exh_inst {pins : List (Addr × Obj)} {σ : L2.St} {H : Hp} {s : Shared} {ρ : Wd} {a C : Addr} {d : Option Addr} {own : Bool} {ns : List Str} {xs : List V} (I : Inv X pins σ H s) (he : H a = some (exh a C d)) (hx : XD ρ H d own ns xs) :
    ∃ oe od, PySem.W.InstAt s.heap a oe C od ∧ ∀ n v, (ns.zip xs).lookup n = some v → ∃ od' u, od = some od' ∧ PySem.W.lookIn n od' = some (some u) ∧ RelV v u := by
  obtain ⟨oe, vs, h1, ⟨h2, h3⟩, h4⟩ := exh_at I.hok he
  cases d with
  | none =>
    obtain ⟨_, rfl, rfl⟩ := hx
    exact ⟨oe, none, ⟨h1, h2, by unfold PySem.W.notCls; rw [h4] <;> rfl, by rw [h3] <;> trivial⟩, fun n v z => by cases z⟩
  | some dd =>
    obtain ⟨_, hd, _, _⟩ := hx
    obtain ⟨mA, hns, hr⟩ := (I.hok dd _ hd : ObjOk X.prog X.w H s.heap dd (.xd (ns.zip xs)))
    obtain ⟨od, ho, hl⟩ := lookIn_ns hns
    refine ⟨oe, some od, ⟨h1, h2, by unfold PySem.W.notCls; rw [h4] <;> rfl, by rw [h3]; exact ho⟩, fun n v z => ?_⟩
    obtain ⟨u, hu, ru⟩ := RelO.some_of (v := v) (o := mA n) (by rw [← z]; exact hr n)
    exact ⟨od, u, rfl, by rw [hl, hu], ru⟩
def rIsX (K : PySem.W.Frag) : List V → Hp → VK → Prop := fun xs H Q => ∃ (a C : Addr) (d : Option Addr) (ρ : Wd) (own : Bool) (ns : List Str) (ys : List V) (c : V) (cv : Value) (b : Bool), xs = [.ref a, c] ∧ H a = some (exh a C d) ∧ XD ρ H d own ns ys ∧ ExcD K C ∧ (∀ u, RelV c u → u = cv) ∧ PySem.W.kitOne K (.ref C) cv = some b ∧ Q (.bl b) H
theorem call_isX : CallR X (.builtin "isinstance") (rIsX X.K) := by
  intro pins s σ H xs us Q I r h
  obtain ⟨a, C, d, ρ, own, ns, ys, c, cv, b, rfl, hx, hd, T, hcv, e, q⟩ := h
  obtain ⟨u, w', rfl, ru, rw'⟩ := vals2 r
  obtain rfl : u = Value.ref a := ru
  have ec := hcv _ rw'
  subst ec
  obtain ⟨oe, od, J, _⟩ := exh_inst I hx hd
  exact PySem.W.kia_one (PySem.W.kitx_exc T.cl T.hg T.hk T.hs T.ha T.hn T.ht T.hm) I.kIn J e (fun z => nomatch z) fun tk => ⟨.bl b, H, I.kept (t' := tk) fun _ _ z => z, rfl, q⟩
theorem x_isX {tab : Str → Option Bool} {dn : Expr} {cD : V} {p pos : Pos} (hg : Gl X "isinstance") (hm : X.mg "isinstance" = none) (hv : bootBuiltins "isinstance" = some (.builtin "isinstance")) (he : PE X e (tM X.K E m)) (hD : PE X dn (tC cD)) (ht : ∀ c b, tab c = some b → KitT X.K c cD b)
    (h1 : starEach [e, dn] X.env = (false, eval e X.env) :: starEach [dn] X.env := by rfl) (h2 : starEach [dn] X.env = (false, eval dn X.env) :: starEach [] X.env := by rfl) (hpl : (backTo pos (starEach [dn] X.env)).any (·.1) = false := by rfl) :
    PE X (.Call (.Name "isinstance" p) [e, dn] [] pos) (tM X.K E (mUn (fIsX tab) m)) :=
  PE.of (pe_callB call_isX hg hm hv (pa_cons he (pa_cons hD pa_nil h2) h1) (by decide) (by decide) h1 hpl) fun σ H Q ⟨ρ, τ, S, s, en, q⟩ => ⟨ρ, τ, S, s, en, q.step fun ρ1 H1 t S1 e1 s1 q1 v rv => by
    unfold fIsX at q1
    split at q1
    · rename_i c own ns ts
      split at q1
      · rename_i b hb
        cases rv with
        | exn g h n x r =>
          obtain ⟨T, cv, z1, z2⟩ := ht c b hb _ g
          exact ⟨_, _, _, ρ1, own, ns, _, _, cv, b, rfl, h, x, T, z1, z2, q1.ok s1 _ (.bl b)⟩
      · exact q1.elim
    · exact q1.elim⟩
end
end Fx
set_option maxHeartbeats 2000000
namespace Fx
open PySem PySem.Spec PyProof.Rows L2 L2H
def runFX (N : Nat) (b : Env → Sto → R Fl) (ts : List T) (S : Sto) : R T := (b (ts.map some ++ List.replicate (N - ts.length) none) S).bind fun f S1 => match f with
  | .nx _ => .ok .non S1
  | .rt t => .ok t S1
  | _ => .bad
section
variable {P : Program} {w : World} {K : PySem.W.Frag} {mg : Str → Option Value} {base : Heap}
theorem fn_okX {x qual : Str} {st : Stmt} {f : Addr} {fd : FuncData} {N ps : List Str} {k : Nat} {b : Env → Sto → R Fl} (F : L2.Fun K x qual st f fd) (S : FnScope N ps (defScope st))
    (hb : ∀ (cdv : Value) (A : Around) (outer : List PySem.Env) (s : Shared) (H : Hp) (E : XK), Room k (A.deeper (envOfC qual (defScope st) s.heap.objs.size f cdv)) →
      Takes (cxOf (L2.CX P w) P w K mg base N qual (defScope st) f cdv A outer s H E) (fun cls d _ H => E cls d H) →
      PassesOwn (model P w) (cxOf (L2.CX P w) P w K mg base N qual (defScope st) f cdv A outer s H E).A (cxOf (L2.CX P w) P w K mg base N qual (defScope st) f cdv A outer s H E).env (cxOf (L2.CX P w) P w K mg base N qual (defScope st) f cdv A outer s H E).xe →
      PSs (cxOf (L2.CX P w) P w K mg base N qual (defScope st) f cdv A outer s H E) (defBody st) (tS K E b)) :
    FnOk P w K mg base (L2.CX P w) (k + 1) f fd ps (spM K ps.length (runFX N.length b)) :=
  F.okX S (fun vs H Q E ⟨ρ, S, ts, l, s, r, h⟩ => by rw [r.length, l]) fun cdv A outer s H vs Q E hr ⟨ρ, S, ts, l, st, r, h⟩ => ⟨_, hb cdv A outer s H E hr (takes_of rfl rfl rfl rfl) (passes_of rfl), ρ, _, S, st, reps_env r, by
    unfold runFX at h
    refine h.step fun ρ2 H2 f S2 x2 s2 q => ?_
    cases f with
    | nx τ => exact fun σ e => q.ok s2 _ .non
    | rt t => exact fun v rv => q.ok s2 v rv
    | bk τ => exact q.elim
    | ct τ => exact q.elim⟩
end
section
variable {X : Cx} {E : XK} {k n : Nat} {f : Addr} {fd : FuncData} {ps : List Str} {F : List T → Sto → R T} {x : Str} {p pos : Pos} {e : Expr} {es : List Expr} {ms : Env → Sto → R (List T)}
theorem x_callX (G : FnOk X.prog X.w X.K X.mg X.base (L2.CX X.prog X.w) k f fd ps (spM X.K n F)) (tk : Takes X (fun cls d _ H => E cls d H)) (hr : Room k X.A) (hg : Gl X x) (hm : X.mg x = some (.ref f)) (hk : PySem.W.keepIn X.K (.ref f) = true) (hb : Binds X.K fd ps [])
    (ha : PA X (e :: es) (tA X.K E ms)) (hn : (e :: es).length = n := by rfl) (hdb : (x == ("__debug__" : Str)) = false := by decide) (he : starEach (e :: es) X.env = (false, eval e X.env) :: starEach es X.env := by rfl) (hpl : (backTo pos (starEach es X.env)).any (·.1) = false := by rfl) :
    PE X (.Call (.Name x p) (e :: es) [] pos) (tM X.K E (mFn (fun ts S => if ts.length = n then F ts S else .bad) ms)) :=
  PE.of (pe_call G hr hg hm hk hb .nil (passes_call tk fun _ _ _ _ h => h) ha hdb he hpl) fun σ H Q ⟨ρ, τ, S, s, e, h⟩ => ⟨ρ, τ, S, s, e, h.step fun ρ1 H1 ts S1 e1 s1 h1 vs rs => by
    split at h1
    · rename_i hl
      exact ⟨ρ1, S1, ts, hl, s1, by rw [List.append_nil]; exact rs, h1⟩
    · exact h1.elim⟩
/-- as an expression whose wish looks at the slots: within a try -/
theorem x_callW {W : WX} (G : FnOk X.prog X.w X.K X.mg X.base (L2.CX X.prog X.w) k f fd ps (spM X.K n F)) (tk : Takes X W) (hr : Room k X.A) (hg : Gl X x) (hm : X.mg x = some (.ref f)) (hk : PySem.W.keepIn X.K (.ref f) = true) (hb : Binds X.K fd ps [])
    (ha : ∀ E, PA X (e :: es) (tA X.K E ms)) (hn : (e :: es).length = n := by rfl) (hdb : (x == ("__debug__" : Str)) = false := by decide) (he : starEach (e :: es) X.env = (false, eval e X.env) :: starEach es X.env := by rfl) (hpl : (backTo pos (starEach es X.env)).any (·.1) = false := by rfl) :
    PE X (.Call (.Name x p) (e :: es) [] pos) (fun σ H Q => tM X.K (WE W σ) (mFn (fun ts S => if ts.length = n then F ts S else .bad) ms) σ H Q) :=
  PE.of (pe_callS (E := WE W) (t := fun σ H Q => tA X.K (WE W σ) ms σ H Q) G hr hg hm hk hb (fun σ => passAt tk σ) ⟨fun pos pins s σ H Q I h => (ha (WE W σ)).run pos pins s σ H Q I h⟩ hdb he hpl) fun σ H Q ⟨ρ, τ, S, s, e, h⟩ => ⟨ρ, τ, S, s, e, h.step fun ρ1 H1 ts S1 e1 s1 h1 vs rs => by
    split at h1
    · rename_i hl
      exact ⟨ρ1, S1, ts, hl, s1, rs, h1⟩
    · exact h1.elim⟩
end
noncomputable def frameX (n : Nat) (fz : Bool) (F : List T → Sto → R T) (ts : List T) (S : Sto) : R T :=
  ifP (n ≤ S.length ∧ cls n ts = true ∧ (S.take n).all (clO n) = true) (match F ts (S.take n) with
    | .ok t S1 => ifP (n ≤ S1.length ∧ (S1.take n).all (clO n) = true ∧ cl n (thaw n fz t S1) = true) (.ok (thaw n fz t S1) (S1.take n ++ S.drop n)) .bad
    | .err x S1 => ifP (n ≤ S1.length ∧ (S1.take n).all (clO n) = true ∧ cls n x.ts = true) (.err x (S1.take n ++ S.drop n)) .bad
    | .bad => .bad) .bad
section
variable {K : PySem.W.Frag} {n : Nat}
theorem frameX_sp {m : Nat} {fz : Bool} {F : List T → Sto → R T} {vs : List V} {H : Hp} {Q : VK} {E : XK} (h : spM K m (frameX n fz F) vs H Q E) : spM K m F vs H Q E := by
  obtain ⟨ρ, S, ts, l, s, r, h⟩ := h
  unfold frameX at h
  obtain ⟨⟨h1, h2, h3⟩, h⟩ := h.ifP
  refine ⟨ρ.part n, S.take n, ts, l, s.part h1 h3, r.toC (fun i a hi q => ?_) (fun b q => by rw [part_av]; exact q) h2, ?_⟩
  · show (ρ.at_.take n)[i]? = some a
    rw [List.getElem?_take, if_pos hi]
    exact q
  · cases hF : F ts (S.take n) with
    | bad => rw [hF] at h; exact h.elim
    | err x S1 =>
      rw [hF] at h
      obtain ⟨⟨q1, q2, q3⟩, h⟩ := Post.ifP h
      intro ρ' H' C d ws e s' g xd rs
      obtain ⟨A, B, C', s2⟩ := part_back s h1 e s' q1 q2
      exact h ρ H' C d ws C' s2 g (xd.mono fun b o z q => ⟨z, B _ q⟩) (rs.toC A B q3)
    | ok t S1 =>
      rw [hF] at h
      obtain ⟨⟨q1, q2, q3⟩, h⟩ := Post.ifP h
      intro ρ' H' e s' v rv
      obtain ⟨A, B, C, s2⟩ := part_back s h1 e s' q1 q2
      exact h ρ H' C s2 v (thaw_rep s e h1 s' B A q3 rv)
end
theorem FnOk.framedX {P : Program} {w : World} {K : PySem.W.Frag} {mg : Str → Option Value} {base : Heap} {CX : CXT} {k : Nat} {f : Addr} {fd : FuncData} {ps : List Str} {m : Nat} {F : List T → Sto → R T} (G : FnOk P w K mg base CX k f fd ps (spM K m F)) (n : Nat) (fz : Bool) : FnOk P w K mg base CX k f fd ps (spM K m (frameX n fz F)) :=
  G.imp fun _ _ _ _ h => frameX_sp h
end Fx
set_option maxHeartbeats 2000000
namespace Fx
open PySem PySem.Spec PyProof.Rows L2 L2H
theorem exh_ok {P : Program} {w : World} {H : Hp} {h : Heap} {a C : Addr} {d : Option Addr} {oe : Obj} {vs : Array Value} (e : h.get? a = some oe) (z : Zc (.ref C) d oe) (hd : oe.data = .fields vs) : ObjOk P w H h a (exh a C d) :=
  ⟨⟨oe, vs, e, z, hd⟩, ⟨oe, e⟩, fun _ _ ⟨o, v, q, r⟩ k => ⟨o, v, k o q, r⟩⟩
section
variable {X : Cx} {pins : List (Addr × Obj)} {σ : L2.St} {H : Hp} {s : Shared}
theorem inv_tell {a C : Addr} {d : Option Addr} {oe : Obj} {vs : Array Value} (I : Inv X pins σ H s) (na : H a = none) (he : s.heap.get? a = some oe) (hz : Zc (.ref C) d oe) (hd : oe.data = .fields vs) (n0 : X.s_0.heap.get? a = none) (nL : a ≠ X.env.locals) (np : ∀ p ∈ X.pn ++ pins, p.1 ≠ a) :
    Inv X pins σ (upd H a (exh a C d)) s where
  ok := I.ok
  os := I.os
  bare := I.bare
  base := ⟨I.base.keep, I.base.slot, fun b o e n hx => by rw [upd_ne (fun z => by rw [z, n0] at e; cases e)]; exact I.base.free b o e n hx, I.base.there,
    fun b xs e => by rw [upd_ne (ne_of_none (I.base.tups b xs e) na)]; exact I.base.tups b xs e, fun b o u e => by rw [upd_ne (ne_of_none (I.base.frzs b o u e) na)]; exact I.base.frzs b o u e,
    fun b ps e => by
      obtain ⟨m, q⟩ := I.base.tbls b ps e
      exact ⟨m, by rw [upd_ne (ne_of_none q na)]; exact q⟩⟩
  loc := I.loc
  cell := I.cell
  free := by rw [upd_ne (Ne.symm nL)]; exact I.free
  freeC := fun x c e => by
    rw [upd_ne (fun z => by
      obtain ⟨v, o, q1, q2⟩ := I.cell x c e
      rw [z, he] at q1
      cases q1
      rw [hd] at q2
      cases q2)]
    exact I.freeC x c e
  pin := fun p hp => by
    obtain ⟨q1, q2, q3⟩ := I.pin p hp
    exact ⟨q1, by rw [upd_ne (np p hp)]; exact q2, q3⟩
  hok := L2.HOk.laidN I.hok (fun _ _ z => z) na (exh_ok he hz hd)
  len := I.len
/-- the context of a suite that handles the error at a -/
theorem inv_suite0 (I : Inv X pins σ H s) (a : Addr) : Inv (X.suite a (X.pn ++ pins)) [] σ H s :=
  ⟨I.ok.suite _ _, I.os, I.bare, I.base, I.loc, I.cell, I.free, I.freeC, fun p hp => I.pin p (by rw [List.append_nil] at hp; exact hp), I.hok, I.len⟩
theorem inv_unsuite0 {a : Addr} {pn' : List (Addr × Obj)} (I : Inv (X.suite a (X.pn ++ pins)) pn' σ H s) (ok : X.Ok) : Inv X pins σ H s :=
  ⟨ok, I.os, I.bare, I.base, I.loc, I.cell, I.free, I.freeC, fun p hp => I.pin p (List.mem_append_left _ hp), I.hok, I.len⟩
end
/-- what the clause 'except x as n' wishes of an error of the body -/
def wAsT (K : PySem.W.Frag) (c : Value) (i : Nat) (ts : TS) (Wout : WX) (D : Ends) : WX := fun cls d σ H =>
  ∃ b, PySem.W.exmOne K cls c = some b ∧ (b = true → ∃ C, cls = .ref C ∧ ∀ a, H a = none → ts { nx := fun σ' H' => D.nx (σ'.set i none) H', rt := D.rt, bk := fun σ' H' => D.bk (σ'.set i none) H', ct := fun σ' H' => D.ct (σ'.set i none) H' } (σ.set i (some (.ref a))) (upd H a (exh a C d))) ∧
    (b = false → Wout cls d σ H)
section
variable {X : Cx} {x n : Str} {c : Value} {i : Nat} {body suite : List Stmt} {b₀ : Stmt} {np pos pos' : Pos} {tb : WX → TS} {ts : TS} {Wout : WX}
theorem ps_try_tell (hs : X.stack = X.env :: X.outer) (hf : X.env.frame = some X.env.locals) (hex : X.ex = []) (hN : X.N.Nodup) (hi : X.N[i]? = some n) (hln : X.env.kindOf n = some .local) (hc : Names X x c) (tk : Takes X Wout)
    (hb : ∀ (W : WX) (pn : List (Addr × Obj)) (xe : Value → Shared → Prop), Takes (X.tr pn xe) W → PassesOwn (model X.prog X.w) X.A X.env xe → PSs (X.tr pn xe) body (tb W))
    (hsu : ∀ (a : Addr) (pn : List (Addr × Obj)), PSs (X.suite a pn) (b₀ :: suite) ts) :
    PS X (.Try body [.ExceptHandler (some (.Name x np)) (some n) (b₀ :: suite) pos'] [] [] pos) (fun D σ H => tb (wAsT X.K c i ts Wout D) D σ H) := by
  refine ⟨fun pins s σ H D I h => ?_⟩
  have ok := I.ok
  have hfr : X.A.frames = some (X.env :: X.outer) := by rw [ok.frames, hs]
  have hloc : Loc X.env.scope n := .inl hln
  refine wpAny_Try_except ?_
  refine wpAny_mono ((hb (wAsT X.K c i ts Wout D) (X.pn ++ pins) (fun e s₁ => wpAny (model X.prog X.w) X.A (noteFrame e X.env) (fun _ s₂ => wpAny (model X.prog X.w) X.A (setFlight e none) (fun _ s₃ =>
    wpAny (model X.prog X.w) X.A (handleBy e X.env [.ExceptHandler (some (.Name x np)) (some n) (b₀ :: suite) pos']) (SP X pins D) X.xe s₃) X.xe s₂) X.xe s₁) (fun u s' xx => ?_) PassesOwn.looking).run [] s σ H D (I.toTry _) h) (fun f s1 hsp => ?_) (fun e s1 he => he)
  · obtain ⟨a, B, sI, pins', σ', H', cls, d, rfl, J', nb, up, sky, na, os, ag, b, hb1, hyes, hno⟩ := xx
    have J : Inv X pins σ' H' sI := J'.ofTry ok
    have sky' : Sky B (X.env :: X.outer) a (Zc cls d) X.env.locals s'.heap := by rw [← hs]; exact sky
    show wpAny (model X.prog X.w) X.A (noteFrame (.ref a) X.env) _ _ _
    refine Sky.land Zc.steady hfr hf sky' fun h3 fl3 up3 => ?_
    have J3 : Inv X pins σ' H' { s' with heap := h3 } := J.landed nb fl3.1 (up.trans up3) os ag
    obtain ⟨oe3, vs3, he3, hz3, hd3⟩ := fl3.there
    have nfr : a ∉ frs (X.env :: X.outer) := fun hm => by
      obtain ⟨_, o', e', hnf⟩ := fl3.2.2.1.mem hm
      rw [he3] at e'; cases e'
      exact hnf _ hd3
    have nL : a ≠ X.env.locals := fun z => nfr (List.mem_filterMap.mpr ⟨X.env, List.mem_cons_self, by rw [hf, z]⟩)
    have nF : a ∉ X.fs := fun hm => by
      obtain ⟨e, he, q⟩ := List.mem_filterMap.mp hm
      exact nfr (List.mem_filterMap.mpr ⟨e, List.mem_cons_of_mem _ he, q⟩)
    have nfr' : a ∉ frs X.stack := by rw [hs]; exact nfr
    have hBa : B.get? a = none := fl3.2.1
    have nI : sI.heap.get? a = none := by
      cases q : sI.heap.get? a with
      | none => rfl
      | some o => rw [nb a o q nfr'] at hBa; cases hBa
    have n0 : X.s_0.heap.get? a = none := by
      cases q : X.s_0.heap.get? a with
      | none => rfl
      | some o =>
        obtain ⟨o', q'⟩ := J.base.there a o q (by rw [hex]; exact fun z => nomatch z)
        rw [nI] at q'; cases q'
    have npr : ∀ p ∈ X.pn ++ pins, p.1 ≠ a := fun p hp z => by
      have q := (J.pin p hp).1
      rw [z, nI] at q; cases q
    have S3 := J3.suite he3 hd3 na nL nF
    refine wpAny_handleBy_cons (codeAny_handlers_test ?_) (by intro q; cases q)
    have LT : PySem.W.Looks (model X.prog X.w) h3 (typeOf (.ref a)) cls := fun A Q E s k q => wpAny_typeOf_ref (k _ _ he3) (by rw [hz3.1]; exact q)
    have LM := PySem.W.exm_one (M := model X.prog X.w) (J3.kIn) LT hb1
    have test : ∀ {Q : Value → Shared → Prop} {E : Value → Shared → Prop}, Q c { s' with heap := h3 } → wpAny (model X.prog X.w) (X.A.mark (some (.ref a))) (eval (.Name x np) X.env) Q E { s' with heap := h3 } := fun {Q E} q => by
      obtain ⟨hg, hdbg, hm | ⟨hm, hv, hnn⟩⟩ := hc
      · exact ld_glob (X := X.suite a ((a, oe3) :: (X.pn ++ pins))) S3 hg hm q hdbg
      · exact ld_blt (X := X.suite a ((a, oe3) :: (X.pn ++ pins))) S3 hg hm hv q hnn hdbg
    refine test (LM.here ?_)
    cases b with
    | true =>
      refine codeAny_handlers_suite_as ?_
      refine HandSPX.lands_againZ fl3 fun h4 fl4 up4 => ?_
      have J4 : Inv X pins σ' H' { s' with heap := h4 } := J.landed nb fl4.1 ((up.trans up3).trans up4) os ag
      obtain ⟨oe4, vs4, he4, hz4, hd4⟩ := fl4.there
      obtain ⟨C, rfl, hy⟩ := hyes rfl
      have S4 := inv_suite0 (inv_tell J4 na he4 hz4 hd4 n0 nL npr) a
      refine store_ok (X := X.suite a (X.pn ++ pins)) (v := .ref a) S4 hN hi hloc rfl (fun s5 S5 => ?_) (.inr hln)
      refine wpAny_mono ((hsu a (X.pn ++ pins)).run [] s5 _ _ _ S5 (hy a na)) (fun f s6 hsp => ?_) (fun _ _ z => False.elim z)
      have end_ : ∀ {σ6 : L2.St} {H6 : Hp} {Q : Shared → Prop}, Inv (X.suite a (X.pn ++ pins)) [] σ6 H6 s6 → (∀ s7, Inv X pins (σ6.set i none) H6 s7 → Q s7) →
          wpAny (model X.prog X.w) X.A (do bindName X.env n .none; unbindBehindTheSuite X.env n pos') (fun _ s7 => Q s7) X.xe s6 := fun {σ6 H6 Q} S6 hq => gone_ok (inv_unsuite0 S6 ok) hN hi hln hq
      cases f with
      | next =>
        obtain ⟨σ6, H6, S6, q6⟩ := hsp
        exact end_ S6 fun s7 J7 => ⟨_, _, J7, q6⟩
      | brk =>
        obtain ⟨σ6, H6, S6, q6⟩ := hsp
        exact end_ S6 fun s7 J7 => ⟨_, _, J7, q6⟩
      | cont =>
        obtain ⟨σ6, H6, S6, q6⟩ := hsp
        exact end_ S6 fun s7 J7 => ⟨_, _, J7, q6⟩
      | ret u =>
        obtain ⟨v6, σ6, H6, S6, r6, q6⟩ := hsp
        exact end_ S6 fun s7 J7 => ⟨_, _, _, J7, r6, q6⟩
    | false =>
      show wpAny _ X.A (handleBy (.ref a) X.env []) _ _ _
      refine wpAny_handleBy_nil ?_
      obtain ⟨k1, k2, k3, oe, vs, T, oT, ts', he, hz, hd, h1, hr⟩ := id fl3
      unfold PySem.passOn
      refine wpAny_bind (wpAny_field he hd h1 ?_)
      rw [if_neg (show ¬ ((Value.ref T == Value.none) = true) from by simp)]
      have fin : wpAny (model X.prog X.w) X.A (setFlight (.ref a) X.env.frame) (fun _ s4 => wpAny (model X.prog X.w) X.A (throw (.ref a) : Sem Flow) (SP X pins D) X.xe s4) X.xe { s' with heap := h3 } := by
        rw [hf]
        refine HandSPX.setFlight_upZ fl3 fun h4 hh4 up4 => wpAny_throw (tk _ _ ?_)
        exact ⟨a, B, sI, pins, σ', H', cls, d, rfl, J, nb, (up.trans up3).trans up4, .inr (.inr (by rw [hs]; exact hh4)), na, os, ag, hno rfl⟩
      first
        | exact wpAny_bind (wpAny_pure (wpAny_bind fin))
        | exact wpAny_bind fin
  · cases f with
    | next =>
      obtain ⟨σ', H', J', q⟩ := hsp
      exact wpAny_execs_nil ⟨σ', H', J'.ofTry ok, q⟩
    | brk =>
      obtain ⟨σ', H', J', q⟩ := hsp
      exact ⟨σ', H', J'.ofTry ok, q⟩
    | cont =>
      obtain ⟨σ', H', J', q⟩ := hsp
      exact ⟨σ', H', J'.ofTry ok, q⟩
    | ret u =>
      obtain ⟨v, σ', H', J', r, q⟩ := hsp
      exact ⟨v, σ', H', J'.ofTry ok, r, q⟩
end
def wipeFl (i : Nat) (f : Fl) : Fl := match f with
  | .nx τ => .nx (τ.set i none)
  | .bk τ => .bk (τ.set i none)
  | .ct τ => .ct (τ.set i none)
  | .rt t => .rt t
/-- 'except D' of an error of the class named c -/
def ExmT (K : PySem.W.Frag) (c : Str) (D : Value) (b : Bool) : Prop := ∀ C, gaK K c = some C → PySem.W.exmOne K (.ref C) D = some b
theorem REnv.wipe1 {K : PySem.W.Frag} {ρ : Wd} {H : Hp} {σ : L2.St} {τ : Env} (e : REnv K ρ H σ τ) (i : Nat) : REnv K ρ H (σ.set i none) (τ.set i none) := ⟨by rw [List.length_set, List.length_set, e.len], fun j t h => by
  rw [List.getElem?_set] at h ⊢
  split at h
  · split at h <;> cases h
  · rename_i q
    rw [if_neg q]
    exact e.at_ j t h⟩
end Fx
namespace Fx
open PySem PySem.Spec PyProof.Rows L2 L2H
theorem roomS {k : Nat} {A : Around} (r : Room k A) (v : Option Value) : RoomH k (A.mark v) := ⟨r.dp, r.un⟩
theorem _root_.L2H.RoomH.units {k : Nat} {A : Around} (r : RoomH k A) : A.units + 64 < cLine := by have := r.un; omega
theorem takesE {X : Cx} : Takes X (fun cls d _ H => E0 cls d H) := fun _ _ x => by
  obtain ⟨_, _, _, _, _, _, _, _, _, _, _, _, _, _, _, _, z⟩ := x
  exact z.elim
theorem gaK_of {K : PySem.W.Frag} {c : Str} {f : Addr} (h : PySem.W.nsIn K mainGlobals c = some (some (.ref f))) : gaK K c = some f := by unfold gaK; rw [h]
theorem exmT_of {K : PySem.W.Frag} {c : Str} {C : Addr} {D : Value} {b : Bool} (g : gaK K c = some C) (h : PySem.W.exmOne K (.ref C) D = some b) : ExmT K c D b := fun C' g' => by
  rw [g] at g'
  cases g'
  exact h
theorem bt_ValueError : bootBuiltins "ValueError" = some (.type "ValueError") := PyProof.Rows.Boot.«ValueError»
end Fx
set_option maxHeartbeats 2000000
namespace Fx
open PySem PySem.Spec PyProof.Rows L2 RT
def fLstRev (fz : Bool) (t : T) (S : Sto) : R T := match lstOf S t with
  | some ts => newL fz ts.reverse S
  | none => .bad
@[simp] theorem ev_listRev (ts : List T) (S : Sto) : fLstRev true (.lst ts) S = .ok (.lst ts.reverse) S := id rfl
def fStrA (xs : List T) (S : Sto) : R T := match xs with
  | [.int i] => if i.natAbs.log2 < 1920 then .ok (.str (toString i)) S else .bad
  | [.str w] => .ok (.str w) S
  | _ => .bad
@[simp] theorem ev_strAs (w : Str) (S : Sto) : fStrA [.str w] S = .ok (.str w) S := id rfl
end Fx
namespace Fx
open PySem PySem.Spec PyProof.Rows L2
def boolsOf : List T → Option (List Bool)
  | [] => some []
  | .bl i :: ts => (boolsOf ts).map fun l => i :: l
  | _ => none
section
variable {X : Cx} {E : XK}
theorem bools_of {K : PySem.W.Frag} {ρ : Wd} {H : Hp} : ∀ {v : List V} {t : List T} {ns : List Bool}, Reps K ρ H v t → boolsOf t = some ns → v = ns.map V.bl
  | _, _, _, .nil, h => by cases h; rfl
  | _, t :: ts, ns, .cons r rs, h => by
    cases t with
    | bl i =>
      obtain ⟨l, e, h⟩ := Option.map_eq_some_iff.mp (show (boolsOf ts).map (fun l => i :: l) = _ from h)
      subst h
      rw [rep_bl r, bools_of rs e]
      rfl
    | _ => cases h
end
end Fx
namespace Fx
open PySem PySem.Spec PyProof.Rows L2
section
variable {X : Cx} {E : XK}
def fMulW := fI2c (fun i j => decide (i.natAbs.log2 + j.natAbs.log2 < 1000000)) fun i j => .int (i * j)
theorem f_mulW : Op2 X.K E (rI CMulW fun i j => .int (i * j)) fMulW := f_i2c (fun i j h => show i.natAbs.log2 + j.natAbs.log2 < 1000000 from of_decide_eq_true h) fun _ _ _ _ => .int _
theorem ev_mulW {i j : Int} {a b : Nat} (ha : i.natAbs < 2 ^ a) (hb : j.natAbs < 2 ^ b) (h0 : 0 < a) (h1 : 0 < b) (h : a + b ≤ 1000000) (S : Sto) : fMulW (.int i) (.int j) S = .ok (.int (i * j)) S := by
  have := wide_mul ha hb h0 h1 h
  unfold CMulW at this
  unfold fMulW fI2c
  simp [this]
variable {x : Str} {p pos : Pos} {e : Expr} {es : List Expr} {ms : Env → Sto → R (List T)} {id : String} {r : List V → Hp → VK → Prop}
end
end Fx
namespace Fx
open PySem PySem.Spec PyProof.Rows L2
def keyOf? : T → Option Key
  | .int i => some (.inl i)
  | .str x => some (.inr x)
  | _ => none
/-- in its place, or at the end -/
def putT (kts : List (Key × T)) (k : Key) (t : T) : List (Key × T) :=
  if (kts.any fun kv => decide (kv.1 = k)) = true then kts.map (fun kv => if kv.1 = k then (kv.1, t) else kv) else kts ++ [(k, t)]
inductive RepK (K : PySem.W.Frag) (ρ : Wd) (H : Hp) : List (Key × V) → List (Key × T) → Prop
  | nil : RepK K ρ H [] []
  | cons {k : Key} {v : V} {t : T} {vs : List (Key × V)} {ts : List (Key × T)} : Rep K ρ H v t → RepK K ρ H vs ts → RepK K ρ H ((k, v) :: vs) ((k, t) :: ts)
section
variable {K : PySem.W.Frag} {ρ ρ' : Wd} {H H' : Hp}
theorem RepK.length : ∀ {vs : List (Key × V)} {ts : List (Key × T)}, RepK K ρ H vs ts → vs.length = ts.length
  | _, _, .nil => rfl
  | _, _, .cons _ r => congrArg (· + 1) r.length
theorem RepK.ext (e : Ext ρ H ρ' H') : ∀ {vs : List (Key × V)} {ts : List (Key × T)}, RepK K ρ H vs ts → RepK K ρ' H' vs ts
  | _, _, .nil => .nil
  | _, _, .cons h r => .cons (h.ext e) (r.ext e)
theorem RepK.grow {D : Addr} {o : HO} (hD : D ∈ ρ.out) : ∀ {vs : List (Key × V)} {ts : List (Key × T)}, RepK K ρ H vs ts → RepK K ρ (upd H D o) vs ts
  | _, _, .nil => .nil
  | _, _, .cons h r => .cons (h.grow hD) (r.grow hD)
theorem RepK.any (k : Key) : ∀ {vs : List (Key × V)} {ts : List (Key × T)}, RepK K ρ H vs ts → (vs.any fun kv => decide (kv.1 = k)) = ts.any fun kv => decide (kv.1 = k)
  | _, _, .nil => rfl
  | _, _, .cons _ r => by rw [List.any_cons, List.any_cons, r.any k]
theorem RepK.append : ∀ {vs vs' : List (Key × V)} {ts ts' : List (Key × T)}, RepK K ρ H vs ts → RepK K ρ H vs' ts' → RepK K ρ H (vs ++ vs') (ts ++ ts')
  | _, _, _, _, .nil, q => q
  | _, _, _, _, .cons h r, q => .cons h (r.append q)
theorem RepK.map {k : Key} {v : V} {t : T} (hv : Rep K ρ H v t) : ∀ {vs : List (Key × V)} {ts : List (Key × T)}, RepK K ρ H vs ts → RepK K ρ H (vs.map fun kv => if kv.1 = k then (kv.1, v) else kv) (ts.map fun kv => if kv.1 = k then (kv.1, t) else kv)
  | _, _, .nil => .nil
  | _, _, .cons (k := j) h r => by
    rw [List.map_cons, List.map_cons]
    by_cases c : j = k
    · rw [if_pos c, if_pos c]
      exact .cons hv (r.map hv)
    · rw [if_neg c, if_neg c]
      exact .cons h (r.map hv)
theorem RepK.put {k : Key} {v : V} {t : T} (hv : Rep K ρ H v t) {vs : List (Key × V)} {ts : List (Key × T)} (r : RepK K ρ H vs ts) : RepK K ρ H (putK vs k v) (putT ts k t) := by
  unfold putK putT
  rw [r.any k]
  by_cases c : (ts.any fun kv => decide (kv.1 = k)) = true
  · rw [if_pos c, if_pos c]
    exact r.map hv
  · rw [if_neg c, if_neg c]
    exact r.append (.cons hv .nil)
end
noncomputable def mDcGo (it : Its) (p : Pat) (c : Env → Sto → R Bool) (kb b : Env → Sto → R T) (τ : Env) : List T → List (Key × T) → Sto → R (List (Key × T))
  | [], acc, S => ifP (it.chk S) (.ok acc S) .bad
  | t :: ts, acc, S => ifP (it.chk S) (bound p t τ fun τ1 => (noErr (c τ1 S)).bind fun k S1 => if k = true then (noErr (kb τ1 S1)).bind fun y S2 => (noErr (b τ1 S2)).bind fun z S3 => match keyOf? y with
    | some k => if acc.length < 100000 then mDcGo it p c kb b τ ts (putT acc k z) S3 else .bad
    | none => .bad
    else mDcGo it p c kb b τ ts acc S1) .bad
noncomputable def mDc (vs : List Nat) (m : Env → Sto → R Its) (p : Pat) (c : Env → Sto → R Bool) (kb b : Env → Sto → R T) : Env → Sto → R T := fun τ S => (m τ S).bind fun it S1 => (mDcGo it p c kb b (wipeT τ vs) it.ts [] S1).bind fun acc S2 => .ok (.dct (acc.map (·.1)) (acc.map (·.2))) S2
@[simp] theorem ev_dc (vs m p c kb b) (τ : Env) (S : Sto) : mDc vs m p c kb b τ S = (m τ S).bind fun it S1 => (mDcGo it p c kb b (wipeT τ vs) it.ts [] S1).bind fun acc S2 => .ok (.dct (acc.map (·.1)) (acc.map (·.2))) S2 := id rfl
end Fx
namespace Fx
open PySem PySem.Spec PyProof.Rows L2
def CDivZ (_ j : Int) : Prop := j ≠ 0 ∧ j.natAbs.log2 < 9000
def fDivZ := fI2c (fun _ j => decide (j ≠ 0) && decide (j.natAbs.log2 < 9000)) fun i j => .int (i.fdiv j)
section
variable {X : Cx} {E : XK}
theorem op_fdivZ : OpR X (binaryOp .FloorDiv) (rI CDivZ fun i j => .int (i.fdiv j)) := opI fun i j _ _ _ _ _ hc q => floordiv_int hc.1 q (.inl (PyProof.noPylong_of_log2 hc.2))
theorem f_divZ : Op2 X.K E (rI CDivZ fun i j => .int (i.fdiv j)) fDivZ := f_i2c (fun i j h => by
  rw [Bool.and_eq_true] at h
  exact ⟨of_decide_eq_true h.1, of_decide_eq_true h.2⟩) fun _ _ _ _ => .int _
theorem ev_divZ {i j q : Int} {b : Nat} (h : j ≠ 0) (hq : i = j * q) (hb : j.natAbs < 2 ^ b) (h0 : 0 < b) (h9 : b ≤ 9000) (S : Sto) : fDivZ (.int i) (.int j) S = .ok (.int q) S := by
  have hl : j.natAbs.log2 < 9000 := Nat.lt_of_lt_of_le (PySem.Flt.log2_lt_of h0 hb) h9
  have e : i.fdiv j = q := by rw [hq]; exact Int.mul_fdiv_cancel_left q h
  unfold fDivZ fI2c
  simp [hl, h, e]
end
end Fx
namespace L2
open PySem PySem.Spec PyProof.Rows
section
variable {X : Cx}
/-- repr of a tuple of data, where nothing is on the way of being printed -/
def rRepr (K : PySem.W.Frag) : List V → Hp → VK → Prop := fun xs H Q => ∃ (x : V) (ds : List PyData), xs = [x] ∧ Dp K H x (.tuple ds) ∧ (PyData.tuple ds).showable = true ∧ (PyData.tuple ds).hasDict = false ∧ (PyData.tuple ds).shown.length ≤ sizeLine ∧ (PyData.tuple ds).depth ≤ 63 ∧ Q (.str (PyData.tuple ds).shown) H
theorem call_reprT (hg : X.A.guards = some []) (hu : X.A.units + 65 < cLine) : CallR X (.builtin "repr") (rRepr X.K) := by
  intro pins s σ H xs us Q I r h
  obtain ⟨x, ds, rfl, hd, hs, hn, hl, hdep, q⟩ := h
  obtain ⟨u, rfl, ru⟩ := vals1 r
  obtain ⟨as, rd⟩ := Dp.reads I _ _ _ hd ru
  cases hd
  cases ru
  exact repr_of_reads' rd hs (fun h => by rw [hn] at h; cases h) hg (by omega) (fun _ _ e => e) (fun h' u tk k => ⟨.str _, H, I.kept k, ⟨u, rfl⟩, q⟩) hl
end
end L2
namespace Fx
open PySem PySem.Spec PyProof.Rows L2
theorem bt_repr : bootBuiltins "repr" = some (.builtin "repr") := by decide +kernel
def fRepr (ts : List T) (S : Sto) : R T := match ts with
  | [t] => match toD t with
    | some (.tuple ds) => if ((PyData.tuple ds).showable && (!(PyData.tuple ds).hasDict && (decide ((PyData.tuple ds).shown.length ≤ sizeLine) && decide ((PyData.tuple ds).depth ≤ 63)))) = true then .ok (.str (PyData.tuple ds).shown) S else .bad
    | _ => .bad
  | _ => .bad
theorem f_repr {X : Cx} {E : XK} : OpN X.K E (rRepr X.K) fRepr := by
  intro ρ H S vs ts Q s rs h
  unfold fRepr at h
  split at h
  · rename_i t
    obtain ⟨y, rfl, ry⟩ := rs.one
    split at h
    · rename_i ds hd
      split at h
      · rename_i hc
        simp only [Bool.and_eq_true, Bool.not_eq_true', decide_eq_true_eq] at hc
        exact ⟨y, ds, rfl, dp_of ry hd, hc.1, hc.2.1, hc.2.2.1, hc.2.2.2, h.ok s _ (.str _)⟩
      · exact h.elim
    · exact h.elim
  · exact h.elim
end Fx
set_option maxHeartbeats 2000000
namespace Fx
open PySem PySem.Spec PyProof.Rows L2
structure FnG (P : Program) (w : World) (K : PySem.W.Frag) (mg : Str → Option Value) (base : Heap) (k : Nat) (f : Addr) (fd : FuncData) (ps : List Str) (sp : Sp) : Prop where
  len : ∀ vs H Q E, sp vs H Q E → vs.length = ps.length
  run : ∀ (A : Around) (outer : List PySem.Env) (s : Shared) (H : Hp) (args : Args) (us : List Value) (vs : List V) (Q : VK) (E : XK), Room k A → A.guards = some [] → Env0 P w K mg base A outer s H → BindsTo s fd args (ps.zip us) → Vals vs us → sp vs H Q E →
    codeAny (model P w) A (.call (.ref f) args) (CR CX0 outer P w H s Q E) s
section
variable {P : Program} {w : World} {K : PySem.W.Frag} {mg : Str → Option Value} {base : Heap}
theorem fn_okG {x qual : Str} {st : Stmt} {f : Addr} {fd : FuncData} {N ps : List Str} {k : Nat} {b : Env → Sto → R Fl} (F : L2.Fun K x qual st f fd) (S : FnScope N ps (defScope st))
    (hb : ∀ (cdv : Value) (A : Around) (outer : List PySem.Env) (s : Shared) (H : Hp) (E : XK), Room k (A.deeper (envOfC qual (defScope st) s.heap.objs.size f cdv)) → A.guards = some [] → PSs (cxOf CX0 P w K mg base N qual (defScope st) f cdv A outer s H E).nox (defBody st) (tS K E0 b)) :
    FnG P w K mg base (k + 1) f fd ps (spM K ps.length (runF N.length b)) := by
  obtain ⟨oc, od, kV, doc, pm, an, cdv, ct, osl, rfl, lk, hcd⟩ := F.ex
  refine ⟨fun vs H Q E ⟨ρ, S, ts, l, s, r, h⟩ => by rw [r.length, l], fun A outer s H args us vs Q E hr hgd e0 hbi r hsp => ?_⟩
  obtain ⟨ρ, S0, ts, l, st0, rts, h⟩ := hsp
  have hl : vs.length = ps.length := by rw [rts.length, l]
  have KX : K.In s.heap := e0.mod.kin.keeps fun b o e => (e0.bs b o e).1
  have lim : s.heap.NoLimit := e0.mod.nolimit.keeps fun b o e => (e0.bs b o e).1
  have hkind : ∀ y ∈ ps.zip us, (defScope st).names.lookup y.1 = some .local ∨ ((defScope st).names.lookup y.1 = some .cell ∧ ((cellsFrom (s.heap.objs.size + 1) (defScope st).names []).lookup y.1).isSome = true) := fun ⟨n, v⟩ hy => by
    rcases S.par n (List.of_mem_zip hy).1 with q | q
    · exact .inl q
    · exact .inr ⟨q, PySem.W.cellsFrom_some _ _ _ (.inl q)⟩
  refine codeAny_call_function hr.depth (KX _ _ lk) rfl S.co S.gen rfl (PySem.W.codeRec_of KX hcd) (hbi _ _ _ _ ?_)
  refine wpAny_newFunctionEnv_cells S.kind hkind fun env he s1 y => ?_
  subst he
  refine ⟨lim.keeps y.toInCall.keep, codeAny_func ?_⟩
  have I := inv_start (CX := CX0) (E := E) S hr.hd e0 hl r y
  have hq : tS K E0 b { nx := fun _ H' => Q .non H', rt := Q } (start N vs) H := by
    refine ⟨ρ, _, S0, st0, reps_env rts, ?_⟩
    unfold runF at h
    refine h.at0 (Ext.refl _ _) fun ρ2 H2 f S2 x2 s2 q => ?_
    cases f with
    | nx τ => exact fun σ e => q ρ2 H2 x2 s2 _ .non
    | rt t => exact fun v rv => q ρ2 H2 x2 s2 v rv
    | bk τ => exact q.elim
    | ct τ => exact q.elim
  refine wpAny_mono ((hb cdv A outer s H E (hr.deeper _) hgd).nox.run [] s1 (start N vs) H _ I hq) (fun fl s' hs => ?_) fun e s' hs => hs
  have fin : ∀ {σ' : L2.St} {H' : Hp} {v : V} {u : Value}, Inv (cxOf CX0 P w K mg base N qual (defScope st) f cdv A outer s H E) [] σ' H' s' → RelV v u → Q v H' → CE outer P w H s Q u s' :=
    fun {σ' H' v u} J rv q => ⟨v, H', J.os, J.bare, J.base, J.hok, rv, q⟩
  cases fl with
  | ret u =>
    obtain ⟨v, σ', H', J, rv, q⟩ := hs
    exact fin J rv q
  | next =>
    obtain ⟨σ', H', J, q⟩ := hs
    exact fin (v := V.non) (u := Value.none) J rfl q
  | brk =>
    obtain ⟨_, _, _, q⟩ := hs
    exact False.elim q
  | cont =>
    obtain ⟨_, _, _, q⟩ := hs
    exact False.elim q
theorem FnG.imp {k : Nat} {f : Addr} {fd : FuncData} {ps : List Str} {sp sp' : Sp} (F : FnG P w K mg base k f fd ps sp) (h : ∀ vs H Q E, sp' vs H Q E → sp vs H Q E) : FnG P w K mg base k f fd ps sp' :=
  ⟨fun vs H Q E q => F.len vs H Q E (h _ _ _ _ q), fun A outer s H args us vs Q E hr hg he hb hv hs => F.run A outer s H args us vs Q E hr hg he hb hv (h _ _ _ _ hs)⟩
theorem FnG.framed {k : Nat} {f : Addr} {fd : FuncData} {ps : List Str} {m : Nat} {F : List T → Sto → R T} (G : FnG P w K mg base k f fd ps (spM K m F)) (n : Nat) (fz : Bool) : FnG P w K mg base k f fd ps (spM K m (frame n fz F)) :=
  G.imp fun _ _ _ _ h => frame_sp h
end
end Fx
set_option maxHeartbeats 2000000
namespace Fx
open PySem PySem.Spec PyProof.Rows L2
/-- the script alone is tracked, and only if it is none of the module's own things -/
def scr (K : PySem.W.Frag) (a : Addr) (o : Obj) (xs : List V) : Hp := fun b => if b = a ∧ (K.lookup a).isNone = true then some (.frz o (.lst xs)) else none
section
variable {K : PySem.W.Frag} {a b : Addr} {o : Obj} {xs : List V}
theorem scr_some {u : HO} (h : scr K a o xs b = some u) : b = a ∧ K.lookup a = none ∧ u = .frz o (.lst xs) := by
  unfold scr at h
  split at h
  · rename_i c
    cases h
    exact ⟨c.1, Option.isNone_iff_eq_none.mp c.2, rfl⟩
  · cases h
theorem scr_none (h : b ≠ a) : scr K a o xs b = none := by
  unfold scr
  rw [if_neg fun c => h c.1]
theorem scr_on (h : K.lookup a = none) : scr K a o xs a = some (.frz o (.lst xs)) := by
  unfold scr
  rw [if_pos ⟨rfl, by rw [h]; rfl⟩]
end
theorem callG {P : Program} {w : World} {K : PySem.W.Frag} {mg mb : Str → Option Value} {k : Nat} {fa a : Addr} {fd : FuncData} {x : Str} {sp : Sp} {s₁ : Shared} {vs : List Value} {ns : List Int}
    (KX : K.In s₁.heap) (hm : s₁.heap.Ns mainGlobals mg) (hb : s₁.heap.Ns builtinsNs mb) (hbb : ∀ x : Str, x ≠ "__name__" → mb x = bootBuiltins x) (hlim : s₁.heap.NoLimit) (hgn : s₁.gens = #[])
    (ha : s₁.heap.get? a = some { cls := .type "list", data := .seq vs.toArray }) (hi : IntsAre vs ns) (hl : ns.length ≤ sizeLine) (hr : Room k callerA)
    (F : ∀ base : Heap, K.In base → base.Ns mainGlobals mg → FnG P w K mg base k fa fd [x] sp) (hbind : ∀ (s : Shared) (u : Value), BindsTo s fd ⟨[u], []⟩ [(x, u)])
    (hsp : ∀ H : Hp, SqL K H a (ns.map V.int) → sp [.ref a] H (fun v _ => v = .bl true) fun _ _ _ => False) :
    codeAny (model P w) callerA (.call (.ref fa) ⟨[.ref a], []⟩) (fun r s' => r = .ok (.ret (.bool true)) ∧ OldK s₁.heap s'.heap ∧ s'.os = s₁.os ∧ AllBare s'.gens) s₁ := by
  have hvl := hi.length
  have hvv : Vals (ns.map V.int) vs := vals_ints hi
  generalize hO : ({ cls := .type "list", data := .seq vs.toArray } : Obj) = O at ha
  have hdata : ∀ es ep, O.data ≠ .dict es ep := fun es ep e => by rw [← hO] at e; cases e
  let H : Hp := scr K a O (ns.map V.int)
  have hH : H = scr K a O (ns.map V.int) := rfl
  clear_value H
  have stay : ∀ {b : Addr} {o : Obj}, s₁.heap.get? b = some o → H b = none → (hidT s₁.heap H).get? b = some o := fun e n => hidT_get e n
  have nsB : ∀ {b : Addr} {m : Str → Option Value}, s₁.heap.Ns b m → (hidT s₁.heap H).Ns b m := fun {b m} ⟨o, es, ep, e, d, r⟩ => by
    refine ⟨o, es, ep, stay e ?_, d, r⟩
    rw [hH]
    refine scr_none fun z => ?_
    subst z
    rw [ha] at e
    cases e
    exact hdata es ep d
  have hKb : K.In (hidT s₁.heap H) := fun b o e => stay (KX b o e) (by
    cases q : H b with
    | none => rfl
    | some u =>
      rw [hH] at q
      obtain ⟨rfl, z, _⟩ := scr_some q
      rw [z] at e
      cases e)
  have sq : SqL K H a (ns.map V.int) := by
    cases hk : K.lookup a with
    | none => exact .inl (.inr ⟨O, by rw [hH]; exact scr_on hk⟩)
    | some o' =>
      have e := KX a o' hk
      rw [ha] at e
      cases e
      subst hO
      exact .inr ⟨_, vs.toArray, _, hk, rfl, rfl, rfl, by rw [List.size_toArray, hvl]; exact hl, by simpa using hvv⟩
  have hok : HOk P w H s₁.heap := fun b u z => by
    rw [hH] at z
    obtain ⟨rfl, _, rfl⟩ := scr_some z
    subst hO
    exact ⟨ha, by rw [List.length_map]; exact hl, vs, _, hvv, ha⟩
  obtain ⟨mc, hmc1, hmc2⟩ := hlim
  have e0 : Env0 P w K mg (hidT s₁.heap H) callerA [] s₁ H := {
    frames := rfl
    mod := ⟨hKb, nsB hm, ⟨mb, nsB hb, hbb⟩, mc, nsB hmc1, hmc2⟩
    bs := fun b o e => of_hidT e
    bsz := Nat.le_of_eq (hidT_size _ _)
    funs := trivial
    frf := fun b z => absurd (show b ∈ ([] : List Addr) from z) (by simp)
    hok := hok
    bare := .of_eq hgn }
  refine codeAny_mono ((F _ hKb (nsB hm)).run callerA [] s₁ H ⟨[.ref a], []⟩ [.ref a] [.ref a] _ (fun _ _ _ => False) hr rfl e0 (hbind s₁ (.ref a)) (.cons rfl .nil) (hsp H sq)) fun r s' h => ?_
  cases r with
  | error e => exact (show False from h).elim
  | ok fl =>
    cases fl with
    | next => exact False.elim h
    | brk => exact False.elim h
    | cont => exact False.elim h
    | ret u =>
      obtain ⟨v, H', hos, hbare, hun, hok', hrel, hv⟩ := h
      have hv : v = .bl true := hv
      rw [hv] at hrel
      have hu : u = Value.bool true := hrel
      refine ⟨by rw [hu], OldK.of_keep fun b o e => ?_, hos, hbare⟩
      cases q : H b with
      | none => exact hun.keep b o e q (fun z => absurd (show b ∈ ([] : List Addr) from z) (by simp)) (by simp)
      | some y =>
        have q0 := q
        rw [hH] at q
        obtain ⟨rfl, _, rfl⟩ := scr_some q
        obtain ⟨e2, _⟩ := hok' _ _ (hun.frzs _ _ _ q0)
        rw [ha] at e
        cases e
        exact e2
theorem walk_ofG {l : PySem.W.OpenLaw} {n k : Nat} {q : Program} {loose : List Str} {XP : (Str → Option Value) → Heap → Prop} {YP : World → Heap → Prop} {d : DefRec} {K : Params → PySem.W.Frag} {sp : World → Sp} {x : Str}
    (hn : l.most = some n) (hn2 : n ≤ sizeLine) (hdf : d.params.defaults = []) (hr : Room k callerA)
    (hY : ∀ (w : World) (h : Heap), YP w h → (K w.params).In h)
    (F : ∀ (w : World) (mg : Str → Option Value) (fa : Addr) (h : Heap), (K w.params).In h → h.Ns mainGlobals mg → mg d.name = some (.ref fa) →
      ∃ fd : FuncData, (∀ (s : Shared) (u : Value), BindsTo s fd ⟨[u], []⟩ [(x, u)]) ∧
        ∀ base : Heap, (K w.params).In base → base.Ns mainGlobals mg → FnG l.prog w (K w.params) mg base k fa fd [x] (sp w))
    (hsp : ∀ (w : World) (H : Hp) (a : Addr) (ns : List Int), ns.length ≤ n → SqL (K w.params) H a (ns.map V.int) → sp w [.ref a] H (fun v _ => v = .bl true) fun _ _ _ => False) :
    PySem.W.WalkO q loose XP YP l.row.toRowW d [] (fun f vs => PySem.call f vs) := by
  refine Att.attach_call hn hdf fun w s₀ s₁ mg mb fa o pm cd doc a vs ns G Y ho hd hcd hmg hobj hints hlen hg => ?_
  have KX := hY w _ Y
  obtain ⟨fd, hb, hF⟩ := F w mg fa _ KX G.T.g hmg
  exact callG KX G.T.g G.T.b G.T.builtins G.T.nolimit hg hobj hints (Nat.le_trans hlen hn2) hr hF hb fun H hS => hsp w H a ns hlen hS
theorem law_okG {P : Program} {w : World} {K : PySem.W.Frag} {mg : Str → Option Value} {base : Heap} {k : Nat} {f : Addr} {fd : FuncData} {ps : List Str} {F : List T → Sto → R T} (G : FnG P w K mg base k f fd ps (spM K 1 F))
    (h : ∀ ns : List Int, ns.length ≤ 63 → ∃ S, F [.kst (ns.map T.int)] [] = .ok (.bl true) S) : FnG P w K mg base k f fd ps (spLaw K) :=
  G.imp fun vs H Q E ⟨a, ns, e, hS, hl, q⟩ => by
    obtain ⟨S, hF⟩ := h ns hl
    subst e
    refine ⟨⟨[], []⟩, [], [.kst (ns.map T.int)], rfl, ⟨rfl, List.nodup_nil, (fun _ h => nomatch h), fun _ _ _ h => nomatch h⟩, .cons (.kst ?_ (reps_ints ns)) .nil, ?_⟩
    · rcases hS with hS | hS
      · exact .inl ⟨hS, fun h => nomatch h⟩
      · exact .inr (.inr hS)
    · rw [hF]
      intro ρ' H' _ _ v rv
      rw [rep_bl rv]
      exact q H'
end Fx
namespace Fx
open PySem PySem.Spec PyProof.Rows L2 RT
end Fx
namespace Fx
open PySem PySem.Spec PyProof.Rows L2 RT
end Fx
set_option maxHeartbeats 4000000
namespace Fx
open PySem PySem.Spec PyProof.Rows L2 L2H
section
variable {X : Cx} {pos : Pos}
theorem pmk_own0 {C : Addr} {bmB : List Value} {B newId initId : String} {x : Str} {p : Pos} (F : ExcBaseFacts B newId initId bmB) (q : PySem.W.excIn X.K C bmB newId = true) (gC : X.mg x = some (.ref C))
    (kC : PySem.W.keepIn X.K (.ref C) = true) (r : Raises X (.ref C)) (hg : Gl X x) (hdb : (x == ("__debug__" : Str)) = false := by decide) :
    PMk X (.Call (.Name x p) [] [] pos) (fun _ H Q => Q (.ref C) none H) := by
  intro pins s σ H Q I h
  refine wpAny_Call_Name_kw (ld_glob I hg gC ?_ hdb)
  refine PySem.W.callWith_K0 (first := []) I.kIn kC ?_
  show wpAny _ _ (call (.ref C) []) _ _ _
  obtain ⟨bm, N, nm, qn, bs, hdct, sn, sub, ab, col, dd, k0, k1, k2, k3, k5, mN, hC, hN, hni, T⟩ := exc_obj I.kIn q
  refine wpAny_call_exc_subT F T hC hN hni (fun h' e hm => ?_) (Nat.zero_le _)
  exact mk_of I hm r h (I.hok.gone hm.new)
/-- what is asked of an error's class that is made without arguments -/
structure MkC0 (K : PySem.W.Frag) (mg : Str → Option Value) (c : Str) (C : Addr) : Prop where
  q : PySem.W.excIn K C [.type "ValueError", .type "Exception", .type "BaseException", .type "object"] "ValueError.__new__" = true
  kp : PySem.W.keepIn K (.ref C) = true
  sb : PySem.W.subIn K (.ref C) (.type "BaseException") = some true
  ty : PySem.W.typeIn K (.ref C) = some (.type "type")
  hm : mg c = some (.ref C)
  ga : gaK K c = some C
def mRaise0 (c : Str) : Env → Sto → R Fl := fun τ S => .err ⟨c, false, [], []⟩ S
variable {E : XK} {c : Str} {C : Addr} {p pos' : Pos}
theorem s_raise0 (M : MkC0 X.K X.mg c C) (hc : X.calm = true) (tk : Takes X (fun cls d _ H => E cls d H)) (hg : Gl X c) (hdb : (c == ("__debug__" : Str)) = false := by decide) :
    PS X (.Raise (some (.Call (.Name c p) [] [] pos)) none pos') (tS X.K E (mRaise0 c)) :=
  PS.of (ps_raise hc tk (pmk_own0 PySem.F.excBase_ValueError M.q M.hm M.kp (raises_own M.sb M.ty) hg hdb)) fun D σ H ⟨ρ, τ, S, s, en, h⟩ =>
    h ρ H C none [] (Ext.refl ..) s M.ga ⟨rfl, rfl, rfl⟩ .nil
end
def sTryX (tab : Str → Option Bool) (i : Nat) (m : Env → Sto → R T) (ms : Env → Sto → R Fl) : Env → Sto → R Fl := fun τ S => match m τ S with
  | .ok _ S1 => .ok (.nx τ) S1
  | .err x S1 => match tab x.cls with
    | some true => (noErr (ms (τ.set i (some (.exn x.cls x.own x.ns x.ts))) S1)).bind fun f S2 => .ok (wipeFl i f) S2
    | some false => .err x S1
    | none => .bad
  | .bad => .bad
section
variable {X : Cx} {E : XK} {x n : Str} {c : Value} {i : Nat} {suite : List Stmt} {b₀ : Stmt} {e : Expr} {np pos pos' posr : Pos} {tab : Str → Option Bool} {m : Env → Sto → R T} {ms : Env → Sto → R Fl}
theorem s_tryX (hs : X.stack = X.env :: X.outer) (hf : X.env.frame = some X.env.locals) (hex : X.ex = []) (hN : X.N.Nodup) (hi : X.N[i]? = some n) (hln : X.env.kindOf n = some .local) (hc : Names X x c) (tk : Takes X (fun cls d _ H => E cls d H))
    (ht : ∀ cn b, tab cn = some b → ExmT X.K cn c b)
    (hb : ∀ (W : WX) (pn : List (Addr × Obj)) (xe : Value → Shared → Prop), Takes (X.tr pn xe) W → PE (X.tr pn xe) e (fun σ H Q => tM X.K (WE W σ) m σ H Q))
    (hsu : ∀ (a : Addr) (pn : List (Addr × Obj)), PSs (X.suite a pn) (b₀ :: suite) (tS X.K E0 ms)) (hsw : swapsWith e none posr.line X.env = pure false := by rfl) :
    PS X (.Try [.Expr e posr] [.ExceptHandler (some (.Name x np)) (some n) (b₀ :: suite) pos'] [] [] pos) (tS X.K E (sTryX tab i m ms)) :=
  PS.of (ps_try_tell (tb := fun W D σ H => tM X.K (WE W σ) m σ H fun _ H1 => D.nx σ H1) hs hf hex hN hi hln hc tk (fun W pn xe t _ => pss_one (ps_expr (hb W pn xe t) hsw)) hsu) fun D σ H ⟨ρ, τ, S, s, en, h⟩ => ⟨ρ, τ, S, s, en, by
    unfold sTryX at h
    cases hm : m τ S with
    | bad => rw [hm] at h; exact h.elim
    | ok t S1 =>
      rw [hm] at h
      exact fun ρ1 H1 e1 s1 v rv => h ρ1 H1 e1 s1 σ (en.ext e1)
    | err y S1 =>
      rw [hm] at h
      intro ρ1 H1 C d vs e1 s1 g xd rs
      have h : Post X.K E ρ H (match tab y.cls with
        | some true => (noErr (ms (τ.set i (some (.exn y.cls y.own y.ns y.ts))) S1)).bind fun f S2 => .ok (wipeFl i f) S2
        | some false => .err y S1
        | none => .bad) (QS X.K D) := h
      cases hy : tab y.cls with
      | none => rw [hy] at h; exact h.elim
      | some b =>
      rw [hy] at h
      cases b with
      | true =>
        refine ⟨true, ht _ _ hy C g, fun _ => ⟨C, rfl, fun a na => ?_⟩, fun z => absurd z.symm Bool.false_ne_true⟩
        have e2 := Ext.push (o := exh a C d) na (s1.new na)
        have r : Rep X.K ρ1 (upd H1 a (exh a C d)) (.ref a) (.exn y.cls y.own y.ns y.ts) := .exn g upd_same (s1.new na) (xd.mono fun b o z q => ⟨e2.keep b o z (Wd.at_av q), q⟩) (rs.ext e2)
        refine ⟨ρ1, _, S1, s1.push na, ((en.ext e1).ext e2).set i r, ?_⟩
        refine h.at0 (e1.trans e2) fun ρ3 H3 f S3 e3 s3 q => ?_
        have q : QS X.K D ρ3 H3 (wipeFl i f) S3 := q ρ3 H3 ((e1.trans e2).trans e3) s3
        cases f with
        | nx τ' => exact fun σ' z => q (σ'.set i none) (z.wipe1 i)
        | bk τ' => exact fun σ' z => q (σ'.set i none) (z.wipe1 i)
        | ct τ' => exact fun σ' z => q (σ'.set i none) (z.wipe1 i)
        | rt t => exact fun v rv => q v rv
      | false => exact ⟨false, ht _ _ hy C g, fun z => absurd z Bool.false_ne_true, fun _ => h ρ1 H1 C d vs e1 s1 g xd rs⟩⟩
end
end Fx
namespace Fx
open PySem PySem.Spec PyProof.Rows L2 RT
def eqkB (k : Bool) (v : Value) : Bool := match v with
  | .bool n => n == k
  | _ => false
def rCntB (K : PySem.W.Frag) : V → List V → Hp → VK → Prop := fun x xs H Q => ∃ (p : Addr) (ns : List Bool) (k : Bool), x = .ref p ∧ xs = [.bl k] ∧ SqL K H p (ns.map V.bl) ∧ Q (.int (ns.count k : Nat)) H
theorem bools_count {k : Bool} : ∀ {ns : List Bool} {us : List Value}, Vals (ns.map V.bl) us → (∀ y ∈ us, ∃ b, y = .bool b) ∧ us.countP (eqkB k) = ns.count k
  | [], _, .nil => ⟨(fun _ h => nomatch h), rfl⟩
  | b :: ns, _, .cons h r => by
    obtain ⟨h1, h2⟩ := bools_count (k := k) r
    cases h
    refine ⟨fun y hy => ?_, ?_⟩
    · rcases List.mem_cons.mp hy with e | e
      · exact ⟨b, e⟩
      · exact h1 y e
    · rw [List.countP_cons, List.count_cons, h2]
      rfl
theorem mt_lcountB {X : Cx} : MtR X "list.count" (rCntB X.K) := by
  intro pins s σ H x xs v us Q I rx rxs h
  obtain ⟨p, ns, k, rfl, rfl, hs, q⟩ := h
  cases rx
  obtain ⟨u, rfl, ru⟩ := rxs.one
  obtain rfl : u = Value.bool k := ru
  obtain ⟨its, rv, ⟨⟨cls, dd, data, sl⟩, n, ho, hc, hdn, hd⟩, hlen⟩ := I.list hs
  simp only at hc hd
  subst hc hd
  obtain ⟨h1, h2⟩ := bools_count (k := k) rv
  refine call_meets PySem.F.slot_list_count ⟨_, ho, rfl⟩ PySem.F.entry_list_count (PySem.F.args_list_count_2 _ _)
    (SeqAt.list_countAt p its.toArray n dd sl (.bool k) (eqkB k)) ⟨ho, fun y hy => ?_, ?_⟩
  · obtain ⟨b, rfl⟩ := h1 y (by simpa using hy)
    exact SeqAt.EqAt.bool_bool b k
  · have ec : its.toArray.toList.countP (eqkB k) = ns.count k := h2
    refine ⟨.int (ns.count k : Nat), H, I.tok _, ⟨s.toks, ?_⟩, q⟩
    show Value.int ((its.toArray.toList.countP (eqkB k) : Nat) : Int) s.toks = Value.int ((ns.count k : Nat) : Int) s.toks
    rw [ec]
def fCountB (x : T) (ts : List T) (S : Sto) : R T := match ts with
  | [.bl k] => match lstOf S x with
    | some us => match boolsOf us with
      | some ns => .ok (.int (ns.count k : Nat)) S
      | none => .bad
    | none => .bad
  | _ => .bad
theorem f_countB {X : Cx} {E : XK} : OpM X.K E (rCntB X.K) fCountB := by
  intro ρ H S v x vs ts Q s rv rs h
  unfold fCountB at h
  split at h
  · rename_i k
    obtain ⟨y, rfl, r1⟩ := rs.one
    cases r1
    split at h
    · rename_i us hs
      split at h
      · rename_i ns hn
        obtain ⟨a, xs, rfl, hx, rx⟩ := lstOf_at s rv hs
        have e := bools_of rx hn
        subst e
        exact ⟨a, ns, k, rfl, rfl, hx, h.ok s _ (.int _)⟩
      · exact h.elim
    · exact h.elim
  · exact h.elim
end Fx
namespace Fx
open PySem PySem.Spec PyProof.Rows L2 L2H
section
variable {X : Cx} {E : XK} {k n : Nat} {f : Addr} {fd : FuncData} {ps : List Str} {F : List T → Sto → R T} {x : Str} {p pos : Pos} {e : Expr} {es : List Expr} {ms : Env → Sto → R (List T)}
theorem x_callZ (G : FnOk X.prog X.w X.K X.mg X.base (L2.CX X.prog X.w) k f fd ps (spM X.K n F)) (hr : Room k X.A) (hg : Gl X x) (hm : X.mg x = some (.ref f)) (hk : PySem.W.keepIn X.K (.ref f) = true) (hb : Binds X.K fd ps [])
    (ha : PA X (e :: es) (tA X.K E ms)) (hn : (e :: es).length = n := by rfl) (hdb : (x == ("__debug__" : Str)) = false := by decide) (he : starEach (e :: es) X.env = (false, eval e X.env) :: starEach es X.env := by rfl) (hpl : (backTo pos (starEach es X.env)).any (·.1) = false := by rfl) :
    PE X (.Call (.Name x p) (e :: es) [] pos) (tM X.K E (mFn (fun ts S => if ts.length = n then noErr (F ts S) else .bad) ms)) :=
  PE.of (pe_call G hr hg hm hk hb .nil (passes_call (E := E0) takesE fun _ _ _ _ h => h) ha hdb he hpl) fun σ H Q ⟨ρ, τ, S, s, e, h⟩ => ⟨ρ, τ, S, s, e, h.step fun ρ1 H1 ts S1 e1 s1 h1 vs rs => by
    split at h1
    · rename_i hl
      refine ⟨ρ1, S1, ts, hl, s1, by rw [List.append_nil]; exact rs, ?_⟩
      cases hF : F ts S1 with
      | ok t S2 => rw [hF] at h1; exact h1
      | err y S2 => rw [hF] at h1; exact h1.elim
      | bad => rw [hF] at h1; exact h1.elim
    · exact h1.elim⟩
end
def oex0B (K : PySem.W.Frag) (C : Addr) : Bool := PySem.W.excIn K C [.type "ValueError", .type "Exception", .type "BaseException", .type "object"] "ValueError.__new__" && (PySem.W.keepIn K (.ref C) && (decide (PySem.W.subIn K (.ref C) (.type "BaseException") = some true) && decide (PySem.W.typeIn K (.ref C) = some (.type "type"))))
theorem mkC0_of {K : PySem.W.Frag} {mg : Str → Option Value} {c : Str} {C : Addr} (h : oex0B K C = true) (hm : mg c = some (.ref C)) (ga : gaK K c = some C) : MkC0 K mg c C := by
  unfold oex0B at h
  simp only [Bool.and_eq_true, decide_eq_true_eq] at h
  exact ⟨h.1, h.2.1, h.2.2.1, h.2.2.2, hm, ga⟩
end Fx
set_option maxHeartbeats 2000000
namespace Fx
open PySem PySem.Spec PyProof.Rows L2
def fFmt (t : T) (S : Sto) : R T := match t with
  | .str y => if y.length ≤ 1000000 then .ok (.str y) S else .bad
  | .int i => if i.natAbs.log2 < 1920 then .ok (.str (toString i)) S else .bad
  | _ => .bad
def jsGo : List (Env → Sto → R T) → Str → Env → Sto → R T
  | [], acc, _, S => .ok (.str acc) S
  | m :: ms, acc, τ, S => (m τ S).bind fun t S1 => match t with
    | .str y => if (acc ++ y).length ≤ 1000000 then jsGo ms (acc ++ y) τ S1 else .bad
    | _ => .bad
section
variable {X : Cx} {E : XK} {e : Expr} {m : Env → Sto → R T} {pos : Pos}
theorem x_fmt (he : PE X e (tM X.K E m)) : PE X (.FormattedValue e (-1) none pos) (tM X.K E (mUn fFmt m)) :=
  PE.of (pe_fmt he) fun σ H Q ⟨ρ, τ, S, s, en, q⟩ => ⟨ρ, τ, S, s, en, q.step fun ρ1 H1 t S1 e1 s1 q1 v rv => by
    unfold fFmt at q1
    split at q1
    · rename_i y
      cases rv
      split at q1
      · rename_i hl
        exact .inl ⟨y, rfl, by rw [sizeLine_eq]; omega, q1.ok s1 _ (.str y)⟩
      · exact q1.elim
    · rename_i i
      split at q1
      · rename_i hl
        exact .inr ⟨i, rep_int rv, hl, q1.ok s1 _ (.str _)⟩
      · exact q1.elim
    · exact q1.elim⟩
inductive PJM (X : Cx) (E : XK) : List Expr → List (Env → Sto → R T) → Prop where
  | nil : PJM X E [] []
  | cons {e : Expr} {m : Env → Sto → R T} {es : List Expr} {ms : List (Env → Sto → R T)} (h : PE X e (tM X.K E m)) (r : PJM X E es ms) : PJM X E (e :: es) (m :: ms)
theorem PJM.pj {es : List Expr} {ms : List (Env → Sto → R T)} (h : PJM X E es ms) : PJ X es (ms.map (tM X.K E)) := by
  induction h with
  | nil => exact .nil
  | cons h r ih => exact .cons h ih
theorem js_run {σ : L2.St} {Q : VK} : ∀ (ms : List (Env → Sto → R T)) (acc : Str) (H : Hp), tM X.K E (jsGo ms acc) σ H Q → tJs (ms.map (tM X.K E)) acc σ H fun out H1 => Q (.str out) H1
  | [], acc, H, ⟨ρ, τ, S, s, en, q⟩ => q.ok s _ (.str acc)
  | m :: ms, acc, H, ⟨ρ, τ, S, s, en, q⟩ => ⟨ρ, τ, S, s, en, q.step fun ρ1 H1 t S1 e1 s1 q1 v rv => by
    split at q1
    · rename_i y
      cases rv
      split at q1
      · rename_i hl
        exact ⟨y, rfl, by rw [sizeLine_eq]; omega, js_run ms (acc ++ y) H1 ⟨ρ1, τ, S1, s1, en.ext e1, q1⟩⟩
      · exact q1.elim
    · exact q1.elim⟩
theorem x_js {v1 v2 : Expr} {rest : List Expr} {ms : List (Env → Sto → R T)} (h : PJM X E (v1 :: v2 :: rest) ms) : PE X (.JoinedStr (v1 :: v2 :: rest) pos) (tM X.K E (jsGo ms Str.empty)) :=
  PE.of (pe_joined h.pj) fun σ H Q q => js_run ms _ H q
end
end Fx
namespace Fx
open PySem PySem.Spec PyProof.Rows L2
section
variable {X : Cx} {E : XK}
def rIpS : V → V → Hp → VK → Prop := fun x y H Q => ∃ i j, x = .str i ∧ y = .str j ∧ i.length + j.length ≤ sizeLine ∧ Q (.str (i ++ j)) H
theorem ip_addS : PIp X .Add rIpS := fun pins s σ H x y v u Q I r1 r2 h => iop_add_str pins s σ H x y v u Q I r1 r2 h
def fIpaddS (x y : T) (S : Sto) : R T := match x, y with
  | .str i, .str j => if i.length + j.length ≤ 1000000 then .ok (.str (i ++ j)) S else .bad
  | _, _ => .bad
theorem f_ipaddS : Op2 X.K E rIpS fIpaddS := by
  intro ρ H S v w x y Q s rx ry h
  unfold fIpaddS at h
  split at h
  · rename_i i j
    cases rx
    cases ry
    split at h
    · rename_i hl
      exact ⟨i, j, rfl, rfl, by rw [sizeLine_eq]; omega, h.ok s _ (.str _)⟩
    · exact h.elim
  · exact h.elim
end
end Fx
namespace Fx
open PySem PySem.Spec PyProof.Rows L2 RT
section
variable {α β : Type} (τ : Fx.Env) (S : Sto)
noncomputable def kSeq (b : Env → Sto → R Fl) : Fl → Sto → R Fl := fun f S1 => match f with
  | .nx τ1 => b τ1 S1
  | .rt t => .ok (.rt t) S1
  | .bk τ1 => .ok (.bk τ1) S1
  | .ct τ1 => .ok (.ct τ1) S1
theorem ew_seq (a b) : sSeq a b τ S = (a τ S).bind (kSeq b) := id rfl
theorem ew_seqN (b) : kSeq b (.nx τ) S = b τ S := id rfl
theorem ew_seqR (b t) : kSeq b (.rt t) S = .ok (.rt t) S := id rfl
theorem ew_seqB (b) : kSeq b (.bk τ) S = .ok (.bk τ) S := id rfl
theorem ew_seqC (b) : kSeq b (.ct τ) S = .ok (.ct τ) S := id rfl
noncomputable def kBin (f : T → T → Sto → R T) (b : Env → Sto → R T) (τ : Env) : T → Sto → R T := fun x S1 => (b τ S1).bind (f x)
theorem ew_bin (f a b) : mBin f a b τ S = (a τ S).bind (kBin f b τ) := id rfl
theorem ew_bin1 (f b) (x : T) : kBin f b τ x S = (b τ S).bind (f x) := id rfl
theorem ew_un (f a) : mUn f a τ S = (a τ S).bind f := id rfl
noncomputable def kCons2 (x : T) : List T → Sto → R (List T) := fun ys S2 => .ok (x :: ys) S2
noncomputable def kCons (b : Env → Sto → R (List T)) (τ : Env) : T → Sto → R (List T) := fun x S1 => (b τ S1).bind (kCons2 x)
theorem ew_cons (a b) : mCons a b τ S = (a τ S).bind (kCons b τ) := id rfl
theorem ew_cons1 (b) (x : T) : kCons b τ x S = (b τ S).bind (kCons2 x) := id rfl
theorem ew_cons2 (x : T) (ys) : kCons2 x ys S = .ok (x :: ys) S := id rfl
noncomputable def kIte {γ : Type} (a b : Env → Sto → R γ) (τ : Env) : Bool → Sto → R γ := fun k S1 => if k = true then a τ S1 else b τ S1
theorem ew_ite (c a b) : mIte c a b τ S = (c τ S).bind (kIte a b τ) := id rfl
theorem ew_if (c a b) : sIf c a b τ S = (c τ S).bind (kIte a b τ) := id rfl
theorem ew_iteT {γ : Type} (a b : Env → Sto → R γ) : kIte a b τ true S = a τ S := id rfl
theorem ew_iteF {γ : Type} (a b : Env → Sto → R γ) : kIte a b τ false S = b τ S := id rfl
noncomputable def kAnd (b : Env → Sto → R Bool) (τ : Env) : Bool → Sto → R Bool := fun k S1 => if k = true then b τ S1 else .ok false S1
noncomputable def kOr (b : Env → Sto → R Bool) (τ : Env) : Bool → Sto → R Bool := fun k S1 => if k = true then .ok true S1 else b τ S1
noncomputable def kNot : Bool → Sto → R Bool := fun k S1 => .ok (!k) S1
theorem ew_and (a b) : mAnd a b τ S = (a τ S).bind (kAnd b τ) := id rfl
theorem ew_andT (b) : kAnd b τ true S = b τ S := id rfl
theorem ew_andF (b) : kAnd b τ false S = .ok false S := id rfl
theorem ew_or (a b) : mOr a b τ S = (a τ S).bind (kOr b τ) := id rfl
theorem ew_orT (b) : kOr b τ true S = .ok true S := id rfl
theorem ew_orF (b) : kOr b τ false S = b τ S := id rfl
theorem ew_not (a) : mNot a τ S = (a τ S).bind kNot := id rfl
theorem ew_not1 (k : Bool) : kNot k S = .ok (!k) S := id rfl
noncomputable def kTup : List T → Sto → R T := fun ts S1 => if ts.length ≤ 100000 then .ok (.tup ts) S1 else .bad
theorem ew_tup (a) : mTup a τ S = (a τ S).bind kTup := id rfl
theorem ew_tup1 (ts) : kTup ts S = if ts.length ≤ 100000 then .ok (.tup ts) S else .bad := id rfl
noncomputable def kLst (fz : Bool) : List T → Sto → R T := fun ts S1 => if ts.length ≤ 100000 then newL fz ts S1 else .bad
theorem ew_lst (fz a) : mLst fz a τ S = (a τ S).bind (kLst fz) := id rfl
theorem ew_lst1 (fz ts) : kLst fz ts S = if ts.length ≤ 100000 then newL fz ts S else .bad := id rfl
noncomputable def kMeth (c : T → Sto → Bool) (f : T → List T → Sto → R T) (a : Env → Sto → R (List T)) (τ : Env) : T → Sto → R T := fun x S1 => if c x S1 = true then (a τ S1).bind (f x) else .bad
theorem ew_meth (c f o a) : mMeth c f o a τ S = (o τ S).bind (kMeth c f a τ) := id rfl
theorem ew_meth1 (c f a) (x : T) : kMeth c f a τ x S = if c x S = true then (a τ S).bind (f x) else .bad := id rfl
noncomputable def kSl2 (f : T → Option Int → Option Int → Sto → R T) (x : T) (u : Env → Sto → R (Option Int)) (τ : Env) : Option Int → Sto → R T := fun lo S2 => (u τ S2).bind (f x lo)
noncomputable def kSl (f : T → Option Int → Option Int → Sto → R T) (l u : Env → Sto → R (Option Int)) (τ : Env) : T → Sto → R T := fun x S1 => (l τ S1).bind (kSl2 f x u τ)
theorem ew_sl (f a l u) : mSl f a l u τ S = (a τ S).bind (kSl f l u τ) := id rfl
theorem ew_sl1 (f l u) (x : T) : kSl f l u τ x S = (l τ S).bind (kSl2 f x u τ) := id rfl
theorem ew_sl2 (f u) (x : T) (lo) : kSl2 f x u τ lo S = (u τ S).bind (f x lo) := id rfl
noncomputable def kO1 : T → Sto → R (Option Int) := fun x S1 => match x with
  | .int i => .ok (some i) S1
  | _ => .bad
theorem ew_O1 (a) : mO1 a τ S = (a τ S).bind kO1 := id rfl
theorem ew_O11 (i : Int) : kO1 (.int i) S = .ok (some i) S := id rfl
noncomputable def kLc (fz : Bool) (vs : List Nat) (p : Pat) (c : Env → Sto → R Bool) (b : Env → Sto → R T) (τ : Env) : Its → Sto → R T := fun it S1 => (mLcGo it p c b (wipeT τ vs) it.ts [] S1).bind (newL fz)
theorem ew_lc (fz vs m p c b) : mLc fz vs m p c b τ S = (m τ S).bind (kLc fz vs p c b τ) := id rfl
theorem ew_lc1 (fz vs p c b) (it : Its) : kLc fz vs p c b τ it S = (mLcGo it p c b (wipeT τ vs) it.ts [] S).bind (newL fz) := id rfl
noncomputable def kSet (i : Nat) (τ : Env) : T → Sto → R Fl := fun x S1 => .ok (.nx (τ.set i (some x))) S1
theorem ew_set (i a) : sSet i a τ S = (a τ S).bind (kSet i τ) := id rfl
theorem ew_set1 (i) (x : T) : kSet i τ x S = .ok (.nx (τ.set i (some x))) S := id rfl
noncomputable def kDrop (τ : Env) : T → Sto → R Fl := fun _ S1 => .ok (.nx τ) S1
theorem ew_drop (a) : sDrop a τ S = (a τ S).bind (kDrop τ) := id rfl
theorem ew_drop1 (x : T) : kDrop τ x S = .ok (.nx τ) S := id rfl
noncomputable def kRet : T → Sto → R Fl := fun x S1 => .ok (.rt x) S1
theorem ew_ret (a) : sRet a τ S = (a τ S).bind kRet := id rfl
theorem ew_ret1 (x : T) : kRet x S = .ok (.rt x) S := id rfl
noncomputable def kFor (p : Pat) (b : Env → Sto → R Fl) (τ : Env) : Its → Sto → R Fl := fun it S1 => sForGo it p b it.ts τ S1
theorem ew_for (m p b) : sFor m p b τ S = (m τ S).bind (kFor p b τ) := id rfl
theorem ew_for1 (p b) (it : Its) : kFor p b τ it S = sForGo it p b it.ts τ S := id rfl
def kOk (f : α → Sto → R β) (Q : β → Sto → Prop) : α → Sto → Prop := fun a S => Ok (f a S) Q
theorem ew_bind (r : R α) (f : α → Sto → R β) (Q : β → Sto → Prop) : Ok (r.bind f) Q = Ok r (kOk f Q) := Ok_bind r f Q
theorem ew_Ok (f : α → Sto → R β) (Q : β → Sto → Prop) (a : α) : kOk f Q a S = Ok (f a S) Q := id rfl
end
theorem bind_as {α β γ : Type} (r : R α) (f : α → Sto → R β) (g : β → Sto → R γ) : (r.bind f).bind g = r.bind fun a S => (f a S).bind g := by cases r <;> rfl
theorem bind_cg {α β : Type} (r : R α) {f g : α → Sto → R β} (h : ∀ a S, f a S = g a S) : r.bind f = r.bind g := by
  rw [show f = g from funext fun a => funext fun S => h a S]
theorem eb_C {β : Type} (t : T) (τ : Env) (S : Sto) (f : T → Sto → R β) : R.bind (mC t τ S) f = f t S := id rfl
theorem eb_v0 {β : Type} (t : T) (l : Env) (S : Sto) (f : T → Sto → R β) : R.bind (mVar 0 (some t :: l) S) f = f t S := id rfl
theorem eb_v1 {β : Type} (a0 : Option T) (t : T) (l : Env) (S : Sto) (f : T → Sto → R β) : R.bind (mVar 1 (a0 :: some t :: l) S) f = f t S := id rfl
theorem eb_v2 {β : Type} (a0 a1 : Option T) (t : T) (l : Env) (S : Sto) (f : T → Sto → R β) : R.bind (mVar 2 (a0 :: a1 :: some t :: l) S) f = f t S := id rfl
theorem eb_v3 {β : Type} (a0 a1 a2 : Option T) (t : T) (l : Env) (S : Sto) (f : T → Sto → R β) : R.bind (mVar 3 (a0 :: a1 :: a2 :: some t :: l) S) f = f t S := id rfl
theorem eb_v4 {β : Type} (a0 a1 a2 a3 : Option T) (t : T) (l : Env) (S : Sto) (f : T → Sto → R β) : R.bind (mVar 4 (a0 :: a1 :: a2 :: a3 :: some t :: l) S) f = f t S := id rfl
theorem eb_v5 {β : Type} (a0 a1 a2 a3 a4 : Option T) (t : T) (l : Env) (S : Sto) (f : T → Sto → R β) : R.bind (mVar 5 (a0 :: a1 :: a2 :: a3 :: a4 :: some t :: l) S) f = f t S := id rfl
theorem eb_v6 {β : Type} (a0 a1 a2 a3 a4 a5 : Option T) (t : T) (l : Env) (S : Sto) (f : T → Sto → R β) : R.bind (mVar 6 (a0 :: a1 :: a2 :: a3 :: a4 :: a5 :: some t :: l) S) f = f t S := id rfl
theorem eb_v7 {β : Type} (a0 a1 a2 a3 a4 a5 a6 : Option T) (t : T) (l : Env) (S : Sto) (f : T → Sto → R β) : R.bind (mVar 7 (a0 :: a1 :: a2 :: a3 :: a4 :: a5 :: a6 :: some t :: l) S) f = f t S := id rfl
theorem eb_v8 {β : Type} (a0 a1 a2 a3 a4 a5 a6 a7 : Option T) (t : T) (l : Env) (S : Sto) (f : T → Sto → R β) : R.bind (mVar 8 (a0 :: a1 :: a2 :: a3 :: a4 :: a5 :: a6 :: a7 :: some t :: l) S) f = f t S := id rfl
theorem eb_v9 {β : Type} (a0 a1 a2 a3 a4 a5 a6 a7 a8 : Option T) (t : T) (l : Env) (S : Sto) (f : T → Sto → R β) : R.bind (mVar 9 (a0 :: a1 :: a2 :: a3 :: a4 :: a5 :: a6 :: a7 :: a8 :: some t :: l) S) f = f t S := id rfl
theorem eb_v10 {β : Type} (a0 a1 a2 a3 a4 a5 a6 a7 a8 a9 : Option T) (t : T) (l : Env) (S : Sto) (f : T → Sto → R β) : R.bind (mVar 10 (a0 :: a1 :: a2 :: a3 :: a4 :: a5 :: a6 :: a7 :: a8 :: a9 :: some t :: l) S) f = f t S := id rfl
theorem eb_v11 {β : Type} (a0 a1 a2 a3 a4 a5 a6 a7 a8 a9 a10 : Option T) (t : T) (l : Env) (S : Sto) (f : T → Sto → R β) : R.bind (mVar 11 (a0 :: a1 :: a2 :: a3 :: a4 :: a5 :: a6 :: a7 :: a8 :: a9 :: a10 :: some t :: l) S) f = f t S := id rfl
theorem eb_v12 {β : Type} (a0 a1 a2 a3 a4 a5 a6 a7 a8 a9 a10 a11 : Option T) (t : T) (l : Env) (S : Sto) (f : T → Sto → R β) : R.bind (mVar 12 (a0 :: a1 :: a2 :: a3 :: a4 :: a5 :: a6 :: a7 :: a8 :: a9 :: a10 :: a11 :: some t :: l) S) f = f t S := id rfl
theorem eb_v13 {β : Type} (a0 a1 a2 a3 a4 a5 a6 a7 a8 a9 a10 a11 a12 : Option T) (t : T) (l : Env) (S : Sto) (f : T → Sto → R β) : R.bind (mVar 13 (a0 :: a1 :: a2 :: a3 :: a4 :: a5 :: a6 :: a7 :: a8 :: a9 :: a10 :: a11 :: a12 :: some t :: l) S) f = f t S := id rfl
theorem eb_v14 {β : Type} (a0 a1 a2 a3 a4 a5 a6 a7 a8 a9 a10 a11 a12 a13 : Option T) (t : T) (l : Env) (S : Sto) (f : T → Sto → R β) : R.bind (mVar 14 (a0 :: a1 :: a2 :: a3 :: a4 :: a5 :: a6 :: a7 :: a8 :: a9 :: a10 :: a11 :: a12 :: a13 :: some t :: l) S) f = f t S := id rfl
theorem eb_v15 {β : Type} (a0 a1 a2 a3 a4 a5 a6 a7 a8 a9 a10 a11 a12 a13 a14 : Option T) (t : T) (l : Env) (S : Sto) (f : T → Sto → R β) : R.bind (mVar 15 (a0 :: a1 :: a2 :: a3 :: a4 :: a5 :: a6 :: a7 :: a8 :: a9 :: a10 :: a11 :: a12 :: a13 :: a14 :: some t :: l) S) f = f t S := id rfl
theorem eb_v16 {β : Type} (a0 a1 a2 a3 a4 a5 a6 a7 a8 a9 a10 a11 a12 a13 a14 a15 : Option T) (t : T) (l : Env) (S : Sto) (f : T → Sto → R β) : R.bind (mVar 16 (a0 :: a1 :: a2 :: a3 :: a4 :: a5 :: a6 :: a7 :: a8 :: a9 :: a10 :: a11 :: a12 :: a13 :: a14 :: a15 :: some t :: l) S) f = f t S := id rfl
theorem eb_v17 {β : Type} (a0 a1 a2 a3 a4 a5 a6 a7 a8 a9 a10 a11 a12 a13 a14 a15 a16 : Option T) (t : T) (l : Env) (S : Sto) (f : T → Sto → R β) : R.bind (mVar 17 (a0 :: a1 :: a2 :: a3 :: a4 :: a5 :: a6 :: a7 :: a8 :: a9 :: a10 :: a11 :: a12 :: a13 :: a14 :: a15 :: a16 :: some t :: l) S) f = f t S := id rfl
noncomputable def kQs (i : Nat) (b : Env → Sto → R Fl) (τ : Env) : T → Sto → R Fl := fun x S1 => b (τ.set i (some x)) S1
theorem ew_qs (i) (a b) (τ : Env) (S : Sto) : sSeq (sSet i a) b τ S = (a τ S).bind (kQs i b τ) := id (bind_as _ _ _)
theorem ew_qs1 (i) (b) (τ : Env) (x : T) (S : Sto) : kQs i b τ x S = b (τ.set i (some x)) S := id rfl
noncomputable def kQd (b : Env → Sto → R Fl) (τ : Env) : T → Sto → R Fl := fun _ S1 => b τ S1
theorem ew_qd (a b) (τ : Env) (S : Sto) : sSeq (sDrop a) b τ S = (a τ S).bind (kQd b τ) := id (bind_as _ _ _)
theorem ew_qd1 (b) (τ : Env) (x : T) (S : Sto) : kQd b τ x S = b τ S := id rfl
noncomputable def kTp : List T → Sto → R T := fun ts S1 => .ok (.tup ts) S1
theorem ew_Tp (ts : List T) (S : Sto) : kTp ts S = .ok (.tup ts) S := id rfl
noncomputable def kF1_1 {γ : Type} (f : List T → Sto → R γ) : T → Sto → R γ := fun x S1 => f [x] S1
theorem ew_k1_1 {γ : Type} (f : List T → Sto → R γ) (x : T) (S : Sto) : kF1_1 f  x S = f [x] S := id rfl
theorem ew_ch1 {γ : Type} (g : List T → Sto → R γ) (b1 : Env → Sto → R T) (τ : Env) (S : Sto) : R.bind (mCons b1 mNil τ S) g = (b1 τ S).bind (kF1_1 g ) := (bind_as _ _ _).trans (bind_cg _ fun x S1 => (bind_as _ _ _).trans (rfl))
theorem ew_fn1 (f : List T → Sto → R T) (b1 : Env → Sto → R T) (τ : Env) (S : Sto) : mFn f (mCons b1 mNil) τ S = (b1 τ S).bind (kF1_1 f ) := ew_ch1 f b1 τ S
theorem ew_in1 (f : List T → Sto → R Its) (b1 : Env → Sto → R T) (τ : Env) (S : Sto) : mItN f (mCons b1 mNil) τ S = (b1 τ S).bind (kF1_1 f ) := ew_ch1 f b1 τ S
theorem ew_tp1 (b1 : Env → Sto → R T) (τ : Env) (S : Sto) : mTup (mCons b1 mNil) τ S = (b1 τ S).bind (kF1_1 kTp ) := (ew_ch1 kTup b1 τ S).trans rfl
theorem ew_ls1 (fz : Bool) (b1 : Env → Sto → R T) (τ : Env) (S : Sto) : mLst fz (mCons b1 mNil) τ S = (b1 τ S).bind (kF1_1 (newL fz) ) := (ew_ch1 (kLst fz) b1 τ S).trans rfl
noncomputable def kM1 (c : T → Sto → Bool) (f : T → List T → Sto → R T) (b1 : Env → Sto → R T) (τ : Env) : T → Sto → R T := fun x S => if c x S = true then (b1 τ S).bind (kF1_1 (f x) ) else .bad
theorem ew_mt1 (c : T → Sto → Bool) (f : T → List T → Sto → R T) (a b1 : Env → Sto → R T) (τ : Env) (S : Sto) : mMeth c f a (mCons b1 mNil) τ S = (a τ S).bind (kM1 c f b1 τ) := bind_cg _ fun x S1 => by
  show (if c x S1 = true then _ else _) = (if c x S1 = true then _ else _)
  rw [← ew_ch1]
theorem ew_mu1 (c : T → Sto → Bool) (f : T → List T → Sto → R T) (b1 : Env → Sto → R T) (τ : Env) (x : T) (S : Sto) : kM1 c f b1 τ x S = if c x S = true then (b1 τ S).bind (kF1_1 (f x) ) else .bad := id rfl
noncomputable def kF2_2 {γ : Type} (f : List T → Sto → R γ) (x1 : T) : T → Sto → R γ := fun x S1 => f [x1, x] S1
theorem ew_k2_2 {γ : Type} (f : List T → Sto → R γ) (x1 : T) (x : T) (S : Sto) : kF2_2 f x1 x S = f [x1, x] S := id rfl
noncomputable def kF2_1 {γ : Type} (f : List T → Sto → R γ) (b2 : Env → Sto → R T) (τ : Env) : T → Sto → R γ := fun x S1 => (b2 τ S1).bind (kF2_2 f x )
theorem ew_k2_1 {γ : Type} (f : List T → Sto → R γ) (b2 : Env → Sto → R T) (τ : Env) (x : T) (S : Sto) : kF2_1 f  b2 τ x S = (b2 τ S).bind (kF2_2 f x ) := id rfl
theorem ew_ch2 {γ : Type} (g : List T → Sto → R γ) (b1 b2 : Env → Sto → R T) (τ : Env) (S : Sto) : R.bind (mCons b1 (mCons b2 mNil) τ S) g = (b1 τ S).bind (kF2_1 g b2 τ) := (bind_as _ _ _).trans (bind_cg _ fun x S1 => (bind_as _ _ _).trans (ew_ch1 (fun ys => g (x :: ys)) b2 τ S1))
theorem ew_fn2 (f : List T → Sto → R T) (b1 b2 : Env → Sto → R T) (τ : Env) (S : Sto) : mFn f (mCons b1 (mCons b2 mNil)) τ S = (b1 τ S).bind (kF2_1 f b2 τ) := ew_ch2 f b1 b2 τ S
theorem ew_in2 (f : List T → Sto → R Its) (b1 b2 : Env → Sto → R T) (τ : Env) (S : Sto) : mItN f (mCons b1 (mCons b2 mNil)) τ S = (b1 τ S).bind (kF2_1 f b2 τ) := ew_ch2 f b1 b2 τ S
theorem ew_tp2 (b1 b2 : Env → Sto → R T) (τ : Env) (S : Sto) : mTup (mCons b1 (mCons b2 mNil)) τ S = (b1 τ S).bind (kF2_1 kTp b2 τ) := (ew_ch2 kTup b1 b2 τ S).trans rfl
theorem ew_ls2 (fz : Bool) (b1 b2 : Env → Sto → R T) (τ : Env) (S : Sto) : mLst fz (mCons b1 (mCons b2 mNil)) τ S = (b1 τ S).bind (kF2_1 (newL fz) b2 τ) := (ew_ch2 (kLst fz) b1 b2 τ S).trans rfl
noncomputable def kM2 (c : T → Sto → Bool) (f : T → List T → Sto → R T) (b1 b2 : Env → Sto → R T) (τ : Env) : T → Sto → R T := fun x S => if c x S = true then (b1 τ S).bind (kF2_1 (f x) b2 τ) else .bad
theorem ew_mt2 (c : T → Sto → Bool) (f : T → List T → Sto → R T) (a b1 b2 : Env → Sto → R T) (τ : Env) (S : Sto) : mMeth c f a (mCons b1 (mCons b2 mNil)) τ S = (a τ S).bind (kM2 c f b1 b2 τ) := bind_cg _ fun x S1 => by
  show (if c x S1 = true then _ else _) = (if c x S1 = true then _ else _)
  rw [← ew_ch2]
theorem ew_mu2 (c : T → Sto → Bool) (f : T → List T → Sto → R T) (b1 b2 : Env → Sto → R T) (τ : Env) (x : T) (S : Sto) : kM2 c f b1 b2 τ x S = if c x S = true then (b1 τ S).bind (kF2_1 (f x) b2 τ) else .bad := id rfl
noncomputable def kF3_3 {γ : Type} (f : List T → Sto → R γ) (x1 : T) (x2 : T) : T → Sto → R γ := fun x S1 => f [x1, x2, x] S1
theorem ew_k3_3 {γ : Type} (f : List T → Sto → R γ) (x1 : T) (x2 : T) (x : T) (S : Sto) : kF3_3 f x1 x2 x S = f [x1, x2, x] S := id rfl
noncomputable def kF3_2 {γ : Type} (f : List T → Sto → R γ) (x1 : T) (b3 : Env → Sto → R T) (τ : Env) : T → Sto → R γ := fun x S1 => (b3 τ S1).bind (kF3_3 f x1 x )
theorem ew_k3_2 {γ : Type} (f : List T → Sto → R γ) (x1 : T) (b3 : Env → Sto → R T) (τ : Env) (x : T) (S : Sto) : kF3_2 f x1 b3 τ x S = (b3 τ S).bind (kF3_3 f x1 x ) := id rfl
noncomputable def kF3_1 {γ : Type} (f : List T → Sto → R γ) (b2 : Env → Sto → R T) (b3 : Env → Sto → R T) (τ : Env) : T → Sto → R γ := fun x S1 => (b2 τ S1).bind (kF3_2 f x b3 τ)
theorem ew_k3_1 {γ : Type} (f : List T → Sto → R γ) (b2 : Env → Sto → R T) (b3 : Env → Sto → R T) (τ : Env) (x : T) (S : Sto) : kF3_1 f  b2 b3 τ x S = (b2 τ S).bind (kF3_2 f x b3 τ) := id rfl
theorem ew_ch3 {γ : Type} (g : List T → Sto → R γ) (b1 b2 b3 : Env → Sto → R T) (τ : Env) (S : Sto) : R.bind (mCons b1 (mCons b2 (mCons b3 mNil)) τ S) g = (b1 τ S).bind (kF3_1 g b2 b3 τ) := (bind_as _ _ _).trans (bind_cg _ fun x S1 => (bind_as _ _ _).trans (ew_ch2 (fun ys => g (x :: ys)) b2 b3 τ S1))
theorem ew_fn3 (f : List T → Sto → R T) (b1 b2 b3 : Env → Sto → R T) (τ : Env) (S : Sto) : mFn f (mCons b1 (mCons b2 (mCons b3 mNil))) τ S = (b1 τ S).bind (kF3_1 f b2 b3 τ) := ew_ch3 f b1 b2 b3 τ S
theorem ew_tp3 (b1 b2 b3 : Env → Sto → R T) (τ : Env) (S : Sto) : mTup (mCons b1 (mCons b2 (mCons b3 mNil))) τ S = (b1 τ S).bind (kF3_1 kTp b2 b3 τ) := (ew_ch3 kTup b1 b2 b3 τ S).trans rfl
theorem ew_ls3 (fz : Bool) (b1 b2 b3 : Env → Sto → R T) (τ : Env) (S : Sto) : mLst fz (mCons b1 (mCons b2 (mCons b3 mNil))) τ S = (b1 τ S).bind (kF3_1 (newL fz) b2 b3 τ) := (ew_ch3 (kLst fz) b1 b2 b3 τ S).trans rfl
noncomputable def kF4_4 {γ : Type} (f : List T → Sto → R γ) (x1 : T) (x2 : T) (x3 : T) : T → Sto → R γ := fun x S1 => f [x1, x2, x3, x] S1
theorem ew_k4_4 {γ : Type} (f : List T → Sto → R γ) (x1 : T) (x2 : T) (x3 : T) (x : T) (S : Sto) : kF4_4 f x1 x2 x3 x S = f [x1, x2, x3, x] S := id rfl
noncomputable def kF4_3 {γ : Type} (f : List T → Sto → R γ) (x1 : T) (x2 : T) (b4 : Env → Sto → R T) (τ : Env) : T → Sto → R γ := fun x S1 => (b4 τ S1).bind (kF4_4 f x1 x2 x )
theorem ew_k4_3 {γ : Type} (f : List T → Sto → R γ) (x1 : T) (x2 : T) (b4 : Env → Sto → R T) (τ : Env) (x : T) (S : Sto) : kF4_3 f x1 x2 b4 τ x S = (b4 τ S).bind (kF4_4 f x1 x2 x ) := id rfl
noncomputable def kF4_2 {γ : Type} (f : List T → Sto → R γ) (x1 : T) (b3 : Env → Sto → R T) (b4 : Env → Sto → R T) (τ : Env) : T → Sto → R γ := fun x S1 => (b3 τ S1).bind (kF4_3 f x1 x b4 τ)
theorem ew_k4_2 {γ : Type} (f : List T → Sto → R γ) (x1 : T) (b3 : Env → Sto → R T) (b4 : Env → Sto → R T) (τ : Env) (x : T) (S : Sto) : kF4_2 f x1 b3 b4 τ x S = (b3 τ S).bind (kF4_3 f x1 x b4 τ) := id rfl
noncomputable def kF4_1 {γ : Type} (f : List T → Sto → R γ) (b2 : Env → Sto → R T) (b3 : Env → Sto → R T) (b4 : Env → Sto → R T) (τ : Env) : T → Sto → R γ := fun x S1 => (b2 τ S1).bind (kF4_2 f x b3 b4 τ)
theorem ew_k4_1 {γ : Type} (f : List T → Sto → R γ) (b2 : Env → Sto → R T) (b3 : Env → Sto → R T) (b4 : Env → Sto → R T) (τ : Env) (x : T) (S : Sto) : kF4_1 f  b2 b3 b4 τ x S = (b2 τ S).bind (kF4_2 f x b3 b4 τ) := id rfl
theorem ew_ch4 {γ : Type} (g : List T → Sto → R γ) (b1 b2 b3 b4 : Env → Sto → R T) (τ : Env) (S : Sto) : R.bind (mCons b1 (mCons b2 (mCons b3 (mCons b4 mNil))) τ S) g = (b1 τ S).bind (kF4_1 g b2 b3 b4 τ) := (bind_as _ _ _).trans (bind_cg _ fun x S1 => (bind_as _ _ _).trans (ew_ch3 (fun ys => g (x :: ys)) b2 b3 b4 τ S1))
theorem ew_fn4 (f : List T → Sto → R T) (b1 b2 b3 b4 : Env → Sto → R T) (τ : Env) (S : Sto) : mFn f (mCons b1 (mCons b2 (mCons b3 (mCons b4 mNil)))) τ S = (b1 τ S).bind (kF4_1 f b2 b3 b4 τ) := ew_ch4 f b1 b2 b3 b4 τ S
theorem ew_tp4 (b1 b2 b3 b4 : Env → Sto → R T) (τ : Env) (S : Sto) : mTup (mCons b1 (mCons b2 (mCons b3 (mCons b4 mNil)))) τ S = (b1 τ S).bind (kF4_1 kTp b2 b3 b4 τ) := (ew_ch4 kTup b1 b2 b3 b4 τ S).trans rfl
theorem ew_ls4 (fz : Bool) (b1 b2 b3 b4 : Env → Sto → R T) (τ : Env) (S : Sto) : mLst fz (mCons b1 (mCons b2 (mCons b3 (mCons b4 mNil)))) τ S = (b1 τ S).bind (kF4_1 (newL fz) b2 b3 b4 τ) := (ew_ch4 (kLst fz) b1 b2 b3 b4 τ S).trans rfl
noncomputable def kF5_5 {γ : Type} (f : List T → Sto → R γ) (x1 : T) (x2 : T) (x3 : T) (x4 : T) : T → Sto → R γ := fun x S1 => f [x1, x2, x3, x4, x] S1
theorem ew_k5_5 {γ : Type} (f : List T → Sto → R γ) (x1 : T) (x2 : T) (x3 : T) (x4 : T) (x : T) (S : Sto) : kF5_5 f x1 x2 x3 x4 x S = f [x1, x2, x3, x4, x] S := id rfl
noncomputable def kF5_4 {γ : Type} (f : List T → Sto → R γ) (x1 : T) (x2 : T) (x3 : T) (b5 : Env → Sto → R T) (τ : Env) : T → Sto → R γ := fun x S1 => (b5 τ S1).bind (kF5_5 f x1 x2 x3 x )
theorem ew_k5_4 {γ : Type} (f : List T → Sto → R γ) (x1 : T) (x2 : T) (x3 : T) (b5 : Env → Sto → R T) (τ : Env) (x : T) (S : Sto) : kF5_4 f x1 x2 x3 b5 τ x S = (b5 τ S).bind (kF5_5 f x1 x2 x3 x ) := id rfl
noncomputable def kF5_3 {γ : Type} (f : List T → Sto → R γ) (x1 : T) (x2 : T) (b4 : Env → Sto → R T) (b5 : Env → Sto → R T) (τ : Env) : T → Sto → R γ := fun x S1 => (b4 τ S1).bind (kF5_4 f x1 x2 x b5 τ)
theorem ew_k5_3 {γ : Type} (f : List T → Sto → R γ) (x1 : T) (x2 : T) (b4 : Env → Sto → R T) (b5 : Env → Sto → R T) (τ : Env) (x : T) (S : Sto) : kF5_3 f x1 x2 b4 b5 τ x S = (b4 τ S).bind (kF5_4 f x1 x2 x b5 τ) := id rfl
noncomputable def kF5_2 {γ : Type} (f : List T → Sto → R γ) (x1 : T) (b3 : Env → Sto → R T) (b4 : Env → Sto → R T) (b5 : Env → Sto → R T) (τ : Env) : T → Sto → R γ := fun x S1 => (b3 τ S1).bind (kF5_3 f x1 x b4 b5 τ)
theorem ew_k5_2 {γ : Type} (f : List T → Sto → R γ) (x1 : T) (b3 : Env → Sto → R T) (b4 : Env → Sto → R T) (b5 : Env → Sto → R T) (τ : Env) (x : T) (S : Sto) : kF5_2 f x1 b3 b4 b5 τ x S = (b3 τ S).bind (kF5_3 f x1 x b4 b5 τ) := id rfl
noncomputable def kF5_1 {γ : Type} (f : List T → Sto → R γ) (b2 : Env → Sto → R T) (b3 : Env → Sto → R T) (b4 : Env → Sto → R T) (b5 : Env → Sto → R T) (τ : Env) : T → Sto → R γ := fun x S1 => (b2 τ S1).bind (kF5_2 f x b3 b4 b5 τ)
theorem ew_k5_1 {γ : Type} (f : List T → Sto → R γ) (b2 : Env → Sto → R T) (b3 : Env → Sto → R T) (b4 : Env → Sto → R T) (b5 : Env → Sto → R T) (τ : Env) (x : T) (S : Sto) : kF5_1 f  b2 b3 b4 b5 τ x S = (b2 τ S).bind (kF5_2 f x b3 b4 b5 τ) := id rfl
theorem ew_ch5 {γ : Type} (g : List T → Sto → R γ) (b1 b2 b3 b4 b5 : Env → Sto → R T) (τ : Env) (S : Sto) : R.bind (mCons b1 (mCons b2 (mCons b3 (mCons b4 (mCons b5 mNil)))) τ S) g = (b1 τ S).bind (kF5_1 g b2 b3 b4 b5 τ) := (bind_as _ _ _).trans (bind_cg _ fun x S1 => (bind_as _ _ _).trans (ew_ch4 (fun ys => g (x :: ys)) b2 b3 b4 b5 τ S1))
theorem ew_fn5 (f : List T → Sto → R T) (b1 b2 b3 b4 b5 : Env → Sto → R T) (τ : Env) (S : Sto) : mFn f (mCons b1 (mCons b2 (mCons b3 (mCons b4 (mCons b5 mNil))))) τ S = (b1 τ S).bind (kF5_1 f b2 b3 b4 b5 τ) := ew_ch5 f b1 b2 b3 b4 b5 τ S
theorem ew_tp5 (b1 b2 b3 b4 b5 : Env → Sto → R T) (τ : Env) (S : Sto) : mTup (mCons b1 (mCons b2 (mCons b3 (mCons b4 (mCons b5 mNil))))) τ S = (b1 τ S).bind (kF5_1 kTp b2 b3 b4 b5 τ) := (ew_ch5 kTup b1 b2 b3 b4 b5 τ S).trans rfl
noncomputable def kF6_6 {γ : Type} (f : List T → Sto → R γ) (x1 : T) (x2 : T) (x3 : T) (x4 : T) (x5 : T) : T → Sto → R γ := fun x S1 => f [x1, x2, x3, x4, x5, x] S1
theorem ew_k6_6 {γ : Type} (f : List T → Sto → R γ) (x1 : T) (x2 : T) (x3 : T) (x4 : T) (x5 : T) (x : T) (S : Sto) : kF6_6 f x1 x2 x3 x4 x5 x S = f [x1, x2, x3, x4, x5, x] S := id rfl
noncomputable def kF6_5 {γ : Type} (f : List T → Sto → R γ) (x1 : T) (x2 : T) (x3 : T) (x4 : T) (b6 : Env → Sto → R T) (τ : Env) : T → Sto → R γ := fun x S1 => (b6 τ S1).bind (kF6_6 f x1 x2 x3 x4 x )
theorem ew_k6_5 {γ : Type} (f : List T → Sto → R γ) (x1 : T) (x2 : T) (x3 : T) (x4 : T) (b6 : Env → Sto → R T) (τ : Env) (x : T) (S : Sto) : kF6_5 f x1 x2 x3 x4 b6 τ x S = (b6 τ S).bind (kF6_6 f x1 x2 x3 x4 x ) := id rfl
noncomputable def kF6_4 {γ : Type} (f : List T → Sto → R γ) (x1 : T) (x2 : T) (x3 : T) (b5 : Env → Sto → R T) (b6 : Env → Sto → R T) (τ : Env) : T → Sto → R γ := fun x S1 => (b5 τ S1).bind (kF6_5 f x1 x2 x3 x b6 τ)
theorem ew_k6_4 {γ : Type} (f : List T → Sto → R γ) (x1 : T) (x2 : T) (x3 : T) (b5 : Env → Sto → R T) (b6 : Env → Sto → R T) (τ : Env) (x : T) (S : Sto) : kF6_4 f x1 x2 x3 b5 b6 τ x S = (b5 τ S).bind (kF6_5 f x1 x2 x3 x b6 τ) := id rfl
noncomputable def kF6_3 {γ : Type} (f : List T → Sto → R γ) (x1 : T) (x2 : T) (b4 : Env → Sto → R T) (b5 : Env → Sto → R T) (b6 : Env → Sto → R T) (τ : Env) : T → Sto → R γ := fun x S1 => (b4 τ S1).bind (kF6_4 f x1 x2 x b5 b6 τ)
theorem ew_k6_3 {γ : Type} (f : List T → Sto → R γ) (x1 : T) (x2 : T) (b4 : Env → Sto → R T) (b5 : Env → Sto → R T) (b6 : Env → Sto → R T) (τ : Env) (x : T) (S : Sto) : kF6_3 f x1 x2 b4 b5 b6 τ x S = (b4 τ S).bind (kF6_4 f x1 x2 x b5 b6 τ) := id rfl
noncomputable def kF6_2 {γ : Type} (f : List T → Sto → R γ) (x1 : T) (b3 : Env → Sto → R T) (b4 : Env → Sto → R T) (b5 : Env → Sto → R T) (b6 : Env → Sto → R T) (τ : Env) : T → Sto → R γ := fun x S1 => (b3 τ S1).bind (kF6_3 f x1 x b4 b5 b6 τ)
theorem ew_k6_2 {γ : Type} (f : List T → Sto → R γ) (x1 : T) (b3 : Env → Sto → R T) (b4 : Env → Sto → R T) (b5 : Env → Sto → R T) (b6 : Env → Sto → R T) (τ : Env) (x : T) (S : Sto) : kF6_2 f x1 b3 b4 b5 b6 τ x S = (b3 τ S).bind (kF6_3 f x1 x b4 b5 b6 τ) := id rfl
noncomputable def kF6_1 {γ : Type} (f : List T → Sto → R γ) (b2 : Env → Sto → R T) (b3 : Env → Sto → R T) (b4 : Env → Sto → R T) (b5 : Env → Sto → R T) (b6 : Env → Sto → R T) (τ : Env) : T → Sto → R γ := fun x S1 => (b2 τ S1).bind (kF6_2 f x b3 b4 b5 b6 τ)
theorem ew_k6_1 {γ : Type} (f : List T → Sto → R γ) (b2 : Env → Sto → R T) (b3 : Env → Sto → R T) (b4 : Env → Sto → R T) (b5 : Env → Sto → R T) (b6 : Env → Sto → R T) (τ : Env) (x : T) (S : Sto) : kF6_1 f  b2 b3 b4 b5 b6 τ x S = (b2 τ S).bind (kF6_2 f x b3 b4 b5 b6 τ) := id rfl
theorem ew_ch6 {γ : Type} (g : List T → Sto → R γ) (b1 b2 b3 b4 b5 b6 : Env → Sto → R T) (τ : Env) (S : Sto) : R.bind (mCons b1 (mCons b2 (mCons b3 (mCons b4 (mCons b5 (mCons b6 mNil))))) τ S) g = (b1 τ S).bind (kF6_1 g b2 b3 b4 b5 b6 τ) := (bind_as _ _ _).trans (bind_cg _ fun x S1 => (bind_as _ _ _).trans (ew_ch5 (fun ys => g (x :: ys)) b2 b3 b4 b5 b6 τ S1))
theorem ew_tp6 (b1 b2 b3 b4 b5 b6 : Env → Sto → R T) (τ : Env) (S : Sto) : mTup (mCons b1 (mCons b2 (mCons b3 (mCons b4 (mCons b5 (mCons b6 mNil)))))) τ S = (b1 τ S).bind (kF6_1 kTp b2 b3 b4 b5 b6 τ) := (ew_ch6 kTup b1 b2 b3 b4 b5 b6 τ S).trans rfl
end Fx
namespace Go
open PySem PySem.Spec PyProof.Rows L2 Fx
private theorem EVp : (((((type_of% @eb_C ∧ type_of% @eb_v0) ∧ (type_of% @eb_v1 ∧ (type_of% @eb_v2 ∧ type_of% @eb_v3))) ∧ ((type_of% @eb_v4 ∧ type_of% @eb_v5) ∧ (type_of% @eb_v6 ∧ (type_of% @eb_v7 ∧ type_of% @eb_v8)))) ∧ (((type_of% @eb_v9 ∧ type_of% @eb_v10) ∧ (type_of% @eb_v11 ∧ (type_of% @eb_v12 ∧ type_of% @eb_v13))) ∧ ((type_of% @eb_v14 ∧ type_of% @eb_v15) ∧ (type_of% @eb_v16 ∧ (type_of% @eb_v17 ∧ type_of% @ew_qs))))) ∧ ((((type_of% @ew_qd ∧ type_of% @ew_fn1) ∧ (type_of% @ew_in1 ∧ (type_of% @ew_tp1 ∧ type_of% @ew_ls1))) ∧ ((type_of% @ew_mt1 ∧ type_of% @ew_fn2) ∧ (type_of% @ew_in2 ∧ (type_of% @ew_tp2 ∧ type_of% @ew_ls2)))) ∧ (((type_of% @ew_mt2 ∧ type_of% @ew_fn3) ∧ (type_of% @ew_tp3 ∧ (type_of% @ew_ls3 ∧ type_of% @ew_fn4))) ∧ ((type_of% @ew_tp4 ∧ type_of% @ew_ls4) ∧ (type_of% @ew_fn5 ∧ (type_of% @ew_tp5 ∧ type_of% @ew_tp6)))))) := ⟨⟨⟨⟨⟨@eb_C, @eb_v0⟩, ⟨@eb_v1, ⟨@eb_v2, @eb_v3⟩⟩⟩, ⟨⟨@eb_v4, @eb_v5⟩, ⟨@eb_v6, ⟨@eb_v7, @eb_v8⟩⟩⟩⟩, ⟨⟨⟨@eb_v9, @eb_v10⟩, ⟨@eb_v11, ⟨@eb_v12, @eb_v13⟩⟩⟩, ⟨⟨@eb_v14, @eb_v15⟩, ⟨@eb_v16, ⟨@eb_v17, @ew_qs⟩⟩⟩⟩⟩, ⟨⟨⟨⟨@ew_qd, @ew_fn1⟩, ⟨@ew_in1, ⟨@ew_tp1, @ew_ls1⟩⟩⟩, ⟨⟨@ew_mt1, @ew_fn2⟩, ⟨@ew_in2, ⟨@ew_tp2, @ew_ls2⟩⟩⟩⟩, ⟨⟨⟨@ew_mt2, @ew_fn3⟩, ⟨@ew_tp3, ⟨@ew_ls3, @ew_fn4⟩⟩⟩, ⟨⟨@ew_tp4, @ew_ls4⟩, ⟨@ew_fn5, ⟨@ew_tp5, @ew_tp6⟩⟩⟩⟩⟩⟩
private theorem EVq : (((((((type_of% @ev_ok ∧ type_of% @ev_noErr) ∧ (type_of% @ev_C ∧ type_of% @ev_V)) ∧ ((type_of% @ev_nil ∧ type_of% @ev_fn) ∧ (type_of% @ev_tst ∧ type_of% @ev_toB))) ∧ (((type_of% @ev_andV ∧ type_of% @ev_orV) ∧ (type_of% @ev_notV ∧ type_of% @ev_newT)) ∧ ((type_of% @ev_newF ∧ type_of% @ev_tru) ∧ (type_of% @ev_true ∧ (type_of% @ev_it ∧ type_of% @ev_itN))))) ∧ ((((type_of% @ev_O0 ∧ type_of% @ev_lc2) ∧ (type_of% @ev_lstRg ∧ type_of% @ev_next)) ∧ ((type_of% @ev_retN ∧ type_of% @ev_put) ∧ (type_of% @ev_eqI ∧ (type_of% @ev_eqS ∧ type_of% @ev_neI)))) ∧ (((type_of% @ev_neS ∧ type_of% @ev_lt) ∧ (type_of% @ev_le ∧ type_of% @ev_gt)) ∧ ((type_of% @ev_ge ∧ type_of% @ev_sub) ∧ (type_of% @ev_neg ∧ (type_of% @ev_addI ∧ type_of% @ev_addT)))))) ∧ (((((type_of% @ev_addS ∧ type_of% @ev_addL) ∧ (type_of% @ev_int ∧ type_of% @ev_abs)) ∧ ((type_of% @ev_max ∧ type_of% @ev_min) ∧ (type_of% @ev_lenT ∧ (type_of% @ev_lenL ∧ type_of% @ev_lenK)))) ∧ (((type_of% @ev_lenS ∧ type_of% @ev_lenR) ∧ (type_of% @ev_seqR ∧ type_of% @ev_lstR)) ∧ ((type_of% @ev_tupT ∧ type_of% @ev_tupL) ∧ (type_of% @ev_tupK ∧ (type_of% @ev_ixT ∧ type_of% @ev_ixL))))) ∧ ((((type_of% @ev_ixR ∧ type_of% @atI_0) ∧ (type_of% @atI_1 ∧ type_of% @atI_2)) ∧ ((type_of% @atI_3 ∧ type_of% @atI_4) ∧ (type_of% @Ok_ok ∧ (type_of% @Ok_bad ∧ type_of% @Ok_noErr)))) ∧ (((type_of% @Ok_if ∧ type_of% @bindP_nm) ∧ (type_of% @ev_itOfT ∧ type_of% @ev_itOfL)) ∧ ((type_of% @ev_itOfK ∧ type_of% @ev_itOfS) ∧ (type_of% @ev_lstOfL ∧ (type_of% @ev_lstOfK ∧ type_of% @ev_dc))))))) ∧ ((((((type_of% @ew_seq ∧ type_of% @ew_seqN) ∧ (type_of% @ew_seqR ∧ type_of% @ew_seqB)) ∧ ((type_of% @ew_seqC ∧ type_of% @ew_bin) ∧ (type_of% @ew_bin1 ∧ (type_of% @ew_un ∧ type_of% @ew_cons)))) ∧ (((type_of% @ew_cons1 ∧ type_of% @ew_cons2) ∧ (type_of% @ew_ite ∧ type_of% @ew_if)) ∧ ((type_of% @ew_iteT ∧ type_of% @ew_iteF) ∧ (type_of% @ew_and ∧ (type_of% @ew_andT ∧ type_of% @ew_andF))))) ∧ ((((type_of% @ew_or ∧ type_of% @ew_orT) ∧ (type_of% @ew_orF ∧ type_of% @ew_not)) ∧ ((type_of% @ew_not1 ∧ type_of% @ew_tup) ∧ (type_of% @ew_tup1 ∧ (type_of% @ew_lst ∧ type_of% @ew_lst1)))) ∧ (((type_of% @ew_meth ∧ type_of% @ew_meth1) ∧ (type_of% @ew_sl ∧ type_of% @ew_sl1)) ∧ ((type_of% @ew_sl2 ∧ type_of% @ew_O1) ∧ (type_of% @ew_O11 ∧ (type_of% @ew_lc ∧ type_of% @ew_lc1)))))) ∧ (((((type_of% @ew_set ∧ type_of% @ew_set1) ∧ (type_of% @ew_drop ∧ type_of% @ew_drop1)) ∧ ((type_of% @ew_ret ∧ type_of% @ew_ret1) ∧ (type_of% @ew_for ∧ (type_of% @ew_for1 ∧ type_of% @ew_bind)))) ∧ (((type_of% @ew_Ok ∧ type_of% @ew_qs1) ∧ (type_of% @ew_qd1 ∧ type_of% @ew_Tp)) ∧ ((type_of% @ew_k1_1 ∧ type_of% @ew_mu1) ∧ (type_of% @ew_k2_2 ∧ (type_of% @ew_k2_1 ∧ type_of% @ew_mu2))))) ∧ ((((type_of% @ew_k3_3 ∧ type_of% @ew_k3_2) ∧ (type_of% @ew_k3_1 ∧ type_of% @ew_k4_4)) ∧ ((type_of% @ew_k4_3 ∧ type_of% @ew_k4_2) ∧ (type_of% @ew_k4_1 ∧ (type_of% @ew_k5_5 ∧ type_of% @ew_k5_4)))) ∧ (((type_of% @ew_k5_3 ∧ type_of% @ew_k5_2) ∧ (type_of% @ew_k5_1 ∧ type_of% @ew_k6_6)) ∧ ((type_of% @ew_k6_5 ∧ type_of% @ew_k6_4) ∧ (type_of% @ew_k6_3 ∧ (type_of% @ew_k6_2 ∧ type_of% @ew_k6_1)))))))) := ⟨⟨⟨⟨⟨⟨⟨@ev_ok, @ev_noErr⟩, ⟨@ev_C, @ev_V⟩⟩, ⟨⟨@ev_nil, @ev_fn⟩, ⟨@ev_tst, @ev_toB⟩⟩⟩, ⟨⟨⟨@ev_andV, @ev_orV⟩, ⟨@ev_notV, @ev_newT⟩⟩, ⟨⟨@ev_newF, @ev_tru⟩, ⟨@ev_true, ⟨@ev_it, @ev_itN⟩⟩⟩⟩⟩, ⟨⟨⟨⟨@ev_O0, @ev_lc2⟩, ⟨@ev_lstRg, @ev_next⟩⟩, ⟨⟨@ev_retN, @ev_put⟩, ⟨@ev_eqI, ⟨@ev_eqS, @ev_neI⟩⟩⟩⟩, ⟨⟨⟨@ev_neS, @ev_lt⟩, ⟨@ev_le, @ev_gt⟩⟩, ⟨⟨@ev_ge, @ev_sub⟩, ⟨@ev_neg, ⟨@ev_addI, @ev_addT⟩⟩⟩⟩⟩⟩, ⟨⟨⟨⟨⟨@ev_addS, @ev_addL⟩, ⟨@ev_int, @ev_abs⟩⟩, ⟨⟨@ev_max, @ev_min⟩, ⟨@ev_lenT, ⟨@ev_lenL, @ev_lenK⟩⟩⟩⟩, ⟨⟨⟨@ev_lenS, @ev_lenR⟩, ⟨@ev_seqR, @ev_lstR⟩⟩, ⟨⟨@ev_tupT, @ev_tupL⟩, ⟨@ev_tupK, ⟨@ev_ixT, @ev_ixL⟩⟩⟩⟩⟩, ⟨⟨⟨⟨@ev_ixR, @atI_0⟩, ⟨@atI_1, @atI_2⟩⟩, ⟨⟨@atI_3, @atI_4⟩, ⟨@Ok_ok, ⟨@Ok_bad, @Ok_noErr⟩⟩⟩⟩, ⟨⟨⟨@Ok_if, @bindP_nm⟩, ⟨@ev_itOfT, @ev_itOfL⟩⟩, ⟨⟨@ev_itOfK, @ev_itOfS⟩, ⟨@ev_lstOfL, ⟨@ev_lstOfK, @ev_dc⟩⟩⟩⟩⟩⟩⟩, ⟨⟨⟨⟨⟨⟨@ew_seq, @ew_seqN⟩, ⟨@ew_seqR, @ew_seqB⟩⟩, ⟨⟨@ew_seqC, @ew_bin⟩, ⟨@ew_bin1, ⟨@ew_un, @ew_cons⟩⟩⟩⟩, ⟨⟨⟨@ew_cons1, @ew_cons2⟩, ⟨@ew_ite, @ew_if⟩⟩, ⟨⟨@ew_iteT, @ew_iteF⟩, ⟨@ew_and, ⟨@ew_andT, @ew_andF⟩⟩⟩⟩⟩, ⟨⟨⟨⟨@ew_or, @ew_orT⟩, ⟨@ew_orF, @ew_not⟩⟩, ⟨⟨@ew_not1, @ew_tup⟩, ⟨@ew_tup1, ⟨@ew_lst, @ew_lst1⟩⟩⟩⟩, ⟨⟨⟨@ew_meth, @ew_meth1⟩, ⟨@ew_sl, @ew_sl1⟩⟩, ⟨⟨@ew_sl2, @ew_O1⟩, ⟨@ew_O11, ⟨@ew_lc, @ew_lc1⟩⟩⟩⟩⟩⟩, ⟨⟨⟨⟨⟨@ew_set, @ew_set1⟩, ⟨@ew_drop, @ew_drop1⟩⟩, ⟨⟨@ew_ret, @ew_ret1⟩, ⟨@ew_for, ⟨@ew_for1, @ew_bind⟩⟩⟩⟩, ⟨⟨⟨@ew_Ok, @ew_qs1⟩, ⟨@ew_qd1, @ew_Tp⟩⟩, ⟨⟨@ew_k1_1, @ew_mu1⟩, ⟨@ew_k2_2, ⟨@ew_k2_1, @ew_mu2⟩⟩⟩⟩⟩, ⟨⟨⟨⟨@ew_k3_3, @ew_k3_2⟩, ⟨@ew_k3_1, @ew_k4_4⟩⟩, ⟨⟨@ew_k4_3, @ew_k4_2⟩, ⟨@ew_k4_1, ⟨@ew_k5_5, @ew_k5_4⟩⟩⟩⟩, ⟨⟨⟨@ew_k5_3, @ew_k5_2⟩, ⟨@ew_k5_1, @ew_k6_6⟩⟩, ⟨⟨@ew_k6_5, @ew_k6_4⟩, ⟨@ew_k6_3, ⟨@ew_k6_2, @ew_k6_1⟩⟩⟩⟩⟩⟩⟩⟩
local macro_rules | `(tactic| simp_arith only [$ls,*] $[$l:location]?) => `(tactic| simp only [↓EVp, EVq, List.map_cons, List.map_nil, List.cons_append, List.nil_append, List.length_cons, List.length_nil, List.replicate, List.getElem?_cons_succ, List.getElem?_cons_zero, List.set_cons_succ, List.set_cons_zero, wipeT, isStr, isLst, Nat.reduceAdd, Nat.reduceSub, if_true, Option.isSome_some, decide_true, decide_false, Bool.not_true, Bool.not_false, ite_true, Nat.reduceLeDiff, Bool.false_eq_true, if_false, Nat.zero_add, $ls,*] $[$l]?)
private theorem EVqo : ((((((type_of% @ev_ok ∧ type_of% @ev_noErr) ∧ (type_of% @ev_C ∧ (type_of% @ev_V ∧ type_of% @ev_bin))) ∧ ((type_of% @ev_un ∧ (type_of% @ev_nil ∧ type_of% @ev_cons)) ∧ (type_of% @ev_fn ∧ (type_of% @ev_ite ∧ type_of% @ev_tst)))) ∧ (((type_of% @ev_toB ∧ type_of% @ev_and) ∧ (type_of% @ev_or ∧ (type_of% @ev_not ∧ type_of% @ev_andV))) ∧ ((type_of% @ev_orV ∧ (type_of% @ev_notV ∧ type_of% @ev_tup)) ∧ (type_of% @ev_lst ∧ (type_of% @ev_newT ∧ type_of% @ev_newF))))) ∧ ((((type_of% @ev_meth ∧ type_of% @ev_tru) ∧ (type_of% @ev_true ∧ (type_of% @ev_it ∧ type_of% @ev_itN))) ∧ ((type_of% @ev_sl ∧ (type_of% @ev_O0 ∧ type_of% @ev_O1)) ∧ (type_of% @ev_lc ∧ (type_of% @ev_lc2 ∧ type_of% @ev_lstRg)))) ∧ (((type_of% @ev_next ∧ (type_of% @ev_seq ∧ type_of% @ev_set)) ∧ (type_of% @ev_drop ∧ (type_of% @ev_ret ∧ type_of% @ev_retN))) ∧ ((type_of% @ev_if ∧ (type_of% @ev_for ∧ type_of% @ev_put)) ∧ (type_of% @ev_eqI ∧ (type_of% @ev_eqS ∧ type_of% @ev_neI)))))) ∧ (((((type_of% @ev_neS ∧ type_of% @ev_lt) ∧ (type_of% @ev_le ∧ (type_of% @ev_gt ∧ type_of% @ev_ge))) ∧ ((type_of% @ev_sub ∧ (type_of% @ev_neg ∧ type_of% @ev_addI)) ∧ (type_of% @ev_addT ∧ (type_of% @ev_addS ∧ type_of% @ev_addL)))) ∧ (((type_of% @ev_int ∧ (type_of% @ev_abs ∧ type_of% @ev_max)) ∧ (type_of% @ev_min ∧ (type_of% @ev_lenT ∧ type_of% @ev_lenL))) ∧ ((type_of% @ev_lenK ∧ (type_of% @ev_lenS ∧ type_of% @ev_lenR)) ∧ (type_of% @ev_seqR ∧ (type_of% @ev_lstR ∧ type_of% @ev_tupT))))) ∧ ((((type_of% @ev_tupL ∧ type_of% @ev_tupK) ∧ (type_of% @ev_ixT ∧ (type_of% @ev_ixL ∧ type_of% @ev_ixR))) ∧ ((type_of% @atI_0 ∧ (type_of% @atI_1 ∧ type_of% @atI_2)) ∧ (type_of% @atI_3 ∧ (type_of% @atI_4 ∧ type_of% @Ok_ok)))) ∧ (((type_of% @Ok_bad ∧ (type_of% @Ok_bind ∧ type_of% @Ok_noErr)) ∧ (type_of% @Ok_if ∧ (type_of% @bindP_nm ∧ type_of% @ev_itOfT))) ∧ ((type_of% @ev_itOfL ∧ (type_of% @ev_itOfK ∧ type_of% @ev_itOfS)) ∧ (type_of% @ev_lstOfL ∧ (type_of% @ev_lstOfK ∧ type_of% @ev_dc))))))) := ⟨⟨⟨⟨⟨⟨@ev_ok, @ev_noErr⟩, ⟨@ev_C, ⟨@ev_V, @ev_bin⟩⟩⟩, ⟨⟨@ev_un, ⟨@ev_nil, @ev_cons⟩⟩, ⟨@ev_fn, ⟨@ev_ite, @ev_tst⟩⟩⟩⟩, ⟨⟨⟨@ev_toB, @ev_and⟩, ⟨@ev_or, ⟨@ev_not, @ev_andV⟩⟩⟩, ⟨⟨@ev_orV, ⟨@ev_notV, @ev_tup⟩⟩, ⟨@ev_lst, ⟨@ev_newT, @ev_newF⟩⟩⟩⟩⟩, ⟨⟨⟨⟨@ev_meth, @ev_tru⟩, ⟨@ev_true, ⟨@ev_it, @ev_itN⟩⟩⟩, ⟨⟨@ev_sl, ⟨@ev_O0, @ev_O1⟩⟩, ⟨@ev_lc, ⟨@ev_lc2, @ev_lstRg⟩⟩⟩⟩, ⟨⟨⟨@ev_next, ⟨@ev_seq, @ev_set⟩⟩, ⟨@ev_drop, ⟨@ev_ret, @ev_retN⟩⟩⟩, ⟨⟨@ev_if, ⟨@ev_for, @ev_put⟩⟩, ⟨@ev_eqI, ⟨@ev_eqS, @ev_neI⟩⟩⟩⟩⟩⟩, ⟨⟨⟨⟨⟨@ev_neS, @ev_lt⟩, ⟨@ev_le, ⟨@ev_gt, @ev_ge⟩⟩⟩, ⟨⟨@ev_sub, ⟨@ev_neg, @ev_addI⟩⟩, ⟨@ev_addT, ⟨@ev_addS, @ev_addL⟩⟩⟩⟩, ⟨⟨⟨@ev_int, ⟨@ev_abs, @ev_max⟩⟩, ⟨@ev_min, ⟨@ev_lenT, @ev_lenL⟩⟩⟩, ⟨⟨@ev_lenK, ⟨@ev_lenS, @ev_lenR⟩⟩, ⟨@ev_seqR, ⟨@ev_lstR, @ev_tupT⟩⟩⟩⟩⟩, ⟨⟨⟨⟨@ev_tupL, @ev_tupK⟩, ⟨@ev_ixT, ⟨@ev_ixL, @ev_ixR⟩⟩⟩, ⟨⟨@atI_0, ⟨@atI_1, @atI_2⟩⟩, ⟨@atI_3, ⟨@atI_4, @Ok_ok⟩⟩⟩⟩, ⟨⟨⟨@Ok_bad, ⟨@Ok_bind, @Ok_noErr⟩⟩, ⟨@Ok_if, ⟨@bindP_nm, @ev_itOfT⟩⟩⟩, ⟨⟨@ev_itOfL, ⟨@ev_itOfK, @ev_itOfS⟩⟩, ⟨@ev_lstOfL, ⟨@ev_lstOfK, @ev_dc⟩⟩⟩⟩⟩⟩⟩
local macro_rules | `(tactic| simp_arith! only [$ls,*] $[$l:location]?) => `(tactic| simp only [EVqo, List.map_cons, List.map_nil, List.cons_append, List.nil_append, List.length_cons, List.length_nil, List.replicate, List.getElem?_cons_succ, List.getElem?_cons_zero, List.set_cons_succ, List.set_cons_zero, wipeT, isStr, isLst, Nat.reduceAdd, Nat.reduceSub, if_true, Option.isSome_some, decide_true, decide_false, Bool.not_true, Bool.not_false, ite_true, Nat.reduceLeDiff, Bool.false_eq_true, if_false, Nat.zero_add, $ls,*] $[$l]?)
def topS (i : Nat) : Stmt := PySem.Challenge.pw_ledgerproof_k80_raised_claims.main.body.getD i (.Pass ⟨0, 0, 0, 0⟩)
abbrev st__check_sums : Stmt := topS 18
abbrev N__check_sums : List Str := ["claim", "constraint", "one"]
theorem sc__check_sums : FnScope N__check_sums ["claim", "constraint"] (defScope st__check_sums) := ⟨rfl, rfl, rfl, by decide +kernel, rfl, by decide +kernel, by decide +kernel⟩
abbrev st__times : Stmt := topS 19
abbrev N__times : List Str := ["constraint", "factor", "number", "account", "sector"]
theorem sc__times : FnScope N__times ["constraint", "factor"] (defScope st__times) := ⟨rfl, rfl, rfl, by decide +kernel, rfl, by decide +kernel, by decide +kernel⟩
abbrev st_raised : Stmt := topS 17
abbrev N_raised : List Str := ["claim", "constraint", "fraction", "above", "below", "terms"]
theorem sc_raised : FnScope N_raised ["claim", "constraint", "fraction"] (defScope st_raised) := ⟨rfl, rfl, rfl, by decide +kernel, rfl, by decide +kernel, by decide +kernel⟩
abbrev st__enclosed : Stmt := topS 24
abbrev N__enclosed : List Str := ["sector", "words"]
theorem sc__enclosed : FnScope N__enclosed ["sector", "words"] (defScope st__enclosed) := ⟨rfl, rfl, rfl, by decide +kernel, rfl, by decide +kernel, by decide +kernel⟩
abbrev st_show_sector : Stmt := topS 21
abbrev N_show_sector : List Str := ["sector", "word"]
theorem sc_show_sector : FnScope N_show_sector ["sector"] (defScope st_show_sector) := ⟨rfl, rfl, rfl, by decide +kernel, rfl, by decide +kernel, by decide +kernel⟩
abbrev st__counted : Stmt := topS 27
abbrev N__counted : List Str := ["number", "account"]
theorem sc__counted : FnScope N__counted ["number", "account"] (defScope st__counted) := ⟨rfl, rfl, rfl, by decide +kernel, rfl, by decide +kernel, by decide +kernel⟩
abbrev st__term : Stmt := topS 26
abbrev N__term : List Str := ["term", "shown"]
theorem sc__term : FnScope N__term ["term"] (defScope st__term) := ⟨rfl, rfl, rfl, by decide +kernel, rfl, by decide +kernel, by decide +kernel⟩
abbrev st__joined : Stmt := topS 25
abbrev N__joined : List Str := ["terms", "shown", "term"]
theorem sc__joined : FnScope N__joined ["terms"] (defScope st__joined) := ⟨rfl, rfl, rfl, by decide +kernel, rfl, by decide +kernel, by decide +kernel⟩
abbrev st_show_constraint : Stmt := topS 22
abbrev N_show_constraint : List Str := ["constraint", "terms", "relation", "front"]
theorem sc_show_constraint : FnScope N_show_constraint ["constraint"] (defScope st_show_constraint) := ⟨rfl, rfl, rfl, by decide +kernel, rfl, by decide +kernel, by decide +kernel⟩
abbrev st_show_claim : Stmt := topS 23
abbrev N_show_claim : List Str := ["claim", "premises", "conclusion", "shown", "premise"]
theorem sc_show_claim : FnScope N_show_claim ["claim"] (defScope st_show_claim) := ⟨rfl, rfl, rfl, by decide +kernel, rfl, by decide +kernel, by decide +kernel⟩
abbrev st__law_tape : Stmt := topS 29
abbrev N__law_tape : List Str := ["script", "total", "cell"]
theorem sc__law_tape : FnScope N__law_tape ["script"] (defScope st__law_tape) := ⟨rfl, rfl, rfl, by decide +kernel, rfl, by decide +kernel, by decide +kernel⟩
abbrev st__law_draw : Stmt := topS 30
abbrev N__law_draw : List Str := ["tape", "many", "place", "number"]
theorem sc__law_draw : FnScope N__law_draw ["tape", "many"] (defScope st__law_draw) := ⟨rfl, rfl, rfl, by decide +kernel, rfl, by decide +kernel, by decide +kernel⟩
abbrev st__law_number : Stmt := topS 32
abbrev N__law_number : List Str := ["tape", "number", "kind"]
theorem sc__law_number : FnScope N__law_number ["tape"] (defScope st__law_number) := ⟨rfl, rfl, rfl, by decide +kernel, rfl, by decide +kernel, by decide +kernel⟩
abbrev st__law_area : Stmt := topS 33
abbrev N__law_area : List Str := ["tape", "names", "depth", "kind", "left"]
theorem sc__law_area : FnScope N__law_area ["tape", "names", "depth"] (defScope st__law_area) := ⟨rfl, rfl, rfl, by decide +kernel, rfl, by decide +kernel, by decide +kernel⟩
abbrev st__law_relation : Stmt := topS 36
abbrev N__law_relation : List Str := ["tape"]
theorem sc__law_relation : FnScope N__law_relation ["tape"] (defScope st__law_relation) := ⟨rfl, rfl, rfl, by decide +kernel, rfl, by decide +kernel, by decide +kernel⟩
abbrev st__law_sum : Stmt := topS 37
abbrev N__law_sum : List Str := ["tape", "names", "accounts", "terms", "k", "number"]
theorem sc__law_sum : FnScope N__law_sum ["tape", "names", "accounts"] (defScope st__law_sum) := ⟨rfl, rfl, rfl, by decide +kernel, rfl, by decide +kernel, by decide +kernel⟩
abbrev st__law_each : Stmt := topS 38
abbrev N__law_each : List Str := ["tape", "names", "accounts", "area", "terms", "k", "number"]
theorem sc__law_each : FnScope N__law_each ["tape", "names", "accounts"] (defScope st__law_each) := ⟨rfl, rfl, rfl, by decide +kernel, rfl, by decide +kernel, by decide +kernel⟩
abbrev st__law_constraint : Stmt := topS 39
abbrev N__law_constraint : List Str := ["tape", "names", "accounts"]
theorem sc__law_constraint : FnScope N__law_constraint ["tape", "names", "accounts"] (defScope st__law_constraint) := ⟨rfl, rfl, rfl, by decide +kernel, rfl, by decide +kernel, by decide +kernel⟩
abbrev st__law_premises : Stmt := topS 40
abbrev N__law_premises : List Str := ["tape", "names", "accounts", "most", "k"]
theorem sc__law_premises : FnScope N__law_premises ["tape", "names", "accounts", "most"] (defScope st__law_premises) := ⟨rfl, rfl, rfl, by decide +kernel, rfl, by decide +kernel, by decide +kernel⟩
abbrev st__law_entry : Stmt := topS 44
abbrev N__law_entry : List Str := ["entries", "account", "pair"]
theorem sc__law_entry : FnScope N__law_entry ["entries", "account"] (defScope st__law_entry) := ⟨rfl, rfl, rfl, by decide +kernel, rfl, by decide +kernel, by decide +kernel⟩
abbrev st__law_books : Stmt := topS 47
abbrev N__law_books : List Str := ["model", "ledger", "found", "account", "row", "names", "deal", "kind", "item"]
theorem sc__law_books : FnScope N__law_books ["model", "ledger"] (defScope st__law_books) := ⟨rfl, rfl, rfl, by decide +kernel, rfl, by decide +kernel, by decide +kernel⟩
abbrev st__law_within : Stmt := topS 42
abbrev N__law_within : List Str := ["model", "area", "profile"]
theorem sc__law_within : FnScope N__law_within ["model", "area", "profile"] (defScope st__law_within) := ⟨rfl, rfl, rfl, by decide +kernel, rfl, by decide +kernel, by decide +kernel⟩
abbrev st__law_profile : Stmt := topS 45
abbrev N__law_profile : List Str := ["model", "names", "k"]
theorem sc__law_profile : FnScope N__law_profile ["model", "names"] (defScope st__law_profile) := ⟨rfl, rfl, rfl, by decide +kernel, rfl, by decide +kernel, by decide +kernel⟩
abbrev st__law_members : Stmt := topS 46
abbrev N__law_members : List Str := ["model", "ledger", "area", "k"]
theorem sc__law_members : FnScope N__law_members ["model", "ledger", "area"] (defScope st__law_members) := ⟨rfl, rfl, rfl, by decide +kernel, rfl, by decide +kernel, by decide +kernel⟩
abbrev st__law_worth : Stmt := topS 48
abbrev N__law_worth : List Str := ["model", "ledger", "books", "constraint", "accounts", "total", "term", "row", "k", "found"]
theorem sc__law_worth : FnScope N__law_worth ["model", "ledger", "books", "constraint"] (defScope st__law_worth) := ⟨rfl, rfl, rfl, by decide +kernel, rfl, by decide +kernel, by decide +kernel⟩
abbrev st__law_size : Stmt := topS 41
abbrev N__law_size : List Str := ["model"]
theorem sc__law_size : FnScope N__law_size ["model"] (defScope st__law_size) := ⟨rfl, rfl, rfl, by decide +kernel, rfl, by decide +kernel, by decide +kernel⟩
abbrev st__law_amount : Stmt := topS 49
abbrev N__law_amount : List Str := ["tape", "kind"]
theorem sc__law_amount : FnScope N__law_amount ["tape"] (defScope st__law_amount) := ⟨rfl, rfl, rfl, by decide +kernel, rfl, by decide +kernel, by decide +kernel⟩
abbrev st__law_drawn_deals : Stmt := topS 51
abbrev N__law_drawn_deals : List Str := ["tape", "model", "crowd", "deals", "found", "k", "kind", "payers", "payer", "payees", "i"]
theorem sc__law_drawn_deals : FnScope N__law_drawn_deals ["tape", "model", "crowd", "deals"] (defScope st__law_drawn_deals) := ⟨rfl, rfl, rfl, by decide +kernel, rfl, by decide +kernel, by decide +kernel⟩
abbrev st__law_listed : Stmt := topS 59
abbrev N__law_listed : List Str := ["model", "profile", "i"]
theorem sc__law_listed : FnScope N__law_listed ["model", "profile"] (defScope st__law_listed) := ⟨rfl, rfl, rfl, by decide +kernel, rfl, by decide +kernel, by decide +kernel⟩
abbrev st__law_ledger : Stmt := topS 50
abbrev N__law_ledger : List Str := ["tape", "model", "people", "deals", "sides", "kind", "likely", "k", "area", "crowd", "profile"]
theorem sc__law_ledger : FnScope N__law_ledger ["tape", "model", "people", "deals"] (defScope st__law_ledger) := ⟨rfl, rfl, rfl, by decide +kernel, rfl, by decide +kernel, by decide +kernel⟩
abbrev st__law_same : Stmt := topS 52
abbrev N__law_same : List Str := ["told", "due", "k"]
theorem sc__law_same : FnScope N__law_same ["told", "due"] (defScope st__law_same) := ⟨rfl, rfl, rfl, by decide +kernel, rfl, by decide +kernel, by decide +kernel⟩
abbrev st__law_names : Stmt := topS 31
abbrev N__law_names : List Str := ["tape", "many", "letters", "stem", "first", "step", "found", "k", "name", "words"]
theorem sc__law_names : FnScope N__law_names ["tape", "many"] (defScope st__law_names) := ⟨rfl, rfl, rfl, by decide +kernel, rfl, by decide +kernel, by decide +kernel⟩
abbrev st__law_entries : Stmt := topS 34
abbrev N__law_entries : List Str := ["tape", "accounts", "found", "account"]
theorem sc__law_entries : FnScope N__law_entries ["tape", "accounts"] (defScope st__law_entries) := ⟨rfl, rfl, rfl, by decide +kernel, rfl, by decide +kernel, by decide +kernel⟩
abbrev st__law_kind : Stmt := topS 35
abbrev N__law_kind : List Str := ["tape", "name", "names", "accounts", "payer", "payee", "rows", "manner", "back", "pair"]
theorem sc__law_kind : FnScope N__law_kind ["tape", "name", "names", "accounts"] (defScope st__law_kind) := ⟨rfl, rfl, rfl, by decide +kernel, rfl, by decide +kernel, by decide +kernel⟩
abbrev st__law_exactly : Stmt := topS 43
abbrev N__law_exactly : List Str := ["model", "profile", "whole", "k", "piece"]
theorem sc__law_exactly : FnScope N__law_exactly ["model", "profile"] (defScope st__law_exactly) := ⟨rfl, rfl, rfl, by decide +kernel, rfl, by decide +kernel, by decide +kernel⟩
abbrev st__law_narrow : Stmt := topS 57
abbrev N__law_narrow : List Str := ["tape", "names", "area", "at", "k", "piece"]
theorem sc__law_narrow : FnScope N__law_narrow ["tape", "names", "area"] (defScope st__law_narrow) := ⟨rfl, rfl, rfl, by decide +kernel, rfl, by decide +kernel, by decide +kernel⟩
abbrev st__law_short : Stmt := topS 58
abbrev N__law_short : List Str := ["tape", "names", "accounts", "whole"]
theorem sc__law_short : FnScope N__law_short ["tape", "names", "accounts"] (defScope st__law_short) := ⟨rfl, rfl, rfl, by decide +kernel, rfl, by decide +kernel, by decide +kernel⟩
abbrev st__law_scene : Stmt := topS 56
abbrev N__law_scene : List Str := ["tape", "full", "names", "accounts", "labels", "bare", "sides", "k", "kinds", "kind", "payer", "many", "pairs"]
theorem sc__law_scene : FnScope N__law_scene ["tape", "full"] (defScope st__law_scene) := ⟨rfl, rfl, rfl, by decide +kernel, rfl, by decide +kernel, by decide +kernel⟩
abbrev st__law_world : Stmt := topS 55
abbrev N__law_world : List Str := ["tape", "scene", "names", "accounts", "labels", "kinds", "k", "kind", "payer", "rows"]
theorem sc__law_world : FnScope N__law_world ["tape"] (defScope st__law_world) := ⟨rfl, rfl, rfl, by decide +kernel, rfl, by decide +kernel, by decide +kernel⟩
abbrev st__law_loose : Stmt := topS 60
abbrev N__law_loose : List Str := ["constraint"]
theorem sc__law_loose : FnScope N__law_loose ["constraint"] (defScope st__law_loose) := ⟨rfl, rfl, rfl, by decide +kernel, rfl, by decide +kernel, by decide +kernel⟩
abbrev st__law_sector_text : Stmt := topS 62
abbrev N__law_sector_text : List Str := ["sector", "level", "rank", "text"]
theorem sc__law_sector_text : FnScope N__law_sector_text ["sector", "level"] (defScope st__law_sector_text) := ⟨rfl, rfl, rfl, by decide +kernel, rfl, by decide +kernel, by decide +kernel⟩
abbrev st__law_times : Stmt := topS 63
abbrev N__law_times : List Str := ["number", "name"]
theorem sc__law_times : FnScope N__law_times ["number", "name"] (defScope st__law_times) := ⟨rfl, rfl, rfl, by decide +kernel, rfl, by decide +kernel, by decide +kernel⟩
abbrev st__law_constraint_text : Stmt := topS 64
abbrev N__law_constraint_text : List Str := ["constraint", "terms", "text", "k", "sign"]
theorem sc__law_constraint_text : FnScope N__law_constraint_text ["constraint"] (defScope st__law_constraint_text) := ⟨rfl, rfl, rfl, by decide +kernel, rfl, by decide +kernel, by decide +kernel⟩
abbrev st__law_claim_text : Stmt := topS 65
abbrev N__law_claim_text : List Str := ["claim", "text", "premise"]
theorem sc__law_claim_text : FnScope N__law_claim_text ["claim"] (defScope st__law_claim_text) := ⟨rfl, rfl, rfl, by decide +kernel, rfl, by decide +kernel, by decide +kernel⟩
abbrev st__law_is_plain : Stmt := topS 61
abbrev N__law_is_plain : List Str := ["e", "found"]
theorem sc__law_is_plain : FnScope N__law_is_plain ["e"] (defScope st__law_is_plain) := ⟨rfl, rfl, rfl, by decide +kernel, rfl, by decide +kernel, by decide +kernel⟩
abbrev st__law_is_refused : Stmt := topS 66
abbrev N__law_is_refused : List Str := ["claim", "constraint", "fraction", "e"]
theorem sc__law_is_refused : FnScope N__law_is_refused ["claim", "constraint", "fraction"] (defScope st__law_is_refused) := ⟨rfl, rfl, rfl, by decide +kernel, rfl, by decide +kernel, by decide +kernel⟩
abbrev st__law_due_claim : Stmt := topS 67
abbrev N__law_due_claim : List Str := ["rows", "total", "more", "fraction", "terms", "term"]
theorem sc__law_due_claim : FnScope N__law_due_claim ["rows", "total", "more", "fraction"] (defScope st__law_due_claim) := ⟨rfl, rfl, rfl, by decide +kernel, rfl, by decide +kernel, by decide +kernel⟩
abbrev st__law_gcd : Stmt := topS 53
abbrev N__law_gcd : List Str := ["one", "two", "rest"]
theorem sc__law_gcd : FnScope N__law_gcd ["one", "two"] (defScope st__law_gcd) := ⟨rfl, rfl, rfl, by decide +kernel, rfl, by decide +kernel, by decide +kernel⟩
abbrev st__law_fraction : Stmt := topS 54
abbrev N__law_fraction : List Str := ["above", "below", "common"]
theorem sc__law_fraction : FnScope N__law_fraction ["above", "below"] (defScope st__law_fraction) := ⟨rfl, rfl, rfl, by decide +kernel, rfl, by decide +kernel, by decide +kernel⟩
abbrev st__law_ratio : Stmt := topS 68
abbrev N__law_ratio : List Str := ["tape", "above"]
theorem sc__law_ratio : FnScope N__law_ratio ["tape"] (defScope st__law_ratio) := ⟨rfl, rfl, rfl, by decide +kernel, rfl, by decide +kernel, by decide +kernel⟩
abbrev st_law : Stmt := topS 69
abbrev N_law : List Str := ["script", "tape", "model", "rows", "total", "more", "fraction", "told", "asked", "item", "ledger", "books", "worth", "member"]
theorem sc_law : FnScope N_law ["script"] (defScope st_law) := ⟨rfl, rfl, rfl, by decide +kernel, rfl, by decide +kernel, by decide +kernel⟩
def tab_BadParticipant (c : Str) : Option Bool := if c = "NotASum" then some false else none
def tab_BadTransaction (c : Str) : Option Bool := if c = "NotASum" then some false else none
def tab_BadValue (c : Str) : Option Bool := if c = "NotASum" then some false else none
def tab_DoesNotHold (c : Str) : Option Bool := if c = "NotASum" then some false else none
def tab_Mistakes (c : Str) : Option Bool := if c = "NotASum" then some false else none
def tab_NeedsJournal (c : Str) : Option Bool := if c = "NotASum" then some false else none
def tab_NeedsModel (c : Str) : Option Bool := if c = "NotASum" then some false else none
def tab_NotASum (c : Str) : Option Bool := if c = "NotASum" then some true else none
def tab_NotRefuted (c : Str) : Option Bool := if c = "NotASum" then some false else none
def tab_NothingToRedo (c : Str) : Option Bool := if c = "NotASum" then some false else none
def tab_NothingToUndo (c : Str) : Option Bool := if c = "NotASum" then some false else none
def tab_ProofError (c : Str) : Option Bool := if c = "NotASum" then some true else none
def tab_ReadError (c : Str) : Option Bool := if c = "NotASum" then some false else none
def tab_TooMany (c : Str) : Option Bool := if c = "NotASum" then some false else none
def tab_UnknownClaim (c : Str) : Option Bool := if c = "NotASum" then some false else none
def tab_ValueError (c : Str) : Option Bool := if c = "NotASum" then some true else none
def exm_NotASum (c : Str) : Option Bool := if c = "NotASum" then some true else none
noncomputable def B__check_sums : Fx.Env → Sto → R Fl :=
    (sFor (mIt (mTup (mCons (mBin fIx (mVar 0) (mC (.int 1))) (mCons (mVar 1) mNil)))) (.nm 2)
    (sIf (mOr (mTst (mBin fNe (mBin fIx (mVar 2) (mC (.int 0))) (mC (.str "sum")))) (mTst (mBin fNe (mBin fIx (mVar 2) (mUn fNeg (mC (.int 1)))) (mC (.str ">=")))))
    (mRaise0 "NotASum")
    sNext))
noncomputable def F__check_sums : List T → Sto → R T := frameX 0 true (runFX 3 B__check_sums)
noncomputable def B__times : Fx.Env → Sto → R Fl :=
    (sRet (mFn fTuple (mCons (mLc true [2, 3, 4] (mIt (mBin fIx (mVar 0) (mC (.int 1)))) (.tp [(.nm 2), (.nm 3), (.nm 4)]) mTrue (mTup (mCons (mBin fMul (mVar 1) (mVar 2)) (mCons (mVar 3) (mCons (mVar 4) mNil))))) mNil)))
noncomputable def F__times : List T → Sto → R T := frame 0 true (runF 5 B__times)
noncomputable def B_raised : Fx.Env → Sto → R Fl :=
    (sSeq (sDrop (mFn (fun ts S => if ts.length = 2 then F__check_sums ts S else .bad) (mCons (mVar 0) (mCons (mVar 1) mNil))))
    (sSeq (sAsg (.tp [(.nm 3), (.nm 4)]) (mVar 2))
    (sSeq (sSet 5 (mFn (fun ts S => if ts.length = 2 then F__times ts S else .bad) (mCons (mBin fIx (mVar 0) (mC (.int 1))) (mCons (mVar 4) mNil))))
    (sSeq (sIf (mTst (mBin fNe (mVar 3) (mC (.int 0))))
    (sSet 5 (mTup (mStar (mVar 5) (mStar (mFn (fun ts S => if ts.length = 2 then F__times ts S else .bad) (mCons (mVar 1) (mCons (mVar 3) mNil))) mNil))))
    sNext)
    (sRet (mTup (mCons (mBin fIx (mVar 0) (mC (.int 0))) (mCons (mTup (mCons (mC (.str "sum")) (mCons (mVar 5) (mCons (mC (.str ">=")) mNil)))) mNil))))))))
noncomputable def F_raised : List T → Sto → R T := frameX 0 true (runFX 6 B_raised)
noncomputable def B__enclosed (d : List T → Sto → R T) : Fx.Env → Sto → R Fl :=
    (sSeq (sIf (mTst (mBin (fIn false) (mBin fIx (mVar 0) (mC (.int 0))) (mVar 1)))
    (sRet (mBin (fAddA true) (mBin (fAddA true) (mC (.str "(")) (mFn (fun ts S => if ts.length = 1 then d ts S else .bad) (mCons (mVar 0) mNil))) (mC (.str ")"))))
    sNext)
    (sRet (mFn (fun ts S => if ts.length = 1 then d ts S else .bad) (mCons (mVar 0) mNil))))
noncomputable def F__enclosed (d : List T → Sto → R T) : List T → Sto → R T := frame 0 true (runF 2 (B__enclosed d))
noncomputable def B_show_sector (d : List T → Sto → R T) : Fx.Env → Sto → R Fl :=
    (sSeq (sSet 1 (mBin fIx (mVar 0) (mC (.int 0))))
    (sSeq (sIf (mTst (mBin fEq (mVar 1) (mC (.str "sector"))))
    (sRet (mBin fIx (mVar 0) (mC (.int 1))))
    sNext)
    (sSeq (sIf (mTst (mBin fEq (mVar 1) (mC (.str "not"))))
    (sRet (mBin (fAddA true) (mC (.str "not ")) (mFn (fun ts S => if ts.length = 2 then (F__enclosed d) ts S else .bad) (mCons (mBin fIx (mVar 0) (mC (.int 1))) (mCons (mTup (mCons (mC (.str "not")) (mCons (mC (.str "and")) (mCons (mC (.str "or")) mNil)))) mNil)))))
    sNext)
    (sSeq (sIf (mTst (mBin fEq (mVar 1) (mC (.str "and"))))
    (sRet (mBin (fAddA true) (mBin (fAddA true) (mFn (fun ts S => if ts.length = 2 then (F__enclosed d) ts S else .bad) (mCons (mBin fIx (mVar 0) (mC (.int 1))) (mCons (mTup (mCons (mC (.str "or")) mNil)) mNil))) (mC (.str " and "))) (mFn (fun ts S => if ts.length = 2 then (F__enclosed d) ts S else .bad) (mCons (mBin fIx (mVar 0) (mC (.int 2))) (mCons (mTup (mCons (mC (.str "and")) (mCons (mC (.str "or")) mNil))) mNil)))))
    sNext)
    (sSeq (sIf (mTst (mBin fEq (mVar 1) (mC (.str "or"))))
    (sRet (mBin (fAddA true) (mBin (fAddA true) (mFn (fun ts S => if ts.length = 1 then d ts S else .bad) (mCons (mBin fIx (mVar 0) (mC (.int 1))) mNil)) (mC (.str " or "))) (mFn (fun ts S => if ts.length = 2 then (F__enclosed d) ts S else .bad) (mCons (mBin fIx (mVar 0) (mC (.int 2))) (mCons (mTup (mCons (mC (.str "or")) mNil)) mNil)))))
    sNext)
    (sRet (mVar 1)))))))
noncomputable def F_show_sector : Nat → List T → Sto → R T
  | 0 => fun _ _ => .bad
  | d + 1 => frame 0 true (runF 2 (B_show_sector (F_show_sector d)))
noncomputable def B__counted : Fx.Env → Sto → R Fl :=
    (sRet (mIte (mTst (mBin fEq (mFn fAbs (mCons (mVar 0) mNil)) (mC (.int 1)))) (mVar 1) (jsGo [(mUn fFmt (mFn fAbs (mCons (mVar 0) mNil))), (mC (.str " ")), (mUn fFmt (mVar 1))] Str.empty)))
noncomputable def F__counted : List T → Sto → R T := frame 0 true (runF 2 B__counted)
noncomputable def B__term : Fx.Env → Sto → R Fl :=
    (sSeq (sSet 1 (mFn (fun ts S => if ts.length = 2 then F__counted ts S else .bad) (mCons (mBin fIx (mVar 0) (mC (.int 0))) (mCons (mBin fIx (mVar 0) (mC (.int 1))) mNil))))
    (sSeq (sIf (mTst (mBin fEq (mFn fLen (mCons (mVar 0) mNil)) (mC (.int 2))))
    (sRet (mVar 1))
    sNext)
    (sRet (mBin (fAddA true) (mBin (fAddA true) (mVar 1) (mC (.str " of "))) (mFn (fun ts S => if ts.length = 2 then (F__enclosed (F_show_sector 24)) ts S else .bad) (mCons (mBin fIx (mVar 0) (mC (.int 2))) (mCons (mTup (mCons (mC (.str "and")) (mCons (mC (.str "or")) mNil))) mNil)))))))
noncomputable def F__term : List T → Sto → R T := frame 0 true (runF 2 B__term)
noncomputable def B__joined : Fx.Env → Sto → R Fl :=
    (sSeq (sSet 1 (mIte (mTst (mBin fLt (mBin fIx (mBin fIx (mVar 0) (mC (.int 0))) (mC (.int 0))) (mC (.int 0)))) (mC (.str "-")) (mC (.str ""))))
    (sSeq (sAug 1 fIpaddS (mFn (fun ts S => if ts.length = 1 then F__term ts S else .bad) (mCons (mBin fIx (mVar 0) (mC (.int 0))) mNil)))
    (sSeq (sFor (mIt (mSl (fSlA true) (mVar 0) (mO1 (mC (.int 1))) mO0)) (.nm 2)
    (sAug 1 fIpaddS (mBin (fAddA true) (mIte (mTst (mBin fLt (mBin fIx (mVar 2) (mC (.int 0))) (mC (.int 0)))) (mC (.str " - ")) (mC (.str " + "))) (mFn (fun ts S => if ts.length = 1 then F__term ts S else .bad) (mCons (mVar 2) mNil)))))
    (sRet (mVar 1)))))
noncomputable def F__joined : List T → Sto → R T := frame 0 true (runF 3 B__joined)
noncomputable def B_show_constraint : Fx.Env → Sto → R Fl :=
    (sSeq (sAsg (.tp [(.nm 1), (.nm 2)]) (mSl (fSlA true) (mVar 0) (mO1 (mUn fNeg (mC (.int 2)))) mO0))
    (sSeq (sSet 3 (mIte (mTst (mBin fEq (mBin fIx (mVar 0) (mC (.int 0))) (mC (.str "sum")))) (mC (.str "")) (mBin (fAddA true) (mBin (fAddA true) (mC (.str "each ")) (mFn (fun ts S => if ts.length = 1 then (F_show_sector 24) ts S else .bad) (mCons (mBin fIx (mVar 0) (mC (.int 1))) mNil))) (mC (.str ": ")))))
    (sRet (mBin (fAddA true) (mBin (fAddA true) (mBin (fAddA true) (mBin (fAddA true) (mVar 3) (mFn (fun ts S => if ts.length = 1 then F__joined ts S else .bad) (mCons (mVar 1) mNil))) (mC (.str " "))) (mVar 2)) (mC (.str " 0"))))))
noncomputable def F_show_constraint : List T → Sto → R T := frame 0 true (runF 4 B_show_constraint)
noncomputable def B_show_claim : Fx.Env → Sto → R Fl :=
    (sSeq (sAsg (.tp [(.nm 1), (.nm 2)]) (mVar 0))
    (sSeq (sSet 3 (mFn (fun ts S => if ts.length = 1 then F_show_constraint ts S else .bad) (mCons (mVar 2) mNil)))
    (sSeq (sIf (mTst (mBin fEq (mVar 1) (mTup mNil)))
    (sRet (mVar 3))
    sNext)
    (sRet (mBin (fAddA true) (mBin (fAddA true) (mBin (fAddA true) (mC (.str "if ")) (mMeth isStr fJoin (mC (.str ", ")) (mCons (mLc true [4] (mIt (mVar 1)) (.nm 4) mTrue (mFn (fun ts S => if ts.length = 1 then F_show_constraint ts S else .bad) (mCons (mVar 4) mNil))) mNil))) (mC (.str " then "))) (mVar 3))))))
noncomputable def F_show_claim : List T → Sto → R T := frame 0 true (runF 5 B_show_claim)
noncomputable def B__law_tape : Fx.Env → Sto → R Fl :=
    (sSeq (sSet 1 (mC (.int 7)))
    (sSeq (sFor (mIt (mVar 0)) (.nm 2)
    (sSet 1 (mBin fMod (mFn fInt (mCons (mBin (fAddA true) (mBin fMul (mVar 1) (mC (.int 31))) (mFn fAbs (mCons (mFn fInt (mCons (mVar 2) mNil)) mNil))) mNil)) (mC (.int 2147483647)))))
    (sRet (mLst false (mCons (mFn (fListA true) (mCons (mVar 0) mNil)) (mCons (mC (.int 0)) (mCons (mC (.int 0)) (mCons (mVar 1) mNil))))))))
noncomputable def F__law_tape : List T → Sto → R T := (runF 3 B__law_tape)
noncomputable def B__law_draw : Fx.Env → Sto → R Fl :=
    (sSeq (sIf (mTst (mBin fEq (mBin fIx (mVar 0) (mC (.int 2))) (mC (.int 0))))
    (sSeq (sSet 2 (mBin fIx (mVar 0) (mC (.int 1))))
    (sSeq (sSet 3 (mC (.int 0)))
    (sSeq (sIf (mTst (mBin fLt (mVar 2) (mFn fLen (mCons (mBin fIx (mVar 0) (mC (.int 0))) mNil))))
    (sSet 3 (mFn fAbs (mCons (mFn fInt (mCons (mBin fIx (mBin fIx (mVar 0) (mC (.int 0))) (mVar 2)) mNil)) mNil)))
    (sSeq (sPut (mVar 0) (mC (.int 3)) (mBin fMod (mFn fInt (mCons (mBin (fAddA true) (mBin (fAddA true) (mBin fMul (mBin fIx (mVar 0) (mC (.int 3))) (mC (.int 48271))) (mVar 2)) (mC (.int 1))) mNil)) (mC (.int 2147483647))))
    (sSet 3 (mBin fIx (mVar 0) (mC (.int 3))))))
    (sSeq (sPut (mVar 0) (mC (.int 1)) (mBin (fAddA true) (mVar 2) (mC (.int 1))))
    (sSeq (sIf (mTst (mBin fLt (mVar 3) (mBin fPow (mC (.int 10)) (mC (.int 18)))))
    (sSeq (sSet 3 (mBin fMod (mFn fInt (mCons (mBin (fAddA true) (mBin (fAddA true) (mBin fMul (mVar 3) (mC (.int 48271))) (mBin fMul (mVar 2) (mC (.int 69621)))) (mC (.int 5))) mNil)) (mC (.int 2147483647))))
    (sSeq (sSet 3 (mBin fMod (mFn fInt (mCons (mBin fMul (mVar 3) (mC (.int 69621))) mNil)) (mC (.int 2147483629))))
    (sRet (mBin fMod (mFn fInt (mCons (mVar 3) mNil)) (mFn fMax2 (mCons (mVar 1) (mCons (mC (.int 1)) mNil)))))))
    sNext)
    (sPut (mVar 0) (mC (.int 2)) (mVar 3)))))))
    sNext)
    (sSeq (sSet 3 (mBin fIx (mVar 0) (mC (.int 2))))
    (sSeq (sPut (mVar 0) (mC (.int 2)) (mBin fDiv (mVar 3) (mFn fMax2 (mCons (mVar 1) (mCons (mC (.int 2)) mNil)))))
    (sRet (mBin fMod (mFn fInt (mCons (mVar 3) mNil)) (mFn fMax2 (mCons (mVar 1) (mCons (mC (.int 1)) mNil))))))))
noncomputable def F__law_draw : List T → Sto → R T := frame 1 true (runF 4 B__law_draw)
noncomputable def B__law_number : Fx.Env → Sto → R Fl :=
    (sSeq (sSet 1 (mBin (fAddA true) (mC (.int 1)) (mFn (fun ts S => if ts.length = 2 then F__law_draw ts S else .bad) (mCons (mVar 0) (mCons (mC (.int 3)) mNil)))))
    (sSeq (sSet 2 (mFn (fun ts S => if ts.length = 2 then F__law_draw ts S else .bad) (mCons (mVar 0) (mCons (mC (.int 9)) mNil))))
    (sSeq (sIf (mTst (mBin fEq (mVar 2) (mC (.int 0))))
    (sSet 1 (mBin (fAddA true) (mC (.int 1)) (mFn (fun ts S => if ts.length = 2 then F__law_draw ts S else .bad) (mCons (mVar 0) (mCons (mC (.int 9999)) mNil)))))
    sNext)
    (sSeq (sIf (mTst (mBin fEq (mVar 2) (mC (.int 1))))
    (sSet 1 (mBin fIx (mLst true (mCons (mC (.int 9)) (mCons (mC (.int 10)) (mCons (mC (.int 99)) (mCons (mC (.int 100)) (mCons (mC (.int 9998)) (mCons (mC (.int 9999)) mNil))))))) (mFn (fun ts S => if ts.length = 2 then F__law_draw ts S else .bad) (mCons (mVar 0) (mCons (mC (.int 6)) mNil)))))
    sNext)
    (sSeq (sIf (mTst (mBin fEq (mFn (fun ts S => if ts.length = 2 then F__law_draw ts S else .bad) (mCons (mVar 0) (mCons (mC (.int 2)) mNil))) (mC (.int 1))))
    (sRet (mUn fNeg (mVar 1)))
    sNext)
    (sRet (mVar 1)))))))
noncomputable def F__law_number : List T → Sto → R T := frame 1 true (runF 3 B__law_number)
noncomputable def B__law_area (d : List T → Sto → R T) : Fx.Env → Sto → R Fl :=
    (sSeq (sSet 3 (mFn (fun ts S => if ts.length = 2 then F__law_draw ts S else .bad) (mCons (mVar 0) (mCons (mC (.int 10)) mNil))))
    (sSeq (sIf (mAnd (mTst (mBin fGt (mVar 2) (mC (.int 0)))) (mTst (mBin fLt (mVar 3) (mC (.int 2)))))
    (sRet (mTup (mCons (mC (.str "not")) (mCons (mFn (fun ts S => if ts.length = 3 then d ts S else .bad) (mCons (mVar 0) (mCons (mVar 1) (mCons (mBin fSub (mVar 2) (mC (.int 1))) mNil)))) mNil))))
    sNext)
    (sSeq (sIf (mAnd (mTst (mBin fGt (mVar 2) (mC (.int 0)))) (mTst (mBin fLt (mVar 3) (mC (.int 5)))))
    (sSeq (sSet 4 (mFn (fun ts S => if ts.length = 3 then d ts S else .bad) (mCons (mVar 0) (mCons (mVar 1) (mCons (mBin fSub (mVar 2) (mC (.int 1))) mNil)))))
    (sRet (mTup (mCons (mBin fIx (mLst true (mCons (mC (.str "and")) (mCons (mC (.str "or")) mNil))) (mFn (fun ts S => if ts.length = 2 then F__law_draw ts S else .bad) (mCons (mVar 0) (mCons (mC (.int 2)) mNil)))) (mCons (mVar 4) (mCons (mFn (fun ts S => if ts.length = 3 then d ts S else .bad) (mCons (mVar 0) (mCons (mVar 1) (mCons (mBin fSub (mVar 2) (mC (.int 1))) mNil)))) mNil))))))
    sNext)
    (sSeq (sIf (mTst (mBin fEq (mVar 3) (mC (.int 5))))
    (sRet (mBin fIx (mLst true (mCons (mTup (mCons (mC (.str "none")) mNil)) (mCons (mTup (mCons (mC (.str "all")) mNil)) mNil))) (mFn (fun ts S => if ts.length = 2 then F__law_draw ts S else .bad) (mCons (mVar 0) (mCons (mC (.int 2)) mNil)))))
    sNext)
    (sSeq (sIf (mAnd (mTst (mBin fGt (mFn fLen (mCons (mVar 1) mNil)) (mC (.int 0)))) (mTst (mBin fGt (mVar 3) (mC (.int 1)))))
    (sRet (mTup (mCons (mC (.str "sector")) (mCons (mBin fIx (mVar 1) (mFn (fun ts S => if ts.length = 2 then F__law_draw ts S else .bad) (mCons (mVar 0) (mCons (mFn fLen (mCons (mVar 1) mNil)) mNil)))) mNil))))
    sNext)
    (sRet (mTup (mCons (mC (.str "all")) mNil))))))))
noncomputable def F__law_area : Nat → List T → Sto → R T
  | 0 => fun _ _ => .bad
  | d + 1 => frame 1 true (runF 5 (B__law_area (F__law_area d)))
noncomputable def B__law_relation : Fx.Env → Sto → R Fl :=
    (sRet (mBin fIx (mLst true (mCons (mC (.str ">=")) (mCons (mC (.str ">=")) (mCons (mC (.str "=")) mNil)))) (mFn (fun ts S => if ts.length = 2 then F__law_draw ts S else .bad) (mCons (mVar 0) (mCons (mC (.int 3)) mNil)))))
noncomputable def F__law_relation : List T → Sto → R T := frame 1 true (runF 1 B__law_relation)
noncomputable def B__law_sum : Fx.Env → Sto → R Fl :=
    (sSeq (sSet 3 (mLst false mNil))
    (sSeq (sFor (mItN fRange1 (mCons (mBin fIx (mLst true (mCons (mC (.int 1)) (mCons (mC (.int 1)) (mCons (mC (.int 1)) (mCons (mC (.int 2)) (mCons (mC (.int 2)) (mCons (mC (.int 3)) (mCons (mC (.int 3)) (mCons (mC (.int 6)) mNil))))))))) (mFn (fun ts S => if ts.length = 2 then F__law_draw ts S else .bad) (mCons (mVar 0) (mCons (mC (.int 8)) mNil)))) mNil)) (.nm 4)
    (sSeq (sSet 5 (mFn (fun ts S => if ts.length = 1 then F__law_number ts S else .bad) (mCons (mVar 0) mNil)))
    (sDrop (mMeth isLst fAppend (mVar 3) (mCons (mTup (mCons (mVar 5) (mCons (mBin fIx (mVar 2) (mFn (fun ts S => if ts.length = 2 then F__law_draw ts S else .bad) (mCons (mVar 0) (mCons (mFn fLen (mCons (mVar 2) mNil)) mNil)))) (mCons (mFn (fun ts S => if ts.length = 3 then (F__law_area 24) ts S else .bad) (mCons (mVar 0) (mCons (mVar 1) (mCons (mC (.int 1)) mNil)))) mNil)))) mNil)))))
    (sRet (mTup (mCons (mC (.str "sum")) (mCons (mFn fTuple (mCons (mVar 3) mNil)) (mCons (mFn (fun ts S => if ts.length = 1 then F__law_relation ts S else .bad) (mCons (mVar 0) mNil)) mNil)))))))
noncomputable def F__law_sum : List T → Sto → R T := frame 1 true (runF 6 B__law_sum)
noncomputable def B__law_each : Fx.Env → Sto → R Fl :=
    (sSeq (sSet 3 (mFn (fun ts S => if ts.length = 3 then (F__law_area 24) ts S else .bad) (mCons (mVar 0) (mCons (mVar 1) (mCons (mC (.int 1)) mNil)))))
    (sSeq (sSet 4 (mLst false mNil))
    (sSeq (sFor (mItN fRange1 (mCons (mBin fIx (mLst true (mCons (mC (.int 1)) (mCons (mC (.int 1)) (mCons (mC (.int 1)) (mCons (mC (.int 2)) (mCons (mC (.int 2)) (mCons (mC (.int 6)) mNil))))))) (mFn (fun ts S => if ts.length = 2 then F__law_draw ts S else .bad) (mCons (mVar 0) (mCons (mC (.int 6)) mNil)))) mNil)) (.nm 5)
    (sSeq (sSet 6 (mFn (fun ts S => if ts.length = 1 then F__law_number ts S else .bad) (mCons (mVar 0) mNil)))
    (sDrop (mMeth isLst fAppend (mVar 4) (mCons (mTup (mCons (mVar 6) (mCons (mBin fIx (mVar 2) (mFn (fun ts S => if ts.length = 2 then F__law_draw ts S else .bad) (mCons (mVar 0) (mCons (mFn fLen (mCons (mVar 2) mNil)) mNil)))) mNil))) mNil)))))
    (sRet (mTup (mCons (mC (.str "each")) (mCons (mVar 3) (mCons (mFn fTuple (mCons (mVar 4) mNil)) (mCons (mFn (fun ts S => if ts.length = 1 then F__law_relation ts S else .bad) (mCons (mVar 0) mNil)) mNil)))))))))
noncomputable def F__law_each : List T → Sto → R T := frame 1 true (runF 7 B__law_each)
noncomputable def B__law_constraint : Fx.Env → Sto → R Fl :=
    (sSeq (sIf (mTst (mBin fEq (mFn (fun ts S => if ts.length = 2 then F__law_draw ts S else .bad) (mCons (mVar 0) (mCons (mC (.int 2)) mNil))) (mC (.int 0))))
    (sRet (mFn (fun ts S => if ts.length = 3 then F__law_sum ts S else .bad) (mCons (mVar 0) (mCons (mVar 1) (mCons (mVar 2) mNil)))))
    sNext)
    (sRet (mFn (fun ts S => if ts.length = 3 then F__law_each ts S else .bad) (mCons (mVar 0) (mCons (mVar 1) (mCons (mVar 2) mNil))))))
noncomputable def F__law_constraint : List T → Sto → R T := frame 1 true (runF 3 B__law_constraint)
noncomputable def B__law_premises : Fx.Env → Sto → R Fl :=
    (sRet (mFn fTuple (mCons (mLc true [4] (mItN fRange1 (mCons (mFn (fun ts S => if ts.length = 2 then F__law_draw ts S else .bad) (mCons (mVar 0) (mCons (mBin (fAddA true) (mVar 3) (mC (.int 1))) mNil))) mNil)) (.nm 4) mTrue (mFn (fun ts S => if ts.length = 3 then F__law_constraint ts S else .bad) (mCons (mVar 0) (mCons (mVar 1) (mCons (mVar 2) mNil))))) mNil)))
noncomputable def F__law_premises : List T → Sto → R T := frame 1 true (runF 5 B__law_premises)
noncomputable def B__law_entry : Fx.Env → Sto → R Fl :=
    (sRet (mFn fSum (mCons (mLc true [2] (mIt (mVar 0)) (.nm 2) (mTst (mBin fEq (mBin fIx (mVar 2) (mC (.int 0))) (mVar 1))) (mBin fIx (mVar 2) (mC (.int 1)))) mNil)))
noncomputable def F__law_entry : List T → Sto → R T := frame 0 true (runF 3 B__law_entry)
noncomputable def B__law_books : Fx.Env → Sto → R Fl :=
    (sSeq (sSet 2 (mLst false mNil))
    (sSeq (sFor (mIt (mBin fIx (mVar 0) (mC (.int 1)))) (.nm 3)
    (sSeq (sSet 4 (mLc false [5] (mIt (mBin fIx (mVar 1) (mC (.int 0)))) (.nm 5) mTrue (mC (.int 0))))
    (sSeq (sFor (mIt (mBin fIx (mVar 1) (mC (.int 1)))) (.nm 6)
    (sSeq (sSet 7 (mBin fIx (mLc true [8] (mIt (mBin fIx (mVar 0) (mC (.int 2)))) (.nm 8) (mTst (mBin fEq (mBin fIx (mVar 8) (mC (.int 0))) (mBin fIx (mVar 6) (mC (.int 0))))) (mVar 8)) (mC (.int 0))))
    (sSeq (sPut (mVar 4) (mBin fIx (mVar 6) (mC (.int 1))) (mBin (fAddA true) (mBin fIx (mVar 4) (mBin fIx (mVar 6) (mC (.int 1)))) (mBin fMul (mBin fIx (mVar 6) (mC (.int 3))) (mFn (fun ts S => if ts.length = 2 then F__law_entry ts S else .bad) (mCons (mBin fIx (mVar 7) (mC (.int 2))) (mCons (mVar 3) mNil))))))
    (sPut (mVar 4) (mBin fIx (mVar 6) (mC (.int 2))) (mBin (fAddA true) (mBin fIx (mVar 4) (mBin fIx (mVar 6) (mC (.int 2)))) (mBin fMul (mBin fIx (mVar 6) (mC (.int 3))) (mFn (fun ts S => if ts.length = 2 then F__law_entry ts S else .bad) (mCons (mBin fIx (mVar 7) (mC (.int 4))) (mCons (mVar 3) mNil)))))))))
    (sDrop (mMeth isLst fAppend (mVar 2) (mCons (mVar 4) mNil))))))
    (sRet (mVar 2))))
noncomputable def F__law_books : List T → Sto → R T := frameD 0 (runF 9 B__law_books)
noncomputable def B__law_within (d : List T → Sto → R T) : Fx.Env → Sto → R Fl :=
    (sSeq (sIf (mTst (mBin fEq (mBin fIx (mVar 1) (mC (.int 0))) (mC (.str "sector"))))
    (sRet (mBin fEq (mBin fMod (mFn fInt (mCons (mBin fDiv (mVar 2) (mBin fIx (mLst true (mCons (mC (.int 1)) (mCons (mC (.int 2)) (mCons (mC (.int 4)) mNil)))) (mMeth isLst fIndex (mFn (fListA true) (mCons (mBin fIx (mVar 0) (mC (.int 0))) mNil)) (mCons (mBin fIx (mVar 1) (mC (.int 1))) mNil)))) mNil)) (mC (.int 2))) (mC (.int 1))))
    sNext)
    (sSeq (sIf (mTst (mBin fEq (mBin fIx (mVar 1) (mC (.int 0))) (mC (.str "not"))))
    (sRet (mNotV (mFn (fun ts S => if ts.length = 3 then d ts S else .bad) (mCons (mVar 0) (mCons (mBin fIx (mVar 1) (mC (.int 1))) (mCons (mVar 2) mNil))))))
    sNext)
    (sSeq (sIf (mTst (mBin fEq (mBin fIx (mVar 1) (mC (.int 0))) (mC (.str "and"))))
    (sRet (mAndV (mFn (fun ts S => if ts.length = 3 then d ts S else .bad) (mCons (mVar 0) (mCons (mBin fIx (mVar 1) (mC (.int 1))) (mCons (mVar 2) mNil)))) (mFn (fun ts S => if ts.length = 3 then d ts S else .bad) (mCons (mVar 0) (mCons (mBin fIx (mVar 1) (mC (.int 2))) (mCons (mVar 2) mNil))))))
    sNext)
    (sSeq (sIf (mTst (mBin fEq (mBin fIx (mVar 1) (mC (.int 0))) (mC (.str "or"))))
    (sRet (mOrV (mFn (fun ts S => if ts.length = 3 then d ts S else .bad) (mCons (mVar 0) (mCons (mBin fIx (mVar 1) (mC (.int 1))) (mCons (mVar 2) mNil)))) (mFn (fun ts S => if ts.length = 3 then d ts S else .bad) (mCons (mVar 0) (mCons (mBin fIx (mVar 1) (mC (.int 2))) (mCons (mVar 2) mNil))))))
    sNext)
    (sRet (mBin fEq (mBin fIx (mVar 1) (mC (.int 0))) (mC (.str "all"))))))))
noncomputable def F__law_within : Nat → List T → Sto → R T
  | 0 => fun _ _ => .bad
  | d + 1 => frame 0 true (runF 3 (B__law_within (F__law_within d)))
noncomputable def B__law_profile : Fx.Env → Sto → R Fl :=
    (sRet (mFn fSum (mCons (mLc true [2] (mItN fRange1 (mCons (mFn fLen (mCons (mBin fIx (mVar 0) (mC (.int 0))) mNil)) mNil)) (.nm 2) (mTst (mBin (fIn false) (mBin fIx (mBin fIx (mVar 0) (mC (.int 0))) (mVar 2)) (mVar 1))) (mBin fIx (mLst true (mCons (mC (.int 1)) (mCons (mC (.int 2)) (mCons (mC (.int 4)) mNil)))) (mVar 2))) mNil)))
noncomputable def F__law_profile : List T → Sto → R T := frame 0 true (runF 3 B__law_profile)
noncomputable def B__law_members : Fx.Env → Sto → R Fl :=
    (sRet (mLc true [3] (mItN fRange1 (mCons (mFn fLen (mCons (mBin fIx (mVar 1) (mC (.int 0))) mNil)) mNil)) (.nm 3) (mTru (mFn (fun ts S => if ts.length = 3 then (F__law_within 24) ts S else .bad) (mCons (mVar 0) (mCons (mVar 2) (mCons (mFn (fun ts S => if ts.length = 2 then F__law_profile ts S else .bad) (mCons (mVar 0) (mCons (mBin fIx (mBin fIx (mVar 1) (mC (.int 0))) (mVar 3)) mNil))) mNil))))) (mVar 3)))
noncomputable def F__law_members : List T → Sto → R T := (runF 4 B__law_members)
noncomputable def B__law_worth : Fx.Env → Sto → R Fl :=
    (sSeq (sSet 4 (mFn (fListA true) (mCons (mBin fIx (mVar 0) (mC (.int 1))) mNil)))
    (sSeq (sIf (mTst (mBin fEq (mBin fIx (mVar 3) (mC (.int 0))) (mC (.str "sum"))))
    (sSeq (sSet 5 (mC (.int 0)))
    (sSeq (sFor (mIt (mBin fIx (mVar 3) (mC (.int 1)))) (.nm 6)
    (sSeq (sSet 7 (mBin fIx (mVar 2) (mMeth isLst fIndex (mVar 4) (mCons (mBin fIx (mVar 6) (mC (.int 1))) mNil))))
    (sSet 5 (mBin (fAddA true) (mVar 5) (mBin fMulW (mBin fIx (mVar 6) (mC (.int 0))) (mFn fSum (mCons (mLc true [8] (mIt (mFn (fun ts S => if ts.length = 3 then F__law_members ts S else .bad) (mCons (mVar 0) (mCons (mVar 1) (mCons (mBin fIx (mVar 6) (mC (.int 2))) mNil))))) (.nm 8) mTrue (mBin fIx (mVar 7) (mVar 8))) mNil)))))))
    (sRet (mVar 5))))
    sNext)
    (sSeq (sSet 9 (mLst false mNil))
    (sSeq (sFor (mIt (mFn (fun ts S => if ts.length = 3 then F__law_members ts S else .bad) (mCons (mVar 0) (mCons (mVar 1) (mCons (mBin fIx (mVar 3) (mC (.int 1))) mNil))))) (.nm 8)
    (sDrop (mMeth isLst fAppend (mVar 9) (mCons (mTup (mCons (mVar 8) (mCons (mFn fSum (mCons (mLc true [6] (mIt (mBin fIx (mVar 3) (mC (.int 2)))) (.nm 6) mTrue (mBin fMulW (mBin fIx (mVar 6) (mC (.int 0))) (mBin fIx (mBin fIx (mVar 2) (mMeth isLst fIndex (mVar 4) (mCons (mBin fIx (mVar 6) (mC (.int 1))) mNil))) (mVar 8)))) mNil)) mNil))) mNil))))
    (sRet (mFn fTuple (mCons (mVar 9) mNil)))))))
noncomputable def F__law_worth : List T → Sto → R T := frame 0 true (runF 10 B__law_worth)
noncomputable def B__law_size : Fx.Env → Sto → R Fl :=
    (sRet (mBin fIx (mLst true (mCons (mC (.int 1)) (mCons (mC (.int 2)) (mCons (mC (.int 4)) (mCons (mC (.int 8)) mNil))))) (mFn fLen (mCons (mBin fIx (mVar 0) (mC (.int 0))) mNil))))
noncomputable def F__law_size : List T → Sto → R T := frame 0 true (runF 1 B__law_size)
noncomputable def B__law_amount : Fx.Env → Sto → R Fl :=
    (sSeq (sSet 1 (mFn (fun ts S => if ts.length = 2 then F__law_draw ts S else .bad) (mCons (mVar 0) (mCons (mC (.int 12)) mNil))))
    (sSeq (sIf (mTst (mBin fEq (mVar 1) (mC (.int 0))))
    (sRet (mBin (fAddA true) (mC (.int 1)) (mFn (fun ts S => if ts.length = 2 then F__law_draw ts S else .bad) (mCons (mVar 0) (mCons (mBin fPow (mC (.int 10)) (mC (.int 6))) mNil)))))
    sNext)
    (sSeq (sIf (mTst (mBin fEq (mVar 1) (mC (.int 1))))
    (sRet (mBin (fAddA true) (mBin fIx (mLst true (mCons (mC (.int 10)) (mCons (mC (.int 1000)) (mCons (mBin fPow (mC (.int 10)) (mC (.int 9))) (mCons (mBin fPow (mC (.int 10)) (mC (.int 59))) mNil))))) (mFn (fun ts S => if ts.length = 2 then F__law_draw ts S else .bad) (mCons (mVar 0) (mCons (mC (.int 4)) mNil)))) (mFn (fun ts S => if ts.length = 2 then F__law_draw ts S else .bad) (mCons (mVar 0) (mCons (mC (.int 9)) mNil)))))
    sNext)
    (sRet (mBin (fAddA true) (mC (.int 1)) (mFn (fun ts S => if ts.length = 2 then F__law_draw ts S else .bad) (mCons (mVar 0) (mCons (mC (.int 3)) mNil))))))))
noncomputable def F__law_amount : List T → Sto → R T := frame 1 true (runF 2 B__law_amount)
noncomputable def B__law_drawn_deals : Fx.Env → Sto → R Fl :=
    (sSeq (sSet 4 (mLst false mNil))
    (sSeq (sFor (mItN fRange1 (mCons (mVar 3) mNil)) (.nm 5)
    (sIf (mTst (mBin fGt (mFn fLen (mCons (mBin fIx (mVar 1) (mC (.int 2))) mNil)) (mC (.int 0))))
    (sSeq (sSet 6 (mBin fIx (mBin fIx (mVar 1) (mC (.int 2))) (mFn (fun ts S => if ts.length = 2 then F__law_draw ts S else .bad) (mCons (mVar 0) (mCons (mFn fLen (mCons (mBin fIx (mVar 1) (mC (.int 2))) mNil)) mNil)))))
    (sSeq (sSet 7 (mFn (fun ts S => if ts.length = 3 then F__law_members ts S else .bad) (mCons (mVar 1) (mCons (mTup (mCons (mVar 2) (mCons (mTup mNil) mNil))) (mCons (mBin fIx (mVar 6) (mC (.int 1))) mNil)))))
    (sIf (mTst (mBin fGt (mFn fLen (mCons (mVar 7) mNil)) (mC (.int 0))))
    (sSeq (sSet 8 (mBin fIx (mVar 7) (mFn (fun ts S => if ts.length = 2 then F__law_draw ts S else .bad) (mCons (mVar 0) (mCons (mFn fLen (mCons (mVar 7) mNil)) mNil)))))
    (sSeq (sSet 9 (mLc true [10] (mIt (mFn (fun ts S => if ts.length = 3 then F__law_members ts S else .bad) (mCons (mVar 1) (mCons (mTup (mCons (mVar 2) (mCons (mTup mNil) mNil))) (mCons (mBin fIx (mVar 6) (mC (.int 3))) mNil))))) (.nm 10) (mTst (mBin fNe (mVar 10) (mVar 8))) (mVar 10)))
    (sIf (mTst (mBin fGt (mFn fLen (mCons (mVar 9) mNil)) (mC (.int 0))))
    (sDrop (mMeth isLst fAppend (mVar 4) (mCons (mTup (mCons (mBin fIx (mVar 6) (mC (.int 0))) (mCons (mVar 8) (mCons (mBin fIx (mVar 9) (mFn (fun ts S => if ts.length = 2 then F__law_draw ts S else .bad) (mCons (mVar 0) (mCons (mFn fLen (mCons (mVar 9) mNil)) mNil)))) (mCons (mFn (fun ts S => if ts.length = 1 then F__law_amount ts S else .bad) (mCons (mVar 0) mNil)) mNil))))) mNil)))
    sNext)))
    sNext)))
    sNext))
    (sRet (mFn fTuple (mCons (mVar 4) mNil)))))
noncomputable def F__law_drawn_deals : List T → Sto → R T := (runF 11 B__law_drawn_deals)
noncomputable def B__law_listed : Fx.Env → Sto → R Fl :=
    (sRet (mFn fTuple (mCons (mLc true [2] (mItN fRange1 (mCons (mFn fLen (mCons (mBin fIx (mVar 0) (mC (.int 0))) mNil)) mNil)) (.nm 2) (mTst (mBin fEq (mBin fMod (mFn fInt (mCons (mBin fDiv (mVar 1) (mBin fIx (mLst true (mCons (mC (.int 1)) (mCons (mC (.int 2)) (mCons (mC (.int 4)) mNil)))) (mVar 2))) mNil)) (mC (.int 2))) (mC (.int 1)))) (mBin fIx (mBin fIx (mVar 0) (mC (.int 0))) (mVar 2))) mNil)))
noncomputable def F__law_listed : List T → Sto → R T := frame 0 true (runF 3 B__law_listed)
noncomputable def B__law_ledger_t3 : Fx.Env → Sto → R Fl :=
    (sSeq (sFor (mItN fRange1 (mCons (mVar 2) mNil)) (.nm 7)
    (sSeq (sSet 10 (mFn (fun ts S => if ts.length = 2 then F__law_draw ts S else .bad) (mCons (mVar 0) (mCons (mFn (fun ts S => if ts.length = 1 then F__law_size ts S else .bad) (mCons (mVar 1) mNil)) mNil))))
    (sSeq (sIf (mAnd (mTst (mBin fGt (mFn fLen (mCons (mVar 6) mNil)) (mC (.int 0)))) (mTst (mBin fGt (mFn (fun ts S => if ts.length = 2 then F__law_draw ts S else .bad) (mCons (mVar 0) (mCons (mC (.int 4)) mNil))) (mC (.int 0)))))
    (sSet 10 (mBin fIx (mVar 6) (mFn (fun ts S => if ts.length = 2 then F__law_draw ts S else .bad) (mCons (mVar 0) (mCons (mFn fLen (mCons (mVar 6) mNil)) mNil)))))
    sNext)
    (sDrop (mMeth isLst fAppend (mVar 9) (mCons (mFn (fun ts S => if ts.length = 2 then F__law_listed ts S else .bad) (mCons (mVar 1) (mCons (mVar 10) mNil))) mNil))))))
    (sRet (mTup (mCons (mFn fTuple (mCons (mVar 9) mNil)) (mCons (mFn (fun ts S => if ts.length = 4 then F__law_drawn_deals ts S else .bad) (mCons (mVar 0) (mCons (mVar 1) (mCons (mVar 9) (mCons (mVar 3) mNil))))) mNil)))))
noncomputable def B__law_ledger : Fx.Env → Sto → R Fl :=
    (sSeq (sSet 4 (mBin (fAddA true) (mLc true [5] (mIt (mBin fIx (mVar 1) (mC (.int 2)))) (.nm 5) mTrue (mBin fIx (mVar 5) (mC (.int 1)))) (mLc true [5] (mIt (mBin fIx (mVar 1) (mC (.int 2)))) (.nm 5) mTrue (mBin fIx (mVar 5) (mC (.int 3))))))
    (sSeq (sSet 6 (mLc true [7] (mItN fRange1 (mCons (mFn (fun ts S => if ts.length = 1 then F__law_size ts S else .bad) (mCons (mVar 1) mNil)) mNil)) (.nm 7) (mTst (mBin (fIn false) (mC (.bl true)) (mLc true [8] (mIt (mVar 4)) (.nm 8) mTrue (mFn (fun ts S => if ts.length = 3 then (F__law_within 24) ts S else .bad) (mCons (mVar 1) (mCons (mVar 8) (mCons (mVar 7) mNil))))))) (mVar 7)))
    (sSeq (sSet 9 (mLst false mNil))
    B__law_ledger_t3)))
noncomputable def F__law_ledger : List T → Sto → R T := frame 1 true (runF 11 B__law_ledger)
noncomputable def B__law_same (d : List T → Sto → R T) : Fx.Env → Sto → R Fl :=
    (sSeq (sIf (mTst (mBin (fIsN false) (mVar 1) (mC .non)))
    (sRet (mBin (fIsN false) (mVar 0) (mC .non)))
    sNext)
    (sSeq (sIf (mTru (mFn fIsi (mCons (mVar 1) (mCons (mC (.ty "bool")) mNil))))
    (sRet (mAndV (mFn fIsi (mCons (mVar 0) (mCons (mC (.ty "bool")) mNil))) (mBin fEq (mVar 0) (mVar 1))))
    sNext)
    (sSeq (sIf (mTru (mFn fIsi (mCons (mVar 1) (mCons (mC (.ty "int")) mNil))))
    (sRet (mAndV (mFn fIsi (mCons (mVar 0) (mCons (mC (.ty "int")) mNil))) (mAndV (mNotV (mFn fIsi (mCons (mVar 0) (mCons (mC (.ty "bool")) mNil)))) (mBin fEq (mVar 0) (mVar 1)))))
    sNext)
    (sSeq (sIf (mTru (mFn fIsi (mCons (mVar 1) (mCons (mC (.ty "str")) mNil))))
    (sRet (mAndV (mFn fIsi (mCons (mVar 0) (mCons (mC (.ty "str")) mNil))) (mBin fEq (mVar 0) (mVar 1))))
    sNext)
    (sSeq (sIf (mOr (mNot (mTru (mFn fIsi (mCons (mVar 0) (mCons (mC (.ty "tuple")) mNil))))) (mTst (mBin fNe (mFn fLen (mCons (mVar 0) mNil)) (mFn fLen (mCons (mVar 1) mNil)))))
    (sRet (mC (.bl false)))
    sNext)
    (sSeq (sFor (mItN fRange1 (mCons (mFn fLen (mCons (mVar 1) mNil)) mNil)) (.nm 2)
    (sIf (mNot (mTru (mFn (fun ts S => if ts.length = 2 then d ts S else .bad) (mCons (mBin fIx (mVar 0) (mVar 2)) (mCons (mBin fIx (mVar 1) (mVar 2)) mNil)))))
    (sRet (mC (.bl false)))
    sNext))
    (sRet (mC (.bl true)))))))))
noncomputable def F__law_same : Nat → List T → Sto → R T
  | 0 => fun _ _ => .bad
  | d + 1 => frame 0 true (runF 3 (B__law_same (F__law_same d)))
noncomputable def B__law_names_t5_2 : Fx.Env → Sto → R Fl :=
    (sSeq (sIf (mTst (mBin (fIn false) (mVar 8) (mLst true (mCons (mC (.str "to")) (mCons (mC (.str "if")) (mCons (mC (.str "of")) (mCons (mC (.str "or")) (mCons (mC (.str "by")) (mCons (mC (.str "not")) (mCons (mC (.str "and")) (mCons (mC (.str "all")) mNil)))))))))))
    (sSet 8 (mBin (fAddA true) (mVar 8) (mC (.str "x"))))
    sNext)
    (sDrop (mMeth isLst fAppend (mVar 6) (mCons (mVar 8) mNil))))
noncomputable def B__law_names : Fx.Env → Sto → R Fl :=
    (sSeq (sSet 2 (mC (.str "abcdefghijklmnopqrstuvwxyz")))
    (sSeq (sSet 3 (mBin fIx (mLst true (mCons (mC (.str "")) (mCons (mC (.str "")) (mCons (mC (.str "a")) (mCons (mC (.str "of")) (mCons (mC (.str "household")) (mCons (mC (.str "counterpart")) mNil))))))) (mFn (fun ts S => if ts.length = 2 then F__law_draw ts S else .bad) (mCons (mVar 0) (mCons (mC (.int 6)) mNil)))))
    (sSeq (sSet 4 (mFn (fun ts S => if ts.length = 2 then F__law_draw ts S else .bad) (mCons (mVar 0) (mCons (mC (.int 26)) mNil))))
    (sSeq (sSet 5 (mBin fIx (mLst true (mCons (mC (.int 1)) (mCons (mC (.int 3)) (mCons (mC (.int 5)) (mCons (mC (.int 7)) (mCons (mC (.int 9)) (mCons (mC (.int 11)) (mCons (mC (.int 15)) (mCons (mC (.int 17)) (mCons (mC (.int 19)) (mCons (mC (.int 21)) (mCons (mC (.int 23)) (mCons (mC (.int 25)) mNil))))))))))))) (mFn (fun ts S => if ts.length = 2 then F__law_draw ts S else .bad) (mCons (mVar 0) (mCons (mC (.int 12)) mNil)))))
    (sSeq (sSet 6 (mLst false mNil))
    (sSeq (sFor (mItN fRange1 (mCons (mVar 1) mNil)) (.nm 7)
    (sSeq (sSet 8 (mBin (fAddA true) (mVar 3) (mBin fIx (mVar 2) (mBin fMod (mFn fInt (mCons (mBin (fAddA true) (mVar 4) (mBin fMul (mVar 7) (mVar 5))) mNil)) (mC (.int 26))))))
    (sSeq (sIf (mTst (mBin fLt (mFn fLen (mCons (mVar 3) mNil)) (mC (.int 10))))
    (sSet 8 (mBin (fAddA true) (mVar 8) (mBin fIx (mLst true (mCons (mC (.str "")) (mCons (mC (.str "")) (mCons (mC (.str "")) (mCons (mC (.str "l")) (mCons (mC (.str "d")) (mCons (mC (.str "r")) (mCons (mC (.str "y")) (mCons (mC (.str "o")) (mCons (mC (.str "f")) mNil)))))))))) (mFn (fun ts S => if ts.length = 2 then F__law_draw ts S else .bad) (mCons (mVar 0) (mCons (mC (.int 9)) mNil))))))
    sNext)
    B__law_names_t5_2)))
    (sSeq (sIf (mTst (mBin fEq (mFn (fun ts S => if ts.length = 2 then F__law_draw ts S else .bad) (mCons (mVar 0) (mCons (mC (.int 8)) mNil))) (mC (.int 0))))
    (sSeq (sSet 9 (mLst true (mCons (mC (.str "sector")) (mCons (mC (.str "sum")) (mCons (mC (.str "number")) (mCons (mC (.str "holds")) (mCons (mC (.str "end")) (mCons (mC (.str "name")) (mCons (mC (.str "unit")) (mCons (mC (.str "row")) mNil))))))))))
    (sSet 6 (mBin (fAddA false) (mLc true [7] (mItN fRange1 (mCons (mFn fMin2 (mCons (mVar 1) (mCons (mC (.int 4)) mNil))) mNil)) (.nm 7) mTrue (mBin fIx (mVar 9) (mBin fMod (mFn fInt (mCons (mBin (fAddA true) (mVar 4) (mVar 7)) mNil)) (mC (.int 8))))) (mSl (fSlA true) (mVar 6) (mO1 (mC (.int 4))) mO0))))
    sNext)
    (sRet (mVar 6)))))))))
noncomputable def F__law_names : List T → Sto → R T := frame 1 true (runF 10 B__law_names)
noncomputable def B__law_entries : Fx.Env → Sto → R Fl :=
    (sSeq (sSet 2 (mLc false [3] (mIt (mVar 1)) (.nm 3) (mTst (mBin fGt (mFn (fun ts S => if ts.length = 2 then F__law_draw ts S else .bad) (mCons (mVar 0) (mCons (mC (.int 3)) mNil))) (mC (.int 0)))) (mTup (mCons (mVar 3) (mCons (mFn (fun ts S => if ts.length = 1 then F__law_number ts S else .bad) (mCons (mVar 0) mNil)) mNil)))))
    (sSeq (sIf (mTst (mBin fEq (mFn (fun ts S => if ts.length = 2 then F__law_draw ts S else .bad) (mCons (mVar 0) (mCons (mC (.int 3)) mNil))) (mC (.int 0))))
    (sDrop (mMeth isLst fReverse (mVar 2) mNil))
    sNext)
    (sRet (mFn fTuple (mCons (mVar 2) mNil)))))
noncomputable def F__law_entries : List T → Sto → R T := frame 1 true (runF 4 B__law_entries)
noncomputable def B__law_kind_t7 : Fx.Env → Sto → R Fl :=
    (sRet (mTup (mCons (mVar 1) (mCons (mVar 4) (mCons (mVar 6) (mCons (mVar 5) (mCons (mFn fTuple (mCons (mVar 8) mNil)) mNil)))))))
noncomputable def B__law_kind : Fx.Env → Sto → R Fl :=
    (sSeq (sSet 4 (mFn (fun ts S => if ts.length = 3 then (F__law_area 24) ts S else .bad) (mCons (mVar 0) (mCons (mVar 2) (mCons (mC (.int 1)) mNil)))))
    (sSeq (sSet 5 (mFn (fun ts S => if ts.length = 3 then (F__law_area 24) ts S else .bad) (mCons (mVar 0) (mCons (mVar 2) (mCons (mC (.int 1)) mNil)))))
    (sSeq (sSet 6 (mFn (fun ts S => if ts.length = 2 then F__law_entries ts S else .bad) (mCons (mVar 0) (mCons (mVar 3) mNil))))
    (sSeq (sSet 7 (mFn (fun ts S => if ts.length = 2 then F__law_draw ts S else .bad) (mCons (mVar 0) (mCons (mC (.int 5)) mNil))))
    (sSeq (sIf (mTst (mBin fEq (mVar 7) (mC (.int 0))))
    (sRet (mTup (mCons (mVar 1) (mCons (mVar 4) (mCons (mVar 6) (mCons (mVar 5) (mCons (mFn (fun ts S => if ts.length = 2 then F__law_entries ts S else .bad) (mCons (mVar 0) (mCons (mVar 3) mNil))) mNil)))))))
    sNext)
    (sSeq (sSet 8 (mLc true [9] (mIt (mVar 6)) (.nm 9) mTrue (mTup (mCons (mBin fIx (mVar 9) (mC (.int 0))) (mCons (mUn fNeg (mBin fIx (mVar 9) (mC (.int 1)))) mNil)))))
    (sSeq (sIf (mTst (mBin fEq (mVar 7) (mC (.int 1))))
    (sSet 8 (mSl (fSlA true) (mVar 8) (mO1 (mC (.int 1))) mO0))
    sNext)
    B__law_kind_t7)))))))
noncomputable def F__law_kind : List T → Sto → R T := frame 1 true (runF 10 B__law_kind)
noncomputable def B__law_exactly : Fx.Env → Sto → R Fl :=
    (sSeq (sSet 2 (mTup (mCons (mC (.str "all")) mNil)))
    (sSeq (sFor (mItN fRange1 (mCons (mFn fLen (mCons (mBin fIx (mVar 0) (mC (.int 0))) mNil)) mNil)) (.nm 3)
    (sSeq (sSet 4 (mTup (mCons (mC (.str "sector")) (mCons (mBin fIx (mBin fIx (mVar 0) (mC (.int 0))) (mVar 3)) mNil))))
    (sSeq (sIf (mTst (mBin fEq (mBin fMod (mFn fInt (mCons (mBin fDiv (mVar 1) (mBin fIx (mLst true (mCons (mC (.int 1)) (mCons (mC (.int 2)) (mCons (mC (.int 4)) mNil)))) (mVar 3))) mNil)) (mC (.int 2))) (mC (.int 0))))
    (sSet 4 (mTup (mCons (mC (.str "not")) (mCons (mVar 4) mNil))))
    sNext)
    (sIf (mTst (mBin fEq (mVar 3) (mC (.int 0))))
    (sSet 2 (mVar 4))
    (sSet 2 (mTup (mCons (mC (.str "and")) (mCons (mVar 2) (mCons (mVar 4) mNil)))))))))
    (sRet (mVar 2))))
noncomputable def F__law_exactly : List T → Sto → R T := frame 0 true (runF 5 B__law_exactly)
noncomputable def B__law_narrow : Fx.Env → Sto → R Fl :=
    (sSeq (sSet 3 (mFn (fun ts S => if ts.length = 2 then F__law_draw ts S else .bad) (mCons (mVar 0) (mCons (mFn fMax2 (mCons (mFn fLen (mCons (mVar 1) mNil)) (mCons (mC (.int 1)) mNil))) mNil))))
    (sSeq (sFor (mItN fRange1 (mCons (mBin fSub (mFn fLen (mCons (mVar 1) mNil)) (mC (.int 1))) mNil)) (.nm 4)
    (sSeq (sSet 5 (mTup (mCons (mC (.str "sector")) (mCons (mBin fIx (mVar 1) (mBin fMod (mFn fInt (mCons (mBin (fAddA true) (mVar 3) (mVar 4)) mNil)) (mFn fLen (mCons (mVar 1) mNil)))) mNil))))
    (sSeq (sIf (mTst (mBin fEq (mFn (fun ts S => if ts.length = 2 then F__law_draw ts S else .bad) (mCons (mVar 0) (mCons (mC (.int 3)) mNil))) (mC (.int 0))))
    (sSet 5 (mTup (mCons (mC (.str "not")) (mCons (mVar 5) mNil))))
    sNext)
    (sSet 2 (mTup (mCons (mC (.str "and")) (mCons (mVar 2) (mCons (mVar 5) mNil))))))))
    (sRet (mVar 2))))
noncomputable def F__law_narrow : List T → Sto → R T := frame 1 true (runF 6 B__law_narrow)
noncomputable def B__law_short : Fx.Env → Sto → R Fl :=
    (sSeq (sSet 3 (mFn (fun ts S => if ts.length = 3 then F__law_constraint ts S else .bad) (mCons (mVar 0) (mCons (mVar 1) (mCons (mVar 2) mNil)))))
    (sSeq (sIf (mTst (mBin fEq (mBin fIx (mVar 3) (mC (.int 0))) (mC (.str "sum"))))
    (sRet (mTup (mCons (mC (.str "sum")) (mCons (mSl (fSlA true) (mBin fIx (mVar 3) (mC (.int 1))) mO0 (mO1 (mC (.int 2)))) (mCons (mBin fIx (mVar 3) (mC (.int 2))) mNil)))))
    sNext)
    (sRet (mTup (mCons (mC (.str "each")) (mCons (mFn (fun ts S => if ts.length = 3 then F__law_narrow ts S else .bad) (mCons (mVar 0) (mCons (mVar 1) (mCons (mBin fIx (mVar 3) (mC (.int 1))) mNil)))) (mCons (mSl (fSlA true) (mBin fIx (mVar 3) (mC (.int 2))) mO0 (mO1 (mC (.int 2)))) (mCons (mBin fIx (mVar 3) (mC (.int 3))) mNil))))))))
noncomputable def F__law_short : List T → Sto → R T := frame 1 true (runF 4 B__law_short)
noncomputable def B__law_scene_t7 : Fx.Env → Sto → R Fl :=
    (sSeq (sSet 11 (mBin fIx (mLst true (mCons (mFn fInt (mCons (mBin fEq (mFn (fun ts S => if ts.length = 2 then F__law_draw ts S else .bad) (mCons (mVar 0) (mCons (mC (.int 3)) mNil))) (mC (.int 0))) mNil)) (mCons (mBin (fAddA true) (mC (.int 1)) (mFn (fun ts S => if ts.length = 2 then F__law_draw ts S else .bad) (mCons (mVar 0) (mCons (mC (.int 3)) mNil)))) mNil))) (mVar 1)))
    (sSeq (sSet 12 (mFn fTuple (mCons (mLc true [7] (mItN fRange1 (mCons (mVar 11) mNil)) (.nm 7) mTrue (mTup (mCons (mBin fIx (mVar 4) (mBin (fAddA true) (mC (.int 5)) (mVar 7))) (mCons (mFn (fun ts S => if ts.length = 3 then F__law_short ts S else .bad) (mCons (mVar 0) (mCons (mVar 2) (mCons (mVar 3) mNil)))) mNil)))) mNil)))
    (sRet (mTup (mCons (mVar 2) (mCons (mVar 3) (mCons (mFn fTuple (mCons (mVar 8) mNil)) (mCons (mVar 12) (mCons (mTup mNil) mNil)))))))))
noncomputable def B__law_scene_t4 : Fx.Env → Sto → R Fl :=
    (sSeq (sSet 6 (mLc true [7] (mItN fRange1 (mCons (mC (.int 3)) mNil)) (.nm 7) mTrue (mFn (fun ts S => if ts.length = 2 then F__law_exactly ts S else .bad) (mCons (mVar 5) (mCons (mFn (fun ts S => if ts.length = 2 then F__law_draw ts S else .bad) (mCons (mVar 0) (mCons (mFn (fun ts S => if ts.length = 1 then F__law_size ts S else .bad) (mCons (mVar 5) mNil)) mNil))) mNil)))))
    (sSeq (sSet 8 (mLst false mNil))
    (sSeq (sFor (mItN fRange1 (mCons (mBin fIx (mLst true (mCons (mBin (fAddA true) (mC (.int 1)) (mFn (fun ts S => if ts.length = 2 then F__law_draw ts S else .bad) (mCons (mVar 0) (mCons (mC (.int 3)) mNil)))) (mCons (mC (.int 5)) mNil))) (mVar 1)) mNil)) (.nm 7)
    (sSeq (sSet 9 (mFn (fun ts S => if ts.length = 4 then F__law_kind ts S else .bad) (mCons (mVar 0) (mCons (mBin fIx (mVar 4) (mVar 7)) (mCons (mVar 2) (mCons (mVar 3) mNil))))))
    (sSeq (sSet 10 (mBin fIx (mVar 6) (mFn (fun ts S => if ts.length = 2 then F__law_draw ts S else .bad) (mCons (mVar 0) (mCons (mC (.int 3)) mNil)))))
    (sDrop (mMeth isLst fAppend (mVar 8) (mCons (mTup (mCons (mBin fIx (mVar 4) (mVar 7)) (mCons (mVar 10) (mCons (mBin fIx (mVar 9) (mC (.int 2))) (mCons (mBin fIx (mVar 6) (mFn (fun ts S => if ts.length = 2 then F__law_draw ts S else .bad) (mCons (mVar 0) (mCons (mC (.int 3)) mNil)))) (mCons (mBin fIx (mVar 9) (mC (.int 4))) mNil)))))) mNil))))))
    B__law_scene_t7)))
noncomputable def B__law_scene : Fx.Env → Sto → R Fl :=
    (sSeq (sSet 2 (mFn fTuple (mCons (mFn (fun ts S => if ts.length = 2 then F__law_names ts S else .bad) (mCons (mVar 0) (mCons (mBin fIx (mLst true (mCons (mBin (fAddA true) (mC (.int 2)) (mFn (fun ts S => if ts.length = 2 then F__law_draw ts S else .bad) (mCons (mVar 0) (mCons (mC (.int 2)) mNil)))) (mCons (mC (.int 3)) mNil))) (mVar 1)) mNil))) mNil)))
    (sSeq (sSet 3 (mFn fTuple (mCons (mFn (fun ts S => if ts.length = 2 then F__law_names ts S else .bad) (mCons (mVar 0) (mCons (mBin fIx (mLst true (mCons (mBin (fAddA true) (mC (.int 1)) (mFn (fun ts S => if ts.length = 2 then F__law_draw ts S else .bad) (mCons (mVar 0) (mCons (mC (.int 2)) mNil)))) (mCons (mC (.int 4)) mNil))) (mVar 1)) mNil))) mNil)))
    (sSeq (sSet 4 (mFn (fun ts S => if ts.length = 2 then F__law_names ts S else .bad) (mCons (mVar 0) (mCons (mC (.int 8)) mNil))))
    (sSeq (sSet 5 (mTup (mCons (mVar 2) (mCons (mVar 3) (mCons (mTup mNil) (mCons (mTup mNil) (mCons (mTup mNil) mNil)))))))
    B__law_scene_t4))))
noncomputable def F__law_scene : List T → Sto → R T := frame 1 true (runF 13 B__law_scene)
noncomputable def B__law_world_t7 : Fx.Env → Sto → R Fl :=
    (sSeq (sSet 9 (mTup mNil))
    (sSeq (sIf (mTst (mBin fEq (mFn (fun ts S => if ts.length = 2 then F__law_draw ts S else .bad) (mCons (mVar 0) (mCons (mC (.int 3)) mNil))) (mC (.int 0))))
    (sSet 9 (mTup (mCons (mTup (mCons (mBin fIx (mVar 4) (mC (.int 3))) (mCons (mFn (fun ts S => if ts.length = 3 then F__law_short ts S else .bad) (mCons (mVar 0) (mCons (mVar 2) (mCons (mVar 3) mNil)))) mNil))) mNil)))
    sNext)
    (sRet (mTup (mCons (mVar 2) (mCons (mVar 3) (mCons (mFn fTuple (mCons (mVar 5) mNil)) (mCons (mVar 9) (mCons (mTup mNil) mNil)))))))))
noncomputable def B__law_world_t5 : Fx.Env → Sto → R Fl :=
    (sSeq (sSet 5 (mLst false mNil))
    (sSeq (sFor (mItN fRange1 (mCons (mBin fIx (mLst true (mCons (mC (.int 0)) (mCons (mC (.int 1)) (mCons (mC (.int 1)) (mCons (mC (.int 1)) (mCons (mC (.int 2)) (mCons (mC (.int 2)) (mCons (mC (.int 2)) (mCons (mC (.int 2)) (mCons (mC (.int 3)) (mCons (mC (.int 3)) mNil))))))))))) (mFn (fun ts S => if ts.length = 2 then F__law_draw ts S else .bad) (mCons (mVar 0) (mCons (mC (.int 10)) mNil)))) mNil)) (.nm 6)
    (sSeq (sSet 7 (mFn (fun ts S => if ts.length = 4 then F__law_kind ts S else .bad) (mCons (mVar 0) (mCons (mBin fIx (mVar 4) (mVar 6)) (mCons (mVar 2) (mCons (mVar 3) mNil))))))
    (sSeq (sIf (mOr (mTst (mBin fGt (mVar 6) (mC (.int 0)))) (mTst (mBin fGt (mFn fLen (mCons (mVar 2) mNil)) (mC (.int 2)))))
    (sSeq (sSet 8 (mFn (fun ts S => if ts.length = 3 then F__law_narrow ts S else .bad) (mCons (mVar 0) (mCons (mVar 2) (mCons (mBin fIx (mVar 7) (mC (.int 1))) mNil)))))
    (sSet 7 (mTup (mCons (mBin fIx (mVar 7) (mC (.int 0))) (mCons (mVar 8) (mCons (mBin fIx (mVar 7) (mC (.int 2))) (mCons (mFn (fun ts S => if ts.length = 3 then F__law_narrow ts S else .bad) (mCons (mVar 0) (mCons (mVar 2) (mCons (mBin fIx (mVar 7) (mC (.int 3))) mNil)))) (mCons (mBin fIx (mVar 7) (mC (.int 4))) mNil))))))))
    sNext)
    (sDrop (mMeth isLst fAppend (mVar 5) (mCons (mVar 7) mNil))))))
    B__law_world_t7))
noncomputable def B__law_world : Fx.Env → Sto → R Fl :=
    (sSeq (sSet 1 (mFn (fun ts S => if ts.length = 2 then F__law_draw ts S else .bad) (mCons (mVar 0) (mCons (mC (.int 12)) mNil))))
    (sSeq (sIf (mTst (mBin fLt (mVar 1) (mC (.int 4))))
    (sRet (mFn (fun ts S => if ts.length = 2 then F__law_scene ts S else .bad) (mCons (mVar 0) (mCons (mFn fInt (mCons (mBin fEq (mVar 1) (mC (.int 0))) mNil)) mNil))))
    sNext)
    (sSeq (sSet 2 (mFn fTuple (mCons (mFn (fun ts S => if ts.length = 2 then F__law_names ts S else .bad) (mCons (mVar 0) (mCons (mBin fIx (mLst true (mCons (mC (.int 0)) (mCons (mC (.int 1)) (mCons (mC (.int 1)) (mCons (mC (.int 1)) (mCons (mC (.int 2)) (mCons (mC (.int 2)) (mCons (mC (.int 3)) mNil)))))))) (mFn (fun ts S => if ts.length = 2 then F__law_draw ts S else .bad) (mCons (mVar 0) (mCons (mC (.int 7)) mNil)))) mNil))) mNil)))
    (sSeq (sSet 3 (mFn fTuple (mCons (mFn (fun ts S => if ts.length = 2 then F__law_names ts S else .bad) (mCons (mVar 0) (mCons (mBin fIx (mLst true (mCons (mC (.int 1)) (mCons (mC (.int 1)) (mCons (mC (.int 2)) (mCons (mC (.int 2)) (mCons (mC (.int 2)) (mCons (mC (.int 3)) mNil))))))) (mFn (fun ts S => if ts.length = 2 then F__law_draw ts S else .bad) (mCons (mVar 0) (mCons (mC (.int 6)) mNil)))) mNil))) mNil)))
    (sSeq (sSet 4 (mFn (fun ts S => if ts.length = 2 then F__law_names ts S else .bad) (mCons (mVar 0) (mCons (mC (.int 4)) mNil))))
    B__law_world_t5)))))
noncomputable def F__law_world : List T → Sto → R T := frame 1 true (runF 10 B__law_world)
noncomputable def B__law_loose : Fx.Env → Sto → R Fl :=
    (sRet (mBin (fAddA true) (mSl (fSlA true) (mVar 0) mO0 (mO1 (mBin fSub (mFn fLen (mCons (mVar 0) mNil)) (mC (.int 1))))) (mTup (mCons (mC (.str ">=")) mNil))))
noncomputable def F__law_loose : List T → Sto → R T := frame 0 true (runF 1 B__law_loose)
noncomputable def B__law_sector_text (d : List T → Sto → R T) : Fx.Env → Sto → R Fl :=
    (sSeq (sIf (mTst (mBin fEq (mBin fIx (mVar 0) (mC (.int 0))) (mC (.str "sector"))))
    (sRet (mBin fIx (mVar 0) (mC (.int 1))))
    sNext)
    (sSeq (sIf (mTst (mBin (fIn false) (mBin fIx (mVar 0) (mC (.int 0))) (mLst true (mCons (mC (.str "all")) (mCons (mC (.str "none")) mNil)))))
    (sRet (mBin fIx (mVar 0) (mC (.int 0))))
    sNext)
    (sSeq (sSet 2 (mMeth isLst fIndex (mLst true (mCons (mC (.str "or")) (mCons (mC (.str "and")) (mCons (mC (.str "not")) mNil)))) (mCons (mBin fIx (mVar 0) (mC (.int 0))) mNil)))
    (sSeq (sIf (mTst (mBin fEq (mVar 2) (mC (.int 2))))
    (sSet 3 (mBin (fAddA true) (mC (.str "not ")) (mFn (fun ts S => if ts.length = 2 then d ts S else .bad) (mCons (mBin fIx (mVar 0) (mC (.int 1))) (mCons (mC (.int 3)) mNil)))))
    (sSet 3 (mBin (fAddA true) (mBin (fAddA true) (mBin (fAddA true) (mBin (fAddA true) (mFn (fun ts S => if ts.length = 2 then d ts S else .bad) (mCons (mBin fIx (mVar 0) (mC (.int 1))) (mCons (mVar 2) mNil))) (mC (.str " "))) (mBin fIx (mVar 0) (mC (.int 0)))) (mC (.str " "))) (mFn (fun ts S => if ts.length = 2 then d ts S else .bad) (mCons (mBin fIx (mVar 0) (mC (.int 2))) (mCons (mBin (fAddA true) (mVar 2) (mC (.int 1))) mNil))))))
    (sSeq (sIf (mTst (mBin fLt (mVar 2) (mVar 1)))
    (sRet (mBin (fAddA true) (mBin (fAddA true) (mC (.str "(")) (mVar 3)) (mC (.str ")"))))
    sNext)
    (sRet (mVar 3)))))))
noncomputable def F__law_sector_text : Nat → List T → Sto → R T
  | 0 => fun _ _ => .bad
  | d + 1 => frame 0 true (runF 4 (B__law_sector_text (F__law_sector_text d)))
noncomputable def B__law_times : Fx.Env → Sto → R Fl :=
    (sSeq (sIf (mTst (mBin fEq (mFn fAbs (mCons (mVar 0) mNil)) (mC (.int 1))))
    (sRet (mVar 1))
    sNext)
    (sRet (mBin (fAddA true) (mBin (fAddA true) (mFn fStr (mCons (mFn fAbs (mCons (mVar 0) mNil)) mNil)) (mC (.str " "))) (mVar 1))))
noncomputable def F__law_times : List T → Sto → R T := frame 0 true (runF 2 B__law_times)
noncomputable def B__law_constraint_text : Fx.Env → Sto → R Fl :=
    (sSeq (sSet 1 (mBin fIx (mVar 0) (mC (.int 1))))
    (sSeq (sSet 2 (mC (.str "")))
    (sSeq (sIf (mTst (mBin fEq (mBin fIx (mVar 0) (mC (.int 0))) (mC (.str "each"))))
    (sSet 1 (mBin fIx (mVar 0) (mC (.int 2))))
    sNext)
    (sSeq (sFor (mItN fRange1 (mCons (mFn fLen (mCons (mVar 1) mNil)) mNil)) (.nm 3)
    (sSeq (sSet 4 (mBin fIx (mBin fIx (mLst true (mCons (mLst true (mCons (mC (.str "")) (mCons (mC (.str "-")) mNil))) (mCons (mLst true (mCons (mC (.str " + ")) (mCons (mC (.str " - ")) mNil))) mNil))) (mFn fInt (mCons (mBin fGt (mVar 3) (mC (.int 0))) mNil))) (mFn fInt (mCons (mBin fLt (mBin fIx (mBin fIx (mVar 1) (mVar 3)) (mC (.int 0))) (mC (.int 0))) mNil))))
    (sSeq (sSet 2 (mBin (fAddA true) (mBin (fAddA true) (mVar 2) (mVar 4)) (mFn (fun ts S => if ts.length = 2 then F__law_times ts S else .bad) (mCons (mBin fIx (mBin fIx (mVar 1) (mVar 3)) (mC (.int 0))) (mCons (mBin fIx (mBin fIx (mVar 1) (mVar 3)) (mC (.int 1))) mNil)))))
    (sIf (mTst (mBin fEq (mBin fIx (mVar 0) (mC (.int 0))) (mC (.str "sum"))))
    (sSet 2 (mBin (fAddA true) (mBin (fAddA true) (mVar 2) (mC (.str " of "))) (mFn (fun ts S => if ts.length = 2 then (F__law_sector_text 24) ts S else .bad) (mCons (mBin fIx (mBin fIx (mVar 1) (mVar 3)) (mC (.int 2))) (mCons (mC (.int 2)) mNil)))))
    sNext))))
    (sSeq (sIf (mTst (mBin fEq (mBin fIx (mVar 0) (mC (.int 0))) (mC (.str "each"))))
    (sSet 2 (mBin (fAddA true) (mBin (fAddA true) (mBin (fAddA true) (mC (.str "each ")) (mFn (fun ts S => if ts.length = 2 then (F__law_sector_text 24) ts S else .bad) (mCons (mBin fIx (mVar 0) (mC (.int 1))) (mCons (mC (.int 0)) mNil)))) (mC (.str ": "))) (mVar 2)))
    sNext)
    (sRet (mBin (fAddA true) (mBin (fAddA true) (mBin (fAddA true) (mVar 2) (mC (.str " "))) (mBin fIx (mVar 0) (mBin fSub (mFn fLen (mCons (mVar 0) mNil)) (mC (.int 1))))) (mC (.str " 0")))))))))
noncomputable def F__law_constraint_text : List T → Sto → R T := frame 0 true (runF 5 B__law_constraint_text)
noncomputable def B__law_claim_text : Fx.Env → Sto → R Fl :=
    (sSeq (sSet 1 (mFn (fun ts S => if ts.length = 1 then F__law_constraint_text ts S else .bad) (mCons (mBin fIx (mVar 0) (mC (.int 1))) mNil)))
    (sSeq (sIf (mTst (mBin fEq (mBin fIx (mVar 0) (mC (.int 0))) (mTup mNil)))
    (sRet (mVar 1))
    sNext)
    (sRet (mBin (fAddA true) (mBin (fAddA true) (mBin (fAddA true) (mC (.str "if ")) (mMeth isStr fJoin (mC (.str ", ")) (mCons (mLc true [2] (mIt (mBin fIx (mVar 0) (mC (.int 0)))) (.nm 2) mTrue (mFn (fun ts S => if ts.length = 1 then F__law_constraint_text ts S else .bad) (mCons (mVar 2) mNil))) mNil))) (mC (.str " then "))) (mVar 1)))))
noncomputable def F__law_claim_text : List T → Sto → R T := frame 0 true (runF 3 B__law_claim_text)
noncomputable def B__law_is_plain : Fx.Env → Sto → R Fl :=
    (sSeq (sSet 1 (mLst true (mCons (mUn (fIsX tab_BadParticipant) (mVar 0)) (mCons (mUn (fIsX tab_BadTransaction) (mVar 0)) (mCons (mUn (fIsX tab_BadValue) (mVar 0)) mNil)))))
    (sSeq (sSet 1 (mBin (fAddA true) (mVar 1) (mLst true (mCons (mUn (fIsX tab_DoesNotHold) (mVar 0)) (mCons (mUn (fIsX tab_Mistakes) (mVar 0)) (mCons (mUn (fIsX tab_NeedsJournal) (mVar 0)) mNil))))))
    (sSeq (sSet 1 (mBin (fAddA true) (mVar 1) (mLst true (mCons (mUn (fIsX tab_NeedsModel) (mVar 0)) (mCons (mUn (fIsX tab_NotASum) (mVar 0)) (mCons (mUn (fIsX tab_NothingToRedo) (mVar 0)) mNil))))))
    (sSeq (sSet 1 (mBin (fAddA true) (mVar 1) (mLst true (mCons (mUn (fIsX tab_NothingToUndo) (mVar 0)) (mCons (mUn (fIsX tab_NotRefuted) (mVar 0)) (mCons (mUn (fIsX tab_ReadError) (mVar 0)) mNil))))))
    (sSeq (sSet 1 (mBin (fAddA true) (mVar 1) (mLst true (mCons (mUn (fIsX tab_TooMany) (mVar 0)) (mCons (mUn (fIsX tab_UnknownClaim) (mVar 0)) mNil)))))
    (sRet (mAndV (mUn (fIsX tab_ProofError) (mVar 0)) (mAndV (mUn (fIsX tab_ValueError) (mVar 0)) (mBin fEq (mMeth isLst fCountB (mVar 1) (mCons (mC (.bl true)) mNil)) (mC (.int 1)))))))))))
noncomputable def F__law_is_plain : List T → Sto → R T := frame 0 true (runF 2 B__law_is_plain)
noncomputable def B__law_is_refused : Fx.Env → Sto → R Fl :=
    (sSeq (sTryX exm_NotASum 3 (mFn (fun ts S => if ts.length = 3 then F_raised ts S else .bad) (mCons (mVar 0) (mCons (mVar 1) (mCons (mVar 2) mNil))))
    (sRet (mFn (fun ts S => if ts.length = 1 then F__law_is_plain ts S else .bad) (mCons (mVar 3) mNil))))
    (sRet (mC (.bl false))))
noncomputable def F__law_is_refused : List T → Sto → R T := frame 0 true (runF 4 B__law_is_refused)
noncomputable def B__law_due_claim : Fx.Env → Sto → R Fl :=
    (sSeq (sSet 4 (mLc true [5] (mIt (mBin fIx (mVar 1) (mC (.int 1)))) (.nm 5) mTrue (mTup (mCons (mBin fMul (mBin fIx (mVar 3) (mC (.int 1))) (mBin fIx (mVar 5) (mC (.int 0)))) (mCons (mBin fIx (mVar 5) (mC (.int 1))) (mCons (mBin fIx (mVar 5) (mC (.int 2))) mNil))))))
    (sSeq (sIf (mTst (mBin fGt (mBin fIx (mVar 3) (mC (.int 0))) (mC (.int 0))))
    (sSet 4 (mBin (fAddA true) (mVar 4) (mLc true [5] (mIt (mBin fIx (mVar 2) (mC (.int 1)))) (.nm 5) mTrue (mTup (mCons (mBin fMul (mBin fIx (mVar 3) (mC (.int 0))) (mBin fIx (mVar 5) (mC (.int 0)))) (mCons (mBin fIx (mVar 5) (mC (.int 1))) (mCons (mBin fIx (mVar 5) (mC (.int 2))) mNil)))))))
    sNext)
    (sRet (mTup (mCons (mVar 0) (mCons (mTup (mCons (mC (.str "sum")) (mCons (mFn fTuple (mCons (mVar 4) mNil)) (mCons (mC (.str ">=")) mNil)))) mNil))))))
noncomputable def F__law_due_claim : List T → Sto → R T := frame 0 true (runF 6 B__law_due_claim)
noncomputable def B__law_gcd : Fx.Env → Sto → R Fl :=
    (sSeq (sSet 0 (mFn fAbs (mCons (mVar 0) mNil)))
    (sSeq (sSet 1 (mFn fAbs (mCons (mVar 1) mNil)))
    (sSeq (sWhile (mTst (mBin fGt (mVar 1) (mC (.int 0))))
    (sSeq (sSet 2 (mBin fMod (mFn fInt (mCons (mVar 0) mNil)) (mVar 1)))
    (sSeq (sSet 0 (mVar 1))
    (sSet 1 (mVar 2)))))
    (sRet (mVar 0)))))
noncomputable def F__law_gcd : List T → Sto → R T := frame 0 true (runF 3 B__law_gcd)
noncomputable def B__law_fraction (d : List T → Sto → R T) : Fx.Env → Sto → R Fl :=
    (sSeq (sIf (mTst (mBin fLt (mVar 1) (mC (.int 0))))
    (sRet (mFn (fun ts S => if ts.length = 2 then d ts S else .bad) (mCons (mUn fNeg (mVar 0)) (mCons (mUn fNeg (mVar 1)) mNil))))
    sNext)
    (sSeq (sSet 2 (mFn (fun ts S => if ts.length = 2 then F__law_gcd ts S else .bad) (mCons (mVar 0) (mCons (mVar 1) mNil))))
    (sRet (mTup (mCons (mBin fDivZ (mVar 0) (mVar 2)) (mCons (mBin fDivZ (mVar 1) (mVar 2)) mNil))))))
noncomputable def F__law_fraction : Nat → List T → Sto → R T
  | 0 => fun _ _ => .bad
  | d + 1 => frame 0 true (runF 3 (B__law_fraction (F__law_fraction d)))
noncomputable def B__law_ratio : Fx.Env → Sto → R Fl :=
    (sSeq (sSet 1 (mBin fIx (mLst true (mCons (mC (.int 0)) (mCons (mC (.int 1)) (mCons (mC (.int 2)) (mCons (mC (.int 3)) (mCons (mC (.int 7)) (mCons (mBin (fAddA true) (mBin fPow (mC (.int 10)) (mC (.int 29))) (mC (.int 1))) mNil))))))) (mFn (fun ts S => if ts.length = 2 then F__law_draw ts S else .bad) (mCons (mVar 0) (mCons (mC (.int 6)) mNil)))))
    (sRet (mFn (fun ts S => if ts.length = 2 then (F__law_fraction 24) ts S else .bad) (mCons (mVar 1) (mCons (mBin fIx (mLst true (mCons (mC (.int 1)) (mCons (mC (.int 1)) (mCons (mC (.int 2)) (mCons (mC (.int 3)) (mCons (mC (.int 10)) (mCons (mBin (fAddA true) (mBin fPow (mC (.int 10)) (mC (.int 29))) (mC (.int 7))) mNil))))))) (mFn (fun ts S => if ts.length = 2 then F__law_draw ts S else .bad) (mCons (mVar 0) (mCons (mC (.int 6)) mNil)))) mNil)))))
noncomputable def F__law_ratio : List T → Sto → R T := frame 1 true (runF 2 B__law_ratio)
noncomputable def B_law_t14 : Fx.Env → Sto → R Fl :=
    (sSeq (sSet 13 (mFn (fun ts S => if ts.length = 3 then F__law_each ts S else .bad) (mCons (mVar 1) (mCons (mBin fIx (mVar 2) (mC (.int 0))) (mCons (mBin fIx (mVar 2) (mC (.int 1))) mNil)))))
    (sSeq (sFor (mIt (mLst true (mCons (mVar 13) (mCons (mTup (mCons (mC (.str "sum")) (mCons (mBin fIx (mVar 4) (mC (.int 1))) (mCons (mC (.str "=")) mNil)))) mNil)))) (.nm 9)
    (sIf (mOr (mNot (mTru (mFn (fun ts S => if ts.length = 3 then F__law_is_refused ts S else .bad) (mCons (mTup (mCons (mVar 3) (mCons (mVar 9) mNil))) (mCons (mVar 5) (mCons (mVar 6) mNil)))))) (mNot (mTru (mFn (fun ts S => if ts.length = 3 then F__law_is_refused ts S else .bad) (mCons (mTup (mCons (mVar 3) (mCons (mVar 4) mNil))) (mCons (mVar 9) (mCons (mVar 6) mNil)))))))
    (sRet (mC (.bl false)))
    sNext))
    (sRet (mBin fEq (mFn fRepr (mCons (mFn (fun ts S => if ts.length = 3 then noErr (F_raised ts S) else .bad) (mCons (mTup (mCons (mVar 3) (mCons (mVar 4) mNil))) (mCons (mVar 5) (mCons (mVar 6) mNil)))) mNil)) (mFn fRepr (mCons (mVar 7) mNil))))))
noncomputable def B_law_t10 : Fx.Env → Sto → R Fl :=
    (sSeq (sSet 10 (mFn (fun ts S => if ts.length = 4 then F__law_ledger ts S else .bad) (mCons (mVar 1) (mCons (mVar 2) (mCons (mBin (fAddA true) (mC (.int 2)) (mFn (fun ts S => if ts.length = 2 then F__law_draw ts S else .bad) (mCons (mVar 1) (mCons (mC (.int 6)) mNil)))) (mCons (mC (.int 9)) mNil))))))
    (sSeq (sSet 11 (mFn (fun ts S => if ts.length = 2 then F__law_books ts S else .bad) (mCons (mVar 2) (mCons (mVar 10) mNil))))
    (sSeq (sSet 12 (mLc true [9] (mIt (mLst true (mCons (mBin fIx (mVar 7) (mC (.int 1))) (mCons (mVar 4) (mCons (mVar 5) mNil))))) (.nm 9) mTrue (mFn (fun ts S => if ts.length = 4 then F__law_worth ts S else .bad) (mCons (mVar 2) (mCons (mVar 10) (mCons (mVar 11) (mCons (mVar 9) mNil)))))))
    (sSeq (sIf (mTst (mBin fNe (mBin fIx (mVar 12) (mC (.int 0))) (mBin (fAddA true) (mBin fMulW (mBin fIx (mVar 6) (mC (.int 1))) (mBin fIx (mVar 12) (mC (.int 1)))) (mBin fMulW (mBin fIx (mVar 6) (mC (.int 0))) (mBin fIx (mVar 12) (mC (.int 2)))))))
    (sRet (mC (.bl false)))
    sNext)
    B_law_t14))))
noncomputable def B_law_t9 : Fx.Env → Sto → R Fl :=
    (sSeq (sIf (mTst (mBin fNe (mFn (fun ts S => if ts.length = 1 then F_show_claim ts S else .bad) (mCons (mVar 7) mNil)) (mFn (fun ts S => if ts.length = 1 then F__law_claim_text ts S else .bad) (mCons (mVar 7) mNil))))
    (sRet (mC (.bl false)))
    sNext)
    B_law_t10)
noncomputable def B_law_t7 : Fx.Env → Sto → R Fl :=
    (sSeq (sSet 8 (mLst true (mCons (mTup (mCons (mVar 4) (mCons (mVar 5) (mCons (mVar 6) mNil)))) (mCons (mTup (mCons (mVar 4) (mCons (mVar 5) (mCons (mFn (fun ts S => if ts.length = 1 then F__law_ratio ts S else .bad) (mCons (mVar 1) mNil)) mNil)))) (mCons (mTup (mCons (mVar 4) (mCons (mVar 4) (mCons (mVar 6) mNil)))) (mCons (mTup (mCons (mVar 5) (mCons (mVar 5) (mCons (mVar 6) mNil)))) mNil))))))
    (sSeq (sFor (mIt (mBin (fAddA true) (mVar 8) (mSl (fSlA true) (mVar 8) mO0 (mO1 (mC (.int 1)))))) (.nm 9)
    (sIf (mNot (mTru (mFn (fun ts S => if ts.length = 2 then (F__law_same 24) ts S else .bad) (mCons (mFn (fun ts S => if ts.length = 3 then noErr (F_raised ts S) else .bad) (mCons (mTup (mCons (mVar 3) (mCons (mBin fIx (mVar 9) (mC (.int 0))) mNil))) (mCons (mBin fIx (mVar 9) (mC (.int 1))) (mCons (mBin fIx (mVar 9) (mC (.int 2))) mNil)))) (mCons (mFn (fun ts S => if ts.length = 4 then F__law_due_claim ts S else .bad) (mCons (mVar 3) (mCons (mBin fIx (mVar 9) (mC (.int 0))) (mCons (mBin fIx (mVar 9) (mC (.int 1))) (mCons (mBin fIx (mVar 9) (mC (.int 2))) mNil))))) mNil)))))
    (sRet (mC (.bl false)))
    sNext))
    B_law_t9))
noncomputable def B_law_t6 : Fx.Env → Sto → R Fl :=
    (sSeq (sSet 7 (mFn (fun ts S => if ts.length = 3 then noErr (F_raised ts S) else .bad) (mCons (mTup (mCons (mVar 3) (mCons (mVar 4) mNil))) (mCons (mVar 5) (mCons (mVar 6) mNil)))))
    B_law_t7)
noncomputable def B_law : Fx.Env → Sto → R Fl :=
    (sSeq (sSet 1 (mFn (fun ts S => if ts.length = 1 then F__law_tape ts S else .bad) (mCons (mVar 0) mNil)))
    (sSeq (sSet 2 (mFn (fun ts S => if ts.length = 1 then F__law_world ts S else .bad) (mCons (mVar 1) mNil)))
    (sSeq (sSet 3 (mFn (fun ts S => if ts.length = 4 then F__law_premises ts S else .bad) (mCons (mVar 1) (mCons (mBin fIx (mVar 2) (mC (.int 0))) (mCons (mBin fIx (mVar 2) (mC (.int 1))) (mCons (mC (.int 2)) mNil))))))
    (sSeq (sSet 4 (mFn (fun ts S => if ts.length = 1 then F__law_loose ts S else .bad) (mCons (mFn (fun ts S => if ts.length = 3 then F__law_sum ts S else .bad) (mCons (mVar 1) (mCons (mBin fIx (mVar 2) (mC (.int 0))) (mCons (mBin fIx (mVar 2) (mC (.int 1))) mNil)))) mNil)))
    (sSeq (sSet 5 (mFn (fun ts S => if ts.length = 1 then F__law_loose ts S else .bad) (mCons (mFn (fun ts S => if ts.length = 3 then F__law_sum ts S else .bad) (mCons (mVar 1) (mCons (mBin fIx (mVar 2) (mC (.int 0))) (mCons (mBin fIx (mVar 2) (mC (.int 1))) mNil)))) mNil)))
    (sSeq (sSet 6 (mFn (fun ts S => if ts.length = 1 then F__law_ratio ts S else .bad) (mCons (mVar 1) mNil)))
    B_law_t6))))))
noncomputable def F_law : List T → Sto → R T := frame 0 true (runF 14 B_law)
set_option maxHeartbeats 0 in
set_option genInjectivity false in
set_option genSizeOf false in
structure Facts (K : PySem.W.Frag) (mg : Str → Option Value) where
  a__check_sums : Addr
  d__check_sums : FuncData
  F__check_sums : L2.Fun K "_check_sums" "_check_sums" st__check_sums a__check_sums d__check_sums
  g__check_sums : mg "_check_sums" = some (.ref a__check_sums)
  b__check_sums : Binds K d__check_sums ["claim", "constraint"] []
  a__times : Addr
  d__times : FuncData
  F__times : L2.Fun K "_times" "_times" st__times a__times d__times
  g__times : mg "_times" = some (.ref a__times)
  b__times : Binds K d__times ["constraint", "factor"] []
  a_raised : Addr
  d_raised : FuncData
  F_raised : L2.Fun K "raised" "raised" st_raised a_raised d_raised
  g_raised : mg "raised" = some (.ref a_raised)
  b_raised : Binds K d_raised ["claim", "constraint", "fraction"] []
  a__enclosed : Addr
  d__enclosed : FuncData
  F__enclosed : L2.Fun K "_enclosed" "_enclosed" st__enclosed a__enclosed d__enclosed
  g__enclosed : mg "_enclosed" = some (.ref a__enclosed)
  b__enclosed : Binds K d__enclosed ["sector", "words"] []
  a_show_sector : Addr
  d_show_sector : FuncData
  F_show_sector : L2.Fun K "show_sector" "show_sector" st_show_sector a_show_sector d_show_sector
  g_show_sector : mg "show_sector" = some (.ref a_show_sector)
  b_show_sector : Binds K d_show_sector ["sector"] []
  a__counted : Addr
  d__counted : FuncData
  F__counted : L2.Fun K "_counted" "_counted" st__counted a__counted d__counted
  g__counted : mg "_counted" = some (.ref a__counted)
  b__counted : Binds K d__counted ["number", "account"] []
  a__term : Addr
  d__term : FuncData
  F__term : L2.Fun K "_term" "_term" st__term a__term d__term
  g__term : mg "_term" = some (.ref a__term)
  b__term : Binds K d__term ["term"] []
  a__joined : Addr
  d__joined : FuncData
  F__joined : L2.Fun K "_joined" "_joined" st__joined a__joined d__joined
  g__joined : mg "_joined" = some (.ref a__joined)
  b__joined : Binds K d__joined ["terms"] []
  a_show_constraint : Addr
  d_show_constraint : FuncData
  F_show_constraint : L2.Fun K "show_constraint" "show_constraint" st_show_constraint a_show_constraint d_show_constraint
  g_show_constraint : mg "show_constraint" = some (.ref a_show_constraint)
  b_show_constraint : Binds K d_show_constraint ["constraint"] []
  a_show_claim : Addr
  d_show_claim : FuncData
  F_show_claim : L2.Fun K "show_claim" "show_claim" st_show_claim a_show_claim d_show_claim
  g_show_claim : mg "show_claim" = some (.ref a_show_claim)
  b_show_claim : Binds K d_show_claim ["claim"] []
  a__law_tape : Addr
  d__law_tape : FuncData
  F__law_tape : L2.Fun K "_law_tape" "_law_tape" st__law_tape a__law_tape d__law_tape
  g__law_tape : mg "_law_tape" = some (.ref a__law_tape)
  b__law_tape : Binds K d__law_tape ["script"] []
  a__law_draw : Addr
  d__law_draw : FuncData
  F__law_draw : L2.Fun K "_law_draw" "_law_draw" st__law_draw a__law_draw d__law_draw
  g__law_draw : mg "_law_draw" = some (.ref a__law_draw)
  b__law_draw : Binds K d__law_draw ["tape", "many"] []
  a__law_number : Addr
  d__law_number : FuncData
  F__law_number : L2.Fun K "_law_number" "_law_number" st__law_number a__law_number d__law_number
  g__law_number : mg "_law_number" = some (.ref a__law_number)
  b__law_number : Binds K d__law_number ["tape"] []
  a__law_area : Addr
  d__law_area : FuncData
  F__law_area : L2.Fun K "_law_area" "_law_area" st__law_area a__law_area d__law_area
  g__law_area : mg "_law_area" = some (.ref a__law_area)
  b__law_area : Binds K d__law_area ["tape", "names", "depth"] []
  a__law_relation : Addr
  d__law_relation : FuncData
  F__law_relation : L2.Fun K "_law_relation" "_law_relation" st__law_relation a__law_relation d__law_relation
  g__law_relation : mg "_law_relation" = some (.ref a__law_relation)
  b__law_relation : Binds K d__law_relation ["tape"] []
  a__law_sum : Addr
  d__law_sum : FuncData
  F__law_sum : L2.Fun K "_law_sum" "_law_sum" st__law_sum a__law_sum d__law_sum
  g__law_sum : mg "_law_sum" = some (.ref a__law_sum)
  b__law_sum : Binds K d__law_sum ["tape", "names", "accounts"] []
  a__law_each : Addr
  d__law_each : FuncData
  F__law_each : L2.Fun K "_law_each" "_law_each" st__law_each a__law_each d__law_each
  g__law_each : mg "_law_each" = some (.ref a__law_each)
  b__law_each : Binds K d__law_each ["tape", "names", "accounts"] []
  a__law_constraint : Addr
  d__law_constraint : FuncData
  F__law_constraint : L2.Fun K "_law_constraint" "_law_constraint" st__law_constraint a__law_constraint d__law_constraint
  g__law_constraint : mg "_law_constraint" = some (.ref a__law_constraint)
  b__law_constraint : Binds K d__law_constraint ["tape", "names", "accounts"] []
  a__law_premises : Addr
  d__law_premises : FuncData
  F__law_premises : L2.Fun K "_law_premises" "_law_premises" st__law_premises a__law_premises d__law_premises
  g__law_premises : mg "_law_premises" = some (.ref a__law_premises)
  b__law_premises : Binds K d__law_premises ["tape", "names", "accounts", "most"] []
  a__law_entry : Addr
  d__law_entry : FuncData
  F__law_entry : L2.Fun K "_law_entry" "_law_entry" st__law_entry a__law_entry d__law_entry
  g__law_entry : mg "_law_entry" = some (.ref a__law_entry)
  b__law_entry : Binds K d__law_entry ["entries", "account"] []
  a__law_books : Addr
  d__law_books : FuncData
  F__law_books : L2.Fun K "_law_books" "_law_books" st__law_books a__law_books d__law_books
  g__law_books : mg "_law_books" = some (.ref a__law_books)
  b__law_books : Binds K d__law_books ["model", "ledger"] []
  a__law_within : Addr
  d__law_within : FuncData
  F__law_within : L2.Fun K "_law_within" "_law_within" st__law_within a__law_within d__law_within
  g__law_within : mg "_law_within" = some (.ref a__law_within)
  b__law_within : Binds K d__law_within ["model", "area", "profile"] []
  a__law_profile : Addr
  d__law_profile : FuncData
  F__law_profile : L2.Fun K "_law_profile" "_law_profile" st__law_profile a__law_profile d__law_profile
  g__law_profile : mg "_law_profile" = some (.ref a__law_profile)
  b__law_profile : Binds K d__law_profile ["model", "names"] []
  a__law_members : Addr
  d__law_members : FuncData
  F__law_members : L2.Fun K "_law_members" "_law_members" st__law_members a__law_members d__law_members
  g__law_members : mg "_law_members" = some (.ref a__law_members)
  b__law_members : Binds K d__law_members ["model", "ledger", "area"] []
  a__law_worth : Addr
  d__law_worth : FuncData
  F__law_worth : L2.Fun K "_law_worth" "_law_worth" st__law_worth a__law_worth d__law_worth
  g__law_worth : mg "_law_worth" = some (.ref a__law_worth)
  b__law_worth : Binds K d__law_worth ["model", "ledger", "books", "constraint"] []
  a__law_size : Addr
  d__law_size : FuncData
  F__law_size : L2.Fun K "_law_size" "_law_size" st__law_size a__law_size d__law_size
  g__law_size : mg "_law_size" = some (.ref a__law_size)
  b__law_size : Binds K d__law_size ["model"] []
  a__law_amount : Addr
  d__law_amount : FuncData
  F__law_amount : L2.Fun K "_law_amount" "_law_amount" st__law_amount a__law_amount d__law_amount
  g__law_amount : mg "_law_amount" = some (.ref a__law_amount)
  b__law_amount : Binds K d__law_amount ["tape"] []
  a__law_drawn_deals : Addr
  d__law_drawn_deals : FuncData
  F__law_drawn_deals : L2.Fun K "_law_drawn_deals" "_law_drawn_deals" st__law_drawn_deals a__law_drawn_deals d__law_drawn_deals
  g__law_drawn_deals : mg "_law_drawn_deals" = some (.ref a__law_drawn_deals)
  b__law_drawn_deals : Binds K d__law_drawn_deals ["tape", "model", "crowd", "deals"] []
  a__law_listed : Addr
  d__law_listed : FuncData
  F__law_listed : L2.Fun K "_law_listed" "_law_listed" st__law_listed a__law_listed d__law_listed
  g__law_listed : mg "_law_listed" = some (.ref a__law_listed)
  b__law_listed : Binds K d__law_listed ["model", "profile"] []
  a__law_ledger : Addr
  d__law_ledger : FuncData
  F__law_ledger : L2.Fun K "_law_ledger" "_law_ledger" st__law_ledger a__law_ledger d__law_ledger
  g__law_ledger : mg "_law_ledger" = some (.ref a__law_ledger)
  b__law_ledger : Binds K d__law_ledger ["tape", "model", "people", "deals"] []
  a__law_same : Addr
  d__law_same : FuncData
  F__law_same : L2.Fun K "_law_same" "_law_same" st__law_same a__law_same d__law_same
  g__law_same : mg "_law_same" = some (.ref a__law_same)
  b__law_same : Binds K d__law_same ["told", "due"] []
  a__law_names : Addr
  d__law_names : FuncData
  F__law_names : L2.Fun K "_law_names" "_law_names" st__law_names a__law_names d__law_names
  g__law_names : mg "_law_names" = some (.ref a__law_names)
  b__law_names : Binds K d__law_names ["tape", "many"] []
  a__law_entries : Addr
  d__law_entries : FuncData
  F__law_entries : L2.Fun K "_law_entries" "_law_entries" st__law_entries a__law_entries d__law_entries
  g__law_entries : mg "_law_entries" = some (.ref a__law_entries)
  b__law_entries : Binds K d__law_entries ["tape", "accounts"] []
  a__law_kind : Addr
  d__law_kind : FuncData
  F__law_kind : L2.Fun K "_law_kind" "_law_kind" st__law_kind a__law_kind d__law_kind
  g__law_kind : mg "_law_kind" = some (.ref a__law_kind)
  b__law_kind : Binds K d__law_kind ["tape", "name", "names", "accounts"] []
  a__law_exactly : Addr
  d__law_exactly : FuncData
  F__law_exactly : L2.Fun K "_law_exactly" "_law_exactly" st__law_exactly a__law_exactly d__law_exactly
  g__law_exactly : mg "_law_exactly" = some (.ref a__law_exactly)
  b__law_exactly : Binds K d__law_exactly ["model", "profile"] []
  a__law_narrow : Addr
  d__law_narrow : FuncData
  F__law_narrow : L2.Fun K "_law_narrow" "_law_narrow" st__law_narrow a__law_narrow d__law_narrow
  g__law_narrow : mg "_law_narrow" = some (.ref a__law_narrow)
  b__law_narrow : Binds K d__law_narrow ["tape", "names", "area"] []
  a__law_short : Addr
  d__law_short : FuncData
  F__law_short : L2.Fun K "_law_short" "_law_short" st__law_short a__law_short d__law_short
  g__law_short : mg "_law_short" = some (.ref a__law_short)
  b__law_short : Binds K d__law_short ["tape", "names", "accounts"] []
  a__law_scene : Addr
  d__law_scene : FuncData
  F__law_scene : L2.Fun K "_law_scene" "_law_scene" st__law_scene a__law_scene d__law_scene
  g__law_scene : mg "_law_scene" = some (.ref a__law_scene)
  b__law_scene : Binds K d__law_scene ["tape", "full"] []
  a__law_world : Addr
  d__law_world : FuncData
  F__law_world : L2.Fun K "_law_world" "_law_world" st__law_world a__law_world d__law_world
  g__law_world : mg "_law_world" = some (.ref a__law_world)
  b__law_world : Binds K d__law_world ["tape"] []
  a__law_loose : Addr
  d__law_loose : FuncData
  F__law_loose : L2.Fun K "_law_loose" "_law_loose" st__law_loose a__law_loose d__law_loose
  g__law_loose : mg "_law_loose" = some (.ref a__law_loose)
  b__law_loose : Binds K d__law_loose ["constraint"] []
  a__law_sector_text : Addr
  d__law_sector_text : FuncData
  F__law_sector_text : L2.Fun K "_law_sector_text" "_law_sector_text" st__law_sector_text a__law_sector_text d__law_sector_text
  g__law_sector_text : mg "_law_sector_text" = some (.ref a__law_sector_text)
  b__law_sector_text : Binds K d__law_sector_text ["sector", "level"] []
  a__law_times : Addr
  d__law_times : FuncData
  F__law_times : L2.Fun K "_law_times" "_law_times" st__law_times a__law_times d__law_times
  g__law_times : mg "_law_times" = some (.ref a__law_times)
  b__law_times : Binds K d__law_times ["number", "name"] []
  a__law_constraint_text : Addr
  d__law_constraint_text : FuncData
  F__law_constraint_text : L2.Fun K "_law_constraint_text" "_law_constraint_text" st__law_constraint_text a__law_constraint_text d__law_constraint_text
  g__law_constraint_text : mg "_law_constraint_text" = some (.ref a__law_constraint_text)
  b__law_constraint_text : Binds K d__law_constraint_text ["constraint"] []
  a__law_claim_text : Addr
  d__law_claim_text : FuncData
  F__law_claim_text : L2.Fun K "_law_claim_text" "_law_claim_text" st__law_claim_text a__law_claim_text d__law_claim_text
  g__law_claim_text : mg "_law_claim_text" = some (.ref a__law_claim_text)
  b__law_claim_text : Binds K d__law_claim_text ["claim"] []
  a__law_is_plain : Addr
  d__law_is_plain : FuncData
  F__law_is_plain : L2.Fun K "_law_is_plain" "_law_is_plain" st__law_is_plain a__law_is_plain d__law_is_plain
  g__law_is_plain : mg "_law_is_plain" = some (.ref a__law_is_plain)
  b__law_is_plain : Binds K d__law_is_plain ["e"] []
  a__law_is_refused : Addr
  d__law_is_refused : FuncData
  F__law_is_refused : L2.Fun K "_law_is_refused" "_law_is_refused" st__law_is_refused a__law_is_refused d__law_is_refused
  g__law_is_refused : mg "_law_is_refused" = some (.ref a__law_is_refused)
  b__law_is_refused : Binds K d__law_is_refused ["claim", "constraint", "fraction"] []
  a__law_due_claim : Addr
  d__law_due_claim : FuncData
  F__law_due_claim : L2.Fun K "_law_due_claim" "_law_due_claim" st__law_due_claim a__law_due_claim d__law_due_claim
  g__law_due_claim : mg "_law_due_claim" = some (.ref a__law_due_claim)
  b__law_due_claim : Binds K d__law_due_claim ["rows", "total", "more", "fraction"] []
  a__law_gcd : Addr
  d__law_gcd : FuncData
  F__law_gcd : L2.Fun K "_law_gcd" "_law_gcd" st__law_gcd a__law_gcd d__law_gcd
  g__law_gcd : mg "_law_gcd" = some (.ref a__law_gcd)
  b__law_gcd : Binds K d__law_gcd ["one", "two"] []
  a__law_fraction : Addr
  d__law_fraction : FuncData
  F__law_fraction : L2.Fun K "_law_fraction" "_law_fraction" st__law_fraction a__law_fraction d__law_fraction
  g__law_fraction : mg "_law_fraction" = some (.ref a__law_fraction)
  b__law_fraction : Binds K d__law_fraction ["above", "below"] []
  a__law_ratio : Addr
  d__law_ratio : FuncData
  F__law_ratio : L2.Fun K "_law_ratio" "_law_ratio" st__law_ratio a__law_ratio d__law_ratio
  g__law_ratio : mg "_law_ratio" = some (.ref a__law_ratio)
  b__law_ratio : Binds K d__law_ratio ["tape"] []
  a_law : Addr
  d_law : FuncData
  F_law : L2.Fun K "law" "law" st_law a_law d_law
  g_law : mg "law" = some (.ref a_law)
  b_law : Binds K d_law ["script"] []
  a_BadParticipant : Addr
  g_BadParticipant : mg "BadParticipant" = some (.ref a_BadParticipant)
  a_BadTransaction : Addr
  g_BadTransaction : mg "BadTransaction" = some (.ref a_BadTransaction)
  a_BadValue : Addr
  g_BadValue : mg "BadValue" = some (.ref a_BadValue)
  a_DoesNotHold : Addr
  g_DoesNotHold : mg "DoesNotHold" = some (.ref a_DoesNotHold)
  a_Mistakes : Addr
  g_Mistakes : mg "Mistakes" = some (.ref a_Mistakes)
  a_NeedsJournal : Addr
  g_NeedsJournal : mg "NeedsJournal" = some (.ref a_NeedsJournal)
  a_NeedsModel : Addr
  g_NeedsModel : mg "NeedsModel" = some (.ref a_NeedsModel)
  a_NotASum : Addr
  g_NotASum : mg "NotASum" = some (.ref a_NotASum)
  a_NotRefuted : Addr
  g_NotRefuted : mg "NotRefuted" = some (.ref a_NotRefuted)
  a_NothingToRedo : Addr
  g_NothingToRedo : mg "NothingToRedo" = some (.ref a_NothingToRedo)
  a_NothingToUndo : Addr
  g_NothingToUndo : mg "NothingToUndo" = some (.ref a_NothingToUndo)
  a_ProofError : Addr
  g_ProofError : mg "ProofError" = some (.ref a_ProofError)
  a_ReadError : Addr
  g_ReadError : mg "ReadError" = some (.ref a_ReadError)
  a_TooMany : Addr
  g_TooMany : mg "TooMany" = some (.ref a_TooMany)
  a_UnknownClaim : Addr
  g_UnknownClaim : mg "UnknownClaim" = some (.ref a_UnknownClaim)
  M_NotASum : MkC0 K mg "NotASum" a_NotASum
  x_NotASum : excB K a_NotASum = true
  kit_NotASum_BadParticipant : PySem.W.kitOne K (.ref a_NotASum) (.ref a_BadParticipant) = some false
  kit_NotASum_BadTransaction : PySem.W.kitOne K (.ref a_NotASum) (.ref a_BadTransaction) = some false
  kit_NotASum_BadValue : PySem.W.kitOne K (.ref a_NotASum) (.ref a_BadValue) = some false
  kit_NotASum_DoesNotHold : PySem.W.kitOne K (.ref a_NotASum) (.ref a_DoesNotHold) = some false
  kit_NotASum_Mistakes : PySem.W.kitOne K (.ref a_NotASum) (.ref a_Mistakes) = some false
  kit_NotASum_NeedsJournal : PySem.W.kitOne K (.ref a_NotASum) (.ref a_NeedsJournal) = some false
  kit_NotASum_NeedsModel : PySem.W.kitOne K (.ref a_NotASum) (.ref a_NeedsModel) = some false
  kit_NotASum_NotASum : PySem.W.kitOne K (.ref a_NotASum) (.ref a_NotASum) = some true
  kit_NotASum_NotRefuted : PySem.W.kitOne K (.ref a_NotASum) (.ref a_NotRefuted) = some false
  kit_NotASum_NothingToRedo : PySem.W.kitOne K (.ref a_NotASum) (.ref a_NothingToRedo) = some false
  kit_NotASum_NothingToUndo : PySem.W.kitOne K (.ref a_NotASum) (.ref a_NothingToUndo) = some false
  kit_NotASum_ProofError : PySem.W.kitOne K (.ref a_NotASum) (.ref a_ProofError) = some true
  kit_NotASum_ReadError : PySem.W.kitOne K (.ref a_NotASum) (.ref a_ReadError) = some false
  kit_NotASum_TooMany : PySem.W.kitOne K (.ref a_NotASum) (.ref a_TooMany) = some false
  kit_NotASum_UnknownClaim : PySem.W.kitOne K (.ref a_NotASum) (.ref a_UnknownClaim) = some false
  kit_NotASum_ValueError : PySem.W.kitOne K (.ref a_NotASum) (.type "ValueError") = some true
  exm_NotASum_NotASum : PySem.W.exmOne K (.ref a_NotASum) (.ref a_NotASum) = some true
  m_ValueError : mg "ValueError" = none
  m_abs : mg "abs" = none
  m_bool : mg "bool" = none
  m_int : mg "int" = none
  m_isinstance : mg "isinstance" = none
  m_len : mg "len" = none
  m_list : mg "list" = none
  m_max : mg "max" = none
  m_min : mg "min" = none
  m_range : mg "range" = none
  m_repr : mg "repr" = none
  m_str : mg "str" = none
  m_sum : mg "sum" = none
  m_tuple : mg "tuple" = none
section
variable {P : Program} {w : World} {K : PySem.W.Frag} {mg : Str → Option Value} {base : Heap}
theorem kt_BadParticipant (T : Facts K mg) : ∀ (c : Str) (b : Bool), tab_BadParticipant c = some b → KitT K c (.ref T.a_BadParticipant) b := by
  intro c b h
  unfold tab_BadParticipant at h
  split at h
  · rename_i e; subst e; cases h; exact kitT_ref T.M_NotASum.ga T.x_NotASum T.kit_NotASum_BadParticipant
  cases h
theorem kt_BadTransaction (T : Facts K mg) : ∀ (c : Str) (b : Bool), tab_BadTransaction c = some b → KitT K c (.ref T.a_BadTransaction) b := by
  intro c b h
  unfold tab_BadTransaction at h
  split at h
  · rename_i e; subst e; cases h; exact kitT_ref T.M_NotASum.ga T.x_NotASum T.kit_NotASum_BadTransaction
  cases h
theorem kt_BadValue (T : Facts K mg) : ∀ (c : Str) (b : Bool), tab_BadValue c = some b → KitT K c (.ref T.a_BadValue) b := by
  intro c b h
  unfold tab_BadValue at h
  split at h
  · rename_i e; subst e; cases h; exact kitT_ref T.M_NotASum.ga T.x_NotASum T.kit_NotASum_BadValue
  cases h
theorem kt_DoesNotHold (T : Facts K mg) : ∀ (c : Str) (b : Bool), tab_DoesNotHold c = some b → KitT K c (.ref T.a_DoesNotHold) b := by
  intro c b h
  unfold tab_DoesNotHold at h
  split at h
  · rename_i e; subst e; cases h; exact kitT_ref T.M_NotASum.ga T.x_NotASum T.kit_NotASum_DoesNotHold
  cases h
theorem kt_Mistakes (T : Facts K mg) : ∀ (c : Str) (b : Bool), tab_Mistakes c = some b → KitT K c (.ref T.a_Mistakes) b := by
  intro c b h
  unfold tab_Mistakes at h
  split at h
  · rename_i e; subst e; cases h; exact kitT_ref T.M_NotASum.ga T.x_NotASum T.kit_NotASum_Mistakes
  cases h
theorem kt_NeedsJournal (T : Facts K mg) : ∀ (c : Str) (b : Bool), tab_NeedsJournal c = some b → KitT K c (.ref T.a_NeedsJournal) b := by
  intro c b h
  unfold tab_NeedsJournal at h
  split at h
  · rename_i e; subst e; cases h; exact kitT_ref T.M_NotASum.ga T.x_NotASum T.kit_NotASum_NeedsJournal
  cases h
theorem kt_NeedsModel (T : Facts K mg) : ∀ (c : Str) (b : Bool), tab_NeedsModel c = some b → KitT K c (.ref T.a_NeedsModel) b := by
  intro c b h
  unfold tab_NeedsModel at h
  split at h
  · rename_i e; subst e; cases h; exact kitT_ref T.M_NotASum.ga T.x_NotASum T.kit_NotASum_NeedsModel
  cases h
theorem kt_NotASum (T : Facts K mg) : ∀ (c : Str) (b : Bool), tab_NotASum c = some b → KitT K c (.ref T.a_NotASum) b := by
  intro c b h
  unfold tab_NotASum at h
  split at h
  · rename_i e; subst e; cases h; exact kitT_ref T.M_NotASum.ga T.x_NotASum T.kit_NotASum_NotASum
  cases h
theorem kt_NotRefuted (T : Facts K mg) : ∀ (c : Str) (b : Bool), tab_NotRefuted c = some b → KitT K c (.ref T.a_NotRefuted) b := by
  intro c b h
  unfold tab_NotRefuted at h
  split at h
  · rename_i e; subst e; cases h; exact kitT_ref T.M_NotASum.ga T.x_NotASum T.kit_NotASum_NotRefuted
  cases h
theorem kt_NothingToRedo (T : Facts K mg) : ∀ (c : Str) (b : Bool), tab_NothingToRedo c = some b → KitT K c (.ref T.a_NothingToRedo) b := by
  intro c b h
  unfold tab_NothingToRedo at h
  split at h
  · rename_i e; subst e; cases h; exact kitT_ref T.M_NotASum.ga T.x_NotASum T.kit_NotASum_NothingToRedo
  cases h
theorem kt_NothingToUndo (T : Facts K mg) : ∀ (c : Str) (b : Bool), tab_NothingToUndo c = some b → KitT K c (.ref T.a_NothingToUndo) b := by
  intro c b h
  unfold tab_NothingToUndo at h
  split at h
  · rename_i e; subst e; cases h; exact kitT_ref T.M_NotASum.ga T.x_NotASum T.kit_NotASum_NothingToUndo
  cases h
theorem kt_ProofError (T : Facts K mg) : ∀ (c : Str) (b : Bool), tab_ProofError c = some b → KitT K c (.ref T.a_ProofError) b := by
  intro c b h
  unfold tab_ProofError at h
  split at h
  · rename_i e; subst e; cases h; exact kitT_ref T.M_NotASum.ga T.x_NotASum T.kit_NotASum_ProofError
  cases h
theorem kt_ReadError (T : Facts K mg) : ∀ (c : Str) (b : Bool), tab_ReadError c = some b → KitT K c (.ref T.a_ReadError) b := by
  intro c b h
  unfold tab_ReadError at h
  split at h
  · rename_i e; subst e; cases h; exact kitT_ref T.M_NotASum.ga T.x_NotASum T.kit_NotASum_ReadError
  cases h
theorem kt_TooMany (T : Facts K mg) : ∀ (c : Str) (b : Bool), tab_TooMany c = some b → KitT K c (.ref T.a_TooMany) b := by
  intro c b h
  unfold tab_TooMany at h
  split at h
  · rename_i e; subst e; cases h; exact kitT_ref T.M_NotASum.ga T.x_NotASum T.kit_NotASum_TooMany
  cases h
theorem kt_UnknownClaim (T : Facts K mg) : ∀ (c : Str) (b : Bool), tab_UnknownClaim c = some b → KitT K c (.ref T.a_UnknownClaim) b := by
  intro c b h
  unfold tab_UnknownClaim at h
  split at h
  · rename_i e; subst e; cases h; exact kitT_ref T.M_NotASum.ga T.x_NotASum T.kit_NotASum_UnknownClaim
  cases h
theorem kt_ValueError (T : Facts K mg) : ∀ (c : Str) (b : Bool), tab_ValueError c = some b → KitT K c (.ty "ValueError") b := by
  intro c b h
  unfold tab_ValueError at h
  split at h
  · rename_i e; subst e; cases h; exact kitT_ty T.M_NotASum.ga T.x_NotASum T.kit_NotASum_ValueError
  cases h
theorem et_NotASum (T : Facts K mg) : ∀ (c : Str) (b : Bool), exm_NotASum c = some b → ExmT K c (.ref T.a_NotASum) b := by
  intro c b h
  unfold exm_NotASum at h
  split at h
  · rename_i e; subst e; cases h; exact exmT_of T.M_NotASum.ga T.exm_NotASum_NotASum
  cases h
theorem ok__check_sums (T : Facts K mg) : FnOk P w K mg base (L2.CX P w) 3 T.a__check_sums T.d__check_sums ["claim", "constraint"] (spM K 2 F__check_sums) :=
  FnOk.framedX (fn_okX T.F__check_sums sc__check_sums fun cdv A outer s H E hr tk ps => (s_one (s_for ps rfl (i_seq (x_tup (a_cons (x_ix o_ix f_ix (xv 0) x_int) (a_cons (xv 1) a_nil)))) (g_name (i := 2) sc__check_sums.nd rfl (by first | exact .inl rfl | exact .inr rfl))
    (s_one (s_if (PW.pt (t_or (t_cmp (o_ne hr.units) f_ne (x_ix o_ix f_ix (xv 2) x_int) x_str) (t_or1 (t_cmp (o_ne hr.units) f_ne (x_ix o_ix f_ix (xv 2) (x_un un_neg f_neg x_int)) x_str))))
    (s_one (s_raise0 T.M_NotASum rfl tk (by rfl)))
    s_nil))))) 0 true
theorem ok__times (T : Facts K mg) : FnOk P w K mg base CX0 1 T.a__times T.d__times ["constraint", "factor"] (spM K 2 F__times) :=
  FnOk.framed (fn_ok T.F__times sc__times fun cdv A outer s H E hr => (s_one (s_ret (x_callT o_tuple f_tuple (by rfl) T.m_tuple bt_tuple (a_cons (x_lc true (own := [("number", 2), ("account", 3), ("sector", 4)]) (p := (.tp [(.nm 2), (.nm 3), (.nm 4)])) rfl sc__times.nd (i_seq (x_ix o_ix f_ix (xv 0) x_int)) (blkOk_by (N := N__times) (sc := defScope st__times) (by decide +kernel)) (by decide) (fun _ _ _ _ _ => (g_tup rfl (gs_cons (g_name (i := 2) sc__times.nd rfl (by first | exact .inl rfl | exact .inr rfl)) (gs_cons (g_name (i := 3) sc__times.nd rfl (by first | exact .inl rfl | exact .inr rfl)) (gs_cons (g_name (i := 4) sc__times.nd rfl (by first | exact .inl rfl | exact .inr rfl)) gs_nil))))) (fun _ _ _ _ _ => ts_nil) (fun _ _ _ _ _ => (x_tup (a_cons (x_bin op_mul f_mul (xv 1) (xv 2)) (a_cons (xv 3) (a_cons (xv 4) a_nil)))))) a_nil))))) 0 true
theorem ok_raised (T : Facts K mg) : FnOk P w K mg base (L2.CX P w) 4 T.a_raised T.d_raised ["claim", "constraint", "fraction"] (spM K 3 F_raised) :=
  FnOk.framedX (fn_okX T.F_raised sc_raised fun cdv A outer s H E hr tk ps => (s_cons (s_expr (x_callX (ok__check_sums T) tk (hr.mono (by decide)) (by rfl) T.g__check_sums T.F__check_sums.kp T.b__check_sums (a_cons (xv 0) (a_cons (xv 1) a_nil))))
    (s_cons (s_asg (xv 2) (g_tup rfl (gs_cons (g_name (i := 3) sc_raised.nd rfl (by first | exact .inl rfl | exact .inr rfl)) (gs_cons (g_name (i := 4) sc_raised.nd rfl (by first | exact .inl rfl | exact .inr rfl)) gs_nil))))
    (s_cons (s_set (i := 5) sc_raised.nd rfl (by first | exact .inl rfl | exact .inr rfl) (x_call (ok__times T) (hr.mono (by decide)) (by rfl) T.g__times T.F__times.kp T.b__times (a_cons (x_ix o_ix f_ix (xv 0) x_int) (a_cons (xv 4) a_nil))))
    (s_cons (s_if (t_cmp (o_ne hr.units) f_ne (xv 3) x_int)
    (s_one (s_set (i := 5) sc_raised.nd rfl (by first | exact .inl rfl | exact .inr rfl) (x_tup (a_star (xv 5) (a_star (x_call (ok__times T) (hr.mono (by decide)) (by rfl) T.g__times T.F__times.kp T.b__times (a_cons (xv 1) (a_cons (xv 3) a_nil))) a_nil)))))
    s_nil)
    (s_one (s_ret (x_tup (a_cons (x_ix o_ix f_ix (xv 0) x_int) (a_cons (x_tup (a_cons x_str (a_cons (xv 5) (a_cons x_str a_nil)))) a_nil)))))))))) 0 true
theorem okh__enclosed (T : Facts K mg) {k : Nat} {d : List Fx.T → Sto → R Fx.T} (ih : FnOk P w K mg base CX0 k T.a_show_sector T.d_show_sector ["sector"] (spM K 1 d)) (hk : 1 ≤ k) : FnOk P w K mg base CX0 (k + 1) T.a__enclosed T.d__enclosed ["sector", "words"] (spM K 2 (F__enclosed d)) :=
  FnOk.framed (fn_ok T.F__enclosed sc__enclosed fun cdv A outer s H E hr => (s_cons (s_if (t_cmp (o_in (hu65 hr)) f_in (x_ix o_ix f_ix (xv 0) x_int) (xv 1))
    (s_one (s_ret (x_bin o_addA (f_addA true) (x_bin o_addA (f_addA true) x_str (x_call ih hr (by rfl) T.g_show_sector T.F_show_sector.kp T.b_show_sector (a_cons (xv 0) a_nil))) x_str)))
    s_nil)
    (s_one (s_ret (x_call ih hr (by rfl) T.g_show_sector T.F_show_sector.kp T.b_show_sector (a_cons (xv 0) a_nil)))))) 0 true
theorem ok_show_sector (T : Facts K mg) : ∀ d : Nat, FnOk P w K mg base CX0 (2 + 2 * d) T.a_show_sector T.d_show_sector ["sector"] (spM K 1 (F_show_sector d))
  | 0 => fn_bad
  | d + 1 => FnOk.framed (fn_ok (k := 2 + 2 * d + 1) T.F_show_sector sc_show_sector fun cdv A outer s H E hr => by
    have ih := ok_show_sector T d
    exact (s_cons (s_set (i := 1) sc_show_sector.nd rfl (by first | exact .inl rfl | exact .inr rfl) (x_ix o_ix f_ix (xv 0) x_int))
    (s_cons (s_if (t_cmp (o_eq hr.units) f_eq (xv 1) x_str)
    (s_one (s_ret (x_ix o_ix f_ix (xv 0) x_int)))
    s_nil)
    (s_cons (s_if (t_cmp (o_eq hr.units) f_eq (xv 1) x_str)
    (s_one (s_ret (x_bin o_addA (f_addA true) x_str (x_call (okh__enclosed T ih (by omega)) (hr.mono (by omega)) (by rfl) T.g__enclosed T.F__enclosed.kp T.b__enclosed (a_cons (x_ix o_ix f_ix (xv 0) x_int) (a_cons (x_tup (a_cons x_str (a_cons x_str (a_cons x_str a_nil)))) a_nil))))))
    s_nil)
    (s_cons (s_if (t_cmp (o_eq hr.units) f_eq (xv 1) x_str)
    (s_one (s_ret (x_bin o_addA (f_addA true) (x_bin o_addA (f_addA true) (x_call (okh__enclosed T ih (by omega)) (hr.mono (by omega)) (by rfl) T.g__enclosed T.F__enclosed.kp T.b__enclosed (a_cons (x_ix o_ix f_ix (xv 0) x_int) (a_cons (x_tup (a_cons x_str a_nil)) a_nil))) x_str) (x_call (okh__enclosed T ih (by omega)) (hr.mono (by omega)) (by rfl) T.g__enclosed T.F__enclosed.kp T.b__enclosed (a_cons (x_ix o_ix f_ix (xv 0) x_int) (a_cons (x_tup (a_cons x_str (a_cons x_str a_nil))) a_nil))))))
    s_nil)
    (s_cons (s_if (t_cmp (o_eq hr.units) f_eq (xv 1) x_str)
    (s_one (s_ret (x_bin o_addA (f_addA true) (x_bin o_addA (f_addA true) (x_call ih (hr.mono (by omega)) (by rfl) T.g_show_sector T.F_show_sector.kp T.b_show_sector (a_cons (x_ix o_ix f_ix (xv 0) x_int) a_nil)) x_str) (x_call (okh__enclosed T ih (by omega)) (hr.mono (by omega)) (by rfl) T.g__enclosed T.F__enclosed.kp T.b__enclosed (a_cons (x_ix o_ix f_ix (xv 0) x_int) (a_cons (x_tup (a_cons x_str a_nil)) a_nil))))))
    s_nil)
    (s_one (s_ret (xv 1))))))))) 0 true
theorem ok__counted (T : Facts K mg) : FnOk P w K mg base CX0 1 T.a__counted T.d__counted ["number", "account"] (spM K 2 F__counted) :=
  FnOk.framed (fn_ok T.F__counted sc__counted fun cdv A outer s H E hr => (s_one (s_ret (x_ite (t_cmp (o_eq hr.units) f_eq (x_callB o_abs f_abs (by rfl) T.m_abs bt_abs (a_cons (xv 0) a_nil)) x_int) (xv 1) (x_js (.cons (x_fmt (x_callB o_abs f_abs (by rfl) T.m_abs bt_abs (a_cons (xv 0) a_nil))) (.cons x_str (.cons (x_fmt (xv 1)) .nil)))))))) 0 true
theorem ok__term (T : Facts K mg) : FnOk P w K mg base CX0 52 T.a__term T.d__term ["term"] (spM K 1 F__term) :=
  FnOk.framed (fn_ok T.F__term sc__term fun cdv A outer s H E hr => (s_cons (s_set (i := 1) sc__term.nd rfl (by first | exact .inl rfl | exact .inr rfl) (x_call (ok__counted T) (hr.mono (by decide)) (by rfl) T.g__counted T.F__counted.kp T.b__counted (a_cons (x_ix o_ix f_ix (xv 0) x_int) (a_cons (x_ix o_ix f_ix (xv 0) x_int) a_nil))))
    (s_cons (s_if (t_cmp (o_eq hr.units) f_eq (x_callB o_len f_len (by rfl) T.m_len bt_len (a_cons (xv 0) a_nil)) x_int)
    (s_one (s_ret (xv 1)))
    s_nil)
    (s_one (s_ret (x_bin o_addA (f_addA true) (x_bin o_addA (f_addA true) (xv 1) x_str) (x_call (okh__enclosed T (ok_show_sector T 24) (by decide)) (hr.mono (by decide)) (by rfl) T.g__enclosed T.F__enclosed.kp T.b__enclosed (a_cons (x_ix o_ix f_ix (xv 0) x_int) (a_cons (x_tup (a_cons x_str (a_cons x_str a_nil))) a_nil))))))))) 0 true
theorem ok__joined (T : Facts K mg) : FnOk P w K mg base CX0 53 T.a__joined T.d__joined ["terms"] (spM K 1 F__joined) :=
  FnOk.framed (fn_ok T.F__joined sc__joined fun cdv A outer s H E hr => (s_cons (s_set (i := 1) sc__joined.nd rfl (by first | exact .inl rfl | exact .inr rfl) (x_ite (t_cmp op_lt f_lt (x_ix o_ix f_ix (x_ix o_ix f_ix (xv 0) x_int) x_int) x_int) x_str x_str))
    (s_cons (s_aug (i := 1) sc__joined.nd rfl (by first | exact .inl rfl | exact .inr rfl) (x_call (ok__term T) (hr.mono (by decide)) (by rfl) T.g__term T.F__term.kp T.b__term (a_cons (x_ix o_ix f_ix (xv 0) x_int) a_nil)) ip_addS f_ipaddS)
    (s_cons (s_for PassesOwn.never rfl (i_seq (x_sl o_slA (f_slA true) (xv 0) (o1 x_int) o0)) (g_name (i := 2) sc__joined.nd rfl (by first | exact .inl rfl | exact .inr rfl))
    (s_one (s_aug (i := 1) sc__joined.nd rfl (by first | exact .inl rfl | exact .inr rfl) (x_bin o_addA (f_addA true) (x_ite (t_cmp op_lt f_lt (x_ix o_ix f_ix (xv 2) x_int) x_int) x_str x_str) (x_call (ok__term T) (hr.mono (by decide)) (by rfl) T.g__term T.F__term.kp T.b__term (a_cons (xv 2) a_nil))) ip_addS f_ipaddS)))
    (s_one (s_ret (xv 1))))))) 0 true
theorem ok_show_constraint (T : Facts K mg) : FnOk P w K mg base CX0 54 T.a_show_constraint T.d_show_constraint ["constraint"] (spM K 1 F_show_constraint) :=
  FnOk.framed (fn_ok T.F_show_constraint sc_show_constraint fun cdv A outer s H E hr => (s_cons (s_asg (x_sl o_slA (f_slA true) (xv 0) (o1 (x_un un_neg f_neg x_int)) o0) (g_tup rfl (gs_cons (g_name (i := 1) sc_show_constraint.nd rfl (by first | exact .inl rfl | exact .inr rfl)) (gs_cons (g_name (i := 2) sc_show_constraint.nd rfl (by first | exact .inl rfl | exact .inr rfl)) gs_nil))))
    (s_cons (s_set (i := 3) sc_show_constraint.nd rfl (by first | exact .inl rfl | exact .inr rfl) (x_ite (t_cmp (o_eq hr.units) f_eq (x_ix o_ix f_ix (xv 0) x_int) x_str) x_str (x_bin o_addA (f_addA true) (x_bin o_addA (f_addA true) x_str (x_call (ok_show_sector T 24) (hr.mono (by decide)) (by rfl) T.g_show_sector T.F_show_sector.kp T.b_show_sector (a_cons (x_ix o_ix f_ix (xv 0) x_int) a_nil))) x_str)))
    (s_one (s_ret (x_bin o_addA (f_addA true) (x_bin o_addA (f_addA true) (x_bin o_addA (f_addA true) (x_bin o_addA (f_addA true) (xv 3) (x_call (ok__joined T) (hr.mono (by decide)) (by rfl) T.g__joined T.F__joined.kp T.b__joined (a_cons (xv 1) a_nil))) x_str) (xv 2)) x_str)))))) 0 true
theorem ok_show_claim (T : Facts K mg) : FnOk P w K mg base CX0 55 T.a_show_claim T.d_show_claim ["claim"] (spM K 1 F_show_claim) :=
  FnOk.framed (fn_ok T.F_show_claim sc_show_claim fun cdv A outer s H E hr => (s_cons (s_asg (xv 0) (g_tup rfl (gs_cons (g_name (i := 1) sc_show_claim.nd rfl (by first | exact .inl rfl | exact .inr rfl)) (gs_cons (g_name (i := 2) sc_show_claim.nd rfl (by first | exact .inl rfl | exact .inr rfl)) gs_nil))))
    (s_cons (s_set (i := 3) sc_show_claim.nd rfl (by first | exact .inl rfl | exact .inr rfl) (x_call (ok_show_constraint T) (hr.mono (by decide)) (by rfl) T.g_show_constraint T.F_show_constraint.kp T.b_show_constraint (a_cons (xv 2) a_nil)))
    (s_cons (s_if (t_cmp (o_eq hr.units) f_eq (xv 1) (x_tup a_nil))
    (s_one (s_ret (xv 3)))
    s_nil)
    (s_one (s_ret (x_bin o_addA (f_addA true) (x_bin o_addA (f_addA true) (x_bin o_addA (f_addA true) x_str (x_meth PySem.F.plainAttrs_str PySem.F.slot_str_join PySem.F.type_str_join mt_join f_join ty_str x_str (a_cons (x_lc true (own := [("premise", 4)]) (p := (.nm 4)) rfl sc_show_claim.nd (i_seq (xv 1)) (blkOk_by (N := N_show_claim) (sc := defScope st_show_claim) (by decide +kernel)) (by decide) (fun _ _ _ _ _ => (g_name (i := 4) sc_show_claim.nd rfl (by first | exact .inl rfl | exact .inr rfl))) (fun _ _ _ _ _ => ts_nil) (fun _ _ _ _ _ => (x_call (ok_show_constraint T) (hr.mono (by decide)) (by rfl) T.g_show_constraint T.F_show_constraint.kp T.b_show_constraint (a_cons (xv 4) a_nil)))) a_nil))) x_str) (xv 3)))))))) 0 true
theorem ok__law_tape (T : Facts K mg) : FnOk P w K mg base CX0 1 T.a__law_tape T.d__law_tape ["script"] (spM K 1 F__law_tape) :=
  (fn_ok T.F__law_tape sc__law_tape fun cdv A outer s H E hr => (s_cons (s_set (i := 1) sc__law_tape.nd rfl (by first | exact .inl rfl | exact .inr rfl) x_int)
    (s_cons (s_for PassesOwn.never rfl (i_seq (xv 0)) (g_name (i := 2) sc__law_tape.nd rfl (by first | exact .inl rfl | exact .inr rfl))
    (s_one (s_set (i := 1) sc__law_tape.nd rfl (by first | exact .inl rfl | exact .inr rfl) (x_bin op_mod f_mod (x_callT o_int f_int (by rfl) T.m_int bt_int (a_cons (x_bin o_addA (f_addA true) (x_bin op_mul f_mul (xv 1) x_int) (x_callB o_abs f_abs (by rfl) T.m_abs bt_abs (a_cons (x_callT o_int f_int (by rfl) T.m_int bt_int (a_cons (xv 2) a_nil)) a_nil))) a_nil)) x_int))))
    (s_one (s_ret (x_lst false (a_cons (x_callT (o_listA rfl) (f_listA true) (by rfl) T.m_list bt_list (a_cons (xv 0) a_nil)) (a_cons x_int (a_cons x_int (a_cons (xv 1) a_nil))))))))))
theorem ok__law_draw (T : Facts K mg) : FnOk P w K mg base CX0 1 T.a__law_draw T.d__law_draw ["tape", "many"] (spM K 2 F__law_draw) :=
  FnOk.framed (fn_ok T.F__law_draw sc__law_draw fun cdv A outer s H E hr => (s_cons (s_if (t_cmp (o_eq hr.units) f_eq (x_ix o_ix f_ix (xv 0) x_int) x_int)
    (s_cons (s_set (i := 2) sc__law_draw.nd rfl (by first | exact .inl rfl | exact .inr rfl) (x_ix o_ix f_ix (xv 0) x_int))
    (s_cons (s_set (i := 3) sc__law_draw.nd rfl (by first | exact .inl rfl | exact .inr rfl) x_int)
    (s_cons (s_if (t_cmp op_lt f_lt (xv 2) (x_callB o_len f_len (by rfl) T.m_len bt_len (a_cons (x_ix o_ix f_ix (xv 0) x_int) a_nil)))
    (s_one (s_set (i := 3) sc__law_draw.nd rfl (by first | exact .inl rfl | exact .inr rfl) (x_callB o_abs f_abs (by rfl) T.m_abs bt_abs (a_cons (x_callT o_int f_int (by rfl) T.m_int bt_int (a_cons (x_ix o_ix f_ix (x_ix o_ix f_ix (xv 0) x_int) (xv 2)) a_nil)) a_nil))))
    (s_cons (s_put (x_bin op_mod f_mod (x_callT o_int f_int (by rfl) T.m_int bt_int (a_cons (x_bin o_addA (f_addA true) (x_bin o_addA (f_addA true) (x_bin op_mul f_mul (x_ix o_ix f_ix (xv 0) x_int) x_int) (xv 2)) x_int) a_nil)) x_int) (xv 0) x_int (pg_sub (xv 0) x_int set_list))
    (s_one (s_set (i := 3) sc__law_draw.nd rfl (by first | exact .inl rfl | exact .inr rfl) (x_ix o_ix f_ix (xv 0) x_int)))))
    (s_cons (s_put (x_bin o_addA (f_addA true) (xv 2) x_int) (xv 0) x_int (pg_sub (xv 0) x_int set_list))
    (s_cons (s_if (t_cmp op_lt f_lt (xv 3) (x_bin op_pow f_pow x_int x_int))
    (s_cons (s_set (i := 3) sc__law_draw.nd rfl (by first | exact .inl rfl | exact .inr rfl) (x_bin op_mod f_mod (x_callT o_int f_int (by rfl) T.m_int bt_int (a_cons (x_bin o_addA (f_addA true) (x_bin o_addA (f_addA true) (x_bin op_mul f_mul (xv 3) x_int) (x_bin op_mul f_mul (xv 2) x_int)) x_int) a_nil)) x_int))
    (s_cons (s_set (i := 3) sc__law_draw.nd rfl (by first | exact .inl rfl | exact .inr rfl) (x_bin op_mod f_mod (x_callT o_int f_int (by rfl) T.m_int bt_int (a_cons (x_bin op_mul f_mul (xv 3) x_int) a_nil)) x_int))
    (s_one (s_ret (x_bin op_mod f_mod (x_callT o_int f_int (by rfl) T.m_int bt_int (a_cons (xv 3) a_nil)) (x_callB (o_max2 rfl) f_max2 (by rfl) T.m_max bt_max (a_cons (xv 1) (a_cons x_int a_nil))))))))
    s_nil)
    (s_one (s_put (xv 3) (xv 0) x_int (pg_sub (xv 0) x_int set_list))))))))
    s_nil)
    (s_cons (s_set (i := 3) sc__law_draw.nd rfl (by first | exact .inl rfl | exact .inr rfl) (x_ix o_ix f_ix (xv 0) x_int))
    (s_cons (s_put (x_bin op_fdiv f_div (xv 3) (x_callB (o_max2 rfl) f_max2 (by rfl) T.m_max bt_max (a_cons (xv 1) (a_cons x_int a_nil)))) (xv 0) x_int (pg_sub (xv 0) x_int set_list))
    (s_one (s_ret (x_bin op_mod f_mod (x_callT o_int f_int (by rfl) T.m_int bt_int (a_cons (xv 3) a_nil)) (x_callB (o_max2 rfl) f_max2 (by rfl) T.m_max bt_max (a_cons (xv 1) (a_cons x_int a_nil)))))))))) 1 true
theorem ok__law_number (T : Facts K mg) : FnOk P w K mg base CX0 2 T.a__law_number T.d__law_number ["tape"] (spM K 1 F__law_number) :=
  FnOk.framed (fn_ok T.F__law_number sc__law_number fun cdv A outer s H E hr => (s_cons (s_set (i := 1) sc__law_number.nd rfl (by first | exact .inl rfl | exact .inr rfl) (x_bin o_addA (f_addA true) x_int (x_call (ok__law_draw T) (hr.mono (by decide)) (by rfl) T.g__law_draw T.F__law_draw.kp T.b__law_draw (a_cons (xv 0) (a_cons x_int a_nil)))))
    (s_cons (s_set (i := 2) sc__law_number.nd rfl (by first | exact .inl rfl | exact .inr rfl) (x_call (ok__law_draw T) (hr.mono (by decide)) (by rfl) T.g__law_draw T.F__law_draw.kp T.b__law_draw (a_cons (xv 0) (a_cons x_int a_nil))))
    (s_cons (s_if (t_cmp (o_eq hr.units) f_eq (xv 2) x_int)
    (s_one (s_set (i := 1) sc__law_number.nd rfl (by first | exact .inl rfl | exact .inr rfl) (x_bin o_addA (f_addA true) x_int (x_call (ok__law_draw T) (hr.mono (by decide)) (by rfl) T.g__law_draw T.F__law_draw.kp T.b__law_draw (a_cons (xv 0) (a_cons x_int a_nil))))))
    s_nil)
    (s_cons (s_if (t_cmp (o_eq hr.units) f_eq (xv 2) x_int)
    (s_one (s_set (i := 1) sc__law_number.nd rfl (by first | exact .inl rfl | exact .inr rfl) (x_ix o_ix f_ix (x_lst true (a_cons x_int (a_cons x_int (a_cons x_int (a_cons x_int (a_cons x_int (a_cons x_int a_nil))))))) (x_call (ok__law_draw T) (hr.mono (by decide)) (by rfl) T.g__law_draw T.F__law_draw.kp T.b__law_draw (a_cons (xv 0) (a_cons x_int a_nil))))))
    s_nil)
    (s_cons (s_if (t_cmp (o_eq hr.units) f_eq (x_call (ok__law_draw T) (hr.mono (by decide)) (by rfl) T.g__law_draw T.F__law_draw.kp T.b__law_draw (a_cons (xv 0) (a_cons x_int a_nil))) x_int)
    (s_one (s_ret (x_un un_neg f_neg (xv 1))))
    s_nil)
    (s_one (s_ret (xv 1))))))))) 1 true
theorem ok__law_area (T : Facts K mg) : ∀ d : Nat, FnOk P w K mg base CX0 (2 + d) T.a__law_area T.d__law_area ["tape", "names", "depth"] (spM K 3 (F__law_area d))
  | 0 => fn_bad
  | d + 1 => FnOk.framed (fn_ok T.F__law_area sc__law_area fun cdv A outer s H E hr => by
    have ih := ok__law_area T d
    exact (s_cons (s_set (i := 3) sc__law_area.nd rfl (by first | exact .inl rfl | exact .inr rfl) (x_call (ok__law_draw T) (hr.mono (Nat.le_trans (by decide) (Nat.le_add_right _ _))) (by rfl) T.g__law_draw T.F__law_draw.kp T.b__law_draw (a_cons (xv 0) (a_cons x_int a_nil))))
    (s_cons (s_if (PW.pt (t_and (t_cmp op_gt f_gt (xv 2) x_int) (t_and1 (t_cmp op_lt f_lt (xv 3) x_int))))
    (s_one (s_ret (x_tup (a_cons x_str (a_cons (x_call ih hr (by rfl) T.g__law_area T.F__law_area.kp T.b__law_area (a_cons (xv 0) (a_cons (xv 1) (a_cons (x_bin op_sub f_sub (xv 2) x_int) a_nil)))) a_nil)))))
    s_nil)
    (s_cons (s_if (PW.pt (t_and (t_cmp op_gt f_gt (xv 2) x_int) (t_and1 (t_cmp op_lt f_lt (xv 3) x_int))))
    (s_cons (s_set (i := 4) sc__law_area.nd rfl (by first | exact .inl rfl | exact .inr rfl) (x_call ih hr (by rfl) T.g__law_area T.F__law_area.kp T.b__law_area (a_cons (xv 0) (a_cons (xv 1) (a_cons (x_bin op_sub f_sub (xv 2) x_int) a_nil)))))
    (s_one (s_ret (x_tup (a_cons (x_ix o_ix f_ix (x_lst true (a_cons x_str (a_cons x_str a_nil))) (x_call (ok__law_draw T) (hr.mono (Nat.le_trans (by decide) (Nat.le_add_right _ _))) (by rfl) T.g__law_draw T.F__law_draw.kp T.b__law_draw (a_cons (xv 0) (a_cons x_int a_nil)))) (a_cons (xv 4) (a_cons (x_call ih hr (by rfl) T.g__law_area T.F__law_area.kp T.b__law_area (a_cons (xv 0) (a_cons (xv 1) (a_cons (x_bin op_sub f_sub (xv 2) x_int) a_nil)))) a_nil)))))))
    s_nil)
    (s_cons (s_if (t_cmp (o_eq hr.units) f_eq (xv 3) x_int)
    (s_one (s_ret (x_ix o_ix f_ix (x_lst true (a_cons (x_tup (a_cons x_str a_nil)) (a_cons (x_tup (a_cons x_str a_nil)) a_nil))) (x_call (ok__law_draw T) (hr.mono (Nat.le_trans (by decide) (Nat.le_add_right _ _))) (by rfl) T.g__law_draw T.F__law_draw.kp T.b__law_draw (a_cons (xv 0) (a_cons x_int a_nil))))))
    s_nil)
    (s_cons (s_if (PW.pt (t_and (t_cmp op_gt f_gt (x_callB o_len f_len (by rfl) T.m_len bt_len (a_cons (xv 1) a_nil)) x_int) (t_and1 (t_cmp op_gt f_gt (xv 3) x_int))))
    (s_one (s_ret (x_tup (a_cons x_str (a_cons (x_ix o_ix f_ix (xv 1) (x_call (ok__law_draw T) (hr.mono (Nat.le_trans (by decide) (Nat.le_add_right _ _))) (by rfl) T.g__law_draw T.F__law_draw.kp T.b__law_draw (a_cons (xv 0) (a_cons (x_callB o_len f_len (by rfl) T.m_len bt_len (a_cons (xv 1) a_nil)) a_nil)))) a_nil)))))
    s_nil)
    (s_one (s_ret (x_tup (a_cons x_str a_nil)))))))))) 1 true
theorem ok__law_relation (T : Facts K mg) : FnOk P w K mg base CX0 2 T.a__law_relation T.d__law_relation ["tape"] (spM K 1 F__law_relation) :=
  FnOk.framed (fn_ok T.F__law_relation sc__law_relation fun cdv A outer s H E hr => (s_one (s_ret (x_ix o_ix f_ix (x_lst true (a_cons x_str (a_cons x_str (a_cons x_str a_nil)))) (x_call (ok__law_draw T) (hr.mono (by decide)) (by rfl) T.g__law_draw T.F__law_draw.kp T.b__law_draw (a_cons (xv 0) (a_cons x_int a_nil))))))) 1 true
theorem ok__law_sum (T : Facts K mg) : FnOk P w K mg base CX0 27 T.a__law_sum T.d__law_sum ["tape", "names", "accounts"] (spM K 3 F__law_sum) :=
  FnOk.framed (fn_ok T.F__law_sum sc__law_sum fun cdv A outer s H E hr => (s_cons (s_set (i := 3) sc__law_sum.nd rfl (by first | exact .inl rfl | exact .inr rfl) (x_lst false a_nil))
    (s_cons (s_for PassesOwn.never rfl (i_range1 (by rfl) T.m_range (a_cons (x_ix o_ix f_ix (x_lst true (a_cons x_int (a_cons x_int (a_cons x_int (a_cons x_int (a_cons x_int (a_cons x_int (a_cons x_int (a_cons x_int a_nil))))))))) (x_call (ok__law_draw T) (hr.mono (by decide)) (by rfl) T.g__law_draw T.F__law_draw.kp T.b__law_draw (a_cons (xv 0) (a_cons x_int a_nil)))) a_nil)) (g_name (i := 4) sc__law_sum.nd rfl (by first | exact .inl rfl | exact .inr rfl))
    (s_cons (s_set (i := 5) sc__law_sum.nd rfl (by first | exact .inl rfl | exact .inr rfl) (x_call (ok__law_number T) (hr.mono (by decide)) (by rfl) T.g__law_number T.F__law_number.kp T.b__law_number (a_cons (xv 0) a_nil)))
    (s_one (s_expr (x_meth PySem.F.plainAttrs_list PySem.F.slot_list_append PySem.F.type_list_append mt_append f_append ty_lst (xv 3) (a_cons (x_tup (a_cons (xv 5) (a_cons (x_ix o_ix f_ix (xv 2) (x_call (ok__law_draw T) (hr.mono (by decide)) (by rfl) T.g__law_draw T.F__law_draw.kp T.b__law_draw (a_cons (xv 0) (a_cons (x_callB o_len f_len (by rfl) T.m_len bt_len (a_cons (xv 2) a_nil)) a_nil)))) (a_cons (x_call (ok__law_area T 24) (hr.mono (by decide)) (by rfl) T.g__law_area T.F__law_area.kp T.b__law_area (a_cons (xv 0) (a_cons (xv 1) (a_cons x_int a_nil)))) a_nil)))) a_nil))))))
    (s_one (s_ret (x_tup (a_cons x_str (a_cons (x_callT o_tuple f_tuple (by rfl) T.m_tuple bt_tuple (a_cons (xv 3) a_nil)) (a_cons (x_call (ok__law_relation T) (hr.mono (by decide)) (by rfl) T.g__law_relation T.F__law_relation.kp T.b__law_relation (a_cons (xv 0) a_nil)) a_nil))))))))) 1 true
theorem ok__law_each (T : Facts K mg) : FnOk P w K mg base CX0 27 T.a__law_each T.d__law_each ["tape", "names", "accounts"] (spM K 3 F__law_each) :=
  FnOk.framed (fn_ok T.F__law_each sc__law_each fun cdv A outer s H E hr => (s_cons (s_set (i := 3) sc__law_each.nd rfl (by first | exact .inl rfl | exact .inr rfl) (x_call (ok__law_area T 24) (hr.mono (by decide)) (by rfl) T.g__law_area T.F__law_area.kp T.b__law_area (a_cons (xv 0) (a_cons (xv 1) (a_cons x_int a_nil)))))
    (s_cons (s_set (i := 4) sc__law_each.nd rfl (by first | exact .inl rfl | exact .inr rfl) (x_lst false a_nil))
    (s_cons (s_for PassesOwn.never rfl (i_range1 (by rfl) T.m_range (a_cons (x_ix o_ix f_ix (x_lst true (a_cons x_int (a_cons x_int (a_cons x_int (a_cons x_int (a_cons x_int (a_cons x_int a_nil))))))) (x_call (ok__law_draw T) (hr.mono (by decide)) (by rfl) T.g__law_draw T.F__law_draw.kp T.b__law_draw (a_cons (xv 0) (a_cons x_int a_nil)))) a_nil)) (g_name (i := 5) sc__law_each.nd rfl (by first | exact .inl rfl | exact .inr rfl))
    (s_cons (s_set (i := 6) sc__law_each.nd rfl (by first | exact .inl rfl | exact .inr rfl) (x_call (ok__law_number T) (hr.mono (by decide)) (by rfl) T.g__law_number T.F__law_number.kp T.b__law_number (a_cons (xv 0) a_nil)))
    (s_one (s_expr (x_meth PySem.F.plainAttrs_list PySem.F.slot_list_append PySem.F.type_list_append mt_append f_append ty_lst (xv 4) (a_cons (x_tup (a_cons (xv 6) (a_cons (x_ix o_ix f_ix (xv 2) (x_call (ok__law_draw T) (hr.mono (by decide)) (by rfl) T.g__law_draw T.F__law_draw.kp T.b__law_draw (a_cons (xv 0) (a_cons (x_callB o_len f_len (by rfl) T.m_len bt_len (a_cons (xv 2) a_nil)) a_nil)))) a_nil))) a_nil))))))
    (s_one (s_ret (x_tup (a_cons x_str (a_cons (xv 3) (a_cons (x_callT o_tuple f_tuple (by rfl) T.m_tuple bt_tuple (a_cons (xv 4) a_nil)) (a_cons (x_call (ok__law_relation T) (hr.mono (by decide)) (by rfl) T.g__law_relation T.F__law_relation.kp T.b__law_relation (a_cons (xv 0) a_nil)) a_nil))))))))))) 1 true
theorem ok__law_constraint (T : Facts K mg) : FnOk P w K mg base CX0 28 T.a__law_constraint T.d__law_constraint ["tape", "names", "accounts"] (spM K 3 F__law_constraint) :=
  FnOk.framed (fn_ok T.F__law_constraint sc__law_constraint fun cdv A outer s H E hr => (s_cons (s_if (t_cmp (o_eq hr.units) f_eq (x_call (ok__law_draw T) (hr.mono (by decide)) (by rfl) T.g__law_draw T.F__law_draw.kp T.b__law_draw (a_cons (xv 0) (a_cons x_int a_nil))) x_int)
    (s_one (s_ret (x_call (ok__law_sum T) (hr.mono (by decide)) (by rfl) T.g__law_sum T.F__law_sum.kp T.b__law_sum (a_cons (xv 0) (a_cons (xv 1) (a_cons (xv 2) a_nil))))))
    s_nil)
    (s_one (s_ret (x_call (ok__law_each T) (hr.mono (by decide)) (by rfl) T.g__law_each T.F__law_each.kp T.b__law_each (a_cons (xv 0) (a_cons (xv 1) (a_cons (xv 2) a_nil)))))))) 1 true
theorem ok__law_premises (T : Facts K mg) : FnOk P w K mg base CX0 29 T.a__law_premises T.d__law_premises ["tape", "names", "accounts", "most"] (spM K 4 F__law_premises) :=
  FnOk.framed (fn_ok T.F__law_premises sc__law_premises fun cdv A outer s H E hr => (s_one (s_ret (x_callT o_tuple f_tuple (by rfl) T.m_tuple bt_tuple (a_cons (x_lc true (own := [("k", 4)]) (p := (.nm 4)) rfl sc__law_premises.nd (i_range1 (by rfl) T.m_range (a_cons (x_call (ok__law_draw T) (hr.mono (by decide)) (by rfl) T.g__law_draw T.F__law_draw.kp T.b__law_draw (a_cons (xv 0) (a_cons (x_bin o_addA (f_addA true) (xv 3) x_int) a_nil))) a_nil)) (blkOk_by (N := N__law_premises) (sc := defScope st__law_premises) (by decide +kernel)) (by decide) (fun _ _ _ _ _ => (g_name (i := 4) sc__law_premises.nd rfl (by first | exact .inl rfl | exact .inr rfl))) (fun _ _ _ _ _ => ts_nil) (fun _ _ _ _ _ => (x_call (ok__law_constraint T) (hr.mono (by decide)) (by rfl) T.g__law_constraint T.F__law_constraint.kp T.b__law_constraint (a_cons (xv 0) (a_cons (xv 1) (a_cons (xv 2) a_nil)))))) a_nil))))) 1 true
theorem ok__law_entry (T : Facts K mg) : FnOk P w K mg base CX0 1 T.a__law_entry T.d__law_entry ["entries", "account"] (spM K 2 F__law_entry) :=
  FnOk.framed (fn_ok T.F__law_entry sc__law_entry fun cdv A outer s H E hr => (s_one (s_ret (x_callB (o_sum rfl) f_sum (by rfl) T.m_sum bt_sum (a_cons (x_lc true (own := [("pair", 2)]) (p := (.nm 2)) rfl sc__law_entry.nd (i_seq (xv 0)) (blkOk_by (N := N__law_entry) (sc := defScope st__law_entry) (by decide +kernel)) (by decide) (fun _ _ _ _ _ => (g_name (i := 2) sc__law_entry.nd rfl (by first | exact .inl rfl | exact .inr rfl))) (fun _ _ _ _ _ => (ts_one (t_cmp (o_eq hr.units) f_eq (x_ix o_ix f_ix (xv 2) x_int) (xv 1)))) (fun _ _ _ _ _ => (x_ix o_ix f_ix (xv 2) x_int))) a_nil))))) 0 true
theorem ok__law_books (T : Facts K mg) : FnOk P w K mg base CX0 2 T.a__law_books T.d__law_books ["model", "ledger"] (spM K 2 F__law_books) :=
  FnOk.framedD (fn_ok T.F__law_books sc__law_books fun cdv A outer s H E hr => (s_cons (s_set (i := 2) sc__law_books.nd rfl (by first | exact .inl rfl | exact .inr rfl) (x_lst false a_nil))
    (s_cons (s_for PassesOwn.never rfl (i_seq (x_ix o_ix f_ix (xv 0) x_int)) (g_name (i := 3) sc__law_books.nd rfl (by first | exact .inl rfl | exact .inr rfl))
    (s_cons (s_setLc false (i := 4) (own := [("names", 5)]) (p := (.nm 5)) rfl sc__law_books.nd rfl rfl (sw_true rfl rfl rfl (by decide +kernel)) (i_seq (x_ix o_ix f_ix (xv 1) x_int)) (blkOk_by (N := N__law_books) (sc := defScope st__law_books) (by decide +kernel)) (by decide) (fun _ _ _ _ _ => (g_name (i := 5) sc__law_books.nd rfl (by first | exact .inl rfl | exact .inr rfl))) (fun _ _ _ _ _ => ts_nil) (fun _ _ _ _ _ => x_int))
    (s_cons (s_for PassesOwn.never rfl (i_seq (x_ix o_ix f_ix (xv 1) x_int)) (g_name (i := 6) sc__law_books.nd rfl (by first | exact .inl rfl | exact .inr rfl))
    (s_cons (s_set (i := 7) sc__law_books.nd rfl (by first | exact .inl rfl | exact .inr rfl) (x_ix o_ix f_ix (x_lc true (own := [("item", 8)]) (p := (.nm 8)) rfl sc__law_books.nd (i_seq (x_ix o_ix f_ix (xv 0) x_int)) (blkOk_by (N := N__law_books) (sc := defScope st__law_books) (by decide +kernel)) (by decide) (fun _ _ _ _ _ => (g_name (i := 8) sc__law_books.nd rfl (by first | exact .inl rfl | exact .inr rfl))) (fun _ _ _ _ _ => (ts_one (t_cmp (o_eq hr.units) f_eq (x_ix o_ix f_ix (xv 8) x_int) (x_ix o_ix f_ix (xv 6) x_int)))) (fun _ _ _ _ _ => (xv 8))) x_int))
    (s_cons (s_put (x_bin o_addA (f_addA true) (x_ix o_ix f_ix (xv 4) (x_ix o_ix f_ix (xv 6) x_int)) (x_bin op_mul f_mul (x_ix o_ix f_ix (xv 6) x_int) (x_call (ok__law_entry T) (hr.mono (by decide)) (by rfl) T.g__law_entry T.F__law_entry.kp T.b__law_entry (a_cons (x_ix o_ix f_ix (xv 7) x_int) (a_cons (xv 3) a_nil))))) (xv 4) (x_ix o_ix f_ix (xv 6) x_int) (pg_sub (xv 4) (x_ix o_ix f_ix (xv 6) x_int) set_list))
    (s_one (s_put (x_bin o_addA (f_addA true) (x_ix o_ix f_ix (xv 4) (x_ix o_ix f_ix (xv 6) x_int)) (x_bin op_mul f_mul (x_ix o_ix f_ix (xv 6) x_int) (x_call (ok__law_entry T) (hr.mono (by decide)) (by rfl) T.g__law_entry T.F__law_entry.kp T.b__law_entry (a_cons (x_ix o_ix f_ix (xv 7) x_int) (a_cons (xv 3) a_nil))))) (xv 4) (x_ix o_ix f_ix (xv 6) x_int) (pg_sub (xv 4) (x_ix o_ix f_ix (xv 6) x_int) set_list))))))
    (s_one (s_expr (x_meth PySem.F.plainAttrs_list PySem.F.slot_list_append PySem.F.type_list_append mt_append f_append ty_lst (xv 2) (a_cons (xv 4) a_nil)))))))
    (s_one (s_ret (xv 2)))))) 0
theorem ok__law_within (T : Facts K mg) : ∀ d : Nat, FnOk P w K mg base CX0 (1 + d) T.a__law_within T.d__law_within ["model", "area", "profile"] (spM K 3 (F__law_within d))
  | 0 => fn_bad
  | d + 1 => FnOk.framed (fn_ok T.F__law_within sc__law_within fun cdv A outer s H E hr => by
    have ih := ok__law_within T d
    exact (s_cons (s_if (t_cmp (o_eq hr.units) f_eq (x_ix o_ix f_ix (xv 1) x_int) x_str)
    (s_one (s_ret (x_cmp (o_eq hr.units) f_eq (x_bin op_mod f_mod (x_callT o_int f_int (by rfl) T.m_int bt_int (a_cons (x_bin op_fdiv f_div (xv 2) (x_ix o_ix f_ix (x_lst true (a_cons x_int (a_cons x_int (a_cons x_int a_nil)))) (x_meth PySem.F.plainAttrs_list PySem.F.slot_list_index PySem.F.type_list_index mt_index f_index ty_lst (x_callT (o_listA rfl) (f_listA true) (by rfl) T.m_list bt_list (a_cons (x_ix o_ix f_ix (xv 0) x_int) a_nil)) (a_cons (x_ix o_ix f_ix (xv 1) x_int) a_nil)))) a_nil)) x_int) x_int)))
    s_nil)
    (s_cons (s_if (t_cmp (o_eq hr.units) f_eq (x_ix o_ix f_ix (xv 1) x_int) x_str)
    (s_one (s_ret (x_not (x_call ih hr (by rfl) T.g__law_within T.F__law_within.kp T.b__law_within (a_cons (xv 0) (a_cons (x_ix o_ix f_ix (xv 1) x_int) (a_cons (xv 2) a_nil)))))))
    s_nil)
    (s_cons (s_if (t_cmp (o_eq hr.units) f_eq (x_ix o_ix f_ix (xv 1) x_int) x_str)
    (s_one (s_ret (x_and (x_call ih hr (by rfl) T.g__law_within T.F__law_within.kp T.b__law_within (a_cons (xv 0) (a_cons (x_ix o_ix f_ix (xv 1) x_int) (a_cons (xv 2) a_nil)))) (x_one (x_call ih hr (by rfl) T.g__law_within T.F__law_within.kp T.b__law_within (a_cons (xv 0) (a_cons (x_ix o_ix f_ix (xv 1) x_int) (a_cons (xv 2) a_nil))))))))
    s_nil)
    (s_cons (s_if (t_cmp (o_eq hr.units) f_eq (x_ix o_ix f_ix (xv 1) x_int) x_str)
    (s_one (s_ret (x_or (x_call ih hr (by rfl) T.g__law_within T.F__law_within.kp T.b__law_within (a_cons (xv 0) (a_cons (x_ix o_ix f_ix (xv 1) x_int) (a_cons (xv 2) a_nil)))) (x_one (x_call ih hr (by rfl) T.g__law_within T.F__law_within.kp T.b__law_within (a_cons (xv 0) (a_cons (x_ix o_ix f_ix (xv 1) x_int) (a_cons (xv 2) a_nil))))))))
    s_nil)
    (s_one (s_ret (x_cmp (o_eq hr.units) f_eq (x_ix o_ix f_ix (xv 1) x_int) x_str)))))))) 0 true
theorem ok__law_profile (T : Facts K mg) : FnOk P w K mg base CX0 1 T.a__law_profile T.d__law_profile ["model", "names"] (spM K 2 F__law_profile) :=
  FnOk.framed (fn_ok T.F__law_profile sc__law_profile fun cdv A outer s H E hr => (s_one (s_ret (x_callB (o_sum rfl) f_sum (by rfl) T.m_sum bt_sum (a_cons (x_lc true (own := [("k", 2)]) (p := (.nm 2)) rfl sc__law_profile.nd (i_range1 (by rfl) T.m_range (a_cons (x_callB o_len f_len (by rfl) T.m_len bt_len (a_cons (x_ix o_ix f_ix (xv 0) x_int) a_nil)) a_nil)) (blkOk_by (N := N__law_profile) (sc := defScope st__law_profile) (by decide +kernel)) (by decide) (fun _ _ _ _ _ => (g_name (i := 2) sc__law_profile.nd rfl (by first | exact .inl rfl | exact .inr rfl))) (fun _ _ _ _ _ => (ts_one (t_cmp (o_in (hu65 hr)) f_in (x_ix o_ix f_ix (x_ix o_ix f_ix (xv 0) x_int) (xv 2)) (xv 1)))) (fun _ _ _ _ _ => (x_ix o_ix f_ix (x_lst true (a_cons x_int (a_cons x_int (a_cons x_int a_nil)))) (xv 2)))) a_nil))))) 0 true
theorem ok__law_members (T : Facts K mg) : FnOk P w K mg base CX0 26 T.a__law_members T.d__law_members ["model", "ledger", "area"] (spM K 3 F__law_members) :=
  (fn_ok T.F__law_members sc__law_members fun cdv A outer s H E hr => (s_one (s_ret (x_lc true (own := [("k", 3)]) (p := (.nm 3)) rfl sc__law_members.nd (i_range1 (by rfl) T.m_range (a_cons (x_callB o_len f_len (by rfl) T.m_len bt_len (a_cons (x_ix o_ix f_ix (xv 1) x_int) a_nil)) a_nil)) (blkOk_by (N := N__law_members) (sc := defScope st__law_members) (by decide +kernel)) (by decide) (fun _ _ _ _ _ => (g_name (i := 3) sc__law_members.nd rfl (by first | exact .inl rfl | exact .inr rfl))) (fun _ _ _ _ _ => (ts_one (t_tru (x_call (ok__law_within T 24) (hr.mono (by decide)) (by rfl) T.g__law_within T.F__law_within.kp T.b__law_within (a_cons (xv 0) (a_cons (xv 2) (a_cons (x_call (ok__law_profile T) (hr.mono (by decide)) (by rfl) T.g__law_profile T.F__law_profile.kp T.b__law_profile (a_cons (xv 0) (a_cons (x_ix o_ix f_ix (x_ix o_ix f_ix (xv 1) x_int) (xv 3)) a_nil))) a_nil))))))) (fun _ _ _ _ _ => (xv 3))))))
theorem ok__law_worth (T : Facts K mg) : FnOk P w K mg base CX0 27 T.a__law_worth T.d__law_worth ["model", "ledger", "books", "constraint"] (spM K 4 F__law_worth) :=
  FnOk.framed (fn_ok T.F__law_worth sc__law_worth fun cdv A outer s H E hr => (s_cons (s_set (i := 4) sc__law_worth.nd rfl (by first | exact .inl rfl | exact .inr rfl) (x_callT (o_listA rfl) (f_listA true) (by rfl) T.m_list bt_list (a_cons (x_ix o_ix f_ix (xv 0) x_int) a_nil)))
    (s_cons (s_if (t_cmp (o_eq hr.units) f_eq (x_ix o_ix f_ix (xv 3) x_int) x_str)
    (s_cons (s_set (i := 5) sc__law_worth.nd rfl (by first | exact .inl rfl | exact .inr rfl) x_int)
    (s_cons (s_for PassesOwn.never rfl (i_seq (x_ix o_ix f_ix (xv 3) x_int)) (g_name (i := 6) sc__law_worth.nd rfl (by first | exact .inl rfl | exact .inr rfl))
    (s_cons (s_set (i := 7) sc__law_worth.nd rfl (by first | exact .inl rfl | exact .inr rfl) (x_ix o_ix f_ix (xv 2) (x_meth PySem.F.plainAttrs_list PySem.F.slot_list_index PySem.F.type_list_index mt_index f_index ty_lst (xv 4) (a_cons (x_ix o_ix f_ix (xv 6) x_int) a_nil))))
    (s_one (s_set (i := 5) sc__law_worth.nd rfl (by first | exact .inl rfl | exact .inr rfl) (x_bin o_addA (f_addA true) (xv 5) (x_bin op_mulW f_mulW (x_ix o_ix f_ix (xv 6) x_int) (x_callB (o_sum rfl) f_sum (by rfl) T.m_sum bt_sum (a_cons (x_lc true (own := [("k", 8)]) (p := (.nm 8)) rfl sc__law_worth.nd (i_seq (x_call (ok__law_members T) (hr.mono (by decide)) (by rfl) T.g__law_members T.F__law_members.kp T.b__law_members (a_cons (xv 0) (a_cons (xv 1) (a_cons (x_ix o_ix f_ix (xv 6) x_int) a_nil))))) (blkOk_by (N := N__law_worth) (sc := defScope st__law_worth) (by decide +kernel)) (by decide) (fun _ _ _ _ _ => (g_name (i := 8) sc__law_worth.nd rfl (by first | exact .inl rfl | exact .inr rfl))) (fun _ _ _ _ _ => ts_nil) (fun _ _ _ _ _ => (x_ix o_ix f_ix (xv 7) (xv 8)))) a_nil))))))))
    (s_one (s_ret (xv 5)))))
    s_nil)
    (s_cons (s_set (i := 9) sc__law_worth.nd rfl (by first | exact .inl rfl | exact .inr rfl) (x_lst false a_nil))
    (s_cons (s_for PassesOwn.never rfl (i_seq (x_call (ok__law_members T) (hr.mono (by decide)) (by rfl) T.g__law_members T.F__law_members.kp T.b__law_members (a_cons (xv 0) (a_cons (xv 1) (a_cons (x_ix o_ix f_ix (xv 3) x_int) a_nil))))) (g_name (i := 8) sc__law_worth.nd rfl (by first | exact .inl rfl | exact .inr rfl))
    (s_one (s_expr (x_meth PySem.F.plainAttrs_list PySem.F.slot_list_append PySem.F.type_list_append mt_append f_append ty_lst (xv 9) (a_cons (x_tup (a_cons (xv 8) (a_cons (x_callB (o_sum rfl) f_sum (by rfl) T.m_sum bt_sum (a_cons (x_lc true (own := [("term", 6)]) (p := (.nm 6)) rfl sc__law_worth.nd (i_seq (x_ix o_ix f_ix (xv 3) x_int)) (blkOk_by (N := N__law_worth) (sc := defScope st__law_worth) (by decide +kernel)) (by decide) (fun _ _ _ _ _ => (g_name (i := 6) sc__law_worth.nd rfl (by first | exact .inl rfl | exact .inr rfl))) (fun _ _ _ _ _ => ts_nil) (fun _ _ _ _ _ => (x_bin op_mulW f_mulW (x_ix o_ix f_ix (xv 6) x_int) (x_ix o_ix f_ix (x_ix o_ix f_ix (xv 2) (x_meth PySem.F.plainAttrs_list PySem.F.slot_list_index PySem.F.type_list_index mt_index f_index ty_lst (xv 4) (a_cons (x_ix o_ix f_ix (xv 6) x_int) a_nil))) (xv 8))))) a_nil)) a_nil))) a_nil)))))
    (s_one (s_ret (x_callT o_tuple f_tuple (by rfl) T.m_tuple bt_tuple (a_cons (xv 9) a_nil))))))))) 0 true
theorem ok__law_size (T : Facts K mg) : FnOk P w K mg base CX0 1 T.a__law_size T.d__law_size ["model"] (spM K 1 F__law_size) :=
  FnOk.framed (fn_ok T.F__law_size sc__law_size fun cdv A outer s H E hr => (s_one (s_ret (x_ix o_ix f_ix (x_lst true (a_cons x_int (a_cons x_int (a_cons x_int (a_cons x_int a_nil))))) (x_callB o_len f_len (by rfl) T.m_len bt_len (a_cons (x_ix o_ix f_ix (xv 0) x_int) a_nil)))))) 0 true
theorem ok__law_amount (T : Facts K mg) : FnOk P w K mg base CX0 2 T.a__law_amount T.d__law_amount ["tape"] (spM K 1 F__law_amount) :=
  FnOk.framed (fn_ok T.F__law_amount sc__law_amount fun cdv A outer s H E hr => (s_cons (s_set (i := 1) sc__law_amount.nd rfl (by first | exact .inl rfl | exact .inr rfl) (x_call (ok__law_draw T) (hr.mono (by decide)) (by rfl) T.g__law_draw T.F__law_draw.kp T.b__law_draw (a_cons (xv 0) (a_cons x_int a_nil))))
    (s_cons (s_if (t_cmp (o_eq hr.units) f_eq (xv 1) x_int)
    (s_one (s_ret (x_bin o_addA (f_addA true) x_int (x_call (ok__law_draw T) (hr.mono (by decide)) (by rfl) T.g__law_draw T.F__law_draw.kp T.b__law_draw (a_cons (xv 0) (a_cons (x_bin op_pow f_pow x_int x_int) a_nil))))))
    s_nil)
    (s_cons (s_if (t_cmp (o_eq hr.units) f_eq (xv 1) x_int)
    (s_one (s_ret (x_bin o_addA (f_addA true) (x_ix o_ix f_ix (x_lst true (a_cons x_int (a_cons x_int (a_cons (x_bin op_pow f_pow x_int x_int) (a_cons (x_bin op_pow f_pow x_int x_int) a_nil))))) (x_call (ok__law_draw T) (hr.mono (by decide)) (by rfl) T.g__law_draw T.F__law_draw.kp T.b__law_draw (a_cons (xv 0) (a_cons x_int a_nil)))) (x_call (ok__law_draw T) (hr.mono (by decide)) (by rfl) T.g__law_draw T.F__law_draw.kp T.b__law_draw (a_cons (xv 0) (a_cons x_int a_nil))))))
    s_nil)
    (s_one (s_ret (x_bin o_addA (f_addA true) x_int (x_call (ok__law_draw T) (hr.mono (by decide)) (by rfl) T.g__law_draw T.F__law_draw.kp T.b__law_draw (a_cons (xv 0) (a_cons x_int a_nil)))))))))) 1 true
theorem ok__law_drawn_deals (T : Facts K mg) : FnOk P w K mg base CX0 27 T.a__law_drawn_deals T.d__law_drawn_deals ["tape", "model", "crowd", "deals"] (spM K 4 F__law_drawn_deals) :=
  (fn_ok T.F__law_drawn_deals sc__law_drawn_deals fun cdv A outer s H E hr => (s_cons (s_set (i := 4) sc__law_drawn_deals.nd rfl (by first | exact .inl rfl | exact .inr rfl) (x_lst false a_nil))
    (s_cons (s_for PassesOwn.never rfl (i_range1 (by rfl) T.m_range (a_cons (xv 3) a_nil)) (g_name (i := 5) sc__law_drawn_deals.nd rfl (by first | exact .inl rfl | exact .inr rfl))
    (s_one (s_if (t_cmp op_gt f_gt (x_callB o_len f_len (by rfl) T.m_len bt_len (a_cons (x_ix o_ix f_ix (xv 1) x_int) a_nil)) x_int)
    (s_cons (s_set (i := 6) sc__law_drawn_deals.nd rfl (by first | exact .inl rfl | exact .inr rfl) (x_ix o_ix f_ix (x_ix o_ix f_ix (xv 1) x_int) (x_call (ok__law_draw T) (hr.mono (by decide)) (by rfl) T.g__law_draw T.F__law_draw.kp T.b__law_draw (a_cons (xv 0) (a_cons (x_callB o_len f_len (by rfl) T.m_len bt_len (a_cons (x_ix o_ix f_ix (xv 1) x_int) a_nil)) a_nil)))))
    (s_cons (s_set (i := 7) sc__law_drawn_deals.nd rfl (by first | exact .inl rfl | exact .inr rfl) (x_call (ok__law_members T) (hr.mono (by decide)) (by rfl) T.g__law_members T.F__law_members.kp T.b__law_members (a_cons (xv 1) (a_cons (x_tup (a_cons (xv 2) (a_cons (x_tup a_nil) a_nil))) (a_cons (x_ix o_ix f_ix (xv 6) x_int) a_nil)))))
    (s_one (s_if (t_cmp op_gt f_gt (x_callB o_len f_len (by rfl) T.m_len bt_len (a_cons (xv 7) a_nil)) x_int)
    (s_cons (s_set (i := 8) sc__law_drawn_deals.nd rfl (by first | exact .inl rfl | exact .inr rfl) (x_ix o_ix f_ix (xv 7) (x_call (ok__law_draw T) (hr.mono (by decide)) (by rfl) T.g__law_draw T.F__law_draw.kp T.b__law_draw (a_cons (xv 0) (a_cons (x_callB o_len f_len (by rfl) T.m_len bt_len (a_cons (xv 7) a_nil)) a_nil)))))
    (s_cons (s_setLc true (i := 9) (own := [("i", 10)]) (p := (.nm 10)) rfl sc__law_drawn_deals.nd rfl rfl (sw_true rfl rfl rfl (by decide +kernel)) (i_seq (x_call (ok__law_members T) (hr.mono (by decide)) (by rfl) T.g__law_members T.F__law_members.kp T.b__law_members (a_cons (xv 1) (a_cons (x_tup (a_cons (xv 2) (a_cons (x_tup a_nil) a_nil))) (a_cons (x_ix o_ix f_ix (xv 6) x_int) a_nil))))) (blkOk_by (N := N__law_drawn_deals) (sc := defScope st__law_drawn_deals) (by decide +kernel)) (by decide) (fun _ _ _ _ _ => (g_name (i := 10) sc__law_drawn_deals.nd rfl (by first | exact .inl rfl | exact .inr rfl))) (fun _ _ _ _ _ => (ts_one (t_cmp (o_ne hr.units) f_ne (xv 10) (xv 8)))) (fun _ _ _ _ _ => (xv 10)))
    (s_one (s_if (t_cmp op_gt f_gt (x_callB o_len f_len (by rfl) T.m_len bt_len (a_cons (xv 9) a_nil)) x_int)
    (s_one (s_expr (x_meth PySem.F.plainAttrs_list PySem.F.slot_list_append PySem.F.type_list_append mt_append f_append ty_lst (xv 4) (a_cons (x_tup (a_cons (x_ix o_ix f_ix (xv 6) x_int) (a_cons (xv 8) (a_cons (x_ix o_ix f_ix (xv 9) (x_call (ok__law_draw T) (hr.mono (by decide)) (by rfl) T.g__law_draw T.F__law_draw.kp T.b__law_draw (a_cons (xv 0) (a_cons (x_callB o_len f_len (by rfl) T.m_len bt_len (a_cons (xv 9) a_nil)) a_nil)))) (a_cons (x_call (ok__law_amount T) (hr.mono (by decide)) (by rfl) T.g__law_amount T.F__law_amount.kp T.b__law_amount (a_cons (xv 0) a_nil)) a_nil))))) a_nil))))
    s_nil))))
    s_nil))))
    s_nil)))
    (s_one (s_ret (x_callT o_tuple f_tuple (by rfl) T.m_tuple bt_tuple (a_cons (xv 4) a_nil)))))))
theorem ok__law_listed (T : Facts K mg) : FnOk P w K mg base CX0 1 T.a__law_listed T.d__law_listed ["model", "profile"] (spM K 2 F__law_listed) :=
  FnOk.framed (fn_ok T.F__law_listed sc__law_listed fun cdv A outer s H E hr => (s_one (s_ret (x_callT o_tuple f_tuple (by rfl) T.m_tuple bt_tuple (a_cons (x_lc true (own := [("i", 2)]) (p := (.nm 2)) rfl sc__law_listed.nd (i_range1 (by rfl) T.m_range (a_cons (x_callB o_len f_len (by rfl) T.m_len bt_len (a_cons (x_ix o_ix f_ix (xv 0) x_int) a_nil)) a_nil)) (blkOk_by (N := N__law_listed) (sc := defScope st__law_listed) (by decide +kernel)) (by decide) (fun _ _ _ _ _ => (g_name (i := 2) sc__law_listed.nd rfl (by first | exact .inl rfl | exact .inr rfl))) (fun _ _ _ _ _ => (ts_one (t_cmp (o_eq hr.units) f_eq (x_bin op_mod f_mod (x_callT o_int f_int (by rfl) T.m_int bt_int (a_cons (x_bin op_fdiv f_div (xv 1) (x_ix o_ix f_ix (x_lst true (a_cons x_int (a_cons x_int (a_cons x_int a_nil)))) (xv 2))) a_nil)) x_int) x_int))) (fun _ _ _ _ _ => (x_ix o_ix f_ix (x_ix o_ix f_ix (xv 0) x_int) (xv 2)))) a_nil))))) 0 true
theorem ok__law_ledger (T : Facts K mg) : FnOk P w K mg base CX0 28 T.a__law_ledger T.d__law_ledger ["tape", "model", "people", "deals"] (spM K 4 F__law_ledger) :=
  FnOk.framed (fn_ok T.F__law_ledger sc__law_ledger fun cdv A outer s H E hr => (s_cons (s_set (i := 4) sc__law_ledger.nd rfl (by first | exact .inl rfl | exact .inr rfl) (x_bin o_addA (f_addA true) (x_lc true (own := [("kind", 5)]) (p := (.nm 5)) rfl sc__law_ledger.nd (i_seq (x_ix o_ix f_ix (xv 1) x_int)) (blkOk_by (N := N__law_ledger) (sc := defScope st__law_ledger) (by decide +kernel)) (by decide) (fun _ _ _ _ _ => (g_name (i := 5) sc__law_ledger.nd rfl (by first | exact .inl rfl | exact .inr rfl))) (fun _ _ _ _ _ => ts_nil) (fun _ _ _ _ _ => (x_ix o_ix f_ix (xv 5) x_int))) (x_lc true (own := [("kind", 5)]) (p := (.nm 5)) rfl sc__law_ledger.nd (i_seq (x_ix o_ix f_ix (xv 1) x_int)) (blkOk_by (N := N__law_ledger) (sc := defScope st__law_ledger) (by decide +kernel)) (by decide) (fun _ _ _ _ _ => (g_name (i := 5) sc__law_ledger.nd rfl (by first | exact .inl rfl | exact .inr rfl))) (fun _ _ _ _ _ => ts_nil) (fun _ _ _ _ _ => (x_ix o_ix f_ix (xv 5) x_int)))))
    (s_cons (s_setLc true (i := 6) (own := [("k", 7)]) (p := (.nm 7)) rfl sc__law_ledger.nd rfl rfl (sw_true rfl rfl rfl (by decide +kernel)) (i_range1 (by rfl) T.m_range (a_cons (x_call (ok__law_size T) (hr.mono (by decide)) (by rfl) T.g__law_size T.F__law_size.kp T.b__law_size (a_cons (xv 1) a_nil)) a_nil)) (blkOk_by (N := N__law_ledger) (sc := defScope st__law_ledger) (by decide +kernel)) (by decide) (fun _ _ _ _ _ => (g_name (i := 7) sc__law_ledger.nd rfl (by first | exact .inl rfl | exact .inr rfl))) (fun _ _ _ _ _ => (ts_one (t_cmp (o_in (hu65 hr)) f_in x_bl (x_lc true (own := [("area", 8)]) (p := (.nm 8)) rfl sc__law_ledger.nd (i_seq (xv 4)) (blkOk_by (by kernel_rfl)) (by decide) (fun _ _ _ _ _ => (g_name (i := 8) sc__law_ledger.nd rfl (by first | exact .inl rfl | exact .inr rfl))) (fun _ _ _ _ _ => ts_nil) (fun _ _ _ _ _ => (x_call (ok__law_within T 24) (hr.mono (by decide)) (by rfl) T.g__law_within T.F__law_within.kp T.b__law_within (a_cons (xv 1) (a_cons (xv 8) (a_cons (xv 7) a_nil))))))))) (fun _ _ _ _ _ => (xv 7)))
    (s_cons (s_set (i := 9) sc__law_ledger.nd rfl (by first | exact .inl rfl | exact .inr rfl) (x_lst false a_nil))
    (s_cons (s_for PassesOwn.never rfl (i_range1 (by rfl) T.m_range (a_cons (xv 2) a_nil)) (g_name (i := 7) sc__law_ledger.nd rfl (by first | exact .inl rfl | exact .inr rfl))
    (s_cons (s_set (i := 10) sc__law_ledger.nd rfl (by first | exact .inl rfl | exact .inr rfl) (x_call (ok__law_draw T) (hr.mono (by decide)) (by rfl) T.g__law_draw T.F__law_draw.kp T.b__law_draw (a_cons (xv 0) (a_cons (x_call (ok__law_size T) (hr.mono (by decide)) (by rfl) T.g__law_size T.F__law_size.kp T.b__law_size (a_cons (xv 1) a_nil)) a_nil))))
    (s_cons (s_if (PW.pt (t_and (t_cmp op_gt f_gt (x_callB o_len f_len (by rfl) T.m_len bt_len (a_cons (xv 6) a_nil)) x_int) (t_and1 (t_cmp op_gt f_gt (x_call (ok__law_draw T) (hr.mono (by decide)) (by rfl) T.g__law_draw T.F__law_draw.kp T.b__law_draw (a_cons (xv 0) (a_cons x_int a_nil))) x_int))))
    (s_one (s_set (i := 10) sc__law_ledger.nd rfl (by first | exact .inl rfl | exact .inr rfl) (x_ix o_ix f_ix (xv 6) (x_call (ok__law_draw T) (hr.mono (by decide)) (by rfl) T.g__law_draw T.F__law_draw.kp T.b__law_draw (a_cons (xv 0) (a_cons (x_callB o_len f_len (by rfl) T.m_len bt_len (a_cons (xv 6) a_nil)) a_nil))))))
    s_nil)
    (s_one (s_expr (x_meth PySem.F.plainAttrs_list PySem.F.slot_list_append PySem.F.type_list_append mt_append f_append ty_lst (xv 9) (a_cons (x_call (ok__law_listed T) (hr.mono (by decide)) (by rfl) T.g__law_listed T.F__law_listed.kp T.b__law_listed (a_cons (xv 1) (a_cons (xv 10) a_nil))) a_nil)))))))
    (s_one (s_ret (x_tup (a_cons (x_callT o_tuple f_tuple (by rfl) T.m_tuple bt_tuple (a_cons (xv 9) a_nil)) (a_cons (x_call (ok__law_drawn_deals T) (hr.mono (by decide)) (by rfl) T.g__law_drawn_deals T.F__law_drawn_deals.kp T.b__law_drawn_deals (a_cons (xv 0) (a_cons (xv 1) (a_cons (xv 9) (a_cons (xv 3) a_nil))))) a_nil)))))))))) 1 true
theorem ok__law_same (T : Facts K mg) : ∀ d : Nat, FnOk P w K mg base CX0 (1 + d) T.a__law_same T.d__law_same ["told", "due"] (spM K 2 (F__law_same d))
  | 0 => fn_bad
  | d + 1 => FnOk.framed (fn_ok T.F__law_same sc__law_same fun cdv A outer s H E hr => by
    have ih := ok__law_same T d
    exact (s_cons (s_if (t_cmp op_isN f_isN (xv 1) x_non)
    (s_one (s_ret (x_cmp op_isN f_isN (xv 0) x_non)))
    s_nil)
    (s_cons (s_if (t_tru (x_callB o_isi f_isi (by rfl) T.m_isinstance bt_isinstance (a_cons (xv 1) (a_cons (x_ty (by rfl) T.m_bool bt_bool) a_nil))))
    (s_one (s_ret (x_and (x_callB o_isi f_isi (by rfl) T.m_isinstance bt_isinstance (a_cons (xv 0) (a_cons (x_ty (by rfl) T.m_bool bt_bool) a_nil))) (x_one (x_cmp (o_eq hr.units) f_eq (xv 0) (xv 1))))))
    s_nil)
    (s_cons (s_if (t_tru (x_callB o_isi f_isi (by rfl) T.m_isinstance bt_isinstance (a_cons (xv 1) (a_cons (x_ty (by rfl) T.m_int bt_int) a_nil))))
    (s_one (s_ret (x_and (x_callB o_isi f_isi (by rfl) T.m_isinstance bt_isinstance (a_cons (xv 0) (a_cons (x_ty (by rfl) T.m_int bt_int) a_nil))) (x_and (x_not (x_callB o_isi f_isi (by rfl) T.m_isinstance bt_isinstance (a_cons (xv 0) (a_cons (x_ty (by rfl) T.m_bool bt_bool) a_nil)))) (x_one (x_cmp (o_eq hr.units) f_eq (xv 0) (xv 1)))))))
    s_nil)
    (s_cons (s_if (t_tru (x_callB o_isi f_isi (by rfl) T.m_isinstance bt_isinstance (a_cons (xv 1) (a_cons (x_ty (by rfl) T.m_str bt_str) a_nil))))
    (s_one (s_ret (x_and (x_callB o_isi f_isi (by rfl) T.m_isinstance bt_isinstance (a_cons (xv 0) (a_cons (x_ty (by rfl) T.m_str bt_str) a_nil))) (x_one (x_cmp (o_eq hr.units) f_eq (xv 0) (xv 1))))))
    s_nil)
    (s_cons (s_if (PW.pt (t_or (t_not (t_tru (x_callB o_isi f_isi (by rfl) T.m_isinstance bt_isinstance (a_cons (xv 0) (a_cons (x_ty (by rfl) T.m_tuple bt_tuple) a_nil))))) (t_or1 (t_cmp (o_ne hr.units) f_ne (x_callB o_len f_len (by rfl) T.m_len bt_len (a_cons (xv 0) a_nil)) (x_callB o_len f_len (by rfl) T.m_len bt_len (a_cons (xv 1) a_nil))))))
    (s_one (s_ret x_bl))
    s_nil)
    (s_cons (s_for PassesOwn.never rfl (i_range1 (by rfl) T.m_range (a_cons (x_callB o_len f_len (by rfl) T.m_len bt_len (a_cons (xv 1) a_nil)) a_nil)) (g_name (i := 2) sc__law_same.nd rfl (by first | exact .inl rfl | exact .inr rfl))
    (s_one (s_if (t_not (t_tru (x_call ih hr (by rfl) T.g__law_same T.F__law_same.kp T.b__law_same (a_cons (x_ix o_ix f_ix (xv 0) (xv 2)) (a_cons (x_ix o_ix f_ix (xv 1) (xv 2)) a_nil)))))
    (s_one (s_ret x_bl))
    s_nil)))
    (s_one (s_ret x_bl))))))))) 0 true
theorem ok__law_names (T : Facts K mg) : FnOk P w K mg base CX0 2 T.a__law_names T.d__law_names ["tape", "many"] (spM K 2 F__law_names) :=
  FnOk.framed (fn_ok T.F__law_names sc__law_names fun cdv A outer s H E hr => (s_cons (s_set (i := 2) sc__law_names.nd rfl (by first | exact .inl rfl | exact .inr rfl) x_str)
    (s_cons (s_set (i := 3) sc__law_names.nd rfl (by first | exact .inl rfl | exact .inr rfl) (x_ix o_ix f_ix (x_lst true (a_cons x_str (a_cons x_str (a_cons x_str (a_cons x_str (a_cons x_str (a_cons x_str a_nil))))))) (x_call (ok__law_draw T) (hr.mono (by decide)) (by rfl) T.g__law_draw T.F__law_draw.kp T.b__law_draw (a_cons (xv 0) (a_cons x_int a_nil)))))
    (s_cons (s_set (i := 4) sc__law_names.nd rfl (by first | exact .inl rfl | exact .inr rfl) (x_call (ok__law_draw T) (hr.mono (by decide)) (by rfl) T.g__law_draw T.F__law_draw.kp T.b__law_draw (a_cons (xv 0) (a_cons x_int a_nil))))
    (s_cons (s_set (i := 5) sc__law_names.nd rfl (by first | exact .inl rfl | exact .inr rfl) (x_ix o_ix f_ix (x_lst true (a_cons x_int (a_cons x_int (a_cons x_int (a_cons x_int (a_cons x_int (a_cons x_int (a_cons x_int (a_cons x_int (a_cons x_int (a_cons x_int (a_cons x_int (a_cons x_int a_nil))))))))))))) (x_call (ok__law_draw T) (hr.mono (by decide)) (by rfl) T.g__law_draw T.F__law_draw.kp T.b__law_draw (a_cons (xv 0) (a_cons x_int a_nil)))))
    (s_cons (s_set (i := 6) sc__law_names.nd rfl (by first | exact .inl rfl | exact .inr rfl) (x_lst false a_nil))
    (s_cons (s_for PassesOwn.never rfl (i_range1 (by rfl) T.m_range (a_cons (xv 1) a_nil)) (g_name (i := 7) sc__law_names.nd rfl (by first | exact .inl rfl | exact .inr rfl))
    (s_cons (s_set (i := 8) sc__law_names.nd rfl (by first | exact .inl rfl | exact .inr rfl) (x_bin o_addA (f_addA true) (xv 3) (x_ix o_ix f_ix (xv 2) (x_bin op_mod f_mod (x_callT o_int f_int (by rfl) T.m_int bt_int (a_cons (x_bin o_addA (f_addA true) (xv 4) (x_bin op_mul f_mul (xv 7) (xv 5))) a_nil)) x_int))))
    (s_cons (s_if (t_cmp op_lt f_lt (x_callB o_len f_len (by rfl) T.m_len bt_len (a_cons (xv 3) a_nil)) x_int)
    (s_one (s_set (i := 8) sc__law_names.nd rfl (by first | exact .inl rfl | exact .inr rfl) (x_bin o_addA (f_addA true) (xv 8) (x_ix o_ix f_ix (x_lst true (a_cons x_str (a_cons x_str (a_cons x_str (a_cons x_str (a_cons x_str (a_cons x_str (a_cons x_str (a_cons x_str (a_cons x_str a_nil)))))))))) (x_call (ok__law_draw T) (hr.mono (by decide)) (by rfl) T.g__law_draw T.F__law_draw.kp T.b__law_draw (a_cons (xv 0) (a_cons x_int a_nil)))))))
    s_nil)
    (s_cons (s_if (t_cmp (o_in (hu65 hr)) f_in (xv 8) (x_lst true (a_cons x_str (a_cons x_str (a_cons x_str (a_cons x_str (a_cons x_str (a_cons x_str (a_cons x_str (a_cons x_str a_nil))))))))))
    (s_one (s_set (i := 8) sc__law_names.nd rfl (by first | exact .inl rfl | exact .inr rfl) (x_bin o_addA (f_addA true) (xv 8) x_str)))
    s_nil)
    (s_one (s_expr (x_meth PySem.F.plainAttrs_list PySem.F.slot_list_append PySem.F.type_list_append mt_append f_append ty_lst (xv 6) (a_cons (xv 8) a_nil))))))))
    (s_cons (s_if (t_cmp (o_eq hr.units) f_eq (x_call (ok__law_draw T) (hr.mono (by decide)) (by rfl) T.g__law_draw T.F__law_draw.kp T.b__law_draw (a_cons (xv 0) (a_cons x_int a_nil))) x_int)
    (s_cons (s_set (i := 9) sc__law_names.nd rfl (by first | exact .inl rfl | exact .inr rfl) (x_lst true (a_cons x_str (a_cons x_str (a_cons x_str (a_cons x_str (a_cons x_str (a_cons x_str (a_cons x_str (a_cons x_str a_nil))))))))))
    (s_one (s_set (i := 6) sc__law_names.nd rfl (by first | exact .inl rfl | exact .inr rfl) (x_bin o_addA (f_addA false) (x_lc true (own := [("k", 7)]) (p := (.nm 7)) rfl sc__law_names.nd (i_range1 (by rfl) T.m_range (a_cons (x_callB (o_min2 rfl) f_min2 (by rfl) T.m_min bt_min (a_cons (xv 1) (a_cons x_int a_nil))) a_nil)) (blkOk_by (N := N__law_names) (sc := defScope st__law_names) (by decide +kernel)) (by decide) (fun _ _ _ _ _ => (g_name (i := 7) sc__law_names.nd rfl (by first | exact .inl rfl | exact .inr rfl))) (fun _ _ _ _ _ => ts_nil) (fun _ _ _ _ _ => (x_ix o_ix f_ix (xv 9) (x_bin op_mod f_mod (x_callT o_int f_int (by rfl) T.m_int bt_int (a_cons (x_bin o_addA (f_addA true) (xv 4) (xv 7)) a_nil)) x_int)))) (x_sl o_slA (f_slA true) (xv 6) (o1 x_int) o0)))))
    s_nil)
    (s_one (s_ret (xv 6))))))))))) 1 true
theorem ok__law_entries (T : Facts K mg) : FnOk P w K mg base CX0 3 T.a__law_entries T.d__law_entries ["tape", "accounts"] (spM K 2 F__law_entries) :=
  FnOk.framed (fn_ok T.F__law_entries sc__law_entries fun cdv A outer s H E hr => (s_cons (s_setLc false (i := 2) (own := [("account", 3)]) (p := (.nm 3)) rfl sc__law_entries.nd rfl rfl (sw_true rfl rfl rfl (by decide +kernel)) (i_seq (xv 1)) (blkOk_by (N := N__law_entries) (sc := defScope st__law_entries) (by decide +kernel)) (by decide) (fun _ _ _ _ _ => (g_name (i := 3) sc__law_entries.nd rfl (by first | exact .inl rfl | exact .inr rfl))) (fun _ _ _ _ _ => (ts_one (t_cmp op_gt f_gt (x_call (ok__law_draw T) (hr.mono (by decide)) (by rfl) T.g__law_draw T.F__law_draw.kp T.b__law_draw (a_cons (xv 0) (a_cons x_int a_nil))) x_int))) (fun _ _ _ _ _ => (x_tup (a_cons (xv 3) (a_cons (x_call (ok__law_number T) (hr.mono (by decide)) (by rfl) T.g__law_number T.F__law_number.kp T.b__law_number (a_cons (xv 0) a_nil)) a_nil)))))
    (s_cons (s_if (t_cmp (o_eq hr.units) f_eq (x_call (ok__law_draw T) (hr.mono (by decide)) (by rfl) T.g__law_draw T.F__law_draw.kp T.b__law_draw (a_cons (xv 0) (a_cons x_int a_nil))) x_int)
    (s_one (s_expr (x_meth0 PySem.F.plainAttrs_list PySem.F.slot_list_reverse PySem.F.type_list_reverse mt_reverse f_reverse ty_lst (xv 2))))
    s_nil)
    (s_one (s_ret (x_callT o_tuple f_tuple (by rfl) T.m_tuple bt_tuple (a_cons (xv 2) a_nil))))))) 1 true
theorem ok__law_kind (T : Facts K mg) : FnOk P w K mg base CX0 27 T.a__law_kind T.d__law_kind ["tape", "name", "names", "accounts"] (spM K 4 F__law_kind) :=
  FnOk.framed (fn_ok T.F__law_kind sc__law_kind fun cdv A outer s H E hr => (s_cons (s_set (i := 4) sc__law_kind.nd rfl (by first | exact .inl rfl | exact .inr rfl) (x_call (ok__law_area T 24) (hr.mono (by decide)) (by rfl) T.g__law_area T.F__law_area.kp T.b__law_area (a_cons (xv 0) (a_cons (xv 2) (a_cons x_int a_nil)))))
    (s_cons (s_set (i := 5) sc__law_kind.nd rfl (by first | exact .inl rfl | exact .inr rfl) (x_call (ok__law_area T 24) (hr.mono (by decide)) (by rfl) T.g__law_area T.F__law_area.kp T.b__law_area (a_cons (xv 0) (a_cons (xv 2) (a_cons x_int a_nil)))))
    (s_cons (s_set (i := 6) sc__law_kind.nd rfl (by first | exact .inl rfl | exact .inr rfl) (x_call (ok__law_entries T) (hr.mono (by decide)) (by rfl) T.g__law_entries T.F__law_entries.kp T.b__law_entries (a_cons (xv 0) (a_cons (xv 3) a_nil))))
    (s_cons (s_set (i := 7) sc__law_kind.nd rfl (by first | exact .inl rfl | exact .inr rfl) (x_call (ok__law_draw T) (hr.mono (by decide)) (by rfl) T.g__law_draw T.F__law_draw.kp T.b__law_draw (a_cons (xv 0) (a_cons x_int a_nil))))
    (s_cons (s_if (t_cmp (o_eq hr.units) f_eq (xv 7) x_int)
    (s_one (s_ret (x_tup (a_cons (xv 1) (a_cons (xv 4) (a_cons (xv 6) (a_cons (xv 5) (a_cons (x_call (ok__law_entries T) (hr.mono (by decide)) (by rfl) T.g__law_entries T.F__law_entries.kp T.b__law_entries (a_cons (xv 0) (a_cons (xv 3) a_nil))) a_nil))))))))
    s_nil)
    (s_cons (s_setLc true (i := 8) (own := [("pair", 9)]) (p := (.nm 9)) rfl sc__law_kind.nd rfl rfl (sw_true rfl rfl rfl (by decide +kernel)) (i_seq (xv 6)) (blkOk_by (N := N__law_kind) (sc := defScope st__law_kind) (by decide +kernel)) (by decide) (fun _ _ _ _ _ => (g_name (i := 9) sc__law_kind.nd rfl (by first | exact .inl rfl | exact .inr rfl))) (fun _ _ _ _ _ => ts_nil) (fun _ _ _ _ _ => (x_tup (a_cons (x_ix o_ix f_ix (xv 9) x_int) (a_cons (x_un un_neg f_neg (x_ix o_ix f_ix (xv 9) x_int)) a_nil)))))
    (s_cons (s_if (t_cmp (o_eq hr.units) f_eq (xv 7) x_int)
    (s_one (s_set (i := 8) sc__law_kind.nd rfl (by first | exact .inl rfl | exact .inr rfl) (x_sl o_slA (f_slA true) (xv 8) (o1 x_int) o0)))
    s_nil)
    (s_one (s_ret (x_tup (a_cons (xv 1) (a_cons (xv 4) (a_cons (xv 6) (a_cons (xv 5) (a_cons (x_callT o_tuple f_tuple (by rfl) T.m_tuple bt_tuple (a_cons (xv 8) a_nil)) a_nil)))))))))))))))) 1 true
theorem ok__law_exactly (T : Facts K mg) : FnOk P w K mg base CX0 1 T.a__law_exactly T.d__law_exactly ["model", "profile"] (spM K 2 F__law_exactly) :=
  FnOk.framed (fn_ok T.F__law_exactly sc__law_exactly fun cdv A outer s H E hr => (s_cons (s_set (i := 2) sc__law_exactly.nd rfl (by first | exact .inl rfl | exact .inr rfl) (x_tup (a_cons x_str a_nil)))
    (s_cons (s_for PassesOwn.never rfl (i_range1 (by rfl) T.m_range (a_cons (x_callB o_len f_len (by rfl) T.m_len bt_len (a_cons (x_ix o_ix f_ix (xv 0) x_int) a_nil)) a_nil)) (g_name (i := 3) sc__law_exactly.nd rfl (by first | exact .inl rfl | exact .inr rfl))
    (s_cons (s_set (i := 4) sc__law_exactly.nd rfl (by first | exact .inl rfl | exact .inr rfl) (x_tup (a_cons x_str (a_cons (x_ix o_ix f_ix (x_ix o_ix f_ix (xv 0) x_int) (xv 3)) a_nil))))
    (s_cons (s_if (t_cmp (o_eq hr.units) f_eq (x_bin op_mod f_mod (x_callT o_int f_int (by rfl) T.m_int bt_int (a_cons (x_bin op_fdiv f_div (xv 1) (x_ix o_ix f_ix (x_lst true (a_cons x_int (a_cons x_int (a_cons x_int a_nil)))) (xv 3))) a_nil)) x_int) x_int)
    (s_one (s_set (i := 4) sc__law_exactly.nd rfl (by first | exact .inl rfl | exact .inr rfl) (x_tup (a_cons x_str (a_cons (xv 4) a_nil)))))
    s_nil)
    (s_one (s_if (t_cmp (o_eq hr.units) f_eq (xv 3) x_int)
    (s_one (s_set (i := 2) sc__law_exactly.nd rfl (by first | exact .inl rfl | exact .inr rfl) (xv 4)))
    (s_one (s_set (i := 2) sc__law_exactly.nd rfl (by first | exact .inl rfl | exact .inr rfl) (x_tup (a_cons x_str (a_cons (xv 2) (a_cons (xv 4) a_nil)))))))))))
    (s_one (s_ret (xv 2)))))) 0 true
theorem ok__law_narrow (T : Facts K mg) : FnOk P w K mg base CX0 2 T.a__law_narrow T.d__law_narrow ["tape", "names", "area"] (spM K 3 F__law_narrow) :=
  FnOk.framed (fn_ok T.F__law_narrow sc__law_narrow fun cdv A outer s H E hr => (s_cons (s_set (i := 3) sc__law_narrow.nd rfl (by first | exact .inl rfl | exact .inr rfl) (x_call (ok__law_draw T) (hr.mono (by decide)) (by rfl) T.g__law_draw T.F__law_draw.kp T.b__law_draw (a_cons (xv 0) (a_cons (x_callB (o_max2 rfl) f_max2 (by rfl) T.m_max bt_max (a_cons (x_callB o_len f_len (by rfl) T.m_len bt_len (a_cons (xv 1) a_nil)) (a_cons x_int a_nil))) a_nil))))
    (s_cons (s_for PassesOwn.never rfl (i_range1 (by rfl) T.m_range (a_cons (x_bin op_sub f_sub (x_callB o_len f_len (by rfl) T.m_len bt_len (a_cons (xv 1) a_nil)) x_int) a_nil)) (g_name (i := 4) sc__law_narrow.nd rfl (by first | exact .inl rfl | exact .inr rfl))
    (s_cons (s_set (i := 5) sc__law_narrow.nd rfl (by first | exact .inl rfl | exact .inr rfl) (x_tup (a_cons x_str (a_cons (x_ix o_ix f_ix (xv 1) (x_bin op_mod f_mod (x_callT o_int f_int (by rfl) T.m_int bt_int (a_cons (x_bin o_addA (f_addA true) (xv 3) (xv 4)) a_nil)) (x_callB o_len f_len (by rfl) T.m_len bt_len (a_cons (xv 1) a_nil)))) a_nil))))
    (s_cons (s_if (t_cmp (o_eq hr.units) f_eq (x_call (ok__law_draw T) (hr.mono (by decide)) (by rfl) T.g__law_draw T.F__law_draw.kp T.b__law_draw (a_cons (xv 0) (a_cons x_int a_nil))) x_int)
    (s_one (s_set (i := 5) sc__law_narrow.nd rfl (by first | exact .inl rfl | exact .inr rfl) (x_tup (a_cons x_str (a_cons (xv 5) a_nil)))))
    s_nil)
    (s_one (s_set (i := 2) sc__law_narrow.nd rfl (by first | exact .inl rfl | exact .inr rfl) (x_tup (a_cons x_str (a_cons (xv 2) (a_cons (xv 5) a_nil)))))))))
    (s_one (s_ret (xv 2)))))) 1 true
theorem ok__law_short (T : Facts K mg) : FnOk P w K mg base CX0 29 T.a__law_short T.d__law_short ["tape", "names", "accounts"] (spM K 3 F__law_short) :=
  FnOk.framed (fn_ok T.F__law_short sc__law_short fun cdv A outer s H E hr => (s_cons (s_set (i := 3) sc__law_short.nd rfl (by first | exact .inl rfl | exact .inr rfl) (x_call (ok__law_constraint T) (hr.mono (by decide)) (by rfl) T.g__law_constraint T.F__law_constraint.kp T.b__law_constraint (a_cons (xv 0) (a_cons (xv 1) (a_cons (xv 2) a_nil)))))
    (s_cons (s_if (t_cmp (o_eq hr.units) f_eq (x_ix o_ix f_ix (xv 3) x_int) x_str)
    (s_one (s_ret (x_tup (a_cons x_str (a_cons (x_sl o_slA (f_slA true) (x_ix o_ix f_ix (xv 3) x_int) o0 (o1 x_int)) (a_cons (x_ix o_ix f_ix (xv 3) x_int) a_nil))))))
    s_nil)
    (s_one (s_ret (x_tup (a_cons x_str (a_cons (x_call (ok__law_narrow T) (hr.mono (by decide)) (by rfl) T.g__law_narrow T.F__law_narrow.kp T.b__law_narrow (a_cons (xv 0) (a_cons (xv 1) (a_cons (x_ix o_ix f_ix (xv 3) x_int) a_nil)))) (a_cons (x_sl o_slA (f_slA true) (x_ix o_ix f_ix (xv 3) x_int) o0 (o1 x_int)) (a_cons (x_ix o_ix f_ix (xv 3) x_int) a_nil)))))))))) 1 true
theorem ok__law_scene (T : Facts K mg) : FnOk P w K mg base CX0 30 T.a__law_scene T.d__law_scene ["tape", "full"] (spM K 2 F__law_scene) :=
  FnOk.framed (fn_ok T.F__law_scene sc__law_scene fun cdv A outer s H E hr => (s_cons (s_set (i := 2) sc__law_scene.nd rfl (by first | exact .inl rfl | exact .inr rfl) (x_callT o_tuple f_tuple (by rfl) T.m_tuple bt_tuple (a_cons (x_call (ok__law_names T) (hr.mono (by decide)) (by rfl) T.g__law_names T.F__law_names.kp T.b__law_names (a_cons (xv 0) (a_cons (x_ix o_ix f_ix (x_lst true (a_cons (x_bin o_addA (f_addA true) x_int (x_call (ok__law_draw T) (hr.mono (by decide)) (by rfl) T.g__law_draw T.F__law_draw.kp T.b__law_draw (a_cons (xv 0) (a_cons x_int a_nil)))) (a_cons x_int a_nil))) (xv 1)) a_nil))) a_nil)))
    (s_cons (s_set (i := 3) sc__law_scene.nd rfl (by first | exact .inl rfl | exact .inr rfl) (x_callT o_tuple f_tuple (by rfl) T.m_tuple bt_tuple (a_cons (x_call (ok__law_names T) (hr.mono (by decide)) (by rfl) T.g__law_names T.F__law_names.kp T.b__law_names (a_cons (xv 0) (a_cons (x_ix o_ix f_ix (x_lst true (a_cons (x_bin o_addA (f_addA true) x_int (x_call (ok__law_draw T) (hr.mono (by decide)) (by rfl) T.g__law_draw T.F__law_draw.kp T.b__law_draw (a_cons (xv 0) (a_cons x_int a_nil)))) (a_cons x_int a_nil))) (xv 1)) a_nil))) a_nil)))
    (s_cons (s_set (i := 4) sc__law_scene.nd rfl (by first | exact .inl rfl | exact .inr rfl) (x_call (ok__law_names T) (hr.mono (by decide)) (by rfl) T.g__law_names T.F__law_names.kp T.b__law_names (a_cons (xv 0) (a_cons x_int a_nil))))
    (s_cons (s_set (i := 5) sc__law_scene.nd rfl (by first | exact .inl rfl | exact .inr rfl) (x_tup (a_cons (xv 2) (a_cons (xv 3) (a_cons (x_tup a_nil) (a_cons (x_tup a_nil) (a_cons (x_tup a_nil) a_nil)))))))
    (s_cons (s_setLc true (i := 6) (own := [("k", 7)]) (p := (.nm 7)) rfl sc__law_scene.nd rfl rfl (sw_true rfl rfl rfl (by decide +kernel)) (i_range1 (by rfl) T.m_range (a_cons x_int a_nil)) (blkOk_by (N := N__law_scene) (sc := defScope st__law_scene) (by decide +kernel)) (by decide) (fun _ _ _ _ _ => (g_name (i := 7) sc__law_scene.nd rfl (by first | exact .inl rfl | exact .inr rfl))) (fun _ _ _ _ _ => ts_nil) (fun _ _ _ _ _ => (x_call (ok__law_exactly T) (hr.mono (by decide)) (by rfl) T.g__law_exactly T.F__law_exactly.kp T.b__law_exactly (a_cons (xv 5) (a_cons (x_call (ok__law_draw T) (hr.mono (by decide)) (by rfl) T.g__law_draw T.F__law_draw.kp T.b__law_draw (a_cons (xv 0) (a_cons (x_call (ok__law_size T) (hr.mono (by decide)) (by rfl) T.g__law_size T.F__law_size.kp T.b__law_size (a_cons (xv 5) a_nil)) a_nil))) a_nil)))))
    (s_cons (s_set (i := 8) sc__law_scene.nd rfl (by first | exact .inl rfl | exact .inr rfl) (x_lst false a_nil))
    (s_cons (s_for PassesOwn.never rfl (i_range1 (by rfl) T.m_range (a_cons (x_ix o_ix f_ix (x_lst true (a_cons (x_bin o_addA (f_addA true) x_int (x_call (ok__law_draw T) (hr.mono (by decide)) (by rfl) T.g__law_draw T.F__law_draw.kp T.b__law_draw (a_cons (xv 0) (a_cons x_int a_nil)))) (a_cons x_int a_nil))) (xv 1)) a_nil)) (g_name (i := 7) sc__law_scene.nd rfl (by first | exact .inl rfl | exact .inr rfl))
    (s_cons (s_set (i := 9) sc__law_scene.nd rfl (by first | exact .inl rfl | exact .inr rfl) (x_call (ok__law_kind T) (hr.mono (by decide)) (by rfl) T.g__law_kind T.F__law_kind.kp T.b__law_kind (a_cons (xv 0) (a_cons (x_ix o_ix f_ix (xv 4) (xv 7)) (a_cons (xv 2) (a_cons (xv 3) a_nil))))))
    (s_cons (s_set (i := 10) sc__law_scene.nd rfl (by first | exact .inl rfl | exact .inr rfl) (x_ix o_ix f_ix (xv 6) (x_call (ok__law_draw T) (hr.mono (by decide)) (by rfl) T.g__law_draw T.F__law_draw.kp T.b__law_draw (a_cons (xv 0) (a_cons x_int a_nil)))))
    (s_one (s_expr (x_meth PySem.F.plainAttrs_list PySem.F.slot_list_append PySem.F.type_list_append mt_append f_append ty_lst (xv 8) (a_cons (x_tup (a_cons (x_ix o_ix f_ix (xv 4) (xv 7)) (a_cons (xv 10) (a_cons (x_ix o_ix f_ix (xv 9) x_int) (a_cons (x_ix o_ix f_ix (xv 6) (x_call (ok__law_draw T) (hr.mono (by decide)) (by rfl) T.g__law_draw T.F__law_draw.kp T.b__law_draw (a_cons (xv 0) (a_cons x_int a_nil)))) (a_cons (x_ix o_ix f_ix (xv 9) x_int) a_nil)))))) a_nil)))))))
    (s_cons (s_set (i := 11) sc__law_scene.nd rfl (by first | exact .inl rfl | exact .inr rfl) (x_ix o_ix f_ix (x_lst true (a_cons (x_callT o_int f_int (by rfl) T.m_int bt_int (a_cons (x_cmp (o_eq hr.units) f_eq (x_call (ok__law_draw T) (hr.mono (by decide)) (by rfl) T.g__law_draw T.F__law_draw.kp T.b__law_draw (a_cons (xv 0) (a_cons x_int a_nil))) x_int) a_nil)) (a_cons (x_bin o_addA (f_addA true) x_int (x_call (ok__law_draw T) (hr.mono (by decide)) (by rfl) T.g__law_draw T.F__law_draw.kp T.b__law_draw (a_cons (xv 0) (a_cons x_int a_nil)))) a_nil))) (xv 1)))
    (s_cons (s_set (i := 12) sc__law_scene.nd rfl (by first | exact .inl rfl | exact .inr rfl) (x_callT o_tuple f_tuple (by rfl) T.m_tuple bt_tuple (a_cons (x_lc true (own := [("k", 7)]) (p := (.nm 7)) rfl sc__law_scene.nd (i_range1 (by rfl) T.m_range (a_cons (xv 11) a_nil)) (blkOk_by (N := N__law_scene) (sc := defScope st__law_scene) (by decide +kernel)) (by decide) (fun _ _ _ _ _ => (g_name (i := 7) sc__law_scene.nd rfl (by first | exact .inl rfl | exact .inr rfl))) (fun _ _ _ _ _ => ts_nil) (fun _ _ _ _ _ => (x_tup (a_cons (x_ix o_ix f_ix (xv 4) (x_bin o_addA (f_addA true) x_int (xv 7))) (a_cons (x_call (ok__law_short T) (hr.mono (by decide)) (by rfl) T.g__law_short T.F__law_short.kp T.b__law_short (a_cons (xv 0) (a_cons (xv 2) (a_cons (xv 3) a_nil)))) a_nil))))) a_nil)))
    (s_one (s_ret (x_tup (a_cons (xv 2) (a_cons (xv 3) (a_cons (x_callT o_tuple f_tuple (by rfl) T.m_tuple bt_tuple (a_cons (xv 8) a_nil)) (a_cons (xv 12) (a_cons (x_tup a_nil) a_nil)))))))))))))))))) 1 true
theorem ok__law_world (T : Facts K mg) : FnOk P w K mg base CX0 31 T.a__law_world T.d__law_world ["tape"] (spM K 1 F__law_world) :=
  FnOk.framed (fn_ok T.F__law_world sc__law_world fun cdv A outer s H E hr => (s_cons (s_set (i := 1) sc__law_world.nd rfl (by first | exact .inl rfl | exact .inr rfl) (x_call (ok__law_draw T) (hr.mono (by decide)) (by rfl) T.g__law_draw T.F__law_draw.kp T.b__law_draw (a_cons (xv 0) (a_cons x_int a_nil))))
    (s_cons (s_if (t_cmp op_lt f_lt (xv 1) x_int)
    (s_one (s_ret (x_call (ok__law_scene T) (hr.mono (by decide)) (by rfl) T.g__law_scene T.F__law_scene.kp T.b__law_scene (a_cons (xv 0) (a_cons (x_callT o_int f_int (by rfl) T.m_int bt_int (a_cons (x_cmp (o_eq hr.units) f_eq (xv 1) x_int) a_nil)) a_nil)))))
    s_nil)
    (s_cons (s_set (i := 2) sc__law_world.nd rfl (by first | exact .inl rfl | exact .inr rfl) (x_callT o_tuple f_tuple (by rfl) T.m_tuple bt_tuple (a_cons (x_call (ok__law_names T) (hr.mono (by decide)) (by rfl) T.g__law_names T.F__law_names.kp T.b__law_names (a_cons (xv 0) (a_cons (x_ix o_ix f_ix (x_lst true (a_cons x_int (a_cons x_int (a_cons x_int (a_cons x_int (a_cons x_int (a_cons x_int (a_cons x_int a_nil)))))))) (x_call (ok__law_draw T) (hr.mono (by decide)) (by rfl) T.g__law_draw T.F__law_draw.kp T.b__law_draw (a_cons (xv 0) (a_cons x_int a_nil)))) a_nil))) a_nil)))
    (s_cons (s_set (i := 3) sc__law_world.nd rfl (by first | exact .inl rfl | exact .inr rfl) (x_callT o_tuple f_tuple (by rfl) T.m_tuple bt_tuple (a_cons (x_call (ok__law_names T) (hr.mono (by decide)) (by rfl) T.g__law_names T.F__law_names.kp T.b__law_names (a_cons (xv 0) (a_cons (x_ix o_ix f_ix (x_lst true (a_cons x_int (a_cons x_int (a_cons x_int (a_cons x_int (a_cons x_int (a_cons x_int a_nil))))))) (x_call (ok__law_draw T) (hr.mono (by decide)) (by rfl) T.g__law_draw T.F__law_draw.kp T.b__law_draw (a_cons (xv 0) (a_cons x_int a_nil)))) a_nil))) a_nil)))
    (s_cons (s_set (i := 4) sc__law_world.nd rfl (by first | exact .inl rfl | exact .inr rfl) (x_call (ok__law_names T) (hr.mono (by decide)) (by rfl) T.g__law_names T.F__law_names.kp T.b__law_names (a_cons (xv 0) (a_cons x_int a_nil))))
    (s_cons (s_set (i := 5) sc__law_world.nd rfl (by first | exact .inl rfl | exact .inr rfl) (x_lst false a_nil))
    (s_cons (s_for PassesOwn.never rfl (i_range1 (by rfl) T.m_range (a_cons (x_ix o_ix f_ix (x_lst true (a_cons x_int (a_cons x_int (a_cons x_int (a_cons x_int (a_cons x_int (a_cons x_int (a_cons x_int (a_cons x_int (a_cons x_int (a_cons x_int a_nil))))))))))) (x_call (ok__law_draw T) (hr.mono (by decide)) (by rfl) T.g__law_draw T.F__law_draw.kp T.b__law_draw (a_cons (xv 0) (a_cons x_int a_nil)))) a_nil)) (g_name (i := 6) sc__law_world.nd rfl (by first | exact .inl rfl | exact .inr rfl))
    (s_cons (s_set (i := 7) sc__law_world.nd rfl (by first | exact .inl rfl | exact .inr rfl) (x_call (ok__law_kind T) (hr.mono (by decide)) (by rfl) T.g__law_kind T.F__law_kind.kp T.b__law_kind (a_cons (xv 0) (a_cons (x_ix o_ix f_ix (xv 4) (xv 6)) (a_cons (xv 2) (a_cons (xv 3) a_nil))))))
    (s_cons (s_if (PW.pt (t_or (t_cmp op_gt f_gt (xv 6) x_int) (t_or1 (t_cmp op_gt f_gt (x_callB o_len f_len (by rfl) T.m_len bt_len (a_cons (xv 2) a_nil)) x_int))))
    (s_cons (s_set (i := 8) sc__law_world.nd rfl (by first | exact .inl rfl | exact .inr rfl) (x_call (ok__law_narrow T) (hr.mono (by decide)) (by rfl) T.g__law_narrow T.F__law_narrow.kp T.b__law_narrow (a_cons (xv 0) (a_cons (xv 2) (a_cons (x_ix o_ix f_ix (xv 7) x_int) a_nil)))))
    (s_one (s_set (i := 7) sc__law_world.nd rfl (by first | exact .inl rfl | exact .inr rfl) (x_tup (a_cons (x_ix o_ix f_ix (xv 7) x_int) (a_cons (xv 8) (a_cons (x_ix o_ix f_ix (xv 7) x_int) (a_cons (x_call (ok__law_narrow T) (hr.mono (by decide)) (by rfl) T.g__law_narrow T.F__law_narrow.kp T.b__law_narrow (a_cons (xv 0) (a_cons (xv 2) (a_cons (x_ix o_ix f_ix (xv 7) x_int) a_nil)))) (a_cons (x_ix o_ix f_ix (xv 7) x_int) a_nil)))))))))
    s_nil)
    (s_one (s_expr (x_meth PySem.F.plainAttrs_list PySem.F.slot_list_append PySem.F.type_list_append mt_append f_append ty_lst (xv 5) (a_cons (xv 7) a_nil)))))))
    (s_cons (s_set (i := 9) sc__law_world.nd rfl (by first | exact .inl rfl | exact .inr rfl) (x_tup a_nil))
    (s_cons (s_if (t_cmp (o_eq hr.units) f_eq (x_call (ok__law_draw T) (hr.mono (by decide)) (by rfl) T.g__law_draw T.F__law_draw.kp T.b__law_draw (a_cons (xv 0) (a_cons x_int a_nil))) x_int)
    (s_one (s_set (i := 9) sc__law_world.nd rfl (by first | exact .inl rfl | exact .inr rfl) (x_tup (a_cons (x_tup (a_cons (x_ix o_ix f_ix (xv 4) x_int) (a_cons (x_call (ok__law_short T) (hr.mono (by decide)) (by rfl) T.g__law_short T.F__law_short.kp T.b__law_short (a_cons (xv 0) (a_cons (xv 2) (a_cons (xv 3) a_nil)))) a_nil))) a_nil))))
    s_nil)
    (s_one (s_ret (x_tup (a_cons (xv 2) (a_cons (xv 3) (a_cons (x_callT o_tuple f_tuple (by rfl) T.m_tuple bt_tuple (a_cons (xv 5) a_nil)) (a_cons (xv 9) (a_cons (x_tup a_nil) a_nil)))))))))))))))))) 1 true
theorem ok__law_loose (T : Facts K mg) : FnOk P w K mg base CX0 1 T.a__law_loose T.d__law_loose ["constraint"] (spM K 1 F__law_loose) :=
  FnOk.framed (fn_ok T.F__law_loose sc__law_loose fun cdv A outer s H E hr => (s_one (s_ret (x_bin o_addA (f_addA true) (x_sl o_slA (f_slA true) (xv 0) o0 (o1 (x_bin op_sub f_sub (x_callB o_len f_len (by rfl) T.m_len bt_len (a_cons (xv 0) a_nil)) x_int))) (x_tup (a_cons x_str a_nil)))))) 0 true
theorem ok__law_sector_text (T : Facts K mg) : ∀ d : Nat, FnOk P w K mg base CX0 (1 + d) T.a__law_sector_text T.d__law_sector_text ["sector", "level"] (spM K 2 (F__law_sector_text d))
  | 0 => fn_bad
  | d + 1 => FnOk.framed (fn_ok T.F__law_sector_text sc__law_sector_text fun cdv A outer s H E hr => by
    have ih := ok__law_sector_text T d
    exact (s_cons (s_if (t_cmp (o_eq hr.units) f_eq (x_ix o_ix f_ix (xv 0) x_int) x_str)
    (s_one (s_ret (x_ix o_ix f_ix (xv 0) x_int)))
    s_nil)
    (s_cons (s_if (t_cmp (o_in (hu65 hr)) f_in (x_ix o_ix f_ix (xv 0) x_int) (x_lst true (a_cons x_str (a_cons x_str a_nil))))
    (s_one (s_ret (x_ix o_ix f_ix (xv 0) x_int)))
    s_nil)
    (s_cons (s_set (i := 2) sc__law_sector_text.nd rfl (by first | exact .inl rfl | exact .inr rfl) (x_meth PySem.F.plainAttrs_list PySem.F.slot_list_index PySem.F.type_list_index mt_index f_index ty_lst (x_lst true (a_cons x_str (a_cons x_str (a_cons x_str a_nil)))) (a_cons (x_ix o_ix f_ix (xv 0) x_int) a_nil)))
    (s_cons (s_if (t_cmp (o_eq hr.units) f_eq (xv 2) x_int)
    (s_one (s_set (i := 3) sc__law_sector_text.nd rfl (by first | exact .inl rfl | exact .inr rfl) (x_bin o_addA (f_addA true) x_str (x_call ih hr (by rfl) T.g__law_sector_text T.F__law_sector_text.kp T.b__law_sector_text (a_cons (x_ix o_ix f_ix (xv 0) x_int) (a_cons x_int a_nil))))))
    (s_one (s_set (i := 3) sc__law_sector_text.nd rfl (by first | exact .inl rfl | exact .inr rfl) (x_bin o_addA (f_addA true) (x_bin o_addA (f_addA true) (x_bin o_addA (f_addA true) (x_bin o_addA (f_addA true) (x_call ih hr (by rfl) T.g__law_sector_text T.F__law_sector_text.kp T.b__law_sector_text (a_cons (x_ix o_ix f_ix (xv 0) x_int) (a_cons (xv 2) a_nil))) x_str) (x_ix o_ix f_ix (xv 0) x_int)) x_str) (x_call ih hr (by rfl) T.g__law_sector_text T.F__law_sector_text.kp T.b__law_sector_text (a_cons (x_ix o_ix f_ix (xv 0) x_int) (a_cons (x_bin o_addA (f_addA true) (xv 2) x_int) a_nil)))))))
    (s_cons (s_if (t_cmp op_lt f_lt (xv 2) (xv 1))
    (s_one (s_ret (x_bin o_addA (f_addA true) (x_bin o_addA (f_addA true) x_str (xv 3)) x_str)))
    s_nil)
    (s_one (s_ret (xv 3))))))))) 0 true
theorem ok__law_times (T : Facts K mg) : FnOk P w K mg base CX0 1 T.a__law_times T.d__law_times ["number", "name"] (spM K 2 F__law_times) :=
  FnOk.framed (fn_ok T.F__law_times sc__law_times fun cdv A outer s H E hr => (s_cons (s_if (t_cmp (o_eq hr.units) f_eq (x_callB o_abs f_abs (by rfl) T.m_abs bt_abs (a_cons (xv 0) a_nil)) x_int)
    (s_one (s_ret (xv 1)))
    s_nil)
    (s_one (s_ret (x_bin o_addA (f_addA true) (x_bin o_addA (f_addA true) (x_callT o_str f_str (by rfl) T.m_str bt_str (a_cons (x_callB o_abs f_abs (by rfl) T.m_abs bt_abs (a_cons (xv 0) a_nil)) a_nil)) x_str) (xv 1)))))) 0 true
theorem ok__law_constraint_text (T : Facts K mg) : FnOk P w K mg base CX0 26 T.a__law_constraint_text T.d__law_constraint_text ["constraint"] (spM K 1 F__law_constraint_text) :=
  FnOk.framed (fn_ok T.F__law_constraint_text sc__law_constraint_text fun cdv A outer s H E hr => (s_cons (s_set (i := 1) sc__law_constraint_text.nd rfl (by first | exact .inl rfl | exact .inr rfl) (x_ix o_ix f_ix (xv 0) x_int))
    (s_cons (s_set (i := 2) sc__law_constraint_text.nd rfl (by first | exact .inl rfl | exact .inr rfl) x_str)
    (s_cons (s_if (t_cmp (o_eq hr.units) f_eq (x_ix o_ix f_ix (xv 0) x_int) x_str)
    (s_one (s_set (i := 1) sc__law_constraint_text.nd rfl (by first | exact .inl rfl | exact .inr rfl) (x_ix o_ix f_ix (xv 0) x_int)))
    s_nil)
    (s_cons (s_for PassesOwn.never rfl (i_range1 (by rfl) T.m_range (a_cons (x_callB o_len f_len (by rfl) T.m_len bt_len (a_cons (xv 1) a_nil)) a_nil)) (g_name (i := 3) sc__law_constraint_text.nd rfl (by first | exact .inl rfl | exact .inr rfl))
    (s_cons (s_set (i := 4) sc__law_constraint_text.nd rfl (by first | exact .inl rfl | exact .inr rfl) (x_ix o_ix f_ix (x_ix o_ix f_ix (x_lst true (a_cons (x_lst true (a_cons x_str (a_cons x_str a_nil))) (a_cons (x_lst true (a_cons x_str (a_cons x_str a_nil))) a_nil))) (x_callT o_int f_int (by rfl) T.m_int bt_int (a_cons (x_cmp op_gt f_gt (xv 3) x_int) a_nil))) (x_callT o_int f_int (by rfl) T.m_int bt_int (a_cons (x_cmp op_lt f_lt (x_ix o_ix f_ix (x_ix o_ix f_ix (xv 1) (xv 3)) x_int) x_int) a_nil))))
    (s_cons (s_set (i := 2) sc__law_constraint_text.nd rfl (by first | exact .inl rfl | exact .inr rfl) (x_bin o_addA (f_addA true) (x_bin o_addA (f_addA true) (xv 2) (xv 4)) (x_call (ok__law_times T) (hr.mono (by decide)) (by rfl) T.g__law_times T.F__law_times.kp T.b__law_times (a_cons (x_ix o_ix f_ix (x_ix o_ix f_ix (xv 1) (xv 3)) x_int) (a_cons (x_ix o_ix f_ix (x_ix o_ix f_ix (xv 1) (xv 3)) x_int) a_nil)))))
    (s_one (s_if (t_cmp (o_eq hr.units) f_eq (x_ix o_ix f_ix (xv 0) x_int) x_str)
    (s_one (s_set (i := 2) sc__law_constraint_text.nd rfl (by first | exact .inl rfl | exact .inr rfl) (x_bin o_addA (f_addA true) (x_bin o_addA (f_addA true) (xv 2) x_str) (x_call (ok__law_sector_text T 24) (hr.mono (by decide)) (by rfl) T.g__law_sector_text T.F__law_sector_text.kp T.b__law_sector_text (a_cons (x_ix o_ix f_ix (x_ix o_ix f_ix (xv 1) (xv 3)) x_int) (a_cons x_int a_nil))))))
    s_nil)))))
    (s_cons (s_if (t_cmp (o_eq hr.units) f_eq (x_ix o_ix f_ix (xv 0) x_int) x_str)
    (s_one (s_set (i := 2) sc__law_constraint_text.nd rfl (by first | exact .inl rfl | exact .inr rfl) (x_bin o_addA (f_addA true) (x_bin o_addA (f_addA true) (x_bin o_addA (f_addA true) x_str (x_call (ok__law_sector_text T 24) (hr.mono (by decide)) (by rfl) T.g__law_sector_text T.F__law_sector_text.kp T.b__law_sector_text (a_cons (x_ix o_ix f_ix (xv 0) x_int) (a_cons x_int a_nil)))) x_str) (xv 2))))
    s_nil)
    (s_one (s_ret (x_bin o_addA (f_addA true) (x_bin o_addA (f_addA true) (x_bin o_addA (f_addA true) (xv 2) x_str) (x_ix o_ix f_ix (xv 0) (x_bin op_sub f_sub (x_callB o_len f_len (by rfl) T.m_len bt_len (a_cons (xv 0) a_nil)) x_int))) x_str))))))))) 0 true
theorem ok__law_claim_text (T : Facts K mg) : FnOk P w K mg base CX0 27 T.a__law_claim_text T.d__law_claim_text ["claim"] (spM K 1 F__law_claim_text) :=
  FnOk.framed (fn_ok T.F__law_claim_text sc__law_claim_text fun cdv A outer s H E hr => (s_cons (s_set (i := 1) sc__law_claim_text.nd rfl (by first | exact .inl rfl | exact .inr rfl) (x_call (ok__law_constraint_text T) (hr.mono (by decide)) (by rfl) T.g__law_constraint_text T.F__law_constraint_text.kp T.b__law_constraint_text (a_cons (x_ix o_ix f_ix (xv 0) x_int) a_nil)))
    (s_cons (s_if (t_cmp (o_eq hr.units) f_eq (x_ix o_ix f_ix (xv 0) x_int) (x_tup a_nil))
    (s_one (s_ret (xv 1)))
    s_nil)
    (s_one (s_ret (x_bin o_addA (f_addA true) (x_bin o_addA (f_addA true) (x_bin o_addA (f_addA true) x_str (x_meth PySem.F.plainAttrs_str PySem.F.slot_str_join PySem.F.type_str_join mt_join f_join ty_str x_str (a_cons (x_lc true (own := [("premise", 2)]) (p := (.nm 2)) rfl sc__law_claim_text.nd (i_seq (x_ix o_ix f_ix (xv 0) x_int)) (blkOk_by (N := N__law_claim_text) (sc := defScope st__law_claim_text) (by decide +kernel)) (by decide) (fun _ _ _ _ _ => (g_name (i := 2) sc__law_claim_text.nd rfl (by first | exact .inl rfl | exact .inr rfl))) (fun _ _ _ _ _ => ts_nil) (fun _ _ _ _ _ => (x_call (ok__law_constraint_text T) (hr.mono (by decide)) (by rfl) T.g__law_constraint_text T.F__law_constraint_text.kp T.b__law_constraint_text (a_cons (xv 2) a_nil)))) a_nil))) x_str) (xv 1))))))) 0 true
theorem okH__law_is_plain (T : Facts K mg) : FnHot P w K mg base 1 T.a__law_is_plain T.d__law_is_plain ["e"] (spM K 1 F__law_is_plain) :=
  FnHot.framed (fn_hot T.F__law_is_plain sc__law_is_plain fun cdv A outer s H E hr => (s_cons (s_set (i := 1) sc__law_is_plain.nd rfl (by first | exact .inl rfl | exact .inr rfl) (x_lst true (a_cons (x_isX (by rfl) T.m_isinstance bt_isinstance (xv 0) (pe_glob (v := .ref T.a_BadParticipant) (by rfl) T.g_BadParticipant rfl) (kt_BadParticipant T)) (a_cons (x_isX (by rfl) T.m_isinstance bt_isinstance (xv 0) (pe_glob (v := .ref T.a_BadTransaction) (by rfl) T.g_BadTransaction rfl) (kt_BadTransaction T)) (a_cons (x_isX (by rfl) T.m_isinstance bt_isinstance (xv 0) (pe_glob (v := .ref T.a_BadValue) (by rfl) T.g_BadValue rfl) (kt_BadValue T)) a_nil)))))
    (s_cons (s_set (i := 1) sc__law_is_plain.nd rfl (by first | exact .inl rfl | exact .inr rfl) (x_bin o_addA (f_addA true) (xv 1) (x_lst true (a_cons (x_isX (by rfl) T.m_isinstance bt_isinstance (xv 0) (pe_glob (v := .ref T.a_DoesNotHold) (by rfl) T.g_DoesNotHold rfl) (kt_DoesNotHold T)) (a_cons (x_isX (by rfl) T.m_isinstance bt_isinstance (xv 0) (pe_glob (v := .ref T.a_Mistakes) (by rfl) T.g_Mistakes rfl) (kt_Mistakes T)) (a_cons (x_isX (by rfl) T.m_isinstance bt_isinstance (xv 0) (pe_glob (v := .ref T.a_NeedsJournal) (by rfl) T.g_NeedsJournal rfl) (kt_NeedsJournal T)) a_nil))))))
    (s_cons (s_set (i := 1) sc__law_is_plain.nd rfl (by first | exact .inl rfl | exact .inr rfl) (x_bin o_addA (f_addA true) (xv 1) (x_lst true (a_cons (x_isX (by rfl) T.m_isinstance bt_isinstance (xv 0) (pe_glob (v := .ref T.a_NeedsModel) (by rfl) T.g_NeedsModel rfl) (kt_NeedsModel T)) (a_cons (x_isX (by rfl) T.m_isinstance bt_isinstance (xv 0) (pe_glob (v := .ref T.a_NotASum) (by rfl) T.g_NotASum rfl) (kt_NotASum T)) (a_cons (x_isX (by rfl) T.m_isinstance bt_isinstance (xv 0) (pe_glob (v := .ref T.a_NothingToRedo) (by rfl) T.g_NothingToRedo rfl) (kt_NothingToRedo T)) a_nil))))))
    (s_cons (s_set (i := 1) sc__law_is_plain.nd rfl (by first | exact .inl rfl | exact .inr rfl) (x_bin o_addA (f_addA true) (xv 1) (x_lst true (a_cons (x_isX (by rfl) T.m_isinstance bt_isinstance (xv 0) (pe_glob (v := .ref T.a_NothingToUndo) (by rfl) T.g_NothingToUndo rfl) (kt_NothingToUndo T)) (a_cons (x_isX (by rfl) T.m_isinstance bt_isinstance (xv 0) (pe_glob (v := .ref T.a_NotRefuted) (by rfl) T.g_NotRefuted rfl) (kt_NotRefuted T)) (a_cons (x_isX (by rfl) T.m_isinstance bt_isinstance (xv 0) (pe_glob (v := .ref T.a_ReadError) (by rfl) T.g_ReadError rfl) (kt_ReadError T)) a_nil))))))
    (s_cons (s_set (i := 1) sc__law_is_plain.nd rfl (by first | exact .inl rfl | exact .inr rfl) (x_bin o_addA (f_addA true) (xv 1) (x_lst true (a_cons (x_isX (by rfl) T.m_isinstance bt_isinstance (xv 0) (pe_glob (v := .ref T.a_TooMany) (by rfl) T.g_TooMany rfl) (kt_TooMany T)) (a_cons (x_isX (by rfl) T.m_isinstance bt_isinstance (xv 0) (pe_glob (v := .ref T.a_UnknownClaim) (by rfl) T.g_UnknownClaim rfl) (kt_UnknownClaim T)) a_nil)))))
    (s_one (s_ret (x_and (x_isX (by rfl) T.m_isinstance bt_isinstance (xv 0) (pe_glob (v := .ref T.a_ProofError) (by rfl) T.g_ProofError rfl) (kt_ProofError T)) (x_and (x_isX (by rfl) T.m_isinstance bt_isinstance (xv 0) (pe_bltn (v := .ty "ValueError") (by rfl) T.m_ValueError bt_ValueError rfl) (kt_ValueError T)) (x_one (x_cmp (o_eq hr.units) f_eq (x_meth PySem.F.plainAttrs_list PySem.F.slot_list_count PySem.F.type_list_count mt_lcountB f_countB ty_lst (xv 1) (a_cons x_bl a_nil)) x_int)))))))))))) 0 true
theorem ok__law_is_refused (T : Facts K mg) : FnOk P w K mg base CX0 5 T.a__law_is_refused T.d__law_is_refused ["claim", "constraint", "fraction"] (spM K 3 F__law_is_refused) :=
  FnOk.framed (fn_ok T.F__law_is_refused sc__law_is_refused fun cdv A outer s H E hr => (s_cons (s_tryX (i := 3) rfl rfl rfl sc__law_is_refused.nd rfl rfl ⟨by rfl, by decide, .inl T.g_NotASum⟩ takesE (et_NotASum T) (fun W pn xe t => x_callW (ok_raised T) t (hr.mono (by decide)) (by rfl) T.g_raised T.F_raised.kp T.b_raised (fun _ => (a_cons (xv 0) (a_cons (xv 1) (a_cons (xv 2) a_nil))))) (fun a pn => by
      have hr := roomS hr (some (.ref a))
      exact (s_one (s_ret (x_callH (okH__law_is_plain T) (hr.mono (by decide)) (by rfl) T.g__law_is_plain T.F__law_is_plain.kp T.b__law_is_plain (a_cons (xv 3) a_nil))))))
    (s_one (s_ret x_bl)))) 0 true
theorem ok__law_due_claim (T : Facts K mg) : FnOk P w K mg base CX0 1 T.a__law_due_claim T.d__law_due_claim ["rows", "total", "more", "fraction"] (spM K 4 F__law_due_claim) :=
  FnOk.framed (fn_ok T.F__law_due_claim sc__law_due_claim fun cdv A outer s H E hr => (s_cons (s_setLc true (i := 4) (own := [("term", 5)]) (p := (.nm 5)) rfl sc__law_due_claim.nd rfl rfl (sw_true rfl rfl rfl (by decide +kernel)) (i_seq (x_ix o_ix f_ix (xv 1) x_int)) (blkOk_by (N := N__law_due_claim) (sc := defScope st__law_due_claim) (by decide +kernel)) (by decide) (fun _ _ _ _ _ => (g_name (i := 5) sc__law_due_claim.nd rfl (by first | exact .inl rfl | exact .inr rfl))) (fun _ _ _ _ _ => ts_nil) (fun _ _ _ _ _ => (x_tup (a_cons (x_bin op_mul f_mul (x_ix o_ix f_ix (xv 3) x_int) (x_ix o_ix f_ix (xv 5) x_int)) (a_cons (x_ix o_ix f_ix (xv 5) x_int) (a_cons (x_ix o_ix f_ix (xv 5) x_int) a_nil))))))
    (s_cons (s_if (t_cmp op_gt f_gt (x_ix o_ix f_ix (xv 3) x_int) x_int)
    (s_one (s_set (i := 4) sc__law_due_claim.nd rfl (by first | exact .inl rfl | exact .inr rfl) (x_bin o_addA (f_addA true) (xv 4) (x_lc true (own := [("term", 5)]) (p := (.nm 5)) rfl sc__law_due_claim.nd (i_seq (x_ix o_ix f_ix (xv 2) x_int)) (blkOk_by (N := N__law_due_claim) (sc := defScope st__law_due_claim) (by decide +kernel)) (by decide) (fun _ _ _ _ _ => (g_name (i := 5) sc__law_due_claim.nd rfl (by first | exact .inl rfl | exact .inr rfl))) (fun _ _ _ _ _ => ts_nil) (fun _ _ _ _ _ => (x_tup (a_cons (x_bin op_mul f_mul (x_ix o_ix f_ix (xv 3) x_int) (x_ix o_ix f_ix (xv 5) x_int)) (a_cons (x_ix o_ix f_ix (xv 5) x_int) (a_cons (x_ix o_ix f_ix (xv 5) x_int) a_nil)))))))))
    s_nil)
    (s_one (s_ret (x_tup (a_cons (xv 0) (a_cons (x_tup (a_cons x_str (a_cons (x_callT o_tuple f_tuple (by rfl) T.m_tuple bt_tuple (a_cons (xv 4) a_nil)) (a_cons x_str a_nil)))) a_nil)))))))) 0 true
theorem ok__law_gcd (T : Facts K mg) : FnOk P w K mg base CX0 1 T.a__law_gcd T.d__law_gcd ["one", "two"] (spM K 2 F__law_gcd) :=
  FnOk.framed (fn_ok T.F__law_gcd sc__law_gcd fun cdv A outer s H E hr => (s_cons (s_set (i := 0) sc__law_gcd.nd rfl (by first | exact .inl rfl | exact .inr rfl) (x_callB o_abs f_abs (by rfl) T.m_abs bt_abs (a_cons (xv 0) a_nil)))
    (s_cons (s_set (i := 1) sc__law_gcd.nd rfl (by first | exact .inl rfl | exact .inr rfl) (x_callB o_abs f_abs (by rfl) T.m_abs bt_abs (a_cons (xv 1) a_nil)))
    (s_cons (s_while PassesOwn.never (t_cmp op_gt f_gt (xv 1) x_int)
    (s_cons (s_set (i := 2) sc__law_gcd.nd rfl (by first | exact .inl rfl | exact .inr rfl) (x_bin op_mod f_mod (x_callT o_int f_int (by rfl) T.m_int bt_int (a_cons (xv 0) a_nil)) (xv 1)))
    (s_cons (s_set (i := 0) sc__law_gcd.nd rfl (by first | exact .inl rfl | exact .inr rfl) (xv 1))
    (s_one (s_set (i := 1) sc__law_gcd.nd rfl (by first | exact .inl rfl | exact .inr rfl) (xv 2))))))
    (s_one (s_ret (xv 0))))))) 0 true
theorem ok__law_fraction (T : Facts K mg) : ∀ d : Nat, FnOk P w K mg base CX0 (2 + d) T.a__law_fraction T.d__law_fraction ["above", "below"] (spM K 2 (F__law_fraction d))
  | 0 => fn_bad
  | d + 1 => FnOk.framed (fn_ok T.F__law_fraction sc__law_fraction fun cdv A outer s H E hr => by
    have ih := ok__law_fraction T d
    exact (s_cons (s_if (t_cmp op_lt f_lt (xv 1) x_int)
    (s_one (s_ret (x_call ih hr (by rfl) T.g__law_fraction T.F__law_fraction.kp T.b__law_fraction (a_cons (x_un un_neg f_neg (xv 0)) (a_cons (x_un un_neg f_neg (xv 1)) a_nil)))))
    s_nil)
    (s_cons (s_set (i := 2) sc__law_fraction.nd rfl (by first | exact .inl rfl | exact .inr rfl) (x_call (ok__law_gcd T) (hr.mono (Nat.le_trans (by decide) (Nat.le_add_right _ _))) (by rfl) T.g__law_gcd T.F__law_gcd.kp T.b__law_gcd (a_cons (xv 0) (a_cons (xv 1) a_nil))))
    (s_one (s_ret (x_tup (a_cons (x_bin op_fdivZ f_divZ (xv 0) (xv 2)) (a_cons (x_bin op_fdivZ f_divZ (xv 1) (xv 2)) a_nil)))))))) 0 true
theorem ok__law_ratio (T : Facts K mg) : FnOk P w K mg base CX0 27 T.a__law_ratio T.d__law_ratio ["tape"] (spM K 1 F__law_ratio) :=
  FnOk.framed (fn_ok T.F__law_ratio sc__law_ratio fun cdv A outer s H E hr => (s_cons (s_set (i := 1) sc__law_ratio.nd rfl (by first | exact .inl rfl | exact .inr rfl) (x_ix o_ix f_ix (x_lst true (a_cons x_int (a_cons x_int (a_cons x_int (a_cons x_int (a_cons x_int (a_cons (x_bin o_addA (f_addA true) (x_bin op_pow f_pow x_int x_int) x_int) a_nil))))))) (x_call (ok__law_draw T) (hr.mono (by decide)) (by rfl) T.g__law_draw T.F__law_draw.kp T.b__law_draw (a_cons (xv 0) (a_cons x_int a_nil)))))
    (s_one (s_ret (x_call (ok__law_fraction T 24) (hr.mono (by decide)) (by rfl) T.g__law_fraction T.F__law_fraction.kp T.b__law_fraction (a_cons (xv 1) (a_cons (x_ix o_ix f_ix (x_lst true (a_cons x_int (a_cons x_int (a_cons x_int (a_cons x_int (a_cons x_int (a_cons (x_bin o_addA (f_addA true) (x_bin op_pow f_pow x_int x_int) x_int) a_nil))))))) (x_call (ok__law_draw T) (hr.mono (by decide)) (by rfl) T.g__law_draw T.F__law_draw.kp T.b__law_draw (a_cons (xv 0) (a_cons x_int a_nil)))) a_nil))))))) 1 true
theorem ok_law (T : Facts K mg) : FnG P w K mg base 56 T.a_law T.d_law ["script"] (spM K 1 F_law) :=
  FnG.framed (fn_okG T.F_law sc_law fun cdv A outer s H E hr hg => (s_cons (s_set (i := 1) sc_law.nd rfl (by first | exact .inl rfl | exact .inr rfl) (x_call (ok__law_tape T) (hr.mono (by decide)) (by rfl) T.g__law_tape T.F__law_tape.kp T.b__law_tape (a_cons (xv 0) a_nil)))
    (s_cons (s_set (i := 2) sc_law.nd rfl (by first | exact .inl rfl | exact .inr rfl) (x_call (ok__law_world T) (hr.mono (by decide)) (by rfl) T.g__law_world T.F__law_world.kp T.b__law_world (a_cons (xv 1) a_nil)))
    (s_cons (s_set (i := 3) sc_law.nd rfl (by first | exact .inl rfl | exact .inr rfl) (x_call (ok__law_premises T) (hr.mono (by decide)) (by rfl) T.g__law_premises T.F__law_premises.kp T.b__law_premises (a_cons (xv 1) (a_cons (x_ix o_ix f_ix (xv 2) x_int) (a_cons (x_ix o_ix f_ix (xv 2) x_int) (a_cons x_int a_nil))))))
    (s_cons (s_set (i := 4) sc_law.nd rfl (by first | exact .inl rfl | exact .inr rfl) (x_call (ok__law_loose T) (hr.mono (by decide)) (by rfl) T.g__law_loose T.F__law_loose.kp T.b__law_loose (a_cons (x_call (ok__law_sum T) (hr.mono (by decide)) (by rfl) T.g__law_sum T.F__law_sum.kp T.b__law_sum (a_cons (xv 1) (a_cons (x_ix o_ix f_ix (xv 2) x_int) (a_cons (x_ix o_ix f_ix (xv 2) x_int) a_nil)))) a_nil)))
    (s_cons (s_set (i := 5) sc_law.nd rfl (by first | exact .inl rfl | exact .inr rfl) (x_call (ok__law_loose T) (hr.mono (by decide)) (by rfl) T.g__law_loose T.F__law_loose.kp T.b__law_loose (a_cons (x_call (ok__law_sum T) (hr.mono (by decide)) (by rfl) T.g__law_sum T.F__law_sum.kp T.b__law_sum (a_cons (xv 1) (a_cons (x_ix o_ix f_ix (xv 2) x_int) (a_cons (x_ix o_ix f_ix (xv 2) x_int) a_nil)))) a_nil)))
    (s_cons (s_set (i := 6) sc_law.nd rfl (by first | exact .inl rfl | exact .inr rfl) (x_call (ok__law_ratio T) (hr.mono (by decide)) (by rfl) T.g__law_ratio T.F__law_ratio.kp T.b__law_ratio (a_cons (xv 1) a_nil)))
    (s_cons (s_set (i := 7) sc_law.nd rfl (by first | exact .inl rfl | exact .inr rfl) (x_callZ (ok_raised T) (hr.mono (by decide)) (by rfl) T.g_raised T.F_raised.kp T.b_raised (a_cons (x_tup (a_cons (xv 3) (a_cons (xv 4) a_nil))) (a_cons (xv 5) (a_cons (xv 6) a_nil)))))
    (s_cons (s_set (i := 8) sc_law.nd rfl (by first | exact .inl rfl | exact .inr rfl) (x_lst true (a_cons (x_tup (a_cons (xv 4) (a_cons (xv 5) (a_cons (xv 6) a_nil)))) (a_cons (x_tup (a_cons (xv 4) (a_cons (xv 5) (a_cons (x_call (ok__law_ratio T) (hr.mono (by decide)) (by rfl) T.g__law_ratio T.F__law_ratio.kp T.b__law_ratio (a_cons (xv 1) a_nil)) a_nil)))) (a_cons (x_tup (a_cons (xv 4) (a_cons (xv 4) (a_cons (xv 6) a_nil)))) (a_cons (x_tup (a_cons (xv 5) (a_cons (xv 5) (a_cons (xv 6) a_nil)))) a_nil))))))
    (s_cons (s_for PassesOwn.never rfl (i_seq (x_bin o_addA (f_addA true) (xv 8) (x_sl o_slA (f_slA true) (xv 8) o0 (o1 x_int)))) (g_name (i := 9) sc_law.nd rfl (by first | exact .inl rfl | exact .inr rfl))
    (s_one (s_if (t_not (t_tru (x_call (ok__law_same T 24) (hr.mono (by decide)) (by rfl) T.g__law_same T.F__law_same.kp T.b__law_same (a_cons (x_callZ (ok_raised T) (hr.mono (by decide)) (by rfl) T.g_raised T.F_raised.kp T.b_raised (a_cons (x_tup (a_cons (xv 3) (a_cons (x_ix o_ix f_ix (xv 9) x_int) a_nil))) (a_cons (x_ix o_ix f_ix (xv 9) x_int) (a_cons (x_ix o_ix f_ix (xv 9) x_int) a_nil)))) (a_cons (x_call (ok__law_due_claim T) (hr.mono (by decide)) (by rfl) T.g__law_due_claim T.F__law_due_claim.kp T.b__law_due_claim (a_cons (xv 3) (a_cons (x_ix o_ix f_ix (xv 9) x_int) (a_cons (x_ix o_ix f_ix (xv 9) x_int) (a_cons (x_ix o_ix f_ix (xv 9) x_int) a_nil))))) a_nil)))))
    (s_one (s_ret x_bl))
    s_nil)))
    (s_cons (s_if (t_cmp (o_ne hr.units) f_ne (x_call (ok_show_claim T) (hr.mono (by decide)) (by rfl) T.g_show_claim T.F_show_claim.kp T.b_show_claim (a_cons (xv 7) a_nil)) (x_call (ok__law_claim_text T) (hr.mono (by decide)) (by rfl) T.g__law_claim_text T.F__law_claim_text.kp T.b__law_claim_text (a_cons (xv 7) a_nil)))
    (s_one (s_ret x_bl))
    s_nil)
    (s_cons (s_set (i := 10) sc_law.nd rfl (by first | exact .inl rfl | exact .inr rfl) (x_call (ok__law_ledger T) (hr.mono (by decide)) (by rfl) T.g__law_ledger T.F__law_ledger.kp T.b__law_ledger (a_cons (xv 1) (a_cons (xv 2) (a_cons (x_bin o_addA (f_addA true) x_int (x_call (ok__law_draw T) (hr.mono (by decide)) (by rfl) T.g__law_draw T.F__law_draw.kp T.b__law_draw (a_cons (xv 1) (a_cons x_int a_nil)))) (a_cons x_int a_nil))))))
    (s_cons (s_set (i := 11) sc_law.nd rfl (by first | exact .inl rfl | exact .inr rfl) (x_call (ok__law_books T) (hr.mono (by decide)) (by rfl) T.g__law_books T.F__law_books.kp T.b__law_books (a_cons (xv 2) (a_cons (xv 10) a_nil))))
    (s_cons (s_setLc true (i := 12) (own := [("item", 9)]) (p := (.nm 9)) rfl sc_law.nd rfl rfl (sw_true rfl rfl rfl (by decide +kernel)) (i_seq (x_lst true (a_cons (x_ix o_ix f_ix (xv 7) x_int) (a_cons (xv 4) (a_cons (xv 5) a_nil))))) (blkOk_by (N := N_law) (sc := defScope st_law) (by decide +kernel)) (by decide) (fun _ _ _ _ _ => (g_name (i := 9) sc_law.nd rfl (by first | exact .inl rfl | exact .inr rfl))) (fun _ _ _ _ _ => ts_nil) (fun _ _ _ _ _ => (x_call (ok__law_worth T) (hr.mono (by decide)) (by rfl) T.g__law_worth T.F__law_worth.kp T.b__law_worth (a_cons (xv 2) (a_cons (xv 10) (a_cons (xv 11) (a_cons (xv 9) a_nil)))))))
    (s_cons (s_if (t_cmp (o_ne hr.units) f_ne (x_ix o_ix f_ix (xv 12) x_int) (x_bin o_addA (f_addA true) (x_bin op_mulW f_mulW (x_ix o_ix f_ix (xv 6) x_int) (x_ix o_ix f_ix (xv 12) x_int)) (x_bin op_mulW f_mulW (x_ix o_ix f_ix (xv 6) x_int) (x_ix o_ix f_ix (xv 12) x_int))))
    (s_one (s_ret x_bl))
    s_nil)
    (s_cons (s_set (i := 13) sc_law.nd rfl (by first | exact .inl rfl | exact .inr rfl) (x_call (ok__law_each T) (hr.mono (by decide)) (by rfl) T.g__law_each T.F__law_each.kp T.b__law_each (a_cons (xv 1) (a_cons (x_ix o_ix f_ix (xv 2) x_int) (a_cons (x_ix o_ix f_ix (xv 2) x_int) a_nil)))))
    (s_cons (s_for PassesOwn.never rfl (i_seq (x_lst true (a_cons (xv 13) (a_cons (x_tup (a_cons x_str (a_cons (x_ix o_ix f_ix (xv 4) x_int) (a_cons x_str a_nil)))) a_nil)))) (g_name (i := 9) sc_law.nd rfl (by first | exact .inl rfl | exact .inr rfl))
    (s_one (s_if (PW.pt (t_or (t_not (t_tru (x_call (ok__law_is_refused T) (hr.mono (by decide)) (by rfl) T.g__law_is_refused T.F__law_is_refused.kp T.b__law_is_refused (a_cons (x_tup (a_cons (xv 3) (a_cons (xv 9) a_nil))) (a_cons (xv 5) (a_cons (xv 6) a_nil)))))) (t_or1 (t_not (t_tru (x_call (ok__law_is_refused T) (hr.mono (by decide)) (by rfl) T.g__law_is_refused T.F__law_is_refused.kp T.b__law_is_refused (a_cons (x_tup (a_cons (xv 3) (a_cons (xv 4) a_nil))) (a_cons (xv 9) (a_cons (xv 6) a_nil)))))))))
    (s_one (s_ret x_bl))
    s_nil)))
    (s_one (s_ret (x_cmp (o_eq hr.units) f_eq (x_callB (call_reprT hg (hu65 hr)) f_repr (by rfl) T.m_repr bt_repr (a_cons (x_callZ (ok_raised T) (hr.mono (by decide)) (by rfl) T.g_raised T.F_raised.kp T.b_raised (a_cons (x_tup (a_cons (xv 3) (a_cons (xv 4) a_nil))) (a_cons (xv 5) (a_cons (xv 6) a_nil)))) a_nil)) (x_callB (call_reprT hg (hu65 hr)) f_repr (by rfl) T.m_repr bt_repr (a_cons (xv 7) a_nil)))))))))))))))))))))) 0 true
end
structure Tp where
  sc : List Int
  pl : Int
  pd : Int
  sd : Int
def Tp.o (t : Tp) : O := .lst [.lst (t.sc.map T.int), .int t.pl, .int t.pd, .int t.sd]
theorem Tp.clO (t : Tp) : Fx.clO 1 t.o = true := by simp [Tp.o]
theorem draw_raw (t : Tp) (hp : 0 ≤ t.pl) (m : Int) (hm : m < 1073741824) : Ok (runF 4 B__law_draw [.ref 0, .int m] [t.o]) fun r S => ∃ (n : Int) (t' : Tp), r = .int n ∧ S = [t'.o] ∧ 0 ≤ t'.pl ∧ 0 ≤ n ∧ n < max m 1 := by
  have h1 : (0 : Int) < max m 1 := by omega
  have h2 : (0 : Int) < max m 2 ∧ max m 2 < 1073741824 := by omega
  have hb : ∀ i : Int, 0 ≤ i % max m 1 ∧ i % max m 1 < max m 1 := fun i => ⟨Int.emod_nonneg _ (by omega), Int.emod_lt_of_pos _ (by omega)⟩
  have fin : ∀ (i : Int) (t' : Tp), 0 ≤ t'.pl → ∃ (n : Int) (t'' : Tp), T.int (i % max m 1) = .int n ∧ [t'.o] = [t''.o] ∧ 0 ≤ t''.pl ∧ 0 ≤ n ∧ n < max m 1 := fun i t' q => ⟨_, t', rfl, rfl, q, hb i⟩
  by_cases hd : t.pd = 0
  · by_cases hl : t.pl < t.sc.length
    · have hx : L2.atI (t.sc.map T.int) t.pl = some (.int t.sc[t.pl.toNat]) := by
        rw [atI_in _ _ hp (by simpa using hl)]
        simp
      by_cases hn : ((t.sc[t.pl.toNat].natAbs : Nat) : Int) < 1000000000000000000
      · refine Ok.of (a := .int ((((t.sc[t.pl.toNat].natAbs : Nat) : Int) * 48271 + t.pl * 69621 + 5) % 2147483647 * 69621 % 2147483629 % max m 1)) (S := [Tp.o { t with pl := t.pl + 1 }]) ?_ (fin _ _ (by show 0 ≤ t.pl + 1; omega))
        unfold runF B__law_draw
        simp [Tp.o, hd, h1, h2, ixN, hl, hx, hn]
      · refine Ok.of (a := .int (((t.sc[t.pl.toNat].natAbs : Nat) : Int) % max m 1)) (S := [Tp.o { t with pl := t.pl + 1, pd := ((t.sc[t.pl.toNat].natAbs : Nat) : Int) / max m 2 }]) ?_ (fin _ _ (by show 0 ≤ t.pl + 1; omega))
        unfold runF B__law_draw
        simp [Tp.o, hd, h1, h2, ixN, hl, hx, hn]
    · have hn : (t.sd * 48271 + t.pl + 1) % 2147483647 < 1000000000000000000 := by omega
      refine Ok.of (a := .int (((t.sd * 48271 + t.pl + 1) % 2147483647 * 48271 + t.pl * 69621 + 5) % 2147483647 * 69621 % 2147483629 % max m 1)) (S := [Tp.o { t with pl := t.pl + 1, sd := (t.sd * 48271 + t.pl + 1) % 2147483647 }]) ?_ (fin _ _ (by show 0 ≤ t.pl + 1; omega))
      unfold runF B__law_draw
      simp [Tp.o, hd, h1, h2, ixN, hl, hn]
  · refine Ok.of (a := .int (t.pd % max m 1)) (S := [Tp.o { t with pd := t.pd / max m 2 }]) ?_ (fin _ _ hp)
    unfold runF B__law_draw
    simp [Tp.o, hd, h1, h2, ixN]
theorem draw_ok {t : Tp} {m : Int} {rest : Sto} {Q : T → Sto → Prop} (hp : 0 ≤ t.pl) (hm : m < 1073741824) (h : ∀ (n : Int) (t' : Tp), 0 ≤ t'.pl → 0 ≤ n → n < max m 1 → Q (.int n) (t'.o :: rest)) : Ok (F__law_draw [.ref 0, .int m] (t.o :: rest)) Q := by
  unfold F__law_draw
  refine ok_frame1 (by simp) t.clO ((draw_raw t hp m hm).mono ?_)
  rintro r S ⟨n, t', rfl, rfl, h1, h2, h3⟩
  exact ⟨_, [], rfl, t'.clO, by simp, by simpa using h n t' h1 h2 h3⟩
theorem tape_ok {ns : List Int} {Q : T → Sto → Prop} (h : ∀ t : Tp, 0 ≤ t.pl → Q (.ref 0) [t.o]) : Ok (F__law_tape [.kst (ns.map T.int)] []) Q := by
  unfold F__law_tape
  refine ok_run ?_
  unfold B__law_tape
  simp only [List.map_cons, List.map_nil, ev_seq, ev_set, ev_for, ev_it, Ok_bind, ev_C, ev_ok, Ok_ok]
  simp only [List.cons_append, List.nil_append, List.length_cons, List.length_nil, List.replicate, ev_V, List.set_cons_succ, List.set_cons_zero]
  show Ok (sForGo ⟨ns.map T.int, []⟩ (.nm 2) _ (ns.map T.int) [some (.kst (ns.map T.int)), some (.int 7), none] []) _
  refine ok_for (fun _ τ S => ∃ (k : Int) (x : Option T), τ = [some (.kst (ns.map T.int)), some (.int k), x] ∧ S = []) ⟨_, _, rfl, rfl⟩ ?_ ?_
  · rintro i t τ S e ⟨k, x, rfl, rfl⟩
    rw [List.getElem?_map] at e
    obtain ⟨n, _, rfl⟩ := Option.map_eq_some_iff.mp e
    refine ⟨_, bindP_nm _ _ _, ?_⟩
    simp [forQ]
  · rintro τ S ⟨k, x, rfl, rfl⟩
    simp [fListA, seqOf, endQ]
    exact h ⟨ns, 0, 0, k⟩ (Int.le_refl 0)
def cs (w : Str) : List Nat := w.cps.toList
theorem cs_app (a b : Str) : cs (a ++ b) = cs a ++ cs b := Array.toList_append
theorem cs_len (a : Str) : (cs a).length = a.length := Array.length_toList
theorem cs_inj {a b : Str} (h : cs a = cs b) : a = b := by
  cases a
  cases b
  congr 1
  exact Array.ext' h
theorem cs_empty : cs ("" : Str) = [] := by decide +kernel
/-- a letter a to z -/
def Lt (c : Nat) : Prop := 97 ≤ c ∧ c ≤ 122
def Low (w : Str) : Prop := ∀ c ∈ cs w, Lt c
instance (w : Str) : Decidable (Low w) := by unfold Low Lt; infer_instance
theorem Low.app {a b : Str} (h : Low a) (h' : Low b) : Low (a ++ b) := fun c m => by
  rw [cs_app] at m
  rcases List.mem_append.mp m with m | m
  · exact h c m
  · exact h' c m
theorem abc : cs ("abcdefghijklmnopqrstuvwxyz" : Str) = (List.range 26).map (97 + ·) := by decide +kernel
def ltr (n : Int) : Str := ⟨#[97 + n.toNat]⟩
theorem ltr_low {n : Int} (h0 : 0 ≤ n) (h : n < 26) : Low (ltr n) := fun c m => by
  have m : c = 97 + n.toNat := by simpa [ltr, cs] using m
  unfold Lt
  omega
theorem abc_at {n : Int} (h0 : 0 ≤ n) (h : n < 26) (S : Sto) : fIx (.str "abcdefghijklmnopqrstuvwxyz") (.int n) S = .ok (.str (ltr n)) S := by
  have e : L2.atI (("abcdefghijklmnopqrstuvwxyz" : Str).cps.toList) n = some (97 + n.toNat) := by
    have := abc
    unfold cs at this
    rw [this, atI_in _ _ h0 (by simpa using h)]
    rw [List.getElem?_map, List.getElem?_range (by omega)]
    rfl
  have l : ("abcdefghijklmnopqrstuvwxyz" : Str).length ≤ 1000000 := by decide +kernel
  show (match L2.atI ("abcdefghijklmnopqrstuvwxyz" : Str).cps.toList n with
      | some c => if ("abcdefghijklmnopqrstuvwxyz" : Str).length ≤ 1000000 then R.ok (T.str ⟨#[c]⟩) S else .bad
      | none => .bad) = _
  rw [e]
  dsimp only
  rw [if_pos l]
  rfl
theorem strsOf_map (ys : List Str) : strsOf (ys.map T.str) = some ys := by
  induction ys with
  | nil => rfl
  | cons y ys ih =>
    show (strsOf (ys.map T.str)).map (fun l => y :: l) = _
    rw [ih]
    rfl
def intsN (xs : List Nat) : List T := xs.map fun i : Nat => T.int (i : Int)
theorem intsN_len (xs : List Nat) : (intsN xs).length = xs.length := List.length_map ..
theorem rangeT_0 (n : Nat) : Fx.rangeT 0 n = intsN (List.range n) := by
  unfold Fx.rangeT intsN
  exact List.map_congr_left fun i _ => by rw [Int.zero_add]
theorem intsN_at {xs : List Nat} {i : Nat} (h : i < xs.length) : (intsN xs)[i]? = some (.int xs[i]) := by
  unfold intsN
  rw [List.getElem?_map, List.getElem?_eq_getElem h]
  rfl
theorem append_ev {S : Sto} {k : Nat} {us : List T} {t : T} (hk : S[k]? = some (.lst us)) (hl : us.length < 100000) : fAppend (.ref k) [t] S = .ok .non (S.set k (.lst (us ++ [t]))) := by
  unfold fAppend
  dsimp only
  rw [hk]
  dsimp only
  rw [if_pos hl]
instance (c : Nat) : Decidable (Lt c) := by unfold Lt; infer_instance
theorem inF_strs (w : Str) (xs : List Str) : inF (.str w) (xs.map T.str) = decide (w ∈ xs) := by
  induction xs with
  | nil => rfl
  | cons x xs ih =>
    unfold inF at ih ⊢
    rw [List.map_cons, List.any_cons, ih]
    show ((x == w) || decide (w ∈ xs)) = decide (w ∈ x :: xs)
    by_cases h : x = w
    · rw [beq_iff_eq.mpr h, Bool.true_or, decide_eq_true (by rw [h]; exact List.mem_cons_self)]
    · rw [beq_eq_false_iff_ne.mpr h, Bool.false_or]
      by_cases m : w ∈ xs
      · rw [decide_eq_true m, decide_eq_true (List.mem_cons_of_mem _ m)]
      · rw [decide_eq_false m, decide_eq_false (fun q => (List.mem_cons.mp q).elim (fun e => h e.symm) m)]
theorem flat_strs (xs : List Str) : (xs.map T.str).all flatT = true := by
  rw [List.all_eq_true]
  intro t m
  obtain ⟨w, _, rfl⟩ := List.mem_map.mp m
  rfl
theorem in_ev {S : Sto} {y : T} {w : Str} {xs : List Str} (h : seqOf S y = some (xs.map T.str)) (hy : ∀ z, y ≠ .str z) : fIn false (.str w) y S = .ok (.bl (decide (w ∈ xs))) S := by
  have e : fIn false (.str w) y S = match seqOf S y with
    | some ts => if (flatT (.str w) && ts.all flatT) = true then .ok (.bl (inF (.str w) ts)) S
      else match toD (.str w), toD y with
        | some d, some (.list ds) => if (SeqAt.shaped d && SeqAt.shaped (.list ds)) = true then .ok (.bl (ds.any fun z => PyData.eqv z d)) S else .bad
        | _, _ => .bad
    | none => .bad := by cases y <;> first | rfl | exact absurd rfl (hy _)
  rw [e, h]
  dsimp only
  rw [flat_strs, show flatT (.str w) = true from rfl, inF_strs]
  rfl
/-- what stands behind a stem tells the names apart -/
def keyOf (stem w : Str) : Option Nat := (cs w)[stem.length]?
theorem keyOf_app {stem a b : Str} {c : Nat} (h : cs a = [c]) : keyOf stem (stem ++ a ++ b) = some c := by
  unfold keyOf
  rw [cs_app, cs_app, h, ← cs_len stem, List.append_assoc, List.getElem?_append_right (Nat.le_refl _), Nat.sub_self]
  rfl
theorem len_app (a b : Str) : (a ++ b).length = a.length + b.length := by rw [← cs_len, cs_app, List.length_append, cs_len, cs_len]
inductive Pl : Nat → T → Prop
  | non (n : Nat) : Pl n .non
  | bl (n : Nat) (b : Bool) : Pl n (.bl b)
  | int (n : Nat) (i : Int) : Pl n (.int i)
  | str (n : Nat) (x : Str) : Pl n (.str x)
  | tup {n : Nat} {ts : List T} : ts.length ≤ 1000000 → (∀ t ∈ ts, Pl n t) → Pl (n + 1) (.tup ts)
theorem Pl.cl {n m : Nat} {t : T} (h : Pl n t) : Fx.cl m t = true := by
  induction h with
  | non => simp
  | bl => simp
  | int => simp
  | str => simp
  | tup _ _ ih => rw [cl_tup]; exact cls_all m _ ih
theorem Pl.up {n : Nat} {t : T} (h : Pl n t) : ∀ k, Pl (n + k) t := by
  induction h with
  | non => exact fun k => .non _
  | bl => exact fun k => .bl _ _
  | int => exact fun k => .int _ _
  | str => exact fun k => .str _ _
  | tup q _ ih =>
    intro k
    rw [Nat.add_right_comm]
    exact .tup q fun t m => ih t m k
theorem Pl.le {n m : Nat} {t : T} (h : Pl n t) (hm : n ≤ m) : Pl m t := by
  rw [show m = n + (m - n) by omega]
  exact h.up _
theorem isi_ev {S : Sto} {x : T} {a n : String} {b : Bool} (h1 : tyN S x = some a) (h2 : kitB a n = some b) : fIsi [x, .ty n] S = .ok (.bl b) S := by
  show (match tyN S x with
    | some a => match kitB a n with
      | some b => R.ok (T.bl b) S
      | none => .bad
    | none => .bad) = _
  rw [h1]
  dsimp only
  rw [h2]
section
variable {S : Sto}
theorem isi_nt : fIsi [.non, .ty "tuple"] S = .ok (.bl false) S := isi_ev (a := "NoneType") rfl (by decide +kernel)
theorem isi_bt {b} : fIsi [.bl b, .ty "tuple"] S = .ok (.bl false) S := isi_ev (a := "bool") rfl (by decide +kernel)
theorem isi_it {b} : fIsi [.int b, .ty "tuple"] S = .ok (.bl false) S := isi_ev (a := "int") rfl (by decide +kernel)
theorem isi_st {b} : fIsi [.str b, .ty "tuple"] S = .ok (.bl false) S := isi_ev (a := "str") rfl (by decide +kernel)
theorem isi_tt {b} : fIsi [.tup b, .ty "tuple"] S = .ok (.bl true) S := isi_ev (a := "tuple") rfl (by decide +kernel)
theorem isi_nb : fIsi [.non, .ty "bool"] S = .ok (.bl false) S := isi_ev (a := "NoneType") rfl (by decide +kernel)
theorem isi_bb {b} : fIsi [.bl b, .ty "bool"] S = .ok (.bl true) S := isi_ev (a := "bool") rfl (by decide +kernel)
theorem isi_ib {b} : fIsi [.int b, .ty "bool"] S = .ok (.bl false) S := isi_ev (a := "int") rfl (by decide +kernel)
theorem isi_sb {b} : fIsi [.str b, .ty "bool"] S = .ok (.bl false) S := isi_ev (a := "str") rfl (by decide +kernel)
theorem isi_tb {b} : fIsi [.tup b, .ty "bool"] S = .ok (.bl false) S := isi_ev (a := "tuple") rfl (by decide +kernel)
theorem isi_ns : fIsi [.non, .ty "str"] S = .ok (.bl false) S := isi_ev (a := "NoneType") rfl (by decide +kernel)
theorem isi_bs {b} : fIsi [.bl b, .ty "str"] S = .ok (.bl false) S := isi_ev (a := "bool") rfl (by decide +kernel)
theorem isi_is {b} : fIsi [.int b, .ty "str"] S = .ok (.bl false) S := isi_ev (a := "int") rfl (by decide +kernel)
theorem isi_ss {b} : fIsi [.str b, .ty "str"] S = .ok (.bl true) S := isi_ev (a := "str") rfl (by decide +kernel)
theorem isi_ts {b} : fIsi [.tup b, .ty "str"] S = .ok (.bl false) S := isi_ev (a := "tuple") rfl (by decide +kernel)
theorem isi_ni : fIsi [.non, .ty "int"] S = .ok (.bl false) S := isi_ev (a := "NoneType") rfl (by decide +kernel)
theorem isi_bi {b} : fIsi [.bl b, .ty "int"] S = .ok (.bl true) S := isi_ev (a := "bool") rfl (by decide +kernel)
theorem isi_ii {b} : fIsi [.int b, .ty "int"] S = .ok (.bl true) S := isi_ev (a := "int") rfl (by decide +kernel)
theorem isi_si {b} : fIsi [.str b, .ty "int"] S = .ok (.bl false) S := isi_ev (a := "str") rfl (by decide +kernel)
theorem isi_ti {b} : fIsi [.tup b, .ty "int"] S = .ok (.bl false) S := isi_ev (a := "tuple") rfl (by decide +kernel)
theorem ev_isN (x : T) : fIsN false x .non S = .ok (.bl (isN x)) S := id rfl
theorem fTru_bl (b : Bool) : fTru (.bl b) S = .ok b S := id rfl
theorem ev_eqB (i j : Bool) : fEq (.bl i) (.bl j) S = .ok (.bl (decide (i = j))) S := id rfl
end
theorem same_stepB {d : Nat} {x y : T} {e : Nat} {S : Sto} {Q : T → Sto → Prop} (ih : ∀ {x y : T} {e d' : Nat} {S : Sto} {Q : T → Sto → Prop}, d' + 1 = d → Pl e x → Pl d' y → (∀ b : Bool, (b = true ↔ x = y) → Q (.bl b) S) → Ok (F__law_same d [x, y] S) Q)
    (hx : Pl e x) (hy : Pl d y) (h : ∀ b : Bool, (b = true ↔ x = y) → Q (.bl b) S) : Ok (F__law_same (d + 1) [x, y] S) Q := by
  rw [F__law_same]
  refine ok_frame0 (by simp [hx.cl, hy.cl]) (ok_run ?_)
  have fin : ∀ (b : Bool) (S1 : Sto), (b = true ↔ x = y) → endQ (fun t S1 => cl 0 (thaw 0 true t S1) = true ∧ Q (thaw 0 true t S1) S) (.rt (.bl b)) S1 := fun b S1 hb => ⟨by simp, by simpa using h b hb⟩
  unfold B__law_same
  cases hy with
  | non =>
    try simp_arith! only [ev_isN, isN]
    refine fin _ _ ?_
    cases hx <;> simp [isN]
  | bl _ b =>
    try simp_arith! only [ev_isN, isN, isi_bb, fTru_bl]
    cases hx with
    | bl _ c =>
      try simp_arith! only [isi_bb, ev_eqB]
      exact fin _ _ (by simp)
    | non => try simp_arith! only [isi_nb]; exact fin _ _ (by simp)
    | int => try simp_arith! only [isi_ib]; exact fin _ _ (by simp)
    | str => try simp_arith! only [isi_sb]; exact fin _ _ (by simp)
    | tup => try simp_arith! only [isi_tb]; exact fin _ _ (by simp)
  | int _ b =>
    try simp_arith! only [ev_isN, isN, isi_ib, isi_ii, fTru_bl]
    cases hx with
    | bl _ c => try simp_arith! only [isi_bi, isi_bb]; exact fin _ _ (by simp)
    | non => try simp_arith! only [isi_ni]; exact fin _ _ (by simp)
    | int => try simp_arith! only [isi_ii, isi_ib]; exact fin _ _ (by simp)
    | str => try simp_arith! only [isi_si]; exact fin _ _ (by simp)
    | tup => try simp_arith! only [isi_ti]; exact fin _ _ (by simp)
  | str _ b =>
    try simp_arith! only [ev_isN, isN, isi_sb, isi_si, isi_ss, fTru_bl]
    cases hx with
    | bl _ c => try simp_arith! only [isi_bs]; exact fin _ _ (by simp)
    | non => try simp_arith! only [isi_ns]; exact fin _ _ (by simp)
    | int => try simp_arith! only [isi_is]; exact fin _ _ (by simp)
    | str => try simp_arith! only [isi_ss]; exact fin _ _ (by simp)
    | tup => try simp_arith! only [isi_ts]; exact fin _ _ (by simp)
  | tup hlen hys =>
    rename_i d' ys
    try simp_arith! only [ev_isN, isN, isi_tb, isi_ti, isi_ts, fTru_bl]
    cases hx with
    | bl _ c => try simp_arith! only [isi_bt, fTru_bl]; exact fin _ _ (by simp)
    | non => try simp_arith! only [isi_nt, fTru_bl]; exact fin _ _ (by simp)
    | int => try simp_arith! only [isi_it, fTru_bl]; exact fin _ _ (by simp)
    | str => try simp_arith! only [isi_st, fTru_bl]; exact fin _ _ (by simp)
    | tup hxl hxs =>
      rename_i e' xs
      try simp_arith! only [isi_tt, fTru_bl]
      by_cases hl : (xs.length : Int) = (ys.length : Int)
      · rw [decide_eq_true hl]
        try simp_arith! only []
        · rw [range1_ev _ _ (by omega)]
          try simp_arith! only [rangeT_0]
          refine ok_for (fun k τ S => S = [] ∧ (∃ z : Option T, τ = [some (.tup xs), some (.tup ys), z]) ∧ ∀ j, j < k → xs[j]? = ys[j]?) ⟨rfl, ⟨_, rfl⟩, fun j h => absurd h (Nat.not_lt_zero j)⟩ ?_ ?_
          · rintro i t τ S1 e ⟨rfl, ⟨z, rfl⟩, hj⟩
            obtain ⟨hi, e⟩ := List.getElem?_eq_some_iff.mp e
            have hi' : i < ys.length := by simpa [intsN] using hi
            have e : t = .int (i : Int) := by
              rw [← e]
              simp [intsN]
            subst e
            have hix : i < xs.length := by omega
            refine ⟨_, bindP_nm _ _ _, ?_⟩
            try simp_arith! only []
            rw [atI_in _ _ (by omega) (by omega), atI_in _ _ (by omega) (by omega)]
            rw [Int.toNat_natCast, List.getElem?_eq_getElem hix, List.getElem?_eq_getElem hi']
            try simp_arith! only []
            refine ih rfl (hxs _ (List.getElem_mem hix)) (hys _ (List.getElem_mem hi')) fun b hbb => ?_
            try simp_arith! only [fTru_bl]
            cases b with
            | true =>
              try simp_arith! only [forQ]
              refine ⟨trivial, ⟨_, rfl⟩, fun j h => ?_⟩
              by_cases hji : j = i
              · rw [hji, List.getElem?_eq_getElem hix, List.getElem?_eq_getElem hi', hbb.mp rfl]
              · exact hj j (by omega)
            | false =>
              try simp_arith! only [forQ]
              refine fin _ _ ⟨fun h => (nomatch h), fun h => ?_⟩
              injection h with h
              subst h
              exact absurd (hbb.mpr rfl) Bool.false_ne_true
          · rintro τ S1 ⟨rfl, ⟨z, rfl⟩, hj⟩
            try simp_arith! only []
            refine fin _ _ ⟨fun _ => ?_, fun _ => rfl⟩
            congr 1
            apply List.ext_getElem?
            intro j
            by_cases hjl : j < ys.length
            · exact hj j (by simpa [intsN] using hjl)
            · rw [List.getElem?_eq_none (by omega), List.getElem?_eq_none (by omega)]
      · rw [decide_eq_false hl]
        try simp_arith! only []
        refine fin _ _ ⟨fun h => (nomatch h), fun h => ?_⟩
        injection h with h
        rw [h] at hl
        exact absurd rfl hl
theorem same_okB : ∀ {d : Nat} {x y : T} {e : Nat} {S : Sto} {Q : T → Sto → Prop}, Pl e x → Pl d y → (∀ b : Bool, (b = true ↔ x = y) → Q (.bl b) S) → Ok (F__law_same (d + 1) [x, y] S) Q
  | 0, _, _, _, _, _, hx, hy, h => same_stepB (fun e _ _ _ => by cases e) hx hy h
  | d + 1, _, _, _, _, _, hx, hy, h => same_stepB (fun e hx hy h => by cases e; exact same_okB hx hy h) hx hy h
def strsT (xs : List Str) : T := .tup (xs.map T.str)
def profN : Nat → List Str → List Str → Nat
  | _, [], _ => 0
  | k, s :: ss, ns => (if s ∈ ns then 2 ^ k else 0) + profN (k + 1) ss ns
def bitN (p k : Nat) : Bool := decide (p / 2 ^ k % 2 = 1)
def namesN : Nat → Nat → List Str → List Str
  | _, _, [] => []
  | k, p, s :: ss => if bitN p k = true then s :: namesN (k + 1) p ss else namesN (k + 1) p ss
theorem profN_congr {a b : List Str} : ∀ (k : Nat) (ss : List Str), (∀ s ∈ ss, (s ∈ a ↔ s ∈ b)) → profN k ss a = profN k ss b
  | _, [], _ => rfl
  | k, s :: ss, h => by
    unfold profN
    rw [profN_congr (k + 1) ss fun x m => h x (List.mem_cons_of_mem _ m)]
    by_cases c : s ∈ a
    · rw [if_pos c, if_pos ((h s List.mem_cons_self).mp c)]
    · rw [if_neg c, if_neg fun q => c ((h s List.mem_cons_self).mpr q)]
theorem profN_snoc {ns : List Str} (n : Str) : ∀ (k : Nat) (ss : List Str), profN k (ss ++ [n]) ns = profN k ss ns + (if n ∈ ns then 2 ^ (k + ss.length) else 0)
  | k, [] => by simp [profN]
  | k, s :: ss => by
    show (if s ∈ ns then 2 ^ k else 0) + profN (k + 1) (ss ++ [n]) ns = (if s ∈ ns then 2 ^ k else 0) + profN (k + 1) ss ns + _
    rw [profN_snoc n (k + 1) ss, List.length_cons, show k + 1 + ss.length = k + (ss.length + 1) by omega, Nat.add_assoc]
theorem namesN_snoc (n : Str) (p : Nat) : ∀ (k : Nat) (ss : List Str), namesN k p (ss ++ [n]) = namesN k p ss ++ (if bitN p (k + ss.length) = true then [n] else [])
  | k, [] => by
    show (if bitN p k = true then n :: namesN (k + 1) p [] else namesN (k + 1) p []) = _
    simp [namesN]
  | k, s :: ss => by
    show (if bitN p k = true then s :: namesN (k + 1) p (ss ++ [n]) else namesN (k + 1) p (ss ++ [n])) = (if bitN p k = true then s :: namesN (k + 1) p ss else namesN (k + 1) p ss) ++ _
    rw [namesN_snoc n p (k + 1) ss, List.length_cons, show k + 1 + ss.length = k + (ss.length + 1) by omega]
    split <;> rfl
theorem bit_low {m p k : Nat} (h : k < m) : bitN (2 ^ m + p) k = bitN p k := by
  unfold bitN
  have e : 2 ^ m = 2 ^ (m - k - 1) * 2 * 2 ^ k := by
    rw [Nat.mul_assoc, ← Nat.pow_succ', ← Nat.pow_add]
    congr 1
    omega
  rw [e, Nat.add_comm, Nat.add_mul_div_right _ _ (Nat.two_pow_pos k), Nat.add_mod, Nat.mul_mod_left, Nat.add_zero, Nat.mod_mod]
theorem bit_top {m p : Nat} (h : p < 2 ^ m) : bitN (2 ^ m + p) m = true ∧ bitN p m = false := by
  unfold bitN
  constructor
  · rw [Nat.add_div_left _ (Nat.two_pow_pos m), Nat.div_eq_of_lt h]
    rfl
  · rw [Nat.div_eq_of_lt h]
    rfl
theorem namesN_low {m p : Nat} : ∀ (k : Nat) (ss : List Str), k + ss.length ≤ m → namesN k (2 ^ m + p) ss = namesN k p ss
  | _, [], _ => rfl
  | k, s :: ss, h => by
    rw [List.length_cons] at h
    show (if bitN (2 ^ m + p) k = true then s :: namesN (k + 1) (2 ^ m + p) ss else namesN (k + 1) (2 ^ m + p) ss) = _
    rw [bit_low (by omega), namesN_low (k + 1) ss (by omega)]
    rfl
theorem namesN_sub {p : Nat} : ∀ (k : Nat) (ss : List Str), ∀ x ∈ namesN k p ss, x ∈ ss
  | _, [], x, h => h
  | k, s :: ss, x, h => by
    have h : x ∈ (if bitN p k = true then s :: namesN (k + 1) p ss else namesN (k + 1) p ss) := h
    split at h
    · rcases List.mem_cons.mp h with h | h
      · rw [h]; exact List.mem_cons_self
      · exact List.mem_cons_of_mem _ (namesN_sub (k + 1) ss x h)
    · exact List.mem_cons_of_mem _ (namesN_sub (k + 1) ss x h)
/-- every set of the names, by its number -/
theorem rev_ind {α : Type} {P : List α → Prop} (h0 : P []) (hs : ∀ xs x, P xs → P (xs ++ [x])) (xs : List α) : P xs := by
  rw [← List.reverse_reverse (as := xs)]
  induction xs.reverse with
  | nil => exact h0
  | cons x ys ih => rw [List.reverse_cons]; exact hs _ _ ih
theorem prof_names {ss : List Str} : ss.Nodup → ∀ p, p < 2 ^ ss.length → profN 0 ss (namesN 0 p ss) = p := by
  refine rev_ind (P := fun ss => ss.Nodup → ∀ p, p < 2 ^ ss.length → profN 0 ss (namesN 0 p ss) = p) (fun _ p h => ?_) (fun ss n ih hnd p hp => ?_) ss
  · have : p = 0 := by simpa using h
    rw [this]
    rfl
  · have hnd' : ss.Nodup := (List.nodup_append.mp hnd).1
    have hn : n ∉ ss := fun m => (List.nodup_append.mp hnd).2.2 n m n List.mem_cons_self rfl
    rw [List.length_append, List.length_singleton, Nat.pow_succ] at hp
    rw [profN_snoc, namesN_snoc, Nat.zero_add]
    by_cases c : p < 2 ^ ss.length
    · rw [(bit_top c).2, if_neg Bool.false_ne_true, List.append_nil, ih hnd' p c, if_neg fun m => hn (namesN_sub 0 ss n m), Nat.add_zero]
    · obtain ⟨q, rfl⟩ : ∃ q, p = 2 ^ ss.length + q := ⟨p - 2 ^ ss.length, by omega⟩
      have hq : q < 2 ^ ss.length := by omega
      rw [(bit_top hq).1, if_pos rfl, namesN_low 0 ss (by omega), if_pos (by simp), Nat.add_comm]
      congr 1
      refine (profN_congr (b := namesN 0 q ss) 0 ss fun s m => ?_).trans (ih hnd' q hq)
      simp only [List.mem_append, List.mem_singleton]
      exact ⟨fun h => h.elim id fun e => absurd (e ▸ m) hn, .inl⟩
theorem sum_ev {ts : List T} {l : List Int} (h : intsOf ts = some l) (S : Sto) : fSum [.lst ts] S = .ok (.int l.sum) S := by
  show (match intsOf ts with
      | some ns => R.ok (T.int ns.sum) S
      | none => .bad) = _
  rw [h]
theorem cut_to (xs : List T) {i : Int} (h : 0 ≤ i) : cutT xs none (some i) = xs.take i.toNat := by
  obtain ⟨n, rfl⟩ := Int.eq_ofNat_of_zero_le h
  unfold cutT
  rw [HT.sIx_none, HT.sIx_nat, List.drop_zero, Nat.sub_zero, Int.toNat_natCast]
  rcases Nat.le_total n xs.length with c | c
  · rw [Nat.min_eq_left c]
  · rw [Nat.min_eq_right c, List.take_of_length_le (Nat.le_refl _), List.take_of_length_le c]
theorem cut_from (xs : List T) {i : Int} (h : 0 ≤ i) : cutT xs (some i) none = xs.drop i.toNat := by
  obtain ⟨n, rfl⟩ := Int.eq_ofNat_of_zero_le h
  unfold cutT
  rw [HT.sIx_none, HT.sIx_nat, Int.toNat_natCast]
  rcases Nat.le_total n xs.length with c | c
  · rw [Nat.min_eq_left c, List.take_of_length_le (by rw [List.length_drop]; exact Nat.le_refl _)]
  · rw [Nat.min_eq_right c, List.drop_length, List.drop_eq_nil_of_le c, List.take_nil]
theorem ev_slL (xs : List T) (lo hi : Option Int) (S : Sto) : fSlA true (.lst xs) lo hi S = .ok (.lst (cutT xs lo hi)) S := id rfl
theorem ev_slT (xs : List T) (lo hi : Option Int) (S : Sto) : fSlA true (.tup xs) lo hi S = .ok (.tup (cutT xs lo hi)) S := id rfl
theorem atI_strs {ns : List Str} {i : Int} (h0 : 0 ≤ i) (h : i < ns.length) : L2.atI (ns.map T.str) i = some (.str (ns.getD i.toNat "")) := by
  have hi : i.toNat < ns.length := by omega
  rw [atI_in _ _ h0 (by rw [List.length_map]; exact h), List.getElem?_map, List.getElem?_eq_getElem hi, List.getD_eq_getElem?_getD, List.getElem?_eq_getElem hi]
  rfl
/-- the same, kept from being looked into -/
@[irreducible] def OkI {α : Type} (r : R α) (Q : α → Sto → Prop) : Prop := Ok r Q
theorem okI_eq {α : Type} (r : R α) (Q : α → Sto → Prop) : OkI r Q = Ok r Q := by unfold OkI; rfl
inductive SE where
  | all
  | none
  | sec (s : Str)
  | not (e : SE)
  | and (a b : SE)
  | or (a b : SE)
def SE.t : SE → T
  | .all => .tup [.str "all"]
  | .none => .tup [.str "none"]
  | .sec s => .tup [.str "sector", .str s]
  | .not e => .tup [.str "not", e.t]
  | .and a b => .tup [.str "and", a.t, b.t]
  | .or a b => .tup [.str "or", a.t, b.t]
def SE.mem (ns : List Str) : SE → Bool
  | .all => true
  | .none => false
  | .sec s => decide (s ∈ ns)
  | .not e => !e.mem ns
  | .and a b => a.mem ns && b.mem ns
  | .or a b => a.mem ns || b.mem ns
def SE.dep : SE → Nat
  | .not e => e.dep + 1
  | .and a b => max a.dep b.dep + 1
  | .or a b => max a.dep b.dep + 1
  | _ => 0
def SE.over (ss : List Str) : SE → Prop
  | .sec s => s ∈ ss
  | .not e => e.over ss
  | .and a b => a.over ss ∧ b.over ss
  | .or a b => a.over ss ∧ b.over ss
  | _ => True
theorem SE.cl (n : Nat) : ∀ e : SE, Fx.cl n e.t = true
  | .all => by simp [SE.t]
  | .none => by simp [SE.t]
  | .sec s => by simp [SE.t]
  | .not e => by simp [SE.t, SE.cl n e]
  | .and a b => by simp [SE.t, SE.cl n a, SE.cl n b]
  | .or a b => by simp [SE.t, SE.cl n a, SE.cl n b]
theorem SE.thaw (e : SE) (n : Nat) (S : Sto) : thaw n true e.t S = e.t := by cases e <;> simp [SE.t]
theorem Pl.l1 {n : Nat} {x : T} (a : Pl n x) : ∀ t ∈ [x], Pl n t := fun t m => by rw [List.mem_singleton.mp m]; exact a
theorem Pl.l2 {n : Nat} {x y : T} (a : Pl n x) (b : Pl n y) : ∀ t ∈ [x, y], Pl n t := fun t m => by
  rcases List.mem_cons.mp m with rfl | m
  · exact a
  · exact Pl.l1 b t m
theorem Pl.l3 {n : Nat} {x y z : T} (a : Pl n x) (b : Pl n y) (c : Pl n z) : ∀ t ∈ [x, y, z], Pl n t := fun t m => by
  rcases List.mem_cons.mp m with rfl | m
  · exact a
  · exact Pl.l2 b c t m
theorem SE.pl : ∀ e : SE, Pl (e.dep + 1) e.t
  | .all => .tup (by simp) (Pl.l1 (.str _ _))
  | .none => .tup (by simp) (Pl.l1 (.str _ _))
  | .sec s => .tup (by simp) (Pl.l2 (.str _ _) (.str _ _))
  | .not e => .tup (by simp) (Pl.l2 (.str _ _) e.pl)
  | .and a b => .tup (by simp) (Pl.l3 (.str _ _) (a.pl.le (Nat.succ_le_succ (Nat.le_max_left _ _))) (b.pl.le (Nat.succ_le_succ (Nat.le_max_right _ _))))
  | .or a b => .tup (by simp) (Pl.l3 (.str _ _) (a.pl.le (Nat.succ_le_succ (Nat.le_max_left _ _))) (b.pl.le (Nat.succ_le_succ (Nat.le_max_right _ _))))
section
theorem kd_self (a : Str) : decide (a = a) = true := decide_eq_true rfl
theorem kd_as : decide (("all" : Str) = "sector") = false := by decide +kernel
theorem kd_an : decide (("all" : Str) = "not") = false := by decide +kernel
theorem kd_aa : decide (("all" : Str) = "and") = false := by decide +kernel
theorem kd_ao : decide (("all" : Str) = "or") = false := by decide +kernel
theorem kd_aN : decide (("all" : Str) = "none") = false := by decide +kernel
theorem kd_Na : decide (("none" : Str) = "all") = false := by decide +kernel
theorem kd_Ns : decide (("none" : Str) = "sector") = false := by decide +kernel
theorem kd_Nn : decide (("none" : Str) = "not") = false := by decide +kernel
theorem kd_NA : decide (("none" : Str) = "and") = false := by decide +kernel
theorem kd_No : decide (("none" : Str) = "or") = false := by decide +kernel
theorem kd_sa : decide (("sector" : Str) = "all") = false := by decide +kernel
theorem kd_sN : decide (("sector" : Str) = "none") = false := by decide +kernel
theorem kd_sn : decide (("sector" : Str) = "not") = false := by decide +kernel
theorem kd_sA : decide (("sector" : Str) = "and") = false := by decide +kernel
theorem kd_so : decide (("sector" : Str) = "or") = false := by decide +kernel
theorem kd_na : decide (("not" : Str) = "all") = false := by decide +kernel
theorem kd_nN : decide (("not" : Str) = "none") = false := by decide +kernel
theorem kd_ns : decide (("not" : Str) = "sector") = false := by decide +kernel
theorem kd_nA : decide (("not" : Str) = "and") = false := by decide +kernel
theorem kd_no : decide (("not" : Str) = "or") = false := by decide +kernel
theorem kd_nl : decide (("not" : Str) = "leaf") = false := by decide +kernel
theorem kd_Aa : decide (("and" : Str) = "all") = false := by decide +kernel
theorem kd_AN : decide (("and" : Str) = "none") = false := by decide +kernel
theorem kd_As : decide (("and" : Str) = "sector") = false := by decide +kernel
theorem kd_An : decide (("and" : Str) = "not") = false := by decide +kernel
theorem kd_Ao : decide (("and" : Str) = "or") = false := by decide +kernel
theorem kd_Al : decide (("and" : Str) = "leaf") = false := by decide +kernel
theorem kd_oa : decide (("or" : Str) = "all") = false := by decide +kernel
theorem kd_oN : decide (("or" : Str) = "none") = false := by decide +kernel
theorem kd_os : decide (("or" : Str) = "sector") = false := by decide +kernel
theorem kd_on : decide (("or" : Str) = "not") = false := by decide +kernel
theorem kd_oA : decide (("or" : Str) = "and") = false := by decide +kernel
theorem kd_ol : decide (("or" : Str) = "leaf") = false := by decide +kernel
theorem kd_ln : decide (("leaf" : Str) = "not") = false := by decide +kernel
end
theorem tupR {S : Sto} {k : Nat} {ts : List T} (h : S[k]? = some (.lst ts)) : fTuple [.ref k] S = .ok (.tup ts) S := by
  show (match (match S[k]? with
    | some (.lst ts) => some ts
    | _ => none) with
    | some ts => R.ok (T.tup ts) S
    | none => .bad) = _
  rw [h]
def numOk (n : Int) : Prop := 1 ≤ n ∧ n ≤ 9999 ∨ -9999 ≤ n ∧ n ≤ -1
inductive Con where
  | each (e : SE) (ts : List (Int × Str)) (rel : Str)
  | sum (ts : List ((Int × Str) × SE)) (rel : Str)
def pT (p : Int × Str) : T := .tup [.int p.1, .str p.2]
def qT (p : (Int × Str) × SE) : T := .tup [.int p.1.1, .str p.1.2, p.2.t]
def Con.t : Con → T
  | .each e ts rel => .tup [.str "each", e.t, .tup (ts.map pT), .str rel]
  | .sum ts rel => .tup [.str "sum", .tup (ts.map qT), .str rel]
def Con.accs : Con → List Str
  | .each _ ts _ => ts.map (·.2)
  | .sum ts _ => ts.map (·.1.2)
def termOk (as : List Str) (p : Int × Str) : Prop := numOk p.1 ∧ p.2 ∈ as
def relOk (r : Str) : Prop := r = ">=" ∨ r = "="
theorem cls_pT (n : Nat) (ts : List (Int × Str)) : cls n (ts.map pT) = true := cls_all n _ fun t m => by
  obtain ⟨p, _, rfl⟩ := List.mem_map.mp m
  simp [pT]
theorem cls_qT (n : Nat) (ts : List ((Int × Str) × SE)) : cls n (ts.map qT) = true := cls_all n _ fun t m => by
  obtain ⟨p, _, rfl⟩ := List.mem_map.mp m
  simp [qT, SE.cl]
theorem Con.cl (n : Nat) (c : Con) : Fx.cl n c.t = true := by
  cases c with
  | each e ts rel => simp [Con.t, SE.cl, cls_pT]
  | sum ts rel => simp [Con.t, cls_qT]
theorem Con.thaw (c : Con) (n : Nat) (S : Sto) : Fx.thaw n true c.t S = c.t := by cases c <;> simp [Con.t]
structure Clm where
  ps : List Con
  c : Con
def Clm.t (x : Clm) : T := .tup [.tup (x.ps.map Con.t), x.c.t]
theorem cls_cons' (n : Nat) (cs : List Con) : cls n (cs.map Con.t) = true := cls_all n _ fun t m => by
  obtain ⟨p, _, rfl⟩ := List.mem_map.mp m
  exact p.cl n
theorem Clm.cl (n : Nat) (x : Clm) : Fx.cl n x.t = true := by simp [Clm.t, cls_cons', Con.cl]
def eT (p : Str × Int) : T := .tup [.str p.1, .int p.2]
def entsT (es : List (Str × Int)) : T := .tup (es.map eT)
theorem cls_eT (n : Nat) (es : List (Str × Int)) : cls n (es.map eT) = true := cls_all n _ fun t m => by
  obtain ⟨p, _, rfl⟩ := List.mem_map.mp m
  simp [eT]
def entsOk (as : List Str) (es : List (Str × Int)) : Prop := es.length ≤ as.length ∧ (as.Nodup → (es.map (·.1)).Nodup) ∧ ∀ p ∈ es, p.1 ∈ as ∧ numOk p.2
structure Kd where
  name : Str
  payer : SE
  given : List (Str × Int)
  payee : SE
  taken : List (Str × Int)
def Kd.t (k : Kd) : T := .tup [.str k.name, k.payer.t, entsT k.given, k.payee.t, entsT k.taken]
theorem Kd.cl (n : Nat) (k : Kd) : Fx.cl n k.t = true := by simp [Kd.t, SE.cl, entsT, cls_eT]
theorem entsOk.neg {as : List Str} {es : List (Str × Int)} (h : entsOk as es) : entsOk as (es.map fun p => (p.1, -p.2)) := by
  refine ⟨by rw [List.length_map]; exact h.1, fun hn => ?_, fun p m => ?_⟩
  · rw [List.map_map]
    exact h.2.1 hn
  · obtain ⟨q, mq, rfl⟩ := List.mem_map.mp m
    have := h.2.2 q mq
    refine ⟨this.1, ?_⟩
    rcases this.2 with z | z
    · exact .inr (by show -9999 ≤ -q.2 ∧ -q.2 ≤ -1; omega)
    · exact .inl (by show 1 ≤ -q.2 ∧ -q.2 ≤ 9999; omega)
structure Mdl where
  ss : List Str
  as : List Str
  kinds : List Kd
  asm : List (Str × Con)
  clm : List (Str × Clm)
def asmT (p : Str × Con) : T := .tup [.str p.1, p.2.t]
def clmT (p : Str × Clm) : T := .tup [.str p.1, p.2.t]
def Mdl.t (m : Mdl) : T := .tup [strsT m.ss, strsT m.as, .tup (m.kinds.map Kd.t), .tup (m.asm.map asmT), .tup (m.clm.map clmT)]
theorem cls_kinds (n : Nat) (ks : List Kd) : cls n (ks.map Kd.t) = true := cls_all n _ fun t m => by
  obtain ⟨p, _, rfl⟩ := List.mem_map.mp m
  exact p.cl n
theorem cls_asm (n : Nat) (ks : List (Str × Con)) : cls n (ks.map asmT) = true := cls_all n _ fun t m => by
  obtain ⟨p, _, rfl⟩ := List.mem_map.mp m
  simp [asmT, Con.cl]
theorem cls_clm (n : Nat) (ks : List (Str × Clm)) : cls n (ks.map clmT) = true := cls_all n _ fun t m => by
  obtain ⟨p, _, rfl⟩ := List.mem_map.mp m
  simp [clmT, Clm.cl]
theorem Mdl.cl (n : Nat) (m : Mdl) : Fx.cl n m.t = true := by simp [Mdl.t, strsT, cls_kinds, cls_asm, cls_clm]
def Mdl.names (m : Mdl) : List Str := m.kinds.map Kd.name ++ (m.asm.map (·.1) ++ m.clm.map (·.1))
theorem pickI {xs : List Int} {us : List T} {n : Int} (e : us = xs.map T.int) (h0 : 0 ≤ n) (h : n < xs.length) : ∃ k : Int, L2.atI us n = some (.int k) ∧ k ∈ xs := by
  subst e
  have hi : n.toNat < xs.length := by omega
  refine ⟨xs[n.toNat], ?_, List.getElem_mem hi⟩
  rw [atI_in _ _ h0 (by rw [List.length_map]; exact h), List.getElem?_map, List.getElem?_eq_getElem hi]
  rfl
theorem pickX (ns : List Str) {us : List T} {n : Int} (e : us = ns.map T.str) (h0 : 0 ≤ n) (h : n < ns.length) : ∃ w, L2.atI us n = some (.str w) ∧ w ∈ ns := by
  subst e
  have hi : n.toNat < ns.length := by omega
  refine ⟨ns[n.toNat], ?_, List.getElem_mem hi⟩
  rw [atI_in _ _ h0 (by rw [List.length_map]; exact h), List.getElem?_map, List.getElem?_eq_getElem hi]
  rfl
theorem gnumber_ok {t : Tp} {rest : Sto} {Q : T → Sto → Prop} (hp : 0 ≤ t.pl) (h : ∀ (n : Int) (t' : Tp), 0 ≤ t'.pl → numOk n → Q (.int n) (t'.o :: rest)) : Ok (F__law_number [.ref 0] (t.o :: rest)) Q := by
  unfold F__law_number
  refine ok_frame1 (by simp) t.clO ?_
  generalize hB : B__law_number = B
  refine ok_run ?_
  subst hB
  unfold B__law_number
  have hneg : ∀ (n : Int) (S : Sto), fNeg (.int n) S = .ok (.int (-n)) S := fun n S => rfl
  have fin : ∀ (n : Int) (t1 : Tp), 0 ≤ t1.pl → numOk n → endQ (fun t S1 => ∃ o' g, S1 = o' :: g ∧ clO 1 o' = true ∧ Fx.cl 1 (Fx.thaw 1 true t S1) = true ∧ Q (Fx.thaw 1 true t S1) (o' :: rest)) (.rt (.int n)) [t1.o] := fun n t1 hp1 hn => ⟨t1.o, [], rfl, t1.clO, by simp, by rw [thaw_int]; exact h n t1 hp1 hn⟩
  have last : ∀ (x kind : Int) (t1 : Tp), 0 ≤ t1.pl → 1 ≤ x ∧ x ≤ 9999 → OkI (sSeq (sIf (mTst (mBin fEq (mFn (fun ts S => if ts.length = 2 then F__law_draw ts S else .bad) (mCons (mVar 0) (mCons (mC (.int 2)) mNil))) (mC (.int 1))))
    (sRet (mUn fNeg (mVar 1)))
    sNext)
    (sRet (mVar 1)) [some (.ref 0), some (.int x), some (.int kind)] [t1.o]) (endQ fun t S1 => ∃ o' g, S1 = o' :: g ∧ clO 1 o' = true ∧ Fx.cl 1 (Fx.thaw 1 true t S1) = true ∧ Q (Fx.thaw 1 true t S1) (o' :: rest)) := fun x kind t1 hp1 hx => by
    rw [okI_eq]
    try simp_arith only []
    refine draw_ok hp1 (by decide) fun d t2 hp2 hd0 hd => ?_
    try simp_arith only []
    by_cases y : d = 1
    · try simp_arith only [decide_eq_true y, hneg]
      exact fin _ t2 hp2 (.inr (by omega))
    · try simp_arith only [decide_eq_false y]
      exact fin _ t2 hp2 (.inl hx)
  try simp_arith only []
  refine draw_ok hp (by decide) fun a t1 hp1 ha0 ha => ?_
  try simp_arith only []
  refine draw_ok hp1 (by decide) fun kind t2 hp2 hk0 hk => ?_
  try simp_arith only []
  by_cases c : kind = 0
  · have c1 : ¬ kind = 1 := by omega
    try simp_arith only [decide_eq_true c, decide_eq_false c1]
    refine draw_ok hp2 (by decide) fun b t3 hp3 hb0 hb => ?_
    have l := last (1 + b) kind t3 hp3 (by omega)
    try simp_arith only [okI_eq, decide_eq_false c1] at l ⊢
    exact l
  · try simp_arith only [decide_eq_false c]
    by_cases c1 : kind = 1
    · try simp_arith only [decide_eq_true c1]
      refine draw_ok hp2 (by decide) fun j t3 hp3 hj0 hj => ?_
      obtain ⟨k, hk, hm⟩ := pickI (xs := [9, 10, 99, 100, 9998, 9999]) (us := [.int 9, .int 10, .int 99, .int 100, .int 9998, .int 9999]) rfl hj0 (by show j < 6; omega)
      have hb : 1 ≤ k ∧ k ≤ 9999 := by
        simp only [List.mem_cons, List.not_mem_nil, or_false] at hm
        omega
      have l := last k kind t3 hp3 hb
      try simp_arith only [okI_eq, hk] at l ⊢
      exact l
    · have l := last (1 + a) kind t2 hp2 (by omega)
      try simp_arith only [okI_eq, decide_eq_false c1] at l ⊢
      exact l
theorem grelation_ok {t : Tp} {rest : Sto} {Q : T → Sto → Prop} (hp : 0 ≤ t.pl) (h : ∀ (r : Str) (t' : Tp), 0 ≤ t'.pl → relOk r → Q (.str r) (t'.o :: rest)) : Ok (F__law_relation [.ref 0] (t.o :: rest)) Q := by
  unfold F__law_relation
  refine ok_frame1 (by simp) t.clO ?_
  generalize hB : B__law_relation = B
  refine ok_run ?_
  subst hB
  unfold B__law_relation
  try simp_arith only []
  refine draw_ok hp (by decide) fun m t1 hp1 hm0 hm => ?_
  obtain ⟨r, hr, hr2⟩ : ∃ r : Str, L2.atI [T.str ">=", .str ">=", .str "="] m = some (.str r) ∧ relOk r := by
    have : m = 0 ∨ m = 1 ∨ m = 2 := by omega
    rcases this with rfl | rfl | rfl
    · exact ⟨_, atI_0 .., .inl rfl⟩
    · exact ⟨_, atI_1 .., .inl rfl⟩
    · exact ⟨_, atI_2 .., .inr rfl⟩
  try simp_arith only [hr, endQ]
  exact ⟨t1.o, _, rfl, t1.clO, by rw [thaw_str]; simp, by rw [thaw_str]; exact h r t1 hp1 hr2⟩
structure Ar (ss : List Str) (d : Nat) (e : SE) : Prop where
  over : e.over ss
  dep : e.dep ≤ d
theorem Ar.le {ss : List Str} {d d' : Nat} {e : SE} (h : Ar ss d e) (l : d ≤ d') : Ar ss d' e := ⟨h.over, Nat.le_trans h.dep l⟩
theorem garea_ok {ss : List Str} (hl : ss.length ≤ 1000) : ∀ (fuel d : Nat) {t : Tp} {rest : Sto} {Q : T → Sto → Prop}, d < fuel → 0 ≤ t.pl → (∀ (e : SE) (t' : Tp), 0 ≤ t'.pl → Ar ss d e → Q e.t (t'.o :: rest)) → Ok (F__law_area fuel [.ref 0, strsT ss, .int (d : Int)] (t.o :: rest)) Q
  | 0, d, _, _, _, hf, _, _ => absurd hf (Nat.not_lt_zero _)
  | fuel + 1, d, t, rest, Q, hf, hp, h => by
    have ih : ∀ (d : Nat) {t : Tp} {Q : T → Sto → Prop}, d < fuel → 0 ≤ t.pl → (∀ (e : SE) (t' : Tp), 0 ≤ t'.pl → Ar ss d e → Q e.t [t'.o]) → Ok (F__law_area fuel [.ref 0, strsT ss, .int (d : Int)] [t.o]) Q := fun d t Q => garea_ok hl fuel d
    rw [F__law_area]
    refine ok_frame1 (by rw [Fx.cls_cons, Fx.cls_cons, Fx.cls_cons, Fx.cls_nil]; simp [strsT]) t.clO ?_
    generalize hB : B__law_area (F__law_area fuel) = B
    refine ok_run ?_
    subst hB
    unfold B__law_area
    have fin : ∀ (e : SE) (t1 : Tp), 0 ≤ t1.pl → Ar ss d e → endQ (fun t S1 => ∃ o' g, S1 = o' :: g ∧ clO 1 o' = true ∧ Fx.cl 1 (Fx.thaw 1 true t S1) = true ∧ Q (Fx.thaw 1 true t S1) (o' :: rest)) (.rt e.t) [t1.o] := fun e t1 hp1 he => ⟨t1.o, [], rfl, t1.clO, by rw [e.thaw]; exact e.cl 1, by rw [e.thaw]; exact h e t1 hp1 he⟩
    have lens : ∀ S, fLen [strsT ss] S = .ok (.int ss.length) S := fun S => by
      show fLen [.tup (ss.map T.str)] S = _
      rw [ev_lenT, List.length_map]
    try simp_arith! only []
    refine draw_ok hp (by decide) fun kind t1 hp1 hk0 hk => ?_
    try simp_arith! only []
    have leaf : OkI (sSeq (sIf (mTst (mBin fEq (mVar 3) (mC (.int 5))))
    (sRet (mBin fIx (mLst true (mCons (mTup (mCons (mC (.str "none")) mNil)) (mCons (mTup (mCons (mC (.str "all")) mNil)) mNil))) (mFn (fun ts S => if ts.length = 2 then F__law_draw ts S else .bad) (mCons (mVar 0) (mCons (mC (.int 2)) mNil)))))
    sNext)
    (sSeq (sIf (mAnd (mTst (mBin fGt (mFn fLen (mCons (mVar 1) mNil)) (mC (.int 0)))) (mTst (mBin fGt (mVar 3) (mC (.int 1)))))
    (sRet (mTup (mCons (mC (.str "sector")) (mCons (mBin fIx (mVar 1) (mFn (fun ts S => if ts.length = 2 then F__law_draw ts S else .bad) (mCons (mVar 0) (mCons (mFn fLen (mCons (mVar 1) mNil)) mNil)))) mNil))))
    sNext)
    (sRet (mTup (mCons (mC (.str "all")) mNil)))) [some (.ref 0), some (strsT ss), some (.int (d : Int)), some (.int kind), none] [t1.o]) (endQ fun t S1 => ∃ o' g, S1 = o' :: g ∧ clO 1 o' = true ∧ Fx.cl 1 (Fx.thaw 1 true t S1) = true ∧ Q (Fx.thaw 1 true t S1) (o' :: rest)) := by
      rw [okI_eq]
      try simp_arith! only []
      by_cases c : kind = 5
      · try simp_arith! only [decide_eq_true c]
        refine draw_ok hp1 (by decide) fun j t2 hp2 hj0 hj => ?_
        have : j = 0 ∨ j = 1 := by omega
        rcases this with rfl | rfl
        · try simp_arith! only []
          exact fin .none t2 hp2 ⟨trivial, Nat.zero_le _⟩
        · try simp_arith! only []
          exact fin .all t2 hp2 ⟨trivial, Nat.zero_le _⟩
      · try simp_arith! only [decide_eq_false c, lens]
        by_cases c1 : 0 < ss.length
        · have c1' : (0 : Int) < (ss.length : Int) := by omega
          try simp_arith! only [decide_eq_true c1']
          by_cases c2 : 1 < kind
          · try simp_arith! only [decide_eq_true c2, lens]
            refine draw_ok hp1 (by omega) fun j t2 hp2 hj0 hj => ?_
            obtain ⟨w, hw, hwm⟩ := pickX ss (us := ss.map T.str) rfl hj0 (by omega)
            have hix : ∀ S, fIx (strsT ss) (.int j) S = .ok (.str w) S := fun S => by
              show fIx (.tup (ss.map T.str)) (.int j) S = _
              rw [ev_ixT, hw]
            try simp_arith! only [hix]
            exact fin (.sec w) t2 hp2 ⟨hwm, Nat.zero_le _⟩
          · try simp_arith! only [decide_eq_false c2]
            exact fin .all t1 hp1 ⟨trivial, Nat.zero_le _⟩
        · have c1' : ¬ (0 : Int) < (ss.length : Int) := by omega
          try simp_arith! only [decide_eq_false c1']
          exact fin .all t1 hp1 ⟨trivial, Nat.zero_le _⟩
    by_cases c : d = 0
    · subst c
      have z : decide ((0 : Int) < ((0 : Nat) : Int)) = false := rfl
      try simp_arith! only [okI_eq, z] at leaf ⊢
      exact leaf
    · have c' : (0 : Int) < (d : Int) := by omega
      have ed : (d : Int) - 1 = ((d - 1 : Nat) : Int) := by omega
      try simp_arith! only [decide_eq_true c']
      by_cases c2 : kind < 2
      · try simp_arith! only [decide_eq_true c2, ed]
        refine ih (d - 1) (by omega) hp1 fun e t2 hp2 he => ?_
        try simp_arith! only []
        have := fin (.not e) t2 hp2 ⟨he.over, by have := he.dep; show e.dep + 1 ≤ d; omega⟩
        exact this
      · try simp_arith! only [decide_eq_false c2]
        by_cases c3 : kind < 5
        · try simp_arith! only [decide_eq_true c3, ed]
          refine ih (d - 1) (by omega) hp1 fun e t2 hp2 he => ?_
          try simp_arith! only []
          refine draw_ok hp2 (by decide) fun j t3 hp3 hj0 hj => ?_
          have : j = 0 ∨ j = 1 := by omega
          rcases this with rfl | rfl
          · try simp_arith! only [ed]
            refine ih (d - 1) (by omega) hp3 fun e2 t4 hp4 he2 => ?_
            try simp_arith! only []
            have := fin (.and e e2) t4 hp4 ⟨⟨he.over, he2.over⟩, by have := he.dep; have := he2.dep; show max e.dep e2.dep + 1 ≤ d; omega⟩
            exact this
          · try simp_arith! only [ed]
            refine ih (d - 1) (by omega) hp3 fun e2 t4 hp4 he2 => ?_
            try simp_arith! only []
            have := fin (.or e e2) t4 hp4 ⟨⟨he.over, he2.over⟩, by have := he.dep; have := he2.dep; show max e.dep e2.dep + 1 ≤ d; omega⟩
            exact this
        · try simp_arith! only [okI_eq, decide_eq_false c3] at leaf ⊢
          exact leaf
def res8 : List Str := ["to", "if", "of", "or", "by", "not", "and", "all"]
structure NmG (w : Str) : Prop where
  low : Low w
  pos : 1 ≤ w.length
  le : w.length ≤ 13
  nr : w ∉ res8
instance (w : Str) : Decidable (NmG w) := decidable_of_iff (Low w ∧ 1 ≤ w.length ∧ w.length ≤ 13 ∧ w ∉ res8) ⟨fun h => ⟨h.1, h.2.1, h.2.2.1, h.2.2.2⟩, fun h => ⟨h.1, h.2, h.3, h.4⟩⟩
theorem res8_len : ∀ w ∈ res8, w.length ≤ 3 := by decide +kernel
theorem res8_x : ∀ w ∈ res8, w ++ ("x" : Str) ∉ res8 := by decide +kernel
def stems6 : List Str := ["", "", "a", "of", "household", "counterpart"]
theorem stems6_ok : ∀ w ∈ stems6, Low w ∧ w.length ≤ 11 := by decide +kernel
def tails9 : List Str := ["", "", "", "l", "d", "r", "y", "o", "f"]
theorem tails9_ok : ∀ w ∈ tails9, Low w ∧ w.length ≤ 1 := by decide +kernel
def words8 : List Str := ["sector", "sum", "number", "holds", "end", "name", "unit", "row"]
theorem words8_ok : ∀ w ∈ words8, NmG w := by decide +kernel
/-- no name that is put together is a word of the eight: the stem and one letter, and a tail -/
theorem words8_not : ∀ w ∈ words8, ∀ st ∈ stems6, (cs w).take st.length = cs st → st.length = 0 := by decide +kernel
theorem words8_len : ∀ w ∈ words8, 3 ≤ w.length ∧ (w.length = 3 → (cs w)[2]? ≠ some 120) := by decide +kernel
def idxAt (first step : Int) (k : Nat) : Nat := ((first + k * step) % 26).toNat
theorem idxAt_lt (first step : Int) (k : Nat) : idxAt first step k < 26 := by
  unfold idxAt
  omega
def steps12 : List Int := [1, 3, 5, 7, 9, 11, 15, 17, 19, 21, 23, 25]
theorem steps_ok : ∀ step ∈ steps12, ∀ d : Fin 26, 0 < d.val → ((d.val : Int) * step) % 26 ≠ 0 := by decide +kernel
theorem idxAt_inj {first step : Int} (hs : step ∈ steps12) {i j : Nat} (hi : i < j) (hj : j < 26) : idxAt first step i ≠ idxAt first step j := by
  intro e
  have e1 : (first + (j : Int) * step) % 26 = (first + (i : Int) * step) % 26 := by
    have h1 := Int.emod_nonneg (first + (j : Int) * step) (show (26 : Int) ≠ 0 by decide)
    have h2 := Int.emod_nonneg (first + (i : Int) * step) (show (26 : Int) ≠ 0 by decide)
    rw [← Int.toNat_of_nonneg h1, ← Int.toNat_of_nonneg h2]
    exact congrArg Int.ofNat e.symm
  have e2 := Int.emod_eq_emod_iff_emod_sub_eq_zero.mp e1
  have e3 : first + (j : Int) * step - (first + (i : Int) * step) = ((j - i : Nat) : Int) * step := by
    rw [Int.ofNat_sub (Nat.le_of_lt hi), Int.sub_mul, Int.add_sub_add_left]
  rw [e3] at e2
  exact steps_ok step hs ⟨j - i, Nat.lt_of_le_of_lt (Nat.sub_le ..) hj⟩ (Nat.sub_pos_of_lt hi) e2
/-- a name as it is put together: from what letter, and short if the stem is empty -/
structure Put (stem : Str) (c : Nat) (w : Str) : Prop where
  nm : NmG w
  key : keyOf stem w = some c
  pre : (cs w).take stem.length = cs stem
  short : stem.length = 0 → w.length ≤ 2 ∨ w.length = 3 ∧ (cs w)[2]? = some 120
theorem Put.notw {stem w : Str} {c : Nat} (h : Put stem c w) (hs : stem ∈ stems6) : w ∉ words8 := fun m => by
  have h0 := words8_not w m stem hs h.pre
  have h1 := words8_len w m
  rcases h.short h0 with z | z
  · omega
  · exact h1.2 z.1 z.2
theorem put_mk {stem tail : Str} {n : Nat} (hs : stem ∈ stems6) (ht : tail ∈ tails9) (hn : n < 26) : (stem ++ ltr n ++ tail ∉ res8 → Put stem (97 + n) (stem ++ ltr n ++ tail)) ∧ (stem ++ ltr n ++ tail ∈ res8 → Put stem (97 + n) (stem ++ ltr n ++ tail ++ ("x" : Str))) := by
  obtain ⟨l1, l2⟩ := stems6_ok stem hs
  obtain ⟨t1, t2⟩ := tails9_ok tail ht
  have hl : Low (ltr n) := ltr_low (by omega) (by omega)
  have hlow : Low (stem ++ ltr n ++ tail) := (l1.app hl).app t1
  have hlen : (stem ++ ltr n ++ tail).length = stem.length + 1 + tail.length := by rw [len_app, len_app]; rfl
  have hc : cs (ltr n) = [97 + n] := by
    show [97 + (n : Int).toNat] = _
    rw [Int.toNat_natCast]
  have hpre : ∀ z : List Nat, (cs stem ++ z).take stem.length = cs stem := fun z => by
    rw [← cs_len stem, List.take_left']
    rfl
  have lx : ("x" : Str).length = 1 := by decide +kernel
  have cx : cs ("x" : Str) = [120] := by decide +kernel
  refine ⟨fun h => ⟨⟨hlow, by omega, by omega, h⟩, keyOf_app hc, ?_, fun z => .inl (by omega)⟩, fun h => ⟨⟨hlow.app (by decide +kernel), by rw [len_app]; omega, by have h3 := res8_len _ h; rw [len_app]; omega, res8_x _ h⟩, ?_, ?_, fun z => ?_⟩⟩
  · rw [cs_app, cs_app, List.append_assoc]
    exact hpre _
  · have : stem ++ ltr n ++ tail ++ ("x" : Str) = stem ++ ltr n ++ (tail ++ ("x" : Str)) := cs_inj (by simp only [cs_app, List.append_assoc])
    rw [this]
    exact keyOf_app hc
  · rw [cs_app, cs_app, cs_app, List.append_assoc, List.append_assoc]
    exact hpre _
  · have h3 := res8_len _ h
    rw [len_app, hlen, lx, z]
    by_cases y : tail.length = 0
    · exact .inl (by omega)
    · refine .inr ⟨by omega, ?_⟩
      have hk : (cs (stem ++ ltr n ++ tail)).length = 2 := by rw [cs_len, hlen]; omega
      rw [cs_app (stem ++ ltr n ++ tail), cx, List.getElem?_append_right (by omega), hk]
      rfl
theorem slR {S : Sto} {k : Nat} {us : List T} (hk : S[k]? = some (.lst us)) (lo hi : Option Int) : fSlA true (.ref k) lo hi S = .ok (.lst (cutT us lo hi)) S := by
  show fSlL true (.ref k) lo hi S = _
  unfold fSlL
  have : lstOf S (.ref k) = some us := by
    show (match S[k]? with | some (.lst ts) => some ts | _ => none) = _
    rw [hk]
  rw [this]
  rfl
theorem namestail_ok {stem tail : Str} {n : Nat} {m first step x7 z : Option T} {t : Tp} {ns : List Str} {Q : Fl → Sto → Prop} (hs : stem ∈ stems6) (ht : tail ∈ tails9) (hn : n < 26) (hl : ns.length < 100000)
    (h : ∀ w, Put stem (97 + n) w → Q (.nx [some (.ref 0), m, some (.str "abcdefghijklmnopqrstuvwxyz"), some (.str stem), first, step, some (.ref 1), x7, some (.str w), z]) [t.o, .lst (ns.map T.str ++ [.str w])]) :
    Ok (B__law_names_t5_2 [some (.ref 0), m, some (.str "abcdefghijklmnopqrstuvwxyz"), some (.str stem), first, step, some (.ref 1), x7, some (.str (stem ++ ltr (n : Int) ++ tail)), z] [t.o, .lst (ns.map T.str)]) Q := by
  unfold B__law_names_t5_2
  obtain ⟨sl1, sl2⟩ := stems6_ok stem hs
  obtain ⟨tl1, tl2⟩ := tails9_ok tail ht
  obtain ⟨p1, p2⟩ := put_mk hs ht hn
  have hlen : (stem ++ ltr (n : Int) ++ tail).length = stem.length + 1 + tail.length := by rw [len_app, len_app]; rfl
  try simp_arith only []
  rw [in_ev (y := .lst [.str "to", .str "if", .str "of", .str "or", .str "by", .str "not", .str "and", .str "all"]) (xs := res8) rfl (fun z h => nomatch h)]
  have lx : ("x" : Str).length = 1 := by decide +kernel
  by_cases c : stem ++ ltr (n : Int) ++ tail ∈ res8
  · rw [decide_eq_true c]
    have c3 := res8_len _ c
    try simp_arith only []
    rw [if_pos (show (stem ++ ltr (n : Int) ++ tail).length + ("x" : Str).length ≤ 1000000 by omega)]
    try simp_arith only []
    rw [append_ev (k := 1) rfl (by rw [List.length_map]; omega)]
    try simp_arith only []
    exact h _ (p2 c)
  · rw [decide_eq_false c]
    try simp_arith only []
    rw [append_ev (k := 1) rfl (by rw [List.length_map]; omega)]
    try simp_arith only []
    exact h _ (p1 c)
theorem getD_lt {α : Type} {xs : List α} {i : Nat} (d : α) (h : i < xs.length) : xs.getD i d = xs[i] := by
  rw [List.getD_eq_getElem?_getD, List.getElem?_eq_getElem h, Option.getD_some]
theorem words8_inj : ∀ p, p < 8 → ∀ q, q < 8 → words8.getD p "" = words8.getD q "" → p = q := by decide +kernel
theorem steps_bd : ∀ step ∈ steps12, 1 ≤ step ∧ step ≤ 25 := by decide
theorem mod8_inj {a : Int} {i j : Nat} (h : i < j) (hj : j < 8) (e : ((a + (i : Int)) % 8).toNat = ((a + (j : Int)) % 8).toNat) : False := by omega
theorem min4_len {m : Int} (h0 : 0 ≤ m) (hm : m ≤ 26) : (min m 4).toNat + (m.toNat - 4) = m.toNat ∧ (min m 4).toNat ≤ 4 := by omega
theorem gnames_ok {t : Tp} {m : Int} {rest : Sto} {Q : T → Sto → Prop} (hp : 0 ≤ t.pl) (h0 : 0 ≤ m) (hm : m ≤ 26) (h : ∀ (ns : List Str) (t' : Tp), 0 ≤ t'.pl → ns.length = m.toNat → ns.Nodup → (∀ w ∈ ns, NmG w) → Q (.lst (ns.map T.str)) (t'.o :: rest)) : Ok (F__law_names [.ref 0, .int m] (t.o :: rest)) Q := by
  unfold F__law_names
  refine ok_frame1 (by simp) t.clO (ok_run ?_)
  unfold B__law_names
  try simp_arith only []
  refine draw_ok hp (by decide) fun n1 t1 hp1 hn1 hn1' => ?_
  obtain ⟨stem, hstem, hsm⟩ := pickX stems6 (us := [T.str "", .str "", .str "a", .str "of", .str "household", .str "counterpart"]) rfl hn1 (by show n1 < 6; omega)
  try simp_arith only [hstem]
  refine draw_ok hp1 (by decide) fun first t2 hp2 hf0 hf => ?_
  try simp_arith only []
  refine draw_ok hp2 (by decide) fun n3 t3 hp3 hn3 hn3' => ?_
  obtain ⟨step, hstep, hst⟩ := pickI (xs := steps12) (us := [T.int 1, .int 3, .int 5, .int 7, .int 9, .int 11, .int 15, .int 17, .int 19, .int 21, .int 23, .int 25]) rfl hn3 (by show n3 < 12; omega)
  have hst0 : 1 ≤ step ∧ step ≤ 25 := steps_bd step hst
  obtain ⟨sl1, sl2⟩ := stems6_ok stem hsm
  try simp_arith only [hstep]
  rw [range1_ev _ _ (by omega)]
  try simp_arith only [rangeT_0]
  refine ok_for (fun k τ S => ∃ (ns : List Str) (t' : Tp) (x y z : Option T), τ = [some (.ref 0), some (.int m), some (.str "abcdefghijklmnopqrstuvwxyz"), some (.str stem), some (.int first), some (.int step), some (.ref 1), x, y, z]
      ∧ S = [t'.o, .lst (ns.map T.str)] ∧ 0 ≤ t'.pl ∧ ns.length = k ∧ ∀ i (hi : i < ns.length), Put stem (97 + idxAt first step i) ns[i])
    ⟨[], t3, none, none, none, rfl, rfl, hp3, rfl, fun _ h => absurd h (Nat.not_lt_zero _)⟩ ?_ ?_
  · rintro i x0 τ S e ⟨ns, t', x, y, z, rfl, rfl, hp', hk, hns⟩
    have hi : i < m.toNat ∧ x0 = .int (i : Int) := by
      obtain ⟨q, e⟩ := List.getElem?_eq_some_iff.mp e
      refine ⟨by rw [intsN_len, List.length_range] at q; exact q, ?_⟩
      rw [← e]
      simp [intsN]
    obtain ⟨hi, rfl⟩ := hi
    refine ⟨_, bindP_nm _ _ _, ?_⟩
    have hmul : (i : Int) * step ≤ 26 * 25 ∧ 0 ≤ (i : Int) * step := ⟨Int.mul_le_mul (by omega) hst0.2 (by omega) (by omega), Int.mul_nonneg (by omega) (by omega)⟩
    have hidx : (first + (i : Int) * step) % 26 = (idxAt first step i : Int) := by
      unfold idxAt
      omega
    have e1 := ev_mul (S := [t'.o, .lst (ns.map T.str)]) (i := (i : Int)) (j := step) (by omega)
    have e2 := ev_mod (S := [t'.o, .lst (ns.map T.str)]) (i := first + (i : Int) * step) (j := 26) (by omega)
    have hil := idxAt_lt first step i
    have e3 := abc_at (n := (idxAt first step i : Int)) (Int.natCast_nonneg _) (Int.ofNat_lt.mpr hil) [t'.o, .lst (ns.map T.str)]
    have le1 : (ltr (idxAt first step i : Int)).length = 1 := rfl
    try simp_arith only [e1, e2, hidx, e3]
    rw [if_pos (show stem.length + (ltr (idxAt first step i : Int)).length ≤ 1000000 by omega)]
    try simp_arith only []
    have fin : ∀ (w : Str) (y z : Option T) (t' : Tp), 0 ≤ t'.pl → Put stem (97 + idxAt first step i) w → ∃ (ns' : List Str) (t'' : Tp) (x' y' z' : Option T), [some (.ref 0), some (.int m), some (.str "abcdefghijklmnopqrstuvwxyz"), some (.str stem), some (.int first), some (.int step), some (.ref 1), some (.int (i : Int)), y, z] = [some (.ref 0), some (.int m), some (.str "abcdefghijklmnopqrstuvwxyz"), some (.str stem), some (.int first), some (.int step), some (.ref 1), x', y', z']
        ∧ [t'.o, .lst (ns.map T.str ++ [.str w])] = [t''.o, .lst (ns'.map T.str)] ∧ 0 ≤ t''.pl ∧ ns'.length = i + 1 ∧ ∀ j (hj : j < ns'.length), Put stem (97 + idxAt first step j) ns'[j] := fun w y z t' hp' hw =>
      ⟨ns ++ [w], t', _, y, z, rfl, by simp, hp', by simp [hk], fun j hj => by
        by_cases c : j < ns.length
        · rw [List.getElem_append_left c]
          exact hns j c
        · have : j = ns.length := by simp at hj; omega
          subst this
          rw [List.getElem_append_right (Nat.le_refl _)]
          simp only [Nat.sub_self, List.getElem_cons_zero, hk]
          exact hw⟩
    rw [if_pos (show stem.length ≤ 1000000 by omega)]
    by_cases c : (stem.length : Int) < 10
    · try simp_arith only [decide_eq_true c]
      refine draw_ok hp' (by decide) fun n4 t4 hp4 hn4 hn4' => ?_
      obtain ⟨tail, htail, htm⟩ := pickX tails9 (us := [T.str "", .str "", .str "", .str "l", .str "d", .str "r", .str "y", .str "o", .str "f"]) rfl hn4 (by show n4 < 9; omega)
      have hl1 : (stem ++ ltr (idxAt first step i : Int)).length = stem.length + 1 := by rw [len_app]; rfl
      have hl2 := (tails9_ok tail htm).2
      try simp_arith only [htail]
      rw [if_pos (show (stem ++ ltr (idxAt first step i : Int)).length + tail.length ≤ 1000000 by omega)]
      try simp_arith only []
      exact namestail_ok hsm htm hil (by omega) fun w hw => fin w _ _ t4 hp4 hw
    · try simp_arith only [decide_eq_false c]
      have e0 : stem ++ ltr (idxAt first step i : Int) = stem ++ ltr (idxAt first step i : Int) ++ ("" : Str) := cs_inj (by rw [cs_app (stem ++ ltr (idxAt first step i : Int)), cs_empty, List.append_nil])
      rw [e0]
      exact namestail_ok (tail := "") hsm (by decide +kernel) hil (by omega) fun w hw => fin w _ _ t' hp' hw
  · rintro τ S ⟨ns, t', x, y, z, rfl, rfl, hp', hk, hns⟩
    rw [intsN_len, List.length_range] at hk
    have hnm : ∀ w ∈ ns, NmG w := fun w mw => by
      obtain ⟨i, hi, rfl⟩ := List.getElem_of_mem mw
      exact (hns i hi).nm
    have hnot : ∀ w ∈ ns, w ∉ words8 := fun w mw => by
      obtain ⟨i, hi, rfl⟩ := List.getElem_of_mem mw
      exact (hns i hi).notw hsm
    have hnd1 : ns.Nodup := by
      rw [List.nodup_iff_pairwise_ne, List.pairwise_iff_getElem]
      intro i j hi hj hij he
      have k1 := (hns i hi).key
      have k2 := (hns j hj).key
      rw [he, k2] at k1
      have := Option.some.inj k1
      exact idxAt_inj (first := first) hst hij (by omega) (by omega)
    try simp_arith only []
    refine draw_ok hp' (by decide) fun n t2 hp2 hn0 hn => ?_
    by_cases hz : n = 0
    · subst hz
      have e4 : (4 : Int) ≤ 4 := Int.le_refl _
      try simp_arith only []
      rw [range1_ev _ _ (by omega)]
      try simp_arith only [rangeT_0]
      refine ok_lc (fun k acc S => acc = ((List.range k).map fun i : Nat => words8.getD (((first + (i : Int)) % 8).toNat) "").map T.str ∧ S = [t2.o, .lst (ns.map T.str)]) ⟨rfl, rfl⟩ ?_ ?_
      · rintro i x0 acc S e ⟨rfl, rfl⟩
        have hi : i < (min m 4).toNat ∧ x0 = .int (i : Int) := by
          obtain ⟨q, e⟩ := List.getElem?_eq_some_iff.mp e
          refine ⟨by rw [intsN_len, List.length_range] at q; exact q, ?_⟩
          rw [← e]
          simp [intsN]
        obtain ⟨hi, rfl⟩ := hi
        refine ⟨_, bindP_nm _ _ _, ?_⟩
        have e2 := ev_mod (S := [t2.o, .lst (ns.map T.str)]) (i := first + (i : Int)) (j := 8) (by omega)
        have hw : L2.atI [T.str "sector", .str "sum", .str "number", .str "holds", .str "end", .str "name", .str "unit", .str "row"] ((first + (i : Int)) % 8) = some (.str (words8.getD (((first + (i : Int)) % 8).toNat) "")) := atI_strs (ns := words8) (by omega) (by show _ < (8 : Int); omega)
        try simp_arith only [e2, hw]
        refine ⟨by simp; omega, ?_, by trivial⟩
        rw [List.range_succ, List.map_append, List.map_append]
        rfl
      · rintro acc S ⟨rfl, rfl⟩
        rw [intsN_len, List.length_range]
        generalize hws : ((List.range (min m 4).toNat).map fun i : Nat => words8.getD (((first + (i : Int)) % 8).toNat) "") = ws
        have hwl : ws.length = (min m 4).toNat := by rw [← hws]; simp
        have hwm : ∀ w ∈ ws, w ∈ words8 := fun w mw => by
          rw [← hws, List.mem_map] at mw
          obtain ⟨i, _, rfl⟩ := mw
          have : ((first + (i : Int)) % 8).toNat < words8.length := by show _ < 8; omega
          rw [getD_lt _ this]
          exact List.getElem_mem this
        have hwd : ws.Nodup := by
          rw [← hws, List.nodup_iff_pairwise_ne, List.pairwise_map]
          refine List.pairwise_iff_getElem.mpr fun i j hi hj hij he => ?_
          simp only [List.length_range] at hi hj
          simp only [List.getElem_range] at he
          have := words8_inj _ (show ((first + (i : Int)) % 8).toNat < 8 by omega) _ (show ((first + (j : Int)) % 8).toNat < 8 by omega) he
          exact mod8_inj hij (Nat.lt_of_lt_of_le hj (Nat.le_trans (min4_len h0 hm).2 (by decide))) this
        have e1 : ws.map T.str ++ (ns.map T.str).drop (4 : Int).toNat = (ws ++ ns.drop 4).map T.str := by rw [List.map_append, List.map_drop]; rfl
        have hlen : (ws ++ ns.drop 4).length = m.toNat := by rw [List.length_append, List.length_drop, hwl, hk]; exact (min4_len h0 hm).1
        have hlen2 : (ws.map T.str).length + ((ns.map T.str).drop (4 : Int).toNat).length ≤ 100000 := by
          rw [List.length_drop, List.length_map, List.length_map]
          omega
        try simp_arith only [endQ, slR (S := [t2.o, .lst (ns.map T.str)]) (k := 1) rfl, cut_from _ (show (0:Int) ≤ 4 by omega)]
        rw [if_pos hlen2]
        try simp_arith only [endQ, e1]
        refine ⟨_, _, rfl, t2.clO, ?_, ?_⟩
        · show cl 1 (.lst ((ws ++ ns.drop 4).map T.str)) = true
          rw [cl_lst]
          exact cls_strs 1 _
        · refine h _ t2 hp2 hlen (List.nodup_append.mpr ⟨hwd, hnd1.sublist (List.drop_sublist ..), fun a ma b mb e => ?_⟩) fun w mw => ?_
          · subst e
            exact hnot a (List.mem_of_mem_drop mb) (hwm a ma)
          · rcases List.mem_append.mp mw with mw | mw
            · exact words8_ok w (hwm w mw)
            · exact hnm w (List.mem_of_mem_drop mw)
    · try simp_arith only [decide_eq_false hz, endQ]
      refine ⟨_, _, rfl, t2.clO, ?_, ?_⟩
      · show cl 1 (.lst (ns.map T.str)) = true
        rw [cl_lst]
        exact cls_strs 1 ns
      · exact h ns t2 hp2 hk hnd1 hnm
theorem revR {S : Sto} {k : Nat} {us : List T} (hk : S[k]? = some (.lst us)) : fReverse (.ref k) [] S = .ok .non (S.set k (.lst us.reverse)) := by
  show (match S[k]? with | some (.lst ts) => R.ok T.non (S.set k (.lst ts.reverse)) | _ => .bad) = _
  rw [hk]
theorem gentries_ok {t : Tp} {as : List Str} {rest : Sto} {Q : T → Sto → Prop} (hp : 0 ≤ t.pl) (ha2 : as.length ≤ 1000)
    (h : ∀ (es : List (Str × Int)) (t' : Tp), 0 ≤ t'.pl → entsOk as es → Q (entsT es) (t'.o :: rest)) : Ok (F__law_entries [.ref 0, strsT as] (t.o :: rest)) Q := by
  unfold F__law_entries
  refine ok_frame1 (by simp [strsT]) t.clO (ok_run ?_)
  unfold B__law_entries
  try simp_arith only [strsT]
  refine ok_lc (fun k acc S => ∃ (es : List (Str × Int)) (t' : Tp), acc = es.map eT ∧ S = [t'.o] ∧ 0 ≤ t'.pl ∧ es.length ≤ k ∧ (es.map (·.1)).Sublist (as.take k) ∧ ∀ p ∈ es, numOk p.2) ⟨[], t, rfl, rfl, hp, Nat.le_refl _, List.nil_sublist _, fun p m => nomatch m⟩ ?_ ?_
  · rintro i u acc S e ⟨es, t', rfl, rfl, hp', hlen, hsub, hes⟩
    rw [List.getElem?_map] at e
    obtain ⟨w, hw, rfl⟩ := Option.map_eq_some_iff.mp e
    obtain ⟨hi, hw⟩ := List.getElem?_eq_some_iff.mp hw
    refine ⟨_, bindP_nm _ _ _, ?_⟩
    try simp_arith only []
    refine draw_ok hp' (by decide) fun n t1 hp1 hn0 hn => ?_
    have tk : as.take (i + 1) = as.take i ++ [w] := by rw [List.take_succ_eq_append_getElem hi, hw]
    by_cases c : 0 < n
    · try simp_arith only [decide_eq_true c]
      refine gnumber_ok hp1 fun num t2 hp2 hnum => ?_
      try simp_arith only []
      refine ⟨by rw [List.length_map]; omega, es ++ [(w, num)], t2, by rw [List.map_append]; rfl, rfl, hp2, by rw [List.length_append]; simp; omega, ?_, fun p m => ?_⟩
      · rw [tk, List.map_append]
        exact hsub.append (List.Sublist.refl _)
      · rcases List.mem_append.mp m with m | m
        · exact hes p m
        · rw [List.mem_singleton.mp m]
          exact hnum
    · try simp_arith only [decide_eq_false c]
      refine ⟨es, t1, rfl, rfl, hp1, by omega, ?_, hes⟩
      rw [tk]
      exact hsub.trans (List.sublist_append_left _ _)
  · rintro acc S ⟨es, t', rfl, rfl, hp', hlen, hsub, hes⟩
    rw [List.length_map] at hlen hsub
    rw [List.take_length] at hsub
    have he : entsOk as es := ⟨hlen, fun hn => hn.sublist hsub, fun p m => ⟨hsub.subset (List.mem_map.mpr ⟨p, m, rfl⟩), hes p m⟩⟩
    have her : entsOk as es.reverse := ⟨by rw [List.length_reverse]; exact hlen, fun hn => by rw [List.map_reverse]; exact (List.reverse_perm _).nodup_iff.mpr (hn.sublist hsub), fun p m => he.2.2 p (List.mem_reverse.mp m)⟩
    try simp_arith only []
    refine draw_ok hp' (by decide) fun n t1 hp1 hn0 hn => ?_
    by_cases c : n = 0
    · have hr := revR (S := [t1.o, .lst (es.map eT)]) (k := 1) rfl
      have ht := tupR (S := [t1.o, .lst (es.map eT).reverse]) (k := 1) rfl
      try simp_arith only [decide_eq_true c, hr, ht, endQ]
      refine ⟨t1.o, _, rfl, t1.clO, ?_, ?_⟩
      · rw [thaw_tup, cl_tup, ← List.map_reverse]
        exact cls_eT 1 _
      · rw [thaw_tup, ← List.map_reverse]
        exact h es.reverse t1 hp1 her
    · have ht := tupR (S := [t1.o, .lst (es.map eT)]) (k := 1) rfl
      try simp_arith only [decide_eq_false c, ht, endQ]
      refine ⟨t1.o, _, rfl, t1.clO, ?_, ?_⟩
      · rw [thaw_tup, cl_tup]
        exact cls_eT 1 es
      · rw [thaw_tup]
        exact h es t1 hp1 he
structure KdG (ss as : List Str) (k : Kd) : Prop where
  payer : Ar ss 1 k.payer
  payee : Ar ss 1 k.payee
  given : entsOk as k.given
  taken : entsOk as k.taken
theorem entsOk.drop {as : List Str} {es : List (Str × Int)} (h : entsOk as es) (i : Nat) : entsOk as (es.drop i) :=
  ⟨by rw [List.length_drop]; have := h.1; omega, fun hn => by rw [List.map_drop]; exact (h.2.1 hn).sublist (List.drop_sublist ..), fun p m => h.2.2 p (List.mem_of_mem_drop m)⟩
theorem gkind_ok {t : Tp} {ss as : List Str} {name : Str} {rest : Sto} {Q : T → Sto → Prop} (hp : 0 ≤ t.pl) (hl : ss.length ≤ 1000) (ha2 : as.length ≤ 1000)
    (h : ∀ (k : Kd) (t' : Tp), 0 ≤ t'.pl → k.name = name → KdG ss as k → Q k.t (t'.o :: rest)) : Ok (F__law_kind [.ref 0, .str name, strsT ss, strsT as] (t.o :: rest)) Q := by
  unfold F__law_kind
  refine ok_frame1 (by simp [strsT]) t.clO (ok_run ?_)
  unfold B__law_kind
  have fin : ∀ (k : Kd) (t1 : Tp) (g : Sto), 0 ≤ t1.pl → k.name = name → KdG ss as k → endQ (fun t S1 => ∃ o' g, S1 = o' :: g ∧ clO 1 o' = true ∧ cl 1 (Fx.thaw 1 true t S1) = true ∧ Q (Fx.thaw 1 true t S1) (o' :: rest)) (.rt k.t) (t1.o :: g) := fun k t1 g hp1 hn hk => by
    refine ⟨t1.o, g, rfl, t1.clO, ?_, ?_⟩
    · show cl 1 (Fx.thaw 1 true (.tup _) _) = true
      rw [thaw_tup]
      exact k.cl 1
    · show Q (Fx.thaw 1 true (.tup _) _) _
      rw [thaw_tup]
      exact h k t1 hp1 hn hk
  try simp_arith only []
  refine garea_ok hl 24 1 (by decide) hp fun e1 t1 hp1 he1 => ?_
  try simp_arith only []
  refine garea_ok hl 24 1 (by decide) hp1 fun e2 t2 hp2 he2 => ?_
  try simp_arith only []
  refine gentries_ok hp2 ha2 fun es1 t3 hp3 h1 => ?_
  try simp_arith only []
  refine draw_ok hp3 (by decide) fun j t4 hp4 hj0 hj => ?_
  by_cases c : j = 0
  · try simp_arith only [decide_eq_true c]
    refine gentries_ok hp4 ha2 fun es2 t5 hp5 h2 => ?_
    try simp_arith only []
    exact fin ⟨name, e1, es1, e2, es2⟩ t5 _ hp5 rfl ⟨he1, he2, h1, h2⟩
  · try simp_arith only [decide_eq_false c, entsT]
    rw [lc_map (fun t => match t with
      | .tup [.str a, .int n] => .tup [.str a, .int (-n)]
      | _ => .non) _ (by rw [List.length_map]; have := h1.1; omega) fun t m => ?_]
    · have e : (es1.map eT).map (fun t => match t with
        | .tup [.str a, .int n] => T.tup [.str a, .int (-n)]
        | _ => .non) = (es1.map fun p => (p.1, -p.2)).map eT := by
        rw [List.map_map, List.map_map]
        rfl
      rw [e]
      by_cases c1 : j = 1
      · try simp_arith only [decide_eq_true c1, ev_slL, cut_from _ (show (0:Int) ≤ 1 by omega), ← List.map_drop]
        unfold B__law_kind_t7
        try simp_arith only []
        exact fin ⟨name, e1, es1, e2, (es1.drop 1).map fun p => (p.1, -p.2)⟩ t4 _ hp4 rfl ⟨he1, he2, h1, (h1.drop 1).neg⟩
      · try simp_arith only [decide_eq_false c1]
        unfold B__law_kind_t7
        try simp_arith only []
        exact fin ⟨name, e1, es1, e2, es1.map fun p => (p.1, -p.2)⟩ t4 _ hp4 rfl ⟨he1, he2, h1, h1.neg⟩
    · obtain ⟨p, mp, rfl⟩ := List.mem_map.mp m
      refine ⟨_, bindP_nm _ _ _, ?_⟩
      try simp_arith only [eT, ev_neg]
def ConG (ss as : List Str) (d : Nat) : Con → Prop
  | .each e ts rel => Ar ss d e ∧ 1 ≤ ts.length ∧ ts.length ≤ 6 ∧ (∀ p ∈ ts, termOk as p) ∧ relOk rel
  | .sum ts rel => 1 ≤ ts.length ∧ ts.length ≤ 6 ∧ (∀ p ∈ ts, termOk as p.1 ∧ Ar ss d p.2) ∧ relOk rel
theorem ConG.le {ss as : List Str} {d d' : Nat} {c : Con} (h : ConG ss as d c) (l : d ≤ d') : ConG ss as d' c := by
  cases c with
  | each e ts rel => exact ⟨h.1.le l, h.2⟩
  | sum ts rel => exact ⟨h.1, h.2.1, fun p m => ⟨(h.2.2.1 p m).1, (h.2.2.1 p m).2.le l⟩, h.2.2.2⟩
theorem con_fin {rest : Sto} {Q : T → Sto → Prop} {ss as : List Str} {d : Nat} (h : ∀ (c : Con) (t' : Tp), 0 ≤ t'.pl → ConG ss as d c → Q c.t (t'.o :: rest)) (c : Con) (t1 : Tp) (g : Sto) (hp1 : 0 ≤ t1.pl) (hc : ConG ss as d c) : endQ (fun t S1 => ∃ o' g, S1 = o' :: g ∧ clO 1 o' = true ∧ cl 1 (Fx.thaw 1 true t S1) = true ∧ Q (Fx.thaw 1 true t S1) (o' :: rest)) (.rt c.t) (t1.o :: g) :=
  ⟨t1.o, g, rfl, t1.clO, by rw [Con.thaw]; exact c.cl 1, by rw [Con.thaw]; exact h c t1 hp1 hc⟩
theorem con_fin1 {rest : Sto} {Q : T → Sto → Prop} (c : Con) (t1 : Tp) (g : Sto) (h : Q c.t (t1.o :: rest)) : endQ (fun t S1 => ∃ o' g, S1 = o' :: g ∧ clO 1 o' = true ∧ cl 1 (Fx.thaw 1 true t S1) = true ∧ Q (Fx.thaw 1 true t S1) (o' :: rest)) (.rt c.t) (t1.o :: g) :=
  ⟨t1.o, g, rfl, t1.clO, by rw [Con.thaw]; exact c.cl 1, by rw [Con.thaw]; exact h⟩
theorem acc_in {as : List Str} {j : Int} (h0 : 0 ≤ j) (h : j < as.length) : as.getD j.toNat "" ∈ as := by
  rw [List.getD_eq_getElem?_getD, List.getElem?_eq_getElem (by omega)]
  exact List.getElem_mem _
theorem gsum_ok {t : Tp} {ss as : List Str} {rest : Sto} {Q : T → Sto → Prop} (hp : 0 ≤ t.pl) (hl : ss.length ≤ 1000) (ha : 1 ≤ as.length) (ha2 : as.length ≤ 1000)
    (h : ∀ (ts : List ((Int × Str) × SE)) (rel : Str) (t' : Tp), 0 ≤ t'.pl → ConG ss as 1 (.sum ts rel) → Q (Con.sum ts rel).t (t'.o :: rest)) : Ok (F__law_sum [.ref 0, strsT ss, strsT as] (t.o :: rest)) Q := by
  unfold F__law_sum
  refine ok_frame1 (by simp [strsT]) t.clO (ok_run ?_)
  unfold B__law_sum
  try simp_arith only []
  refine draw_ok hp (by decide) fun n t1 hp1 hn0 hn => ?_
  obtain ⟨k, hk, hkm⟩ := pickI (xs := [1, 1, 1, 2, 2, 3, 3, 6]) (us := [T.int 1, .int 1, .int 1, .int 2, .int 2, .int 3, .int 3, .int 6]) rfl hn0 (by show n < 8; omega)
  have hk1 : 1 ≤ k ∧ k ≤ 6 := by
    simp only [List.mem_cons, List.not_mem_nil, or_false] at hkm
    omega
  try simp_arith only [hk]
  rw [range1_ev _ _ (by omega)]
  try simp_arith only [rangeT_0]
  refine ok_for (fun k τ S => ∃ (ts : List ((Int × Str) × SE)) (t' : Tp) (x y : Option T), τ = [some (.ref 0), some (strsT ss), some (strsT as), some (.ref 1), x, y] ∧ S = [t'.o, .lst (ts.map qT)] ∧ 0 ≤ t'.pl ∧ ts.length = k ∧ ∀ p ∈ ts, termOk as p.1 ∧ Ar ss 1 p.2) ⟨[], t1, _, _, rfl, rfl, hp1, rfl, fun p m => nomatch m⟩ ?_ ?_
  · rintro i u τ S e ⟨ts, t', x, y, rfl, rfl, hp', hlen, hts⟩
    have hi : i < k.toNat := by
      obtain ⟨q, _⟩ := List.getElem?_eq_some_iff.mp e
      simpa [intsN] using q
    refine ⟨_, bindP_nm _ _ _, ?_⟩
    try simp_arith only []
    refine gnumber_ok hp' fun num t3 hp3 hnum => ?_
    try simp_arith only [strsT, List.length_map]
    refine draw_ok hp3 (by omega) fun j t4 hp4 hj0 hj => ?_
    have hj2 : j < as.length := by omega
    try simp_arith only [atI_strs hj0 hj2]
    refine garea_ok hl 24 1 (by decide) hp4 fun e1 t5 hp5 he1 => ?_
    try simp_arith only []
    rw [append_ev (k := 1) rfl (by rw [List.length_map]; omega)]
    try simp_arith only [forQ]
    refine ⟨ts ++ [((num, as.getD j.toNat ""), e1)], t5, some u, some (.int num), rfl, by rw [List.map_append]; rfl, hp5, by rw [List.length_append, hlen]; rfl, fun p m => ?_⟩
    rcases List.mem_append.mp m with m | m
    · exact hts p m
    · rw [List.mem_singleton.mp m]
      exact ⟨⟨hnum, acc_in hj0 hj2⟩, he1⟩
  · rintro τ S ⟨ts, t', x, y, rfl, rfl, hp', hlen, hts⟩
    rw [intsN_len, List.length_range] at hlen
    have ht := tupR (S := [t'.o, .lst (ts.map qT)]) (k := 1) rfl
    try simp_arith only [ht]
    refine grelation_ok hp' fun rel t4 hp4 hr => ?_
    try simp_arith only []
    exact con_fin1 (.sum ts rel) t4 _ (h ts rel t4 hp4 ⟨by omega, by omega, hts, hr⟩)
theorem geach_ok {t : Tp} {ss as : List Str} {rest : Sto} {Q : T → Sto → Prop} (hp : 0 ≤ t.pl) (hl : ss.length ≤ 1000) (ha : 1 ≤ as.length) (ha2 : as.length ≤ 1000)
    (h : ∀ (e : SE) (ts : List (Int × Str)) (rel : Str) (t' : Tp), 0 ≤ t'.pl → ConG ss as 1 (.each e ts rel) → Q (Con.each e ts rel).t (t'.o :: rest)) : Ok (F__law_each [.ref 0, strsT ss, strsT as] (t.o :: rest)) Q := by
  unfold F__law_each
  refine ok_frame1 (by simp [strsT]) t.clO (ok_run ?_)
  unfold B__law_each
  try simp_arith only []
  refine garea_ok hl 24 1 (by decide) hp fun e t0 hp0 he => ?_
  try simp_arith only []
  refine draw_ok hp0 (by decide) fun n t1 hp1 hn0 hn => ?_
  obtain ⟨k, hk, hkm⟩ := pickI (xs := [1, 1, 1, 2, 2, 6]) (us := [T.int 1, .int 1, .int 1, .int 2, .int 2, .int 6]) rfl hn0 (by show n < 6; omega)
  have hk1 : 1 ≤ k ∧ k ≤ 6 := by
    simp only [List.mem_cons, List.not_mem_nil, or_false] at hkm
    omega
  try simp_arith only [hk]
  rw [range1_ev _ _ (by omega)]
  try simp_arith only [rangeT_0]
  refine ok_for (fun k τ S => ∃ (ts : List (Int × Str)) (t' : Tp) (x y : Option T), τ = [some (.ref 0), some (strsT ss), some (strsT as), some e.t, some (.ref 1), x, y] ∧ S = [t'.o, .lst (ts.map pT)] ∧ 0 ≤ t'.pl ∧ ts.length = k ∧ ∀ p ∈ ts, termOk as p) ⟨[], t1, _, _, rfl, rfl, hp1, rfl, fun p m => nomatch m⟩ ?_ ?_
  · rintro i u τ S e ⟨ts, t', x, y, rfl, rfl, hp', hlen, hts⟩
    have hi : i < k.toNat := by
      obtain ⟨q, _⟩ := List.getElem?_eq_some_iff.mp e
      simpa [intsN] using q
    refine ⟨_, bindP_nm _ _ _, ?_⟩
    try simp_arith only []
    refine gnumber_ok hp' fun num t3 hp3 hnum => ?_
    try simp_arith only [strsT, List.length_map]
    refine draw_ok hp3 (by omega) fun j t4 hp4 hj0 hj => ?_
    have hj2 : j < as.length := by omega
    try simp_arith only [atI_strs hj0 hj2]
    rw [append_ev (k := 1) rfl (by rw [List.length_map]; omega)]
    try simp_arith only [forQ]
    refine ⟨ts ++ [(num, as.getD j.toNat "")], t4, some u, some (.int num), rfl, by rw [List.map_append]; rfl, hp4, by rw [List.length_append, hlen]; rfl, fun p m => ?_⟩
    rcases List.mem_append.mp m with m | m
    · exact hts p m
    · rw [List.mem_singleton.mp m]
      exact ⟨hnum, acc_in hj0 hj2⟩
  · rintro τ S ⟨ts, t', x, y, rfl, rfl, hp', hlen, hts⟩
    rw [intsN_len, List.length_range] at hlen
    have ht := tupR (S := [t'.o, .lst (ts.map pT)]) (k := 1) rfl
    try simp_arith only [ht]
    refine grelation_ok hp' fun rel t4 hp4 hr => ?_
    try simp_arith only []
    exact con_fin1 (.each e ts rel) t4 _ (h e ts rel t4 hp4 ⟨he, by omega, by omega, hts, hr⟩)
theorem gcon_ok {t : Tp} {ss as : List Str} {rest : Sto} {Q : T → Sto → Prop} (hp : 0 ≤ t.pl) (hl : ss.length ≤ 1000) (ha : 1 ≤ as.length) (ha2 : as.length ≤ 1000)
    (h : ∀ (c : Con) (t' : Tp), 0 ≤ t'.pl → ConG ss as 1 c → Q c.t (t'.o :: rest)) : Ok (F__law_constraint [.ref 0, strsT ss, strsT as] (t.o :: rest)) Q := by
  unfold F__law_constraint
  refine ok_frame1 (by simp [strsT]) t.clO (ok_run ?_)
  unfold B__law_constraint
  try simp_arith only []
  refine draw_ok hp (by decide) fun n t1 hp1 hn0 hn => ?_
  by_cases c : n = 0
  · try simp_arith only [decide_eq_true c]
    refine gsum_ok hp1 hl ha ha2 fun ts rel t2 hp2 hc => ?_
    try simp_arith only []
    exact con_fin h (.sum ts rel) t2 _ hp2 hc
  · try simp_arith only [decide_eq_false c]
    refine geach_ok hp1 hl ha ha2 fun e ts rel t2 hp2 hc => ?_
    try simp_arith only []
    exact con_fin h (.each e ts rel) t2 _ hp2 hc
theorem intsOf_map {α : Type} (f : α → Int) : ∀ xs : List α, intsOf (xs.map fun x => T.int (f x)) = some (xs.map f)
  | [] => rfl
  | x :: xs => by
    show (intsOf (xs.map fun x => T.int (f x))).map _ = _
    rw [intsOf_map f xs]
    rfl
theorem gprem_ok {t : Tp} {ss as : List Str} {most : Int} {rest : Sto} {Q : T → Sto → Prop} (hp : 0 ≤ t.pl) (hl : ss.length ≤ 1000) (ha : 1 ≤ as.length) (ha2 : as.length ≤ 1000) (hm : 0 ≤ most ∧ most ≤ 100)
    (h : ∀ (cs : List Con) (t' : Tp), 0 ≤ t'.pl → (cs.length : Int) ≤ most → (∀ c ∈ cs, ConG ss as 1 c) → Q (.tup (cs.map Con.t)) (t'.o :: rest)) : Ok (F__law_premises [.ref 0, strsT ss, strsT as, .int most] (t.o :: rest)) Q := by
  unfold F__law_premises
  refine ok_frame1 (by simp [strsT]) t.clO (ok_run ?_)
  unfold B__law_premises
  try simp_arith only []
  refine draw_ok hp (by omega) fun n t1 hp1 hn0 hn => ?_
  try simp_arith only []
  rw [range1_ev _ _ (by omega)]
  try simp_arith only [rangeT_0]
  refine ok_lc (fun k acc S => ∃ (cs : List Con) (t' : Tp), acc = cs.map Con.t ∧ S = [t'.o] ∧ 0 ≤ t'.pl ∧ cs.length = k ∧ ∀ c ∈ cs, ConG ss as 1 c) ⟨[], t1, rfl, rfl, hp1, rfl, fun p m => nomatch m⟩ ?_ ?_
  · rintro i u acc S e ⟨cs, t', rfl, rfl, hp', hlen, hcs⟩
    have hi : i < n.toNat := by
      obtain ⟨q, _⟩ := List.getElem?_eq_some_iff.mp e
      simpa [intsN] using q
    refine ⟨_, bindP_nm _ _ _, ?_⟩
    try simp_arith only []
    refine gcon_ok hp' hl ha ha2 fun c t2 hp2 hc => ?_
    refine ⟨by rw [List.length_map]; omega, cs ++ [c], t2, by rw [List.map_append]; rfl, rfl, hp2, by rw [List.length_append, hlen]; rfl, fun p m => ?_⟩
    rcases List.mem_append.mp m with m | m
    · exact hcs p m
    · rw [List.mem_singleton.mp m]
      exact hc
  · rintro acc S ⟨cs, t', rfl, rfl, hp', hlen, hcs⟩
    rw [intsN_len, List.length_range] at hlen
    try simp_arith only [endQ]
    refine ⟨t'.o, _, rfl, t'.clO, ?_, ?_⟩
    · rw [thaw_tup, cl_tup]
      exact cls_cons' 1 cs
    · rw [thaw_tup]
      exact h cs t' hp' (by omega) hcs
structure ClmG (ss as : List Str) (most : Int) (x : Clm) : Prop where
  len : (x.ps.length : Int) ≤ most
  ps : ∀ c ∈ x.ps, ConG ss as 1 c
  c : ConG ss as 2 x.c
structure MdlG (a b c d e : Int) (m : Mdl) : Prop where
  sl : (m.ss.length : Int) ≤ a
  al1 : 1 ≤ m.as.length
  al : (m.as.length : Int) ≤ b
  snd : m.ss.Nodup
  ands : m.as.Nodup
  snm : ∀ w ∈ m.ss, NmG w
  anm : ∀ w ∈ m.as, NmG w
  kl : (m.kinds.length : Int) ≤ c
  asl : (m.asm.length : Int) ≤ d
  cll : (m.clm.length : Int) ≤ e
  kg : ∀ k ∈ m.kinds, KdG m.ss m.as k
  ag : ∀ p ∈ m.asm, ConG m.ss m.as 1 p.2
  cg : ∀ p ∈ m.clm, ClmG m.ss m.as 2 p.2
  nd : m.names.Nodup
  nm : ∀ w ∈ m.names, NmG w
theorem ok_ev {m : R T} {a : T} {S : Sto} (h : ∀ Q : T → Sto → Prop, Q a S → Ok m Q) : m = .ok a S := by
  have : Ok m fun r S1 => r = a ∧ S1 = S := h _ ⟨rfl, rfl⟩
  obtain ⟨a, S1, h1, h2, h3⟩ := this.get
  rw [h1, h2, h3]
theorem namesN_has {p : Nat} : ∀ (k : Nat) {ss : List Str} (i : Nat) (h : i < ss.length), ss.Nodup → (ss[i] ∈ namesN k p ss ↔ bitN p (k + i) = true)
  | _, [], i, h, _ => absurd h (Nat.not_lt_zero _)
  | k, s :: ss, 0, _, hn => by
    rw [List.nodup_cons] at hn
    rw [namesN]
    by_cases c : bitN p k = true
    · rw [if_pos c]
      exact ⟨fun _ => c, fun _ => List.mem_cons_self⟩
    · rw [if_neg c]
      exact ⟨fun m => absurd (namesN_sub _ _ _ m) hn.1, fun q => absurd q c⟩
  | k, s :: ss, i + 1, h, hn => by
    rw [List.nodup_cons] at hn
    have hi : i < ss.length := Nat.lt_of_succ_lt_succ h
    have ih := namesN_has (p := p) (k + 1) i hi hn.2
    have hne : ss[i] ≠ s := fun e => hn.1 (e ▸ List.getElem_mem hi)
    rw [namesN, List.getElem_cons_succ, show k + (i + 1) = k + 1 + i by omega, ← ih]
    by_cases c : bitN p k = true
    · rw [if_pos c, List.mem_cons]
      exact ⟨fun m => m.resolve_left hne, fun m => .inr m⟩
    · rw [if_neg c]
theorem index_ev {w : Str} : ∀ {ss : List Str}, w ∈ ss → ∃ j, ∃ h : j < ss.length, ss[j] = w ∧ ixF (.str w) (ss.map T.str) = some j
  | [], m => nomatch m
  | s :: ss, m => by
    have e : eqF (.str s) (.str w) = decide (s = w) := rfl
    unfold ixF
    rw [List.map_cons, List.findIdx?_cons, e]
    by_cases c : s = w
    · refine ⟨0, Nat.zero_lt_succ _, c, ?_⟩
      rw [decide_eq_true c]
      rfl
    · obtain ⟨j, h, h1, h2⟩ := index_ev (ss := ss) ((List.mem_cons.mp m).resolve_left fun q => c q.symm)
      refine ⟨j + 1, Nat.succ_lt_succ h, h1, ?_⟩
      unfold ixF at h2
      rw [decide_eq_false c, h2]
      rfl
theorem index_ok {w : Str} {ss : List Str} (m : w ∈ ss) : ∃ j, ∃ h : j < ss.length, ss[j] = w ∧ ∀ S, fIndex (.lst (ss.map T.str)) [.str w] S = .ok (.int (j : Int)) S := by
  obtain ⟨j, h, h1, h2⟩ := index_ev m
  refine ⟨j, h, h1, fun S => ?_⟩
  show (if (flatT (.str w) && (ss.map T.str).all flatT) = true then match ixF (.str w) (ss.map T.str) with
      | some j => R.ok (T.int (j : Int)) S
      | none => .bad else .bad) = _
  rw [flat_strs, show flatT (.str w) = true from rfl, h2]
  rfl
def szOf (ss : List Str) : Nat := 2 ^ ss.length
theorem size_ev {ss : List Str} {rest : List T} {S : Sto} (hc : cls 0 rest = true) (hl : ss.length ≤ 3) : F__law_size [.tup (strsT ss :: rest)] S = .ok (.int (szOf ss : Nat)) S := ok_ev fun Q h => by
  unfold F__law_size
  refine ok_frame0 (by simp [strsT, hc]) (ok_run ?_)
  unfold B__law_size
  try simp_arith only [strsT, List.length_map]
  have hk : L2.atI [T.int 1, .int 2, .int 4, .int 8] (ss.length : Int) = some (.int (szOf ss : Nat)) := by
    unfold szOf
    have : ss.length = 0 ∨ ss.length = 1 ∨ ss.length = 2 ∨ ss.length = 3 := by omega
    rcases this with q | q | q | q <;> rw [q] <;> rfl
  try simp_arith only [hk, endQ]
  exact ⟨by simp, by simpa using h⟩
theorem within_ok : ∀ {d : Nat} (e : SE) {ss : List Str} {p : Nat} {rest : List T} {S : Sto} {Q : T → Sto → Prop}, cls 0 rest = true → ss.Nodup → ss.length ≤ 3 → e.over ss → e.dep < d → Q (.bl (e.mem (namesN 0 p ss))) S → Ok (F__law_within d [.tup (strsT ss :: rest), e.t, .int (p : Int)] S) Q
  | 0, e, _, _, _, _, _, _, _, _, _, h, _ => absurd h (Nat.not_lt_zero _)
  | d + 1, e, ss, p, rest, S, Q, hc, hnd, hl, ho, hd, h => by
    rw [F__law_within]
    refine ok_frame0 (by simp [SE.cl, strsT, hc]) (ok_run ?_)
    have fin : ∀ (b : Bool) (S1 : Sto), b = e.mem (namesN 0 p ss) → endQ (fun t S1 => cl 0 (thaw 0 true t S1) = true ∧ Q (thaw 0 true t S1) S) (.rt (.bl b)) S1 := fun b S1 hb => ⟨by simp, by rw [hb]; simpa using h⟩
    unfold B__law_within
    cases e with
    | all => try simp_arith only [SE.t, kd_self, kd_as, kd_an, kd_aa, kd_ao, kd_aN, kd_Na, kd_Ns, kd_Nn, kd_NA, kd_No, kd_sa, kd_sN, kd_sn, kd_sA, kd_so, kd_na, kd_nN, kd_ns, kd_nA, kd_no, kd_nl, kd_Aa, kd_AN, kd_As, kd_An, kd_Ao, kd_Al, kd_oa, kd_oN, kd_os, kd_on, kd_oA, kd_ol, kd_ln]; exact fin _ _ rfl
    | none => try simp_arith only [SE.t, kd_self, kd_as, kd_an, kd_aa, kd_ao, kd_aN, kd_Na, kd_Ns, kd_Nn, kd_NA, kd_No, kd_sa, kd_sN, kd_sn, kd_sA, kd_so, kd_na, kd_nN, kd_ns, kd_nA, kd_no, kd_nl, kd_Aa, kd_AN, kd_As, kd_An, kd_Ao, kd_Al, kd_oa, kd_oN, kd_os, kd_on, kd_oA, kd_ol, kd_ln]; exact fin _ _ rfl
    | sec s =>
      obtain ⟨j, hj, hjs, hji⟩ := index_ok ho
      have hli : ∀ S : Sto, fListA true [strsT ss] S = .ok (.lst (ss.map T.str)) S := fun S => rfl
      have hk : L2.atI [T.int 1, .int 2, .int 4] (j : Int) = some (.int (2 ^ j : Nat)) := by
        have : j = 0 ∨ j = 1 ∨ j = 2 := by omega
        rcases this with q | q | q <;> rw [q] <;> rfl
      have hp2 : 0 < (2 ^ j : Nat) ∧ (2 ^ j : Nat) ≤ 4 := by
        have : j = 0 ∨ j = 1 ∨ j = 2 := by omega
        rcases this with q | q | q <;> rw [q] <;> decide
      have e1 := ev_div (S := []) (i := (p : Int)) (j := ((2 ^ j : Nat) : Int)) (by omega)
      have e2 := ev_mod (S := []) (i := (p : Int) / ((2 ^ j : Nat) : Int)) (j := 2) (by omega)
      try simp_arith only [SE.t, kd_self, kd_as, kd_an, kd_aa, kd_ao, kd_aN, kd_Na, kd_Ns, kd_Nn, kd_NA, kd_No, kd_sa, kd_sN, kd_sn, kd_sA, kd_so, kd_na, kd_nN, kd_ns, kd_nA, kd_no, kd_nl, kd_Aa, kd_AN, kd_As, kd_An, kd_Ao, kd_Al, kd_oa, kd_oN, kd_os, kd_on, kd_oA, kd_ol, kd_ln, hli, hji, hk, e1, e2]
      refine fin _ _ ?_
      show decide ((p : Int) / ((2 ^ j : Nat) : Int) % 2 = 1) = decide (s ∈ namesN 0 p ss)
      have hb := namesN_has (p := p) 0 j hj hnd
      rw [hjs, Nat.zero_add] at hb
      unfold bitN at hb
      rw [decide_eq_true_iff] at hb
      refine decide_eq_decide.mpr ?_
      rw [hb]
      generalize 2 ^ j = N at hp2 ⊢
      have : (p : Int) / (N : Int) = ((p / N : Nat) : Int) := rfl
      rw [this]
      omega
    | not e =>
      try simp_arith only [SE.t, kd_self, kd_as, kd_an, kd_aa, kd_ao, kd_aN, kd_Na, kd_Ns, kd_Nn, kd_NA, kd_No, kd_sa, kd_sN, kd_sn, kd_sA, kd_so, kd_na, kd_nN, kd_ns, kd_nA, kd_no, kd_nl, kd_Aa, kd_AN, kd_As, kd_An, kd_Ao, kd_Al, kd_oa, kd_oN, kd_os, kd_on, kd_oA, kd_ol, kd_ln]
      refine within_ok e hc hnd hl ho (Nat.lt_of_succ_lt_succ hd) ?_
      try simp_arith only []
      exact fin _ _ rfl
    | and a b =>
      have ha : a.dep < d := by have : max a.dep b.dep + 1 < d + 1 := hd; omega
      have hb : b.dep < d := by have : max a.dep b.dep + 1 < d + 1 := hd; omega
      try simp_arith only [SE.t, kd_self, kd_as, kd_an, kd_aa, kd_ao, kd_aN, kd_Na, kd_Ns, kd_Nn, kd_NA, kd_No, kd_sa, kd_sN, kd_sn, kd_sA, kd_so, kd_na, kd_nN, kd_ns, kd_nA, kd_no, kd_nl, kd_Aa, kd_AN, kd_As, kd_An, kd_Ao, kd_Al, kd_oa, kd_oN, kd_os, kd_on, kd_oA, kd_ol, kd_ln]
      refine within_ok a hc hnd hl ho.1 ha ?_
      try simp_arith only []
      cases hm : a.mem (namesN 0 p ss) with
      | false => try simp_arith only []; exact fin _ _ (by simp [SE.mem, hm])
      | true =>
        try simp_arith only []
        refine within_ok b hc hnd hl ho.2 hb ?_
        exact fin _ _ (by simp [SE.mem, hm])
    | or a b =>
      have ha : a.dep < d := by have : max a.dep b.dep + 1 < d + 1 := hd; omega
      have hb : b.dep < d := by have : max a.dep b.dep + 1 < d + 1 := hd; omega
      try simp_arith only [SE.t, kd_self, kd_as, kd_an, kd_aa, kd_ao, kd_aN, kd_Na, kd_Ns, kd_Nn, kd_NA, kd_No, kd_sa, kd_sN, kd_sn, kd_sA, kd_so, kd_na, kd_nN, kd_ns, kd_nA, kd_no, kd_nl, kd_Aa, kd_AN, kd_As, kd_An, kd_Ao, kd_Al, kd_oa, kd_oN, kd_os, kd_on, kd_oA, kd_ol, kd_ln]
      refine within_ok a hc hnd hl ho.1 ha ?_
      try simp_arith only []
      cases hm : a.mem (namesN 0 p ss) with
      | true => try simp_arith only []; exact fin _ _ (by simp [SE.mem, hm])
      | false =>
        try simp_arith only []
        refine within_ok b hc hnd hl ho.2 hb ?_
        exact fin _ _ (by simp [SE.mem, hm])
theorem szOf_le {ss : List Str} (hl : ss.length ≤ 3) : szOf ss ≤ 8 := Nat.pow_le_pow_right (n := 2) (by decide) hl
structure MdlU (m : Mdl) : Prop where
  sl : m.ss.length ≤ 3
  nd : m.ss.Nodup
  kl : m.kinds.length ≤ 100
  o1 : ∀ k ∈ m.kinds, k.payer.over m.ss ∧ k.payer.dep < 24
  o2 : ∀ k ∈ m.kinds, k.payee.over m.ss ∧ k.payee.dep < 24
def Con.rel : Con → Str
  | .each _ _ r => r
  | .sum _ r => r
def Con.len : Con → Nat
  | .each .. => 4
  | .sum .. => 3
def ConU (ss : List Str) : Con → Prop
  | .each e _ _ => e.over ss ∧ e.dep < 24
  | .sum .. => True
theorem kd_ss' : decide (("sum" : Str) = "sum") = true := by decide +kernel
theorem mdl_cr (m : Mdl) : cls 0 [strsT m.as, .tup (m.kinds.map Kd.t), .tup (m.asm.map asmT), .tup (m.clm.map clmT)] = true := by simp [strsT, cls_kinds, cls_asm, cls_clm]
theorem mdl_t (m : Mdl) : m.t = .tup (strsT m.ss :: [strsT m.as, .tup (m.kinds.map Kd.t), .tup (m.asm.map asmT), .tup (m.clm.map clmT)]) := rfl
theorem it_ents (es : List (Str × Int)) (S : Sto) : itOf (entsT es) S = .ok ⟨es.map eT, []⟩ S := rfl
def entryOf (a : Str) : List (Str × Int) → Int
  | [] => 0
  | e :: es => if e.1 = a then e.2 else entryOf a es
theorem entryOf_small {a : Str} : ∀ {es : List (Str × Int)}, (∀ e ∈ es, -9999 ≤ e.2 ∧ e.2 ≤ 9999) → -9999 ≤ entryOf a es ∧ entryOf a es ≤ 9999
  | [], _ => by
    show (-9999 : Int) ≤ 0 ∧ (0 : Int) ≤ 9999
    decide
  | e :: es, h => by
    rw [entryOf]
    split
    · exact h e List.mem_cons_self
    · exact entryOf_small fun x m => h x (List.mem_cons_of_mem _ m)
theorem sum_ints (l : List Int) (S : Sto) : fSum [.lst (l.map T.int)] S = .ok (.int l.sum) S := by
  have := sum_ev (ts := l.map T.int) (l := l) (by
    have := intsOf_map (fun x : Int => x) l
    rwa [List.map_id'] at this) S
  exact this
def ConW : Con → Prop
  | .each _ ts _ => ts.length ≤ 100
  | .sum ts _ => ts.length ≤ 100 ∧ ∀ t ∈ ts, t.2.dep < 24
def tupI (xs : List Int) : T := .tup (xs.map T.int)
structure Sy where
  goal : List Int
  rows : List (List Int)
def Sy.t (s : Sy) : T := .tup [tupI s.goal, .tup (s.rows.map tupI)]
theorem tupI_cl (n : Nat) (xs : List Int) : Fx.cl n (tupI xs) = true := by
  show Fx.cl n (.tup (xs.map T.int)) = true
  rw [cl_tup]
  exact cls_ints n xs
theorem tupIs_cl (n : Nat) (rs : List (List Int)) : cls n (rs.map tupI) = true := cls_all _ _ fun t m => by
  obtain ⟨r, _, rfl⟩ := List.mem_map.mp m
  exact tupI_cl n r
theorem Sy.cl (n : Nat) (s : Sy) : Fx.cl n s.t = true := by
  unfold Sy.t
  rw [cl_tup, Fx.cls_cons, Fx.cls_cons, Fx.cls_nil, tupI_cl, cl_tup, tupIs_cl]
  rfl
theorem asg_ev (p : Pat) (a : Fx.Env → Sto → R T) (τ : Fx.Env) (S : Sto) : sAsg p a τ S = (a τ S).bind fun x S1 => match bindP p x τ with
  | some τ1 => .ok (.nx τ1) S1
  | none => .bad := id rfl
theorem lc_overF {α : Type} {ts0 : List T} {p : Pat} {c : Fx.Env → Sto → R Bool} {b : Fx.Env → Sto → R T} {τ : Fx.Env} {S : Sto} (f : α → T) (k : α → Bool) (g : α → T) : ∀ (xs : List α) (acc : List T), acc.length + xs.length ≤ 100000 →
    (∀ x ∈ xs, ∃ τ1, bindP p (f x) τ = some τ1 ∧ c τ1 S = .ok (k x) S ∧ (k x = true → b τ1 S = .ok (g x) S)) → mLcGo ⟨ts0, []⟩ p c b τ (xs.map f) acc S = .ok (acc ++ (xs.filter k).map g) S
  | [], acc, _, _ => by rw [List.map_nil, mLcGo, ifP_t (chk_nil _ _)]; simp
  | x :: xs, acc, hl, hs => by
    obtain ⟨τ1, h1, h2, h3⟩ := hs x List.mem_cons_self
    rw [List.length_cons] at hl
    rw [List.map_cons, mLcGo, ifP_t (chk_nil _ _), Fx.bound, h1]
    dsimp only
    rw [h2, ev_noErr, ev_ok, List.filter_cons]
    by_cases hk : k x = true
    · rw [if_pos hk, if_pos hk, h3 hk, ev_noErr, ev_ok, if_pos (by omega), lc_overF f k g xs (acc ++ [g x]) (by simp; omega) fun y m => hs y (List.mem_cons_of_mem _ m)]
      simp
    · rw [if_neg hk, if_neg hk, lc_overF f k g xs acc (by omega) fun y m => hs y (List.mem_cons_of_mem _ m)]
theorem lc_over {α : Type} {ts0 : List T} {p : Pat} {b : Fx.Env → Sto → R T} {τ : Fx.Env} {S : Sto} (f g : α → T) (xs : List α) (hl : xs.length ≤ 100000)
    (hs : ∀ x ∈ xs, ∃ τ1, bindP p (f x) τ = some τ1 ∧ b τ1 S = .ok (g x) S) : mLcGo ⟨ts0, []⟩ p mTrue b τ (xs.map f) [] S = .ok (xs.map g) S := by
  rw [lc_overF f (fun _ => true) g xs [] (by simpa using hl) fun x m => by
    obtain ⟨τ1, h1, h2⟩ := hs x m
    exact ⟨τ1, h1, rfl, fun _ => h2⟩]
  rw [List.nil_append, List.filter_eq_self.mpr fun _ _ => rfl]
theorem entryOf_sum {a : Str} : ∀ {es : List (Str × Int)}, (es.map (·.1)).Nodup → ((es.filter fun e => decide (e.1 = a)).map (·.2)).sum = entryOf a es
  | [], _ => rfl
  | e :: es, h => by
    rw [List.map_cons, List.nodup_cons] at h
    rw [entryOf, List.filter_cons]
    by_cases c : e.1 = a
    · rw [if_pos c, if_pos (decide_eq_true c), List.map_cons, List.sum_cons]
      have : es.filter (fun e => decide (e.1 = a)) = [] := List.filter_eq_nil_iff.mpr fun x m q => h.1 (List.mem_map.mpr ⟨x, m, by rw [c]; exact of_decide_eq_true q⟩)
      rw [this]
      simp
    · rw [if_neg c, if_neg (by simpa using c)]
      exact entryOf_sum h.2
theorem filter_map_ent (a : Str) (es : List (Str × Int)) : ((es.map eT).filter fun t => match t with
    | .tup (.str x :: _) => decide (x = a)
    | _ => false).map (fun t => match t with
    | .tup [_, .int n] => T.int n
    | _ => .non) = ((es.filter fun e => decide (e.1 = a)).map (·.2)).map T.int := by
  induction es with
  | nil => rfl
  | cons e es ih =>
    rw [List.map_cons, List.filter_cons, List.filter_cons]
    show List.map _ (if decide (e.1 = a) = true then _ else _) = _
    by_cases c : decide (e.1 = a) = true
    · rw [if_pos c, if_pos c, List.map_cons, List.map_cons, List.map_cons, ih]
      rfl
    · rw [if_neg c, if_neg c, ih]
theorem lentry_ev {es : List (Str × Int)} {a : Str} (hn : (es.map (·.1)).Nodup) (hl : es.length ≤ 1000) (S : Sto) : F__law_entry [entsT es, .str a] S = .ok (.int (entryOf a es)) S := ok_ev fun Q h => by
  unfold F__law_entry
  refine ok_frame0 (by simp [entsT, cls_eT]) ?_
  generalize hB : B__law_entry = B
  refine ok_run ?_
  subst hB
  unfold B__law_entry
  try simp_arith only [it_ents]
  rw [lc_pure (fun t => match t with
    | .tup (.str x :: _) => decide (x = a)
    | _ => false) (fun t => match t with
    | .tup [_, .int n] => T.int n
    | _ => .non) _ [] (by rw [List.length_map, List.length_nil]; omega) fun t m => ?_]
  · rw [List.nil_append, filter_map_ent]
    try simp_arith only [sum_ints, endQ]
    rw [entryOf_sum hn]
    exact ⟨by simp, by rw [thaw_int]; exact h⟩
  · obtain ⟨e, me, rfl⟩ := List.mem_map.mp m
    refine ⟨_, bindP_nm _ _ _, ?_⟩
    try simp_arith only [eT]
    exact ⟨trivial, fun _ => trivial⟩
structure EntW (es : List (Str × Int)) : Prop where
  nd : (es.map (·.1)).Nodup
  sm : ∀ e ∈ es, -9999 ≤ e.2 ∧ e.2 ≤ 9999
  ln : es.length ≤ 1000
structure MdlW (m : Mdl) : Prop where
  u : MdlU m
  nn : (m.kinds.map Kd.name).Nodup
  es : ∀ k ∈ m.kinds, EntW k.given ∧ EntW k.taken
def ConV (ss : List Str) : Con → Prop
  | .each e ts _ => ts.length ≤ 100 ∧ e.over ss ∧ e.dep < 24
  | .sum ts _ => ts.length ≤ 100 ∧ ∀ t ∈ ts, t.2.over ss ∧ t.2.dep < 24
theorem ConV.w {ss : List Str} {c : Con} (h : ConV ss c) : ConW c := by
  cases c with
  | each e ts r => exact h.1
  | sum ts r => exact ⟨h.1, fun t m => (h.2 t m).2⟩
theorem ConV.u {ss : List Str} {c : Con} (h : ConV ss c) : ConU ss c := by
  cases c with
  | each e ts r => exact h.2
  | sum ts r => trivial
theorem filter_kd (n : Str) : ∀ {ks : List Kd}, (ks.map Kd.name).Nodup → ∀ k ∈ ks, k.name = n → ks.filter (fun k => decide (k.name = n)) = [k]
  | [], _, _, m, _ => nomatch m
  | x :: ks, h, k, m, e => by
    rw [List.map_cons, List.nodup_cons] at h
    have none : ∀ {k : Kd}, x.name = n → k ∈ ks → k.name ≠ n := fun q mk z => h.1 (List.mem_map.mpr ⟨_, mk, by rw [z, q]⟩)
    rcases List.mem_cons.mp m with rfl | m
    · rw [List.filter_cons, if_pos (decide_eq_true e), List.filter_eq_nil_iff.mpr fun y my q => none e my (of_decide_eq_true q)]
    · rw [List.filter_cons, if_neg fun q => none (of_decide_eq_true q) m e]
      exact filter_kd n h.2 k m e
theorem same_yes {d : Nat} {x : T} {e : Nat} {S : Sto} {Q : T → Sto → Prop} (hx : Pl e x) (he : e ≤ d) (h : Q (.bl true) S) : Ok (F__law_same (d + 1) [x, x] S) Q := same_okB hx (hx.le he) fun b hb => by
  rw [hb.mpr rfl]
  exact h
theorem MdlG.u {a b c d e : Int} {m : Mdl} (h : MdlG a b c d e m) (ha : a ≤ 3) (hc : c ≤ 100) : MdlU m where
  sl := by have := h.sl; omega
  nd := h.snd
  kl := by have := h.kl; omega
  o1 := fun k mk => ⟨(h.kg k mk).payer.over, by have := (h.kg k mk).payer.dep; omega⟩
  o2 := fun k mk => ⟨(h.kg k mk).payee.over, by have := (h.kg k mk).payee.dep; omega⟩
theorem ConG.v {ss as : List Str} {d : Nat} {c : Con} (h : ConG ss as d c) (hd : d < 24) : ConV ss c := by
  cases c with
  | each e ts r => exact ⟨by have := h.2.2.1; omega, h.1.over, by have := h.1.dep; omega⟩
  | sum ts r => exact ⟨by have := h.2.1; omega, fun t m => ⟨(h.2.2.1 t m).2.over, by have := (h.2.2.1 t m).2.dep; omega⟩⟩
theorem entsOk.w {as : List Str} {es : List (Str × Int)} (h : entsOk as es) (hn : as.Nodup) (hl : as.length ≤ 1000) : EntW es := ⟨h.2.1 hn, fun e m => by
  rcases (h.2.2 e m).2 with z | z <;> omega, by have := h.1; omega⟩
theorem MdlG.w {a b c d e : Int} {m : Mdl} (h : MdlG a b c d e m) (ha : a ≤ 3) (hb : b ≤ 100) (hc : c ≤ 100) : MdlW m where
  u := h.u ha hc
  nn := by
    have := h.nd
    unfold Mdl.names at this
    exact (List.nodup_append.mp this).1
  es := fun k mk => by
    have := h.al
    exact ⟨(h.kg k mk).given.w h.ands (by omega), (h.kg k mk).taken.w h.ands (by omega)⟩
theorem Ar.and {ss : List Str} {d : Nat} {a b : SE} (h : Ar ss d a) (g : Ar ss d b) : Ar ss (d + 1) (.and a b) := ⟨⟨h.over, g.over⟩, by
  have h1 := h.dep
  have h2 := g.dep
  show max a.dep b.dep + 1 ≤ d + 1
  omega⟩
theorem piece_ar {ss : List Str} {w : Str} (h : w ∈ ss) : Ar ss 1 (.sec w) ∧ Ar ss 1 (.not (.sec w)) := ⟨⟨h, by show 0 ≤ 1; omega⟩, ⟨h, by show 0 + 1 ≤ 1; omega⟩⟩
theorem strs_at {ns : List Str} {i : Int} (h0 : 0 ≤ i) (h : i < ns.length) : ∃ w ∈ ns, L2.atI (ns.map T.str) i = some (.str w) := ⟨ns.getD i.toNat "", acc_in h0 h, atI_strs h0 h⟩
theorem narrow_ok {t : Tp} {ss : List Str} {d : Nat} {e : SE} {rest : Sto} {Q : T → Sto → Prop} (hp : 0 ≤ t.pl) (hl : ss.length ≤ 3) (hd : 1 ≤ d) (he : Ar ss d e)
    (h : ∀ (e' : SE) (t' : Tp), 0 ≤ t'.pl → Ar ss (d + 2) e' → Q e'.t (t'.o :: rest)) : Ok (F__law_narrow [.ref 0, strsT ss, e.t] (t.o :: rest)) Q := by
  unfold F__law_narrow
  refine ok_frame1 (by rw [Fx.cls_cons, Fx.cls_cons, Fx.cls_cons, Fx.cls_nil, e.cl]; simp [strsT]) t.clO ?_
  generalize hB : B__law_narrow = B
  refine ok_run ?_
  subst hB
  unfold B__law_narrow
  have lens : ∀ S, fLen [strsT ss] S = .ok (.int ss.length) S := fun S => by
    show fLen [.tup (ss.map T.str)] S = _
    rw [ev_lenT, List.length_map]
  try simp_arith only [lens]
  refine draw_ok hp (by omega) fun at_ t1 hp1 ha0 ha => ?_
  try simp_arith only [lens]
  rw [range1_ev _ _ (by omega)]
  try simp_arith only []
  refine ok_for (fun i τ S => ∃ (e' : SE) (t' : Tp) (x4 x5 : Option T), τ = [some (.ref 0), some (strsT ss), some e'.t, some (.int at_), x4, x5] ∧ S = [t'.o] ∧ 0 ≤ t'.pl ∧ Ar ss (d + i) e') ⟨e, t1, _, _, rfl, rfl, hp1, he⟩ ?_ ?_
  · rintro i v τ S q ⟨e', t', x4, x5, rfl, rfl, hp', he'⟩
    obtain ⟨hi, rfl⟩ := rangeT_at q
    refine ⟨_, bindP_nm _ _ _, ?_⟩
    have hpos : (0 : Int) < (ss.length : Int) := by omega
    have hm1 := Int.emod_nonneg (at_ + (0 + (i : Int))) (show (ss.length : Int) ≠ 0 by omega)
    have hm2 := Int.emod_lt_of_pos (at_ + (0 + (i : Int))) hpos
    obtain ⟨w, mw, hw⟩ := strs_at hm1 hm2
    have hix : ∀ S, fIx (strsT ss) (.int ((at_ + (0 + (i : Int))) % (ss.length : Int))) S = .ok (.str w) S := fun S => by
      show fIx (.tup (ss.map T.str)) _ S = _
      rw [ev_ixT, hw]
    have hmod := fun S => ev_mod (S := S) (i := at_ + (0 + (i : Int))) (j := (ss.length : Int)) hpos
    obtain ⟨p1, p2⟩ := piece_ar mw
    try simp_arith only [lens, hmod, hix]
    refine draw_ok hp' (by decide) fun n t2 hp2 _ _ => ?_
    have nx : ∀ (p : SE), Ar ss 1 p → ∃ (e'' : SE) (t'' : Tp) (x4 x5 : Option T), ([some (.ref 0), some (strsT ss), some (T.tup [.str "and", e'.t, p.t]), some (.int at_), some (.int (0 + (i : Int))), some p.t] : Fx.Env) = [some (.ref 0), some (strsT ss), some e''.t, some (.int at_), x4, x5] ∧ [t2.o] = [t''.o] ∧ 0 ≤ t''.pl ∧ Ar ss (d + (i + 1)) e'' := fun p hpa => ⟨.and e' p, t2, _, _, rfl, rfl, hp2, he'.and (hpa.le (by omega))⟩
    by_cases c : n = 0
    · try simp_arith only [decide_eq_true c, forQ]
      exact nx (.not (.sec w)) p2
    · try simp_arith only [decide_eq_false c, forQ]
      exact nx (.sec w) p1
  · rintro τ S ⟨e', t', x4, x5, rfl, rfl, hp', he'⟩
    rw [rangeT_length] at he'
    try simp_arith only [endQ]
    exact ⟨t'.o, [], rfl, t'.clO, by rw [e'.thaw]; exact e'.cl 1, by rw [e'.thaw]; exact h e' t' hp' (he'.le (by omega))⟩
theorem short_ok {t : Tp} {ss as : List Str} {rest : Sto} {Q : T → Sto → Prop} (hp : 0 ≤ t.pl) (hl : ss.length ≤ 3) (ha : 1 ≤ as.length) (ha2 : as.length ≤ 1000)
    (h : ∀ (c : Con) (t' : Tp), 0 ≤ t'.pl → ConG ss as 3 c → c.accs.length ≤ 2 → Q c.t (t'.o :: rest)) : Ok (F__law_short [.ref 0, strsT ss, strsT as] (t.o :: rest)) Q := by
  unfold F__law_short
  refine ok_frame1 (by simp [strsT]) t.clO ?_
  generalize hB : B__law_short = B
  refine ok_run ?_
  subst hB
  unfold B__law_short
  have hcut : ∀ (xs : List T) S, fSlA true (.tup xs) none (some 2) S = .ok (.tup (xs.take 2)) S := fun xs S => by
    show R.ok (T.tup (cutT xs none (some 2))) S = _
    rw [cut_to _ (by decide)]
    rfl
  try simp_arith! only []
  refine gcon_ok hp (by omega) ha ha2 fun c t1 hp1 hc => ?_
  cases c with
  | sum ts rel =>
    have i0 : ∀ S, fIx (Con.sum ts rel).t (.int 0) S = .ok (.str "sum") S := fun S => rfl
    have i1 : ∀ S, fIx (Con.sum ts rel).t (.int 1) S = .ok (.tup (ts.map qT)) S := fun S => rfl
    have i2 : ∀ S, fIx (Con.sum ts rel).t (.int 2) S = .ok (.str rel) S := fun S => rfl
    have e : T.tup [.str "sum", .tup ((ts.map qT).take 2), .str rel] = (Con.sum (ts.take 2) rel).t := by rw [← List.map_take]; rfl
    have hc' : ConG ss as 3 (.sum (ts.take 2) rel) := ⟨by rw [List.length_take]; have := hc.1; omega, by rw [List.length_take]; omega, fun p mp => ⟨(hc.2.2.1 p (List.mem_of_mem_take mp)).1, (hc.2.2.1 p (List.mem_of_mem_take mp)).2.le (by decide)⟩, hc.2.2.2⟩
    try simp_arith! only [i0, i1, i2, hcut, e]
    exact con_fin1 _ t1 _ (h _ t1 hp1 hc' (by show ((ts.take 2).map _).length ≤ 2; rw [List.length_map, List.length_take]; omega))
  | each e ts rel =>
    have i0 : ∀ S, fIx (Con.each e ts rel).t (.int 0) S = .ok (.str "each") S := fun S => rfl
    have i1 : ∀ S, fIx (Con.each e ts rel).t (.int 1) S = .ok e.t S := fun S => rfl
    have i2 : ∀ S, fIx (Con.each e ts rel).t (.int 2) S = .ok (.tup (ts.map pT)) S := fun S => rfl
    have i3 : ∀ S, fIx (Con.each e ts rel).t (.int 3) S = .ok (.str rel) S := fun S => rfl
    try simp_arith! only [i0, i1]
    refine narrow_ok hp1 hl (by decide) hc.1 fun e' t2 hp2 he' => ?_
    have ee : T.tup [.str "each", e'.t, .tup ((ts.map pT).take 2), .str rel] = (Con.each e' (ts.take 2) rel).t := by rw [← List.map_take]; rfl
    have hc' : ConG ss as 3 (.each e' (ts.take 2) rel) := ⟨he', by rw [List.length_take]; have := hc.2.1; omega, by rw [List.length_take]; omega, fun p mp => hc.2.2.2.1 p (List.mem_of_mem_take mp), hc.2.2.2.2⟩
    try simp_arith! only [i2, i3, hcut, ee]
    exact con_fin1 _ t2 _ (h _ t2 hp2 hc' (by show ((ts.take 2).map _).length ≤ 2; rw [List.length_map, List.length_take]; omega))
theorem exactly_ok {ss : List Str} {rest : List T} {p : Int} {S : Sto} {Q : T → Sto → Prop} (hl : ss.length ≤ 3) (hc : cls 0 rest = true) (h : ∀ e : SE, Ar ss 3 e → Q e.t S) : Ok (F__law_exactly [.tup (strsT ss :: rest), .int p] S) Q := by
  unfold F__law_exactly
  refine ok_frame0 (by rw [Fx.cls_cons, cl_tup, Fx.cls_cons, hc]; simp [strsT]) ?_
  generalize hB : B__law_exactly = B
  refine ok_run ?_
  subst hB
  unfold B__law_exactly
  have lens : ∀ S, fLen [strsT ss] S = .ok (.int ss.length) S := fun S => by
    show fLen [.tup (ss.map T.str)] S = _
    rw [ev_lenT, List.length_map]
  have i0 : ∀ S, fIx (.tup (strsT ss :: rest)) (.int 0) S = .ok (strsT ss) S := fun S => by rw [ev_ixT, atI_0]
  have eall : T.tup [.str "all"] = SE.all.t := rfl
  try simp_arith! only [i0, lens]
  rw [range1_ev _ _ (by omega)]
  try simp_arith! only [eall]
  refine ok_for (fun i τ S => ∃ (e : SE) (x3 x4 : Option T), τ = [some (.tup (strsT ss :: rest)), some (.int p), some e.t, x3, x4] ∧ S = [] ∧ Ar ss i e) ⟨.all, _, _, rfl, rfl, ⟨trivial, Nat.le_refl 0⟩⟩ ?_ ?_
  · rintro i v τ S q ⟨e, x3, x4, rfl, rfl, he⟩
    obtain ⟨hi, rfl⟩ := rangeT_at q
    refine ⟨_, bindP_nm _ _ _, ?_⟩
    have hi3 : i < 3 := by omega
    obtain ⟨w, mw, hw⟩ := strs_at (ns := ss) (i := (i : Int)) (by omega) (by omega)
    have hix : ∀ S, fIx (strsT ss) (.int (i : Int)) S = .ok (.str w) S := fun S => by
      show fIx (.tup (ss.map T.str)) _ S = _
      rw [ev_ixT, hw]
    obtain ⟨z, hz, hzm⟩ := pickI (xs := [1, 2, 4]) (us := [.int 1, .int 2, .int 4]) rfl (show (0 : Int) ≤ (i : Int) by omega) (by show (i : Int) < 3; omega)
    have hzb : 0 < z ∧ z ≤ 4 := by
      simp only [List.mem_cons, List.not_mem_nil, or_false] at hzm
      omega
    have hdiv := fun S => ev_div (i := p) (j := z) S ⟨by omega, by omega⟩
    have hmod := fun S => ev_mod (S := S) (i := p / z) (j := 2) (by decide)
    obtain ⟨p1, p2⟩ := piece_ar mw
    have ez : (0 : Int) + (i : Int) = (i : Int) := by omega
    try simp_arith! only [ez, i0, hix, hz, hdiv, hmod]
    have c0 : (i : Int) = 0 → i = 0 := fun h => by omega
    by_cases c1 : p / z % 2 = 0
    · rw [if_pos (decide_eq_true c1)]
      by_cases c2 : (i : Int) = 0
      · rw [if_pos (decide_eq_true c2)]
        exact ⟨.not (.sec w), _, _, rfl, rfl, p2.le (by omega)⟩
      · rw [if_neg (by simpa using fun h => c2 (by omega))]
        exact ⟨.and e (.not (.sec w)), _, _, rfl, rfl, he.and (p2.le (by omega))⟩
    · rw [if_neg (by simpa using c1)]
      by_cases c2 : (i : Int) = 0
      · rw [if_pos (decide_eq_true c2)]
        exact ⟨.sec w, _, _, rfl, rfl, p1.le (by omega)⟩
      · rw [if_neg (by simpa using fun h => c2 (by omega))]
        exact ⟨.and e (.sec w), _, _, rfl, rfl, he.and (p1.le (by omega))⟩
  · rintro τ S ⟨e, x3, x4, rfl, rfl, he⟩
    rw [rangeT_length] at he
    try simp_arith! only [endQ]
    exact ⟨by rw [e.thaw]; exact e.cl 0, by rw [e.thaw]; exact h e (he.le (by omega))⟩
structure KdW (ss as : List Str) (k : Kd) : Prop where
  payer : Ar ss 3 k.payer
  payee : Ar ss 3 k.payee
  given : entsOk as k.given
  taken : entsOk as k.taken
theorem KdG.w {ss as : List Str} {k : Kd} (h : KdG ss as k) : KdW ss as k := ⟨h.payer.le (by decide), h.payee.le (by decide), h.given, h.taken⟩
structure WldG (m : Mdl) : Prop where
  sl : m.ss.length ≤ 3
  al1 : 1 ≤ m.as.length
  al : m.as.length ≤ 4
  snd : m.ss.Nodup
  ands : m.as.Nodup
  snm : ∀ w ∈ m.ss, NmG w
  anm : ∀ w ∈ m.as, NmG w
  kl : m.kinds.length ≤ 5
  asl : m.asm.length ≤ 3
  cl0 : m.clm = []
  ke : ∀ k ∈ m.kinds, ∃ as, (as.Nodup ∧ as.length ≤ 4 ∧ ∀ w ∈ as, NmG w) ∧ KdW m.ss as k
  ag : ∀ p ∈ m.asm, ConG m.ss m.as 3 p.2 ∧ p.2.accs.length ≤ 2
  nd : m.names.Nodup
  nm : ∀ w ∈ m.names, NmG w
structure KdV (ss : List Str) (k : Kd) : Prop where
  payer : Ar ss 3 k.payer
  payee : Ar ss 3 k.payee
  given : EntW k.given
  taken : EntW k.taken
theorem WldG.kg {m : Mdl} (g : WldG m) : ∀ k ∈ m.kinds, KdV m.ss k := fun k mk => by
  obtain ⟨as, ⟨h1, h2, -⟩, h⟩ := g.ke k mk
  exact ⟨h.payer, h.payee, h.given.w h1 (by omega), h.taken.w h1 (by omega)⟩
theorem tk0 (k : Kd) (S : Sto) : fIx k.t (.int 0) S = .ok (.str k.name) S := rfl
theorem tk1 (k : Kd) (S : Sto) : fIx k.t (.int 1) S = .ok k.payer.t S := rfl
theorem tk2 (k : Kd) (S : Sto) : fIx k.t (.int 2) S = .ok (entsT k.given) S := rfl
theorem tk3 (k : Kd) (S : Sto) : fIx k.t (.int 3) S = .ok k.payee.t S := rfl
theorem tk4 (k : Kd) (S : Sto) : fIx k.t (.int 4) S = .ok (entsT k.taken) S := rfl
structure Wb (ss as ls : List Str) : Prop where
  sl : ss.length ≤ 3
  al1 : 1 ≤ as.length
  al : as.length ≤ 4
  snd : ss.Nodup
  ands : as.Nodup
  snm : ∀ w ∈ ss, NmG w
  anm : ∀ w ∈ as, NmG w
  lnd : ls.Nodup
  lnm : ∀ w ∈ ls, NmG w
/-- labels at the front for the types, others behind for the assumptions -/
theorem lab_names {ls a b : List Str} (h : ls.Nodup) {i : Nat} (ha : a = ls.take i) (hb : ∃ j, i ≤ j ∧ ∃ n, b = (ls.drop j).take n) : (a ++ b).Nodup ∧ ∀ w ∈ a ++ b, w ∈ ls := by
  obtain ⟨j, hj, n, rfl⟩ := hb
  subst ha
  have h1 : (ls.take i ++ ls.drop i) = ls := List.take_append_drop i ls
  have hsub : ((ls.drop j).take n).Sublist (ls.drop i) := (List.take_sublist ..).trans (by
    have : ls.drop j = (ls.drop i).drop (j - i) := by rw [List.drop_drop]; congr 1; omega
    rw [this]
    exact List.drop_sublist ..)
  have hs : (ls.take i ++ (ls.drop j).take n).Sublist ls := by
    conv => rhs; rw [← h1]
    exact List.Sublist.append (List.Sublist.refl _) hsub
  exact ⟨h.sublist hs, fun w mw => hs.subset mw⟩
theorem world_t7_ok {t : Tp} {ss as ls : List Str} {ks : List Kd} {i : Nat} {x1 x6 x7 x8 : Option T} {Q : Fl → Sto → Prop} (hp : 0 ≤ t.pl) (b : Wb ss as ls) (hl4 : ls.length = 4) (hi : i ≤ 3) (hkn : ks.map Kd.name = ls.take i) (hk : ∀ k ∈ ks, KdW ss as k)
    (q : ∀ (m : Mdl) (t' : Tp) (g : Sto), 0 ≤ t'.pl → WldG m → Q (.rt m.t) (t'.o :: g)) : Ok (B__law_world_t7 [some (.ref 0), x1, some (strsT ss), some (strsT as), some (.lst (ls.map T.str)), some (.ref 1), x6, x7, x8, none] [t.o, .lst (ks.map Kd.t)]) Q := by
  have hkl : ks.length = i := by
    have := congrArg List.length hkn
    rw [List.length_map, List.length_take] at this
    omega
  unfold B__law_world_t7
  try simp_arith only []
  refine draw_ok hp (by decide) fun n t1 hp1 _ _ => ?_
  have fin : ∀ (asm : List (Str × Con)) (t' : Tp), 0 ≤ t'.pl → asm.length ≤ 3 → (∀ p ∈ asm, ConG ss as 3 p.2 ∧ p.2.accs.length ≤ 2) → (∃ j, i ≤ j ∧ ∃ n, asm.map (·.1) = (ls.drop j).take n) → Q (.rt (.tup [strsT ss, strsT as, .tup (ks.map Kd.t), .tup (asm.map asmT), .tup []])) [t'.o, .lst (ks.map Kd.t)] := fun asm t' hp' hl ha hn => by
    obtain ⟨h1, h2⟩ := lab_names b.lnd hkn hn
    have en : Mdl.names ⟨ss, as, ks, asm, []⟩ = ks.map Kd.name ++ asm.map (·.1) := by
      show ks.map Kd.name ++ (asm.map (·.1) ++ []) = _
      rw [List.append_nil]
    exact q ⟨ss, as, ks, asm, []⟩ t' _ hp' ⟨b.sl, b.al1, b.al, b.snd, b.ands, b.snm, b.anm, by show ks.length ≤ 5; omega, hl, rfl, fun k mk => ⟨as, ⟨b.ands, b.al, b.anm⟩, hk k mk⟩, ha, by rw [en]; exact h1, fun w mw => b.lnm w (h2 w (by rw [← en]; exact mw))⟩
  by_cases c : n = 0
  · have i3 : L2.atI (ls.map T.str) 3 = some (.str (ls.getD 3 "")) := atI_strs (by decide) (by omega)
    try simp_arith only [decide_eq_true c, i3]
    refine short_ok hp1 b.sl b.al1 (by have := b.al; omega) fun co t2 hp2 hc hcl => ?_
    have ht := tupR (S := [t2.o, .lst (ks.map Kd.t)]) (k := 1) (ts := ks.map Kd.t) rfl
    try simp_arith only [ht]
    exact fin [(ls.getD 3 "", co)] t2 hp2 (by show 1 ≤ 3; decide) (fun p mp => by rw [List.mem_singleton.mp mp]; exact ⟨hc, hcl⟩) ⟨3, hi, 1, by
      rw [List.drop_eq_getElem_cons (by omega)]
      show [ls.getD 3 ""] = [ls[3]]
      rw [List.getD_eq_getElem?_getD, List.getElem?_eq_getElem (by omega)]
      rfl⟩
  · have ht := tupR (S := [t1.o, .lst (ks.map Kd.t)]) (k := 1) (ts := ks.map Kd.t) rfl
    try simp_arith only [decide_eq_false c, ht]
    exact fin [] t1 hp1 (by decide) (fun p mp => nomatch mp) ⟨i, Nat.le_refl _, 0, rfl⟩
theorem world_t5_ok {t : Tp} {ss as ls : List Str} {x1 : Option T} {Q : Fl → Sto → Prop} (hp : 0 ≤ t.pl) (b : Wb ss as ls) (hl4 : ls.length = 4)
    (q : ∀ (m : Mdl) (t' : Tp) (g : Sto), 0 ≤ t'.pl → WldG m → Q (.rt m.t) (t'.o :: g)) : Ok (B__law_world_t5 [some (.ref 0), x1, some (strsT ss), some (strsT as), some (.lst (ls.map T.str)), none, none, none, none, none] [t.o]) Q := by
  unfold B__law_world_t5
  generalize hB1 : B__law_world_t7 = B1
  have key := fun t ks i x1 x6 x7 x8 Q => @world_t7_ok t ss as ls ks i x1 x6 x7 x8 Q
  rw [hB1] at key
  have lens : ∀ S, fLen [strsT ss] S = .ok (.int ss.length) S := fun S => by
    show fLen [.tup (ss.map T.str)] S = _
    rw [ev_lenT, List.length_map]
  try simp_arith only []
  refine draw_ok hp (by decide) fun n t1 hp1 hn0 hn => ?_
  obtain ⟨k, hk, hm⟩ := pickI (xs := [0, 1, 1, 1, 2, 2, 2, 2, 3, 3]) (us := [.int 0, .int 1, .int 1, .int 1, .int 2, .int 2, .int 2, .int 2, .int 3, .int 3]) rfl hn0 (by show n < 10; omega)
  have hkb : 0 ≤ k ∧ k ≤ 3 := by
    simp only [List.mem_cons, List.not_mem_nil, or_false] at hm
    omega
  try simp_arith only [hk]
  rw [range1_ev _ _ (by omega)]
  try simp_arith only []
  refine ok_for (fun i τ S => ∃ (ks : List Kd) (t' : Tp) (x6 x7 x8 : Option T), τ = [some (.ref 0), x1, some (strsT ss), some (strsT as), some (.lst (ls.map T.str)), some (.ref 1), x6, x7, x8, none] ∧ S = [t'.o, .lst (ks.map Kd.t)] ∧ 0 ≤ t'.pl ∧ ks.map Kd.name = ls.take i ∧ ∀ k ∈ ks, KdW ss as k) ⟨[], t1, _, _, _, rfl, rfl, hp1, rfl, fun _ h => nomatch h⟩ ?_ ?_
  · rintro i v τ S e ⟨ks, t', x6, x7, x8, rfl, rfl, hp', hkn, hks⟩
    obtain ⟨hi, rfl⟩ := rangeT_at e
    refine ⟨_, bindP_nm _ _ _, ?_⟩
    have hi4 : i < ls.length := by omega
    have hkl : ks.length = i := by
      have := congrArg List.length hkn
      rw [List.length_map, List.length_take] at this
      omega
    have ez : (0 : Int) + (i : Int) = (i : Int) := by omega
    have hil : L2.atI (ls.map T.str) (i : Int) = some (.str ls[i]) := by
      rw [atI_strs (by omega) (by omega), Int.toNat_natCast, getD_lt _ hi4]
    try simp_arith only [ez, hil]
    refine gkind_ok hp' (by have := b.sl; omega) (by have := b.al; omega) fun kd t2 hp2 hnm hkd => ?_
    have fin : ∀ (kd : Kd) (t3 : Tp) (x7 x8 : Option T), 0 ≤ t3.pl → kd.name = ls[i] → KdW ss as kd → ∃ (ks' : List Kd) (t' : Tp) (y6 y7 y8 : Option T), ([some (.ref 0), x1, some (strsT ss), some (strsT as), some (.lst (ls.map T.str)), some (.ref 1), some (.int (i : Int)), x7, x8, none] : Fx.Env) = [some (.ref 0), x1, some (strsT ss), some (strsT as), some (.lst (ls.map T.str)), some (.ref 1), y6, y7, y8, none] ∧ [t3.o, O.lst (ks.map Kd.t ++ [kd.t])] = [t'.o, .lst (ks'.map Kd.t)] ∧ 0 ≤ t'.pl ∧ ks'.map Kd.name = ls.take (i + 1) ∧ ∀ k ∈ ks', KdW ss as k := fun kd t3 x7 x8 hp3 hn hk => ⟨ks ++ [kd], t3, _, _, _, rfl, by rw [List.map_append]; rfl, hp3, by rw [List.map_append, hkn, List.take_succ_eq_append_getElem hi4, ← hn]; rfl, fun p m => by
      rcases List.mem_append.mp m with m | m
      · exact hks p m
      · rw [List.mem_singleton.mp m]; exact hk⟩
    have hap : ∀ (t3 : Tp) (u : T), fAppend (.ref 1) [u] [t3.o, .lst (ks.map Kd.t)] = .ok .non [t3.o, .lst (ks.map Kd.t ++ [u])] := fun t3 u => by
      rw [append_ev (k := 1) rfl (by rw [List.length_map]; omega)]
      rfl
    by_cases c : 0 < (i : Int) ∨ 2 < (ss.length : Int)
    · by_cases c1 : (i : Int) > 0
      · try simp_arith only [lens, decide_eq_true c1, tk1]
        refine narrow_ok hp2 b.sl (by decide) hkd.payer fun e1 t3 hp3 he1 => ?_
        try simp_arith only [tk0, tk2, tk3]
        refine narrow_ok hp3 b.sl (by decide) hkd.payee fun e2 t4 hp4 he2 => ?_
        have ek : T.tup [.str kd.name, e1.t, entsT kd.given, e2.t, entsT kd.taken] = (Kd.mk kd.name e1 kd.given e2 kd.taken).t := rfl
        try simp_arith only [tk4, ek, hap, forQ]
        exact fin ⟨kd.name, e1, kd.given, e2, kd.taken⟩ t4 _ _ hp4 hnm ⟨he1, he2, hkd.given, hkd.taken⟩
      · have c2 : (ss.length : Int) > 2 := by rcases c with c | c <;> omega
        try simp_arith only [lens, decide_eq_false c1, decide_eq_true c2, tk1]
        refine narrow_ok hp2 b.sl (by decide) hkd.payer fun e1 t3 hp3 he1 => ?_
        try simp_arith only [tk0, tk2, tk3]
        refine narrow_ok hp3 b.sl (by decide) hkd.payee fun e2 t4 hp4 he2 => ?_
        have ek : T.tup [.str kd.name, e1.t, entsT kd.given, e2.t, entsT kd.taken] = (Kd.mk kd.name e1 kd.given e2 kd.taken).t := rfl
        try simp_arith only [tk4, ek, hap, forQ]
        exact fin ⟨kd.name, e1, kd.given, e2, kd.taken⟩ t4 _ _ hp4 hnm ⟨he1, he2, hkd.given, hkd.taken⟩
    · have c1 : ¬ (i : Int) > 0 := fun h => c (.inl h)
      have c2 : ¬ (ss.length : Int) > 2 := fun h => c (.inr h)
      try simp_arith only [lens, decide_eq_false c1, decide_eq_false c2, hap, forQ]
      exact fin kd t2 _ _ hp2 hnm hkd.w
  · rintro τ S ⟨ks, t', x6, x7, x8, rfl, rfl, hp', hkn, hks⟩
    rw [rangeT_length] at hkn
    try simp_arith only []
    exact key _ _ _ _ _ _ _ _ hp' b hl4 (by omega) hkn hks q
theorem names_tup {ns : List Str} (S : Sto) : fTuple [.lst (ns.map T.str)] S = .ok (strsT ns) S := rfl
theorem scene_t7_ok {t : Tp} {ss as ls : List Str} {ks : List Kd} {i : Nat} {full : Int} {x5 x6 x7 x9 x10 : Option T} {Q : Fl → Sto → Prop} (hp : 0 ≤ t.pl) (b : Wb ss as ls) (hl8 : ls.length = 8) (hi : i ≤ 5) (hf : full = 0 ∨ full = 1) (hkn : ks.map Kd.name = ls.take i) (hk : ∀ k ∈ ks, KdW ss as k)
    (q : ∀ (m : Mdl) (t' : Tp) (g : Sto), 0 ≤ t'.pl → WldG m → Q (.rt m.t) (t'.o :: g)) : Ok (B__law_scene_t7 [some (.ref 0), some (.int full), some (strsT ss), some (strsT as), some (.lst (ls.map T.str)), x5, x6, x7, some (.ref 1), x9, x10, none, none] [t.o, .lst (ks.map Kd.t)]) Q := by
  have hkl : ks.length = i := by
    have := congrArg List.length hkn
    rw [List.length_map, List.length_take] at this
    omega
  unfold B__law_scene_t7
  have hib : ∀ (b : Bool) S, fInt [.bl b] S = .ok (.int (if b = true then 1 else 0)) S := fun b S => by cases b <;> rfl
  try simp_arith only []
  refine draw_ok hp (by decide) fun n1 t1 hp1 hn10 hn11 => ?_
  try simp_arith only [hib]
  refine draw_ok hp1 (by decide) fun n2 t2 hp2 hn20 hn21 => ?_
  obtain ⟨many, hat, hmb⟩ : ∃ many : Int, L2.atI [T.int (if decide (n1 = 0) = true then 1 else 0), .int (1 + n2)] full = some (.int many) ∧ 0 ≤ many ∧ many ≤ 3 := by
    rcases hf with rfl | rfl
    · refine ⟨_, rfl, ?_⟩
      split <;> omega
    · exact ⟨_, rfl, by omega⟩
  try simp_arith only [hat]
  rw [range1_ev _ _ (by omega)]
  try simp_arith only []
  refine ok_lc (fun k acc S => ∃ (ps : List (Str × Con)) (t' : Tp), acc = ps.map asmT ∧ S = [t'.o, .lst (ks.map Kd.t)] ∧ 0 ≤ t'.pl ∧ ps.map (·.1) = (ls.drop 5).take k ∧ ∀ p ∈ ps, ConG ss as 3 p.2 ∧ p.2.accs.length ≤ 2) ⟨[], t2, rfl, rfl, hp2, rfl, fun _ h => nomatch h⟩ ?_ ?_
  · rintro k u acc S e ⟨ps, t', rfl, rfl, hp', hpn, hps⟩
    obtain ⟨hk2, rfl⟩ := rangeT_at e
    refine ⟨_, bindP_nm _ _ _, ?_⟩
    have hk5 : 5 + k < ls.length := by omega
    have ez : (5 : Int) + (0 + (k : Int)) = ((5 + k : Nat) : Int) := by omega
    have hil : L2.atI (ls.map T.str) ((5 + k : Nat) : Int) = some (.str ls[5 + k]) := by
      rw [atI_strs (by omega) (by omega), Int.toNat_natCast, getD_lt _ hk5]
    have hpl : ps.length = k := by
      have := congrArg List.length hpn
      rw [List.length_map, List.length_take, List.length_drop] at this
      omega
    try simp_arith only [ez, hil]
    refine short_ok hp' b.sl b.al1 (by have := b.al; omega) fun co t3 hp3 hc hcl => ?_
    try simp_arith only []
    refine ⟨by rw [List.length_map]; omega, ps ++ [(ls[5 + k], co)], t3, by rw [List.map_append]; rfl, rfl, hp3, ?_, fun p mp => ?_⟩
    · rw [List.map_append, hpn, List.take_succ_eq_append_getElem (by rw [List.length_drop]; omega), List.getElem_drop]
      rfl
    · rcases List.mem_append.mp mp with mp | mp
      · exact hps p mp
      · rw [List.mem_singleton.mp mp]; exact ⟨hc, hcl⟩
  · rintro acc S ⟨ps, t3, rfl, rfl, hp3, hpn, hps⟩
    rw [rangeT_length] at hpn
    have ht := tupR (S := [t3.o, .lst (ks.map Kd.t)]) (k := 1) (ts := ks.map Kd.t) rfl
    have hta : ∀ (ts : List T) (S : Sto), fTuple [.lst ts] S = .ok (.tup ts) S := fun ts S => rfl
    have hpl : ps.length ≤ 3 := by
      have := congrArg List.length hpn
      rw [List.length_map, List.length_take] at this
      omega
    obtain ⟨h1, h2⟩ := lab_names b.lnd hkn ⟨5, hi, many.toNat, hpn⟩
    have en : Mdl.names ⟨ss, as, ks, ps, []⟩ = ks.map Kd.name ++ ps.map (·.1) := by
      show ks.map Kd.name ++ (ps.map (·.1) ++ []) = _
      rw [List.append_nil]
    have hq := q ⟨ss, as, ks, ps, []⟩ t3 [.lst (ks.map Kd.t)] hp3 ⟨b.sl, b.al1, b.al, b.snd, b.ands, b.snm, b.anm, by show ks.length ≤ 5; omega, hpl, rfl, fun k mk => ⟨as, ⟨b.ands, b.al, b.anm⟩, hk k mk⟩, hps, by rw [en]; exact h1, fun w mw => b.lnm w (h2 w (by rw [← en]; exact mw))⟩
    try simp_arith only [ht, hta]
    exact hq
theorem scene_t4_ok {t : Tp} {ss as ls : List Str} {full : Int} {Q : Fl → Sto → Prop} (hp : 0 ≤ t.pl) (b : Wb ss as ls) (hl8 : ls.length = 8) (hf : full = 0 ∨ full = 1)
    (q : ∀ (m : Mdl) (t' : Tp) (g : Sto), 0 ≤ t'.pl → WldG m → Q (.rt m.t) (t'.o :: g)) : Ok (B__law_scene_t4 [some (.ref 0), some (.int full), some (strsT ss), some (strsT as), some (.lst (ls.map T.str)), some (.tup [strsT ss, strsT as, .tup [], .tup [], .tup []]), none, none, none, none, none, none, none] [t.o]) Q := by
  unfold B__law_scene_t4
  generalize hB1 : B__law_scene_t7 = B1
  have key := fun t ks i full x5 x6 x7 x9 x10 Q => @scene_t7_ok t ss as ls ks i full x5 x6 x7 x9 x10 Q
  rw [hB1] at key
  have hcr : cls 0 [strsT as, .tup [], .tup [], .tup []] = true := by simp [strsT]
  have hsz := fun S => size_ev (ss := ss) (rest := [strsT as, .tup [], .tup [], .tup []]) (S := S) hcr b.sl
  have hsb : szOf ss ≤ 8 := szOf_le b.sl
  try simp_arith only []
  rw [range1_ev _ _ (by decide)]
  try simp_arith only []
  have h3 : Int.toNat 3 = 3 := rfl
  rw [h3]
  refine ok_lc (fun k acc S => ∃ (es : List SE) (t' : Tp), acc = es.map SE.t ∧ S = [t'.o] ∧ 0 ≤ t'.pl ∧ es.length = k ∧ ∀ e ∈ es, Ar ss 3 e) ⟨[], t, rfl, rfl, hp, rfl, fun _ h => nomatch h⟩ ?_ ?_
  · rintro k u acc S e ⟨es, t', rfl, rfl, hp', hel, hes⟩
    refine ⟨_, bindP_nm _ _ _, ?_⟩
    have hk := (List.getElem?_eq_some_iff.mp e).1
    rw [rangeT_length] at hk
    try simp_arith only [hsz]
    refine draw_ok hp' (by omega) fun n t2 hp2 hn0 hn => ?_
    try simp_arith only []
    refine exactly_ok b.sl hcr fun e he => ?_
    refine ⟨by rw [List.length_map]; omega, es ++ [e], t2, by rw [List.map_append]; rfl, rfl, hp2, by simp [hel], fun x mx => ?_⟩
    rcases List.mem_append.mp mx with mx | mx
    · exact hes x mx
    · rw [List.mem_singleton.mp mx]; exact he
  · rintro acc S ⟨es, t1, rfl, rfl, hp1, hel, hes⟩
    rw [rangeT_length] at hel
    try simp_arith only []
    refine draw_ok hp1 (by decide) fun n1 t2 hp2 hn0 hn => ?_
    obtain ⟨many, hat, hmb⟩ : ∃ many : Int, L2.atI [T.int (1 + n1), .int 5] full = some (.int many) ∧ 0 ≤ many ∧ many ≤ 5 := by
      rcases hf with rfl | rfl
      · exact ⟨_, rfl, by omega⟩
      · exact ⟨_, rfl, by omega⟩
    have side : ∀ n : Int, 0 ≤ n → n < 3 → ∃ e, Ar ss 3 e ∧ L2.atI (es.map SE.t) n = some e.t := fun n h0 h1 => by
      have hi : n.toNat < es.length := by omega
      refine ⟨es[n.toNat], hes _ (List.getElem_mem hi), ?_⟩
      rw [atI_in _ _ h0 (by rw [List.length_map]; omega), List.getElem?_map, List.getElem?_eq_getElem hi]
      rfl
    try simp_arith only [hat]
    rw [range1_ev _ _ (by omega)]
    try simp_arith only []
    refine ok_for (fun i τ S => ∃ (ks : List Kd) (t' : Tp) (x7 x9 x10 : Option T), τ = [some (.ref 0), some (.int full), some (strsT ss), some (strsT as), some (.lst (ls.map T.str)), some (.tup [strsT ss, strsT as, .tup [], .tup [], .tup []]), some (.lst (es.map SE.t)), x7, some (.ref 1), x9, x10, none, none] ∧ S = [t'.o, .lst (ks.map Kd.t)] ∧ 0 ≤ t'.pl ∧ ks.map Kd.name = ls.take i ∧ ∀ k ∈ ks, KdW ss as k) ⟨[], t2, _, _, _, rfl, rfl, hp2, rfl, fun _ h => nomatch h⟩ ?_ ?_
    · rintro i v τ S e ⟨ks, t', x7, x9, x10, rfl, rfl, hp', hkn, hks⟩
      obtain ⟨hi, rfl⟩ := rangeT_at e
      refine ⟨_, bindP_nm _ _ _, ?_⟩
      have hi4 : i < ls.length := by omega
      have hkl : ks.length = i := by
        have := congrArg List.length hkn
        rw [List.length_map, List.length_take] at this
        omega
      have ez : (0 : Int) + (i : Int) = (i : Int) := by omega
      have hil : L2.atI (ls.map T.str) (i : Int) = some (.str ls[i]) := by
        rw [atI_strs (by omega) (by omega), Int.toNat_natCast, getD_lt _ hi4]
      try simp_arith only [ez, hil]
      refine gkind_ok hp' (by have := b.sl; omega) (by have := b.al; omega) fun kd t3 hp3 hnm hkd => ?_
      try simp_arith only []
      refine draw_ok hp3 (by decide) fun a t4 hp4 ha0 ha => ?_
      obtain ⟨e1, he1, hat1⟩ := side a ha0 (by omega)
      try simp_arith only [hat1, hil, tk2]
      refine draw_ok hp4 (by decide) fun c t5 hp5 hc0 hc => ?_
      obtain ⟨e2, he2, hat2⟩ := side c hc0 (by omega)
      have ek : T.tup [.str ls[i], e1.t, entsT kd.given, e2.t, entsT kd.taken] = (Kd.mk ls[i] e1 kd.given e2 kd.taken).t := rfl
      try simp_arith only [hat2, tk4, ek]
      rw [append_ev (k := 1) rfl (by rw [List.length_map]; omega)]
      try simp_arith only [forQ]
      refine ⟨ks ++ [⟨ls[i], e1, kd.given, e2, kd.taken⟩], t5, _, _, _, rfl, by rw [List.map_append]; rfl, hp5, by rw [List.map_append, hkn, List.take_succ_eq_append_getElem hi4]; rfl, fun p m => ?_⟩
      rcases List.mem_append.mp m with m | m
      · exact hks p m
      · rw [List.mem_singleton.mp m]; exact ⟨he1, he2, hkd.given, hkd.taken⟩
    · rintro τ S ⟨ks, t', x7, x9, x10, rfl, rfl, hp', hkn, hks⟩
      rw [rangeT_length] at hkn
      try simp_arith only []
      exact key _ _ _ _ _ _ _ _ _ _ hp' b hl8 (by omega) hf hkn hks q
theorem scene_ok {t : Tp} {full : Int} {rest : Sto} {Q : T → Sto → Prop} (hp : 0 ≤ t.pl) (hf : full = 0 ∨ full = 1)
    (h : ∀ (m : Mdl) (t' : Tp), 0 ≤ t'.pl → WldG m → Q m.t (t'.o :: rest)) : Ok (F__law_scene [.ref 0, .int full] (t.o :: rest)) Q := by
  unfold F__law_scene
  refine ok_frame1 (by simp) t.clO ?_
  generalize hB : B__law_scene = B
  refine ok_run ?_
  subst hB
  unfold B__law_scene
  generalize hB1 : B__law_scene_t4 = B1
  have key := fun t ss as ls full Q => @scene_t4_ok t ss as ls full Q
  rw [hB1] at key
  have fin : ∀ (m : Mdl) (t' : Tp) (g : Sto), 0 ≤ t'.pl → WldG m → endQ (fun t S1 => ∃ o' g, S1 = o' :: g ∧ clO 1 o' = true ∧ cl 1 (Fx.thaw 1 true t S1) = true ∧ Q (Fx.thaw 1 true t S1) (o' :: rest)) (.rt m.t) (t'.o :: g) := fun m t' g hp' hm => ⟨t'.o, g, rfl, t'.clO, by unfold Mdl.t; rw [thaw_tup]; exact m.cl 1, by unfold Mdl.t; rw [thaw_tup]; exact h m t' hp' hm⟩
  try simp_arith only []
  refine draw_ok hp (by decide) fun n1 t1 hp1 hn0 hn => ?_
  obtain ⟨a, hat, hab⟩ : ∃ a : Int, L2.atI [T.int (2 + n1), .int 3] full = some (.int a) ∧ 0 ≤ a ∧ a ≤ 3 := by
    rcases hf with rfl | rfl
    · exact ⟨_, rfl, by omega⟩
    · exact ⟨_, rfl, by omega⟩
  try simp_arith only [hat]
  refine gnames_ok hp1 (by omega) (by omega) fun ss t2 hp2 hsl hsnd hsnm => ?_
  try simp_arith only [names_tup]
  refine draw_ok hp2 (by decide) fun n2 t3 hp3 hn20 hn2 => ?_
  obtain ⟨c, hat2, hcb⟩ : ∃ c : Int, L2.atI [T.int (1 + n2), .int 4] full = some (.int c) ∧ 1 ≤ c ∧ c ≤ 4 := by
    rcases hf with rfl | rfl
    · exact ⟨_, rfl, by omega⟩
    · exact ⟨_, rfl, by omega⟩
  try simp_arith only [hat2]
  refine gnames_ok hp3 (by omega) (by omega) fun as t4 hp4 hal hand hanm => ?_
  try simp_arith only [names_tup]
  refine gnames_ok hp4 (by decide) (by decide) fun ls t5 hp5 hll hlnd hlnm => ?_
  try simp_arith only []
  exact key _ _ _ _ _ _ hp5 ⟨by omega, by omega, by omega, hsnd, hand, hsnm, hanm, hlnd, hlnm⟩ hll hf fin
theorem world_ok {t : Tp} {rest : Sto} {Q : T → Sto → Prop} (hp : 0 ≤ t.pl)
    (h : ∀ (m : Mdl) (t' : Tp), 0 ≤ t'.pl → WldG m → Q m.t (t'.o :: rest)) : Ok (F__law_world [.ref 0] (t.o :: rest)) Q := by
  unfold F__law_world
  refine ok_frame1 (by simp) t.clO ?_
  generalize hB : B__law_world = B
  refine ok_run ?_
  subst hB
  unfold B__law_world
  generalize hB1 : B__law_world_t5 = B1
  have key := fun t ss as ls x1 Q => @world_t5_ok t ss as ls x1 Q
  rw [hB1] at key
  have fin : ∀ (m : Mdl) (t' : Tp) (g : Sto), 0 ≤ t'.pl → WldG m → endQ (fun t S1 => ∃ o' g, S1 = o' :: g ∧ clO 1 o' = true ∧ cl 1 (Fx.thaw 1 true t S1) = true ∧ Q (Fx.thaw 1 true t S1) (o' :: rest)) (.rt m.t) (t'.o :: g) := fun m t' g hp' hm => ⟨t'.o, g, rfl, t'.clO, by unfold Mdl.t; rw [thaw_tup]; exact m.cl 1, by unfold Mdl.t; rw [thaw_tup]; exact h m t' hp' hm⟩
  have hib : ∀ (b : Bool) S, fInt [.bl b] S = .ok (.int (if b = true then 1 else 0)) S := fun b S => by cases b <;> rfl
  try simp_arith only []
  refine draw_ok hp (by decide) fun n1 t1 hp1 hn0 hn => ?_
  by_cases c : n1 < 4
  · try simp_arith only [decide_eq_true c, hib]
    refine scene_ok hp1 (by split <;> simp) fun m t2 hp2 hm => ?_
    try simp_arith only []
    exact fin m t2 _ hp2 hm
  · try simp_arith only [decide_eq_false c]
    refine draw_ok hp1 (by decide) fun n2 t2 hp2 hn20 hn2 => ?_
    obtain ⟨a, ha, hm⟩ := pickI (xs := [0, 1, 1, 1, 2, 2, 3]) (us := [.int 0, .int 1, .int 1, .int 1, .int 2, .int 2, .int 3]) rfl hn20 (by show n2 < 7; omega)
    have hab : 0 ≤ a ∧ a ≤ 3 := by
      simp only [List.mem_cons, List.not_mem_nil, or_false] at hm
      omega
    try simp_arith only [ha]
    refine gnames_ok hp2 (by omega) (by omega) fun ss t3 hp3 hsl hsnd hsnm => ?_
    try simp_arith only [names_tup]
    refine draw_ok hp3 (by decide) fun n3 t4 hp4 hn30 hn3 => ?_
    obtain ⟨e, he, hm2⟩ := pickI (xs := [1, 1, 2, 2, 2, 3]) (us := [.int 1, .int 1, .int 2, .int 2, .int 2, .int 3]) rfl hn30 (by show n3 < 6; omega)
    have heb : 1 ≤ e ∧ e ≤ 3 := by
      simp only [List.mem_cons, List.not_mem_nil, or_false] at hm2
      omega
    try simp_arith only [he]
    refine gnames_ok hp4 (by omega) (by omega) fun as t5 hp5 hal hand hanm => ?_
    try simp_arith only [names_tup]
    refine gnames_ok hp5 (by decide) (by decide) fun ls t6 hp6 hll hlnd hlnm => ?_
    try simp_arith only []
    exact key _ _ _ _ _ _ hp6 ⟨by omega, by omega, by omega, hsnd, hand, hsnm, hanm, hlnd, hlnm⟩ hll fin
structure Ly (t : T) (d : PyData) (n : Nat) : Prop where
  e : toD t = some d
  l : d.canLay0 = true
  h : d.depth ≤ n
theorem Ly.int (i : Int) : Ly (.int i) (.int i) 0 := ⟨rfl, by rw [PyData.canLay0], by rw [PyData.depth]; omega⟩
theorem lys {α : Type} (f : α → T) (g : α → PyData) {n : Nat} : ∀ xs : List α, (∀ x ∈ xs, Ly (f x) (g x) n) → toDs (xs.map f) = some (xs.map g) ∧ PyData.canLayAll0 (xs.map g) = true ∧ PyData.depthAll (xs.map g) ≤ n
  | [], _ => ⟨rfl, by rw [List.map_nil, PyData.canLayAll0], by rw [List.map_nil, PyData.depthAll]; omega⟩
  | x :: xs, h => by
    obtain ⟨a, b, c⟩ := lys f g xs fun y m => h y (List.mem_cons_of_mem _ m)
    have p := h x List.mem_cons_self
    refine ⟨?_, ?_, ?_⟩
    · rw [List.map_cons, toDs, p.e, a]
      rfl
    · rw [List.map_cons, PyData.canLayAll0, p.l, b]
      rfl
    · rw [List.map_cons, PyData.depthAll]
      exact Nat.max_le.mpr ⟨p.h, c⟩
theorem Ly.lst {α : Type} (f : α → T) (g : α → PyData) {n : Nat} (xs : List α) (h : ∀ x ∈ xs, Ly (f x) (g x) n) : Ly (.lst (xs.map f)) (.list (xs.map g)) (n + 1) := by
  obtain ⟨a, b, c⟩ := lys f g xs h
  refine ⟨?_, ?_, ?_⟩
  · rw [toD, a]
    rfl
  · rw [PyData.canLay0]; exact b
  · rw [PyData.depth]; omega
theorem Ly.tup {α : Type} (f : α → T) (g : α → PyData) {n : Nat} (xs : List α) (h : ∀ x ∈ xs, Ly (f x) (g x) n) : Ly (.tup (xs.map f)) (.tuple (xs.map g)) (n + 1) := by
  obtain ⟨a, b, c⟩ := lys f g xs h
  refine ⟨?_, ?_, ?_⟩
  · rw [toD, a]
    rfl
  · rw [PyData.canLay0]; exact b
  · rw [PyData.depth]; omega
theorem Ly.str {w : Str} (h : PyData.strOk w = true) : Ly (.str w) (.str w) 0 := ⟨rfl, by rw [PyData.canLay0]; exact h, by rw [PyData.depth]; omega⟩
theorem Ly.le {t : T} {d : PyData} {n m : Nat} (h : Ly t d n) (l : n ≤ m) : Ly t d m := ⟨h.e, h.l, Nat.le_trans h.h l⟩
theorem Ly.one {a : T} {d : PyData} {n : Nat} (h : Ly a d n) : Ly (.tup [a]) (.tuple [d]) (n + 1) := Ly.tup (fun p : T × PyData => p.1) (fun p => p.2) [(a, d)] fun x mx => by rw [List.mem_singleton.mp mx]; exact h
theorem Ly.two {a b : T} {d e : PyData} {n : Nat} (h : Ly a d n) (g : Ly b e n) : Ly (.tup [a, b]) (.tuple [d, e]) (n + 1) := Ly.tup (fun p : T × PyData => p.1) (fun p => p.2) [(a, d), (b, e)] fun x mx => by
  rcases List.mem_cons.mp mx with rfl | mx
  · exact h
  · rw [List.mem_singleton.mp mx]; exact g
def Sy.neg (s : Sy) : Sy := ⟨s.goal.map fun n => -n, s.rows.reverse⟩
def ConN : Con → Prop
  | .each _ ts _ => ts.length ≤ 12 ∧ ∀ t ∈ ts, -9999 ≤ t.1 ∧ t.1 ≤ 9999
  | .sum ts _ => ts.length ≤ 12 ∧ ∀ t ∈ ts, -9999 ≤ t.1.1 ∧ t.1.1 ≤ 9999
theorem sum_bd {α : Type} {f : α → Int} {B : Int} (hB : 0 ≤ B) : ∀ {l : List α}, (∀ x ∈ l, -B ≤ f x ∧ f x ≤ B) → -(B * l.length) ≤ (l.map f).sum ∧ (l.map f).sum ≤ B * l.length
  | [], _ => by simp
  | x :: l, h => by
    have h1 := h x List.mem_cons_self
    have h2 := sum_bd hB (l := l) fun y m => h y (List.mem_cons_of_mem _ m)
    rw [List.map_cons, List.sum_cons, List.length_cons]
    have e : B * ((l.length + 1 : Nat) : Int) = B * (l.length : Int) + B := by rw [Int.natCast_add, Int.mul_add]; simp
    rw [e]
    omega
structure CeS (ce : List (List Int)) : Prop where
  len : ce.length ≤ 16
  row : ∀ r ∈ ce, r.length ≤ 900 ∧ ∀ x ∈ r, -1000000 ≤ x ∧ x ≤ 1000000
structure CeL (ce : List (List Int)) : Prop where
  len : ce.length ≤ 100
  row : ∀ r ∈ ce, r.length ≤ 950
theorem CeS.l {ce : List (List Int)} (h : CeS ce) : CeL ce := ⟨by have := h.len; omega, fun r mr => by have := (h.row r mr).1; omega⟩
theorem sum_mul' {α : Type} (k : Int) (f : α → Int) : ∀ l : List α, (l.map fun x => k * f x).sum = k * (l.map f).sum
  | [] => by simp
  | x :: l => by rw [List.map_cons, List.map_cons, List.sum_cons, List.sum_cons, sum_mul' k f l, Int.mul_add]
def ConB (ss : List Str) (x : Con) : Prop := ConV ss x ∧ ConN x
theorem ConG.b {ss as : List Str} {d : Nat} {c : Con} (h : ConG ss as d c) (hd : d < 24) : ConB ss c := by
  refine ⟨h.v hd, ?_⟩
  have hn : ∀ n : Int, numOk n → -9999 ≤ n ∧ n ≤ 9999 := fun n h => by
    rcases h with h | h <;> omega
  cases c with
  | each e ts r => exact ⟨by have := h.2.2.1; omega, fun t mt => hn _ (h.2.2.2.1 t mt).1⟩
  | sum ts r => exact ⟨by have := h.2.1; omega, fun t mt => hn _ (h.2.2.1 t mt).1.1⟩
structure Dl where
  k : Kd
  a : Nat
  b : Nat
  n : Int
def balZ (ds : List Dl) (i : Nat) (acc : Str) : Int := (ds.map fun d => d.n * ((if d.a = i then entryOf acc d.k.given else 0) + (if d.b = i then entryOf acc d.k.taken else 0))).sum
def memP (ss : List Str) (pf : List Nat) (e : SE) : List Nat := (List.range pf.length).filter fun i => e.mem (namesN 0 (pf.getD i 0) ss)
def valS (ss : List Str) (pf : List Nat) (ds : List Dl) (ts : List ((Int × Str) × SE)) : Int := (ts.map fun t => t.1.1 * ((memP ss pf t.2).map fun i => balZ ds i t.1.2).sum).sum
structure DlOk (m : Mdl) (pf : List Nat) (d : Dl) : Prop where
  k : d.k ∈ m.kinds
  a : d.a < pf.length
  b : d.b < pf.length
  ne : d.a ≠ d.b
  ma : d.k.payer.mem (namesN 0 (pf.getD d.a 0) m.ss) = true
  mb : d.k.payee.mem (namesN 0 (pf.getD d.b 0) m.ss) = true
  n : 0 ≤ d.n
theorem memP_mem {ss : List Str} {pf : List Nat} {e : SE} {i : Nat} : i ∈ memP ss pf e ↔ i < pf.length ∧ e.mem (namesN 0 (pf.getD i 0) ss) = true := by
  unfold memP
  rw [List.mem_filter, List.mem_range]
def peoL (ss : List Str) (pf : List Nat) : List T := pf.map fun p => strsT (namesN 0 p ss)
def Dl.t (d : Dl) : T := .tup [.str d.k.name, .int (d.a : Int), .int (d.b : Int), .int d.n]
def ledT (ss : List Str) (pf : List Nat) (ds : List Dl) : T := .tup [.tup (peoL ss pf), .tup (ds.map Dl.t)]
structure LedG (m : Mdl) (pf : List Nat) (ds : List Dl) : Prop where
  pl : pf.length ≤ 100
  dl : ds.length ≤ 2000
  lt : ∀ p ∈ pf, p < szOf m.ss
  ds : ∀ d ∈ ds, DlOk m pf d
theorem strs_cl' (n : Nat) (w : List Str) : Fx.cl n (strsT w) = true := by simp [strsT]
theorem peoL_cl (n : Nat) (ss : List Str) (pf : List Nat) : Fx.cls n (peoL ss pf) = true := cls_all _ _ fun t m => by
  obtain ⟨p, _, rfl⟩ := List.mem_map.mp m
  exact strs_cl' n _
theorem dls_cl (n : Nat) (ds : List Dl) : Fx.cls n (ds.map Dl.t) = true := cls_all _ _ fun t m => by
  obtain ⟨d, _, rfl⟩ := List.mem_map.mp m
  simp [Dl.t]
theorem ledT_cl (n : Nat) (ss : List Str) (pf : List Nat) (ds : List Dl) : Fx.cl n (ledT ss pf ds) = true := by simp [ledT, peoL_cl, dls_cl]
theorem prof_small {ss ns : List Str} (hl : ss.length ≤ 3) : ∃ L : List Int, (((intsN (List.range ss.length)).filter fun t => match t with
    | .int k => decide (ss.getD k.toNat "" ∈ ns)
    | _ => false).map fun t => match t with
    | .int k => T.int (([1, 2, 4] : List Int).getD k.toNat 0)
    | _ => .non) = L.map T.int ∧ L.sum = (profN 0 ss ns : Nat) := by
  match ss, hl with
  | [], _ => exact ⟨[], rfl, rfl⟩
  | [a], _ =>
    by_cases ha : a ∈ ns
    · exact ⟨[1], by simp [intsN, List.range_succ, ha], by simp [profN, ha]⟩
    · exact ⟨[], by simp [intsN, List.range_succ, ha], by simp [profN, ha]⟩
  | [a, b], _ =>
    by_cases ha : a ∈ ns <;> by_cases hb : b ∈ ns
    · exact ⟨[1, 2], by simp [intsN, List.range_succ, ha, hb], by simp [profN, ha, hb]⟩
    · exact ⟨[1], by simp [intsN, List.range_succ, ha, hb], by simp [profN, ha, hb]⟩
    · exact ⟨[2], by simp [intsN, List.range_succ, ha, hb], by simp [profN, ha, hb]⟩
    · exact ⟨[], by simp [intsN, List.range_succ, ha, hb], by simp [profN, ha, hb]⟩
  | [a, b, c], _ =>
    by_cases ha : a ∈ ns <;> by_cases hb : b ∈ ns <;> by_cases hc : c ∈ ns
    · exact ⟨[1, 2, 4], by simp [intsN, List.range_succ, ha, hb, hc], by simp [profN, ha, hb, hc]⟩
    · exact ⟨[1, 2], by simp [intsN, List.range_succ, ha, hb, hc], by simp [profN, ha, hb, hc]⟩
    · exact ⟨[1, 4], by simp [intsN, List.range_succ, ha, hb, hc], by simp [profN, ha, hb, hc]⟩
    · exact ⟨[1], by simp [intsN, List.range_succ, ha, hb, hc], by simp [profN, ha, hb, hc]⟩
    · exact ⟨[2, 4], by simp [intsN, List.range_succ, ha, hb, hc], by simp [profN, ha, hb, hc]⟩
    · exact ⟨[2], by simp [intsN, List.range_succ, ha, hb, hc], by simp [profN, ha, hb, hc]⟩
    · exact ⟨[4], by simp [intsN, List.range_succ, ha, hb, hc], by simp [profN, ha, hb, hc]⟩
    · exact ⟨[], by simp [intsN, List.range_succ, ha, hb, hc], by simp [profN, ha, hb, hc]⟩
  | _ :: _ :: _ :: _ :: _, h => exact absurd h (by simp)
theorem lprofile_ev {ss ns : List Str} {rest : List T} (hc : cls 0 rest = true) (hl : ss.length ≤ 3) (S : Sto) : F__law_profile [.tup (strsT ss :: rest), strsT ns] S = .ok (.int (profN 0 ss ns : Nat)) S := ok_ev fun Q h => by
  unfold F__law_profile
  refine ok_frame0 (by simp [strsT, hc]) ?_
  generalize hB : B__law_profile = B
  refine ok_run ?_
  subst hB
  unfold B__law_profile
  have hln : ∀ S, fLen [strsT ss] S = .ok (.int (ss.length : Int)) S := fun S => by
    show fLen [.tup (ss.map T.str)] S = _
    rw [ev_lenT, List.length_map]
  try simp_arith only [hln]
  rw [range1_ev _ _ (by omega)]
  try simp_arith only [rangeT_0, Int.toNat_natCast]
  rw [lc_pure (fun t => match t with
    | .int k => decide (ss.getD k.toNat "" ∈ ns)
    | _ => false) (fun t => match t with
    | .int k => T.int (([1, 2, 4] : List Int).getD k.toNat 0)
    | _ => .non) _ [] (by rw [intsN_len, List.length_range, List.length_nil]; omega) fun t mt => ?_]
  · obtain ⟨L, h1, h2⟩ := prof_small (ss := ss) (ns := ns) hl
    rw [List.nil_append, h1]
    try simp_arith only [sum_ints, endQ]
    rw [h2]
    exact ⟨by simp, by rw [thaw_int]; exact h⟩
  · obtain ⟨i, hi, rfl⟩ := List.mem_map.mp mt
    have hi : i < ss.length := List.mem_range.mp hi
    have hsx : ∀ S, fIx (strsT ss) (.int (i : Int)) S = .ok (.str (ss.getD i "")) S := fun S => by
      show fIx (.tup (ss.map T.str)) _ S = _
      rw [ev_ixT, atI_strs (by omega) (by omega), Int.toNat_natCast]
    have h3 : L2.atI [T.int 1, .int 2, .int 4] (i : Int) = some (.int (([1, 2, 4] : List Int).getD i 0)) := by
      have : i = 0 ∨ i = 1 ∨ i = 2 := by omega
      rcases this with rfl | rfl | rfl <;> rfl
    refine ⟨_, bindP_nm _ _ _, ?_, fun _ => ?_⟩
    · try simp_arith only [hsx]
      rw [in_ev (y := strsT ns) rfl (fun z h => nomatch h)]
      rfl
    · try simp_arith only [h3, Int.toNat_natCast]
theorem listed_names (p : Nat) : ∀ (k : Nat) (ss : List Str), ((List.range ss.length).filter fun i => bitN p (k + i)).map (fun i => ss.getD i "") = namesN k p ss
  | k, [] => rfl
  | k, s :: ss => by
    rw [List.length_cons, List.range_succ_eq_map, List.filter_cons, Nat.add_zero]
    have ih := listed_names p (k + 1) ss
    have e : (List.map (fun i => (s :: ss).getD i "") (List.filter (fun i => bitN p (k + i)) (List.map Nat.succ (List.range ss.length)))) = namesN (k + 1) p ss := by
      rw [List.filter_map, List.map_map, ← ih]
      have : (List.filter ((fun i => bitN p (k + i)) ∘ Nat.succ) (List.range ss.length)) = (List.range ss.length).filter fun i => bitN p (k + 1 + i) := by
        congr 1
        funext i
        show bitN p (k + (i + 1)) = _
        rw [show k + (i + 1) = k + 1 + i by omega]
      rw [this]
      rfl
    cases hb : bitN p k with
    | true =>
      rw [if_pos rfl, List.map_cons, e]
      show s :: _ = if bitN p k = true then _ else _
      rw [hb, if_pos rfl]
    | false =>
      rw [if_neg (by decide), e]
      show _ = if bitN p k = true then _ else _
      rw [hb, if_neg (by decide)]
theorem listed_ev {ss : List Str} {rest : List T} {p : Nat} (hc : cls 0 rest = true) (hl : ss.length ≤ 3) (S : Sto) : F__law_listed [.tup (strsT ss :: rest), .int (p : Int)] S = .ok (strsT (namesN 0 p ss)) S := ok_ev fun Q h => by
  unfold F__law_listed
  refine ok_frame0 (by simp [strsT, hc]) ?_
  generalize hB : B__law_listed = B
  refine ok_run ?_
  subst hB
  unfold B__law_listed
  have hln : ∀ S, fLen [strsT ss] S = .ok (.int (ss.length : Int)) S := fun S => by
    show fLen [.tup (ss.map T.str)] S = _
    rw [ev_lenT, List.length_map]
  try simp_arith only [hln]
  rw [range1_ev _ _ (by omega)]
  try simp_arith only [rangeT_0, Int.toNat_natCast]
  rw [lc_pure (fun t => match t with
    | .int k => bitN p k.toNat
    | _ => false) (fun t => match t with
    | .int k => T.str (ss.getD k.toNat "")
    | _ => .non) _ [] (by rw [intsN_len, List.length_range, List.length_nil]; omega) fun t mt => ?_]
  · have e : ((intsN (List.range ss.length)).filter fun t => match t with
        | .int k => bitN p k.toNat
        | _ => false).map (fun t => match t with
        | .int k => T.str (ss.getD k.toNat "")
        | _ => .non) = (namesN 0 p ss).map T.str := by
      rw [← listed_names p 0 ss, List.map_map]
      unfold intsN
      rw [List.filter_map, List.map_map]
      have : ((fun t : T => match t with
        | .int k => bitN p k.toNat
        | _ => false) ∘ fun i : Nat => T.int (i : Int)) = fun i => bitN p (0 + i) := by
        funext i
        show bitN p ((i : Int).toNat) = _
        rw [Int.toNat_natCast, Nat.zero_add]
      rw [this]
      refine List.map_congr_left fun i _ => ?_
      show T.str (ss.getD ((i : Int).toNat) "") = _
      rw [Int.toNat_natCast]
      rfl
    have hta : ∀ (ts : List T) (S : Sto), fTuple [.lst ts] S = .ok (.tup ts) S := fun ts S => rfl
    rw [List.nil_append, e]
    try simp_arith only [hta, endQ]
    exact ⟨by rw [thaw_tup]; exact strs_cl' 0 _, by rw [thaw_tup]; exact h⟩
  · obtain ⟨i, hi, rfl⟩ := List.mem_map.mp mt
    have hi : i < ss.length := List.mem_range.mp hi
    have hsx : ∀ S, fIx (strsT ss) (.int (i : Int)) S = .ok (.str (ss.getD i "")) S := fun S => by
      show fIx (.tup (ss.map T.str)) _ S = _
      rw [ev_ixT, atI_strs (by omega) (by omega), Int.toNat_natCast]
    have hk : L2.atI [T.int 1, .int 2, .int 4] (i : Int) = some (.int (2 ^ i : Nat)) := by
      have : i = 0 ∨ i = 1 ∨ i = 2 := by omega
      rcases this with q | q | q <;> rw [q] <;> rfl
    have hp2 : 0 < (2 ^ i : Nat) ∧ (2 ^ i : Nat) ≤ 4 := by
      have : i = 0 ∨ i = 1 ∨ i = 2 := by omega
      rcases this with q | q | q <;> rw [q] <;> decide
    have e1 := ev_div (S := []) (i := (p : Int)) (j := ((2 ^ i : Nat) : Int)) (by omega)
    have e2 := ev_mod (S := []) (i := (p : Int) / ((2 ^ i : Nat) : Int)) (j := 2) (by omega)
    refine ⟨_, bindP_nm _ _ _, ?_, fun _ => ?_⟩
    · try simp_arith only [hk, e1, e2, Int.toNat_natCast]
      congr 1
      unfold bitN
      refine decide_eq_decide.mpr ?_
      generalize 2 ^ i = N at hp2 ⊢
      have : (p : Int) / (N : Int) = ((p / N : Nat) : Int) := rfl
      rw [this]
      omega
    · try simp_arith only [hsx, Int.toNat_natCast]
/-- the participants in an area -/
theorem lmembers_ev {m : Mdl} {pf : List Nat} {e : SE} {X Y : T} {S : Sto} (hsl : m.ss.length ≤ 3) (hnd : m.ss.Nodup) (ho : e.over m.ss) (hd : e.dep < 24) (hpl : pf.length ≤ 1000) (hpf : ∀ p ∈ pf, p < szOf m.ss) (h1 : ∀ S', S' = S → fLen [X] S' = .ok (.int (pf.length : Int)) S') (h2 : ∀ i, i < pf.length → fIx X (.int (i : Int)) S = .ok (strsT (namesN 0 (pf.getD i 0) m.ss)) S) :
    F__law_members [m.t, .tup [X, Y], e.t] S = .ok (.lst (intsN (memP m.ss pf e))) S := ok_ev fun Q h => by
  unfold F__law_members
  generalize hB : B__law_members = B
  refine ok_run ?_
  subst hB
  unfold B__law_members
  have x0 : ∀ S, fIx (.tup [X, Y]) (.int 0) S = .ok X S := fun S => rfl
  have h1' := h1 S rfl
  try simp_arith only [x0, h1']
  rw [range1_ev _ _ (by omega)]
  try simp_arith only [rangeT_0, Int.toNat_natCast]
  rw [lc_pure (fun t => match t with
    | .int k => e.mem (namesN 0 (pf.getD k.toNat 0) m.ss)
    | _ => false) (fun t => t) _ [] (by rw [intsN_len, List.length_range, List.length_nil]; omega) fun t mt => ?_]
  · have e1 : ((intsN (List.range pf.length)).filter fun t => match t with
        | .int k => e.mem (namesN 0 (pf.getD k.toNat 0) m.ss)
        | _ => false).map (fun t => t) = intsN (memP m.ss pf e) := by
      rw [List.map_id']
      unfold intsN memP
      rw [List.filter_map]
      rfl
    rw [List.nil_append, e1]
    try simp_arith only [endQ]
    exact h
  · obtain ⟨i, hi, rfl⟩ := List.mem_map.mp mt
    have hi : i < pf.length := List.mem_range.mp hi
    have hp : pf.getD i 0 < szOf m.ss := by
      rw [List.getD_eq_getElem?_getD, List.getElem?_eq_getElem hi]
      exact hpf _ (List.getElem_mem hi)
    have hpr := fun S => lprofile_ev (ss := m.ss) (ns := namesN 0 (pf.getD i 0) m.ss) (rest := [strsT m.as, .tup (m.kinds.map Kd.t), .tup (m.asm.map asmT), .tup (m.clm.map clmT)]) (mdl_cr m) hsl S
    have hwi := fun S => (ok_ev fun Q h => within_ok (p := pf.getD i 0) (S := S) e (mdl_cr m) hnd hsl ho hd h : F__law_within 24 [.tup (strsT m.ss :: [strsT m.as, .tup (m.kinds.map Kd.t), .tup (m.asm.map asmT), .tup (m.clm.map clmT)]), e.t, .int ((pf.getD i 0 : Nat) : Int)] S = _)
    rw [prof_names hnd _ hp, ← mdl_t] at hpr
    rw [← mdl_t] at hwi
    have h2i := h2 i hi
    refine ⟨_, bindP_nm _ _ _, ?_, fun _ => ?_⟩
    · try simp_arith only [x0, h2i, hpr, hwi, fTru_bl, Int.toNat_natCast]
    · try simp_arith only []
theorem peo_len {ss : List Str} {pf : List Nat} (S : Sto) : fLen [.tup (peoL ss pf)] S = .ok (.int (pf.length : Int)) S := by
  unfold peoL
  rw [ev_lenT, List.length_map]
theorem peo_ix {ss : List Str} {pf : List Nat} {i : Nat} (h : i < pf.length) (S : Sto) : fIx (.tup (peoL ss pf)) (.int (i : Int)) S = .ok (strsT (namesN 0 (pf.getD i 0) ss)) S := by
  unfold peoL
  rw [ev_ixT, atI_in _ _ (by omega) (by rw [List.length_map]; omega), Int.toNat_natCast, List.getElem?_map, List.getElem?_eq_getElem h, List.getD_eq_getElem?_getD, List.getElem?_eq_getElem h]
  rfl
theorem memP_len (ss : List Str) (pf : List Nat) (e : SE) : (memP ss pf e).length ≤ pf.length := by
  unfold memP
  exact Nat.le_trans (List.length_filter_le _ _) (by rw [List.length_range]; exact Nat.le_refl _)
def rowZ (ds : List Dl) (n : Nat) (a : Str) : List Int := (List.range n).map fun i => balZ ds i a
theorem rowZ_len (ds : List Dl) (n : Nat) (a : Str) : (rowZ ds n a).length = n := by unfold rowZ; rw [List.length_map, List.length_range]
theorem rowZ_get (ds : List Dl) {n : Nat} (a : Str) {i : Nat} (h : i < n) : (rowZ ds n a)[i]? = some (balZ ds i a) := by
  unfold rowZ
  rw [List.getElem?_map, List.getElem?_range h]
  rfl
theorem bal_snoc (ds : List Dl) (d : Dl) (i : Nat) (a : Str) : balZ (ds ++ [d]) i a = balZ ds i a + d.n * ((if d.a = i then entryOf a d.k.given else 0) + (if d.b = i then entryOf a d.k.taken else 0)) := by
  unfold balZ
  rw [List.map_append, List.sum_append]
  simp
theorem rowZ_put (ds : List Dl) {n : Nat} {d : Dl} (a : Str) (ha : d.a < n) (hb : d.b < n) (hne : d.a ≠ d.b) :
    ((rowZ ds n a).set d.a (balZ ds d.a a + d.n * entryOf a d.k.given)).set d.b (balZ ds d.b a + d.n * entryOf a d.k.taken) = rowZ (ds ++ [d]) n a := by
  refine List.ext_getElem? fun i => ?_
  by_cases hi : i < n
  · rw [rowZ_get _ _ hi, bal_snoc]
    by_cases h2 : d.b = i
    · subst h2
      rw [List.getElem?_set_self (by rw [List.length_set, rowZ_len]; exact hb), if_neg hne, if_pos rfl, Int.zero_add]
    · rw [List.getElem?_set_ne h2]
      by_cases h1 : d.a = i
      · subst h1
        rw [List.getElem?_set_self (by rw [rowZ_len]; exact ha), if_pos rfl, if_neg h2, Int.add_zero]
      · rw [List.getElem?_set_ne h1, rowZ_get _ _ hi, if_neg h1, if_neg h2]
        simp
  · rw [List.getElem?_eq_none (by rw [List.length_set, List.length_set, rowZ_len]; omega), List.getElem?_eq_none (by rw [rowZ_len]; omega)]
def rowTz (ds : List Dl) (n : Nat) (a : Str) : T := .lst ((rowZ ds n a).map T.int)
def booksT (as : List Str) (ds : List Dl) (n : Nat) : T := .lst (as.map (rowTz ds n))
def rowOz (ds : List Dl) (n : Nat) (a : Str) : O := .lst ((rowZ ds n a).map T.int)
theorem rowTz_cl (k : Nat) (ds : List Dl) (n : Nat) (a : Str) : Fx.cl k (rowTz ds n a) = true := by
  unfold rowTz
  rw [cl_lst]
  exact cls_ints k _
theorem booksT_cl (k : Nat) (as : List Str) (ds : List Dl) (n : Nat) : Fx.cl k (booksT as ds n) = true := by
  unfold booksT
  rw [cl_lst]
  exact cls_all _ _ fun t m => by
    obtain ⟨a, _, rfl⟩ := List.mem_map.mp m
    exact rowTz_cl k ds n a
theorem ref_last1 {α : Type} (a : α) (g : List α) (x : α) : (a :: (g ++ [x]))[g.length + 1]? = some x := by
  rw [List.getElem?_cons_succ, List.getElem?_append_right (Nat.le_refl _), Nat.sub_self]
  rfl
theorem set_last1 {α : Type} (a : α) (g : List α) (x z : α) : (a :: (g ++ [x])).set (g.length + 1) z = a :: (g ++ [z]) := by
  rw [List.set_cons_succ, List.set_append_right _ _ (Nat.le_refl _), Nat.sub_self]
  rfl
theorem mulS (a : Int) {b : Int} (S : Sto) (h : -9999 ≤ b ∧ b ≤ 9999) : fMul (.int a) (.int b) S = .ok (.int (a * b)) S := ev_mul S (by omega)
theorem thaw_books (as : List Str) (ds : List Dl) (n : Nat) : thawD 0 (O.lst ((List.range as.length).map fun j => T.ref (j + 1)) :: as.map (rowOz ds n)) 4 (.ref 0) = booksT as ds n := by
  unfold thawD
  rw [List.getElem?_cons_zero]
  dsimp only
  rw [if_pos (Nat.zero_le _)]
  unfold booksT
  congr 1
  rw [List.map_map]
  apply List.ext_getElem?
  intro i
  rw [List.getElem?_map, List.getElem?_map]
  by_cases hi : i < as.length
  · rw [List.getElem?_range hi, List.getElem?_eq_getElem hi]
    show some (thawD 0 _ 3 (.ref (i + 1))) = some (rowTz ds n as[i])
    unfold thawD
    rw [List.getElem?_cons_succ, List.getElem?_map, List.getElem?_eq_getElem hi]
    unfold rowTz rowOz
    dsimp only [Option.map]
    rw [if_pos (Nat.zero_le _), List.map_map]
    congr 2
  · rw [List.getElem?_eq_none (by rw [List.length_range]; omega), List.getElem?_eq_none (by omega)]
    rfl
theorem lbooks_ev {m : Mdl} {pf : List Nat} {ds : List Dl} (hm : MdlW m) (hal : m.as.length ≤ 100) (h : LedG m pf ds) (S : Sto) : F__law_books [m.t, ledT m.ss pf ds] S = .ok (booksT m.as ds pf.length) S := ok_ev fun Q q => by
  unfold F__law_books
  refine ok_frameD0 (by rw [Fx.cls_cons, m.cl, Fx.cls_cons, ledT_cl, Fx.cls_nil]; rfl) ?_
  generalize hB : B__law_books = B
  refine ok_run ?_
  subst hB
  unfold B__law_books
  have hpl := h.pl
  have hdl := h.dl
  have m1 : ∀ S, fIx m.t (.int 1) S = .ok (strsT m.as) S := fun S => rfl
  have m2 : ∀ S, fIx m.t (.int 2) S = .ok (.tup (m.kinds.map Kd.t)) S := fun S => rfl
  have l0 : ∀ S, fIx (ledT m.ss pf ds) (.int 0) S = .ok (.tup (peoL m.ss pf)) S := fun S => rfl
  have l1 : ∀ S, fIx (ledT m.ss pf ds) (.int 1) S = .ok (.tup (ds.map Dl.t)) S := fun S => rfl
  have hit : ∀ (l : List T) S, itOf (.tup l) S = .ok ⟨l, []⟩ S := fun l S => rfl
  have his : ∀ S, itOf (strsT m.as) S = .ok ⟨m.as.map T.str, []⟩ S := fun S => rfl
  try simp_arith only [m1, his]
  refine ok_for (fun i τ S => ∃ x3 x4 x5 x6 x7 x8 : Option T, τ = [some m.t, some (ledT m.ss pf ds), some (.ref 0), x3, x4, x5, x6, x7, x8] ∧ S = O.lst ((List.range i).map fun j => T.ref (j + 1)) :: (m.as.take i).map (rowOz ds pf.length)) ⟨_, _, _, _, _, _, rfl, rfl⟩ ?_ ?_
  · rintro i t τ S1 e ⟨x3, x4, x5, x6, x7, x8, rfl, rfl⟩
    rw [List.getElem?_map] at e
    obtain ⟨a, ha, rfl⟩ := Option.map_eq_some_iff.mp e
    obtain ⟨hi, hae⟩ := List.getElem?_eq_some_iff.mp ha
    obtain ⟨rest, hrest⟩ : ∃ rest, rest = (m.as.take i).map (rowOz ds pf.length) := ⟨_, rfl⟩
    have hrl : rest.length = i := by rw [hrest, List.length_map, List.length_take]; omega
    rw [← hrest]
    refine ⟨_, bindP_nm _ _ _, ?_⟩
    try simp_arith only [l0, hit]
    rw [lc_map (fun _ => .int 0) _ (by unfold peoL; rw [List.length_map]; omega) fun t mt => ⟨_, bindP_nm _ _ _, by try simp_arith only []⟩]
    have e0 : (peoL m.ss pf).map (fun _ => T.int 0) = (rowZ (ds.take 0) pf.length a).map T.int := by
      unfold peoL rowZ
      rw [List.map_map, List.map_map]
      have : ∀ l : List Nat, l.map ((fun _ => T.int 0) ∘ fun p => strsT (namesN 0 p m.ss)) = List.replicate l.length (T.int 0) := fun l => by
        induction l with
        | nil => rfl
        | cons x l ih => rw [List.map_cons, ih]; rfl
      rw [this]
      have : ∀ l : List Nat, l.map (T.int ∘ fun i => balZ (ds.take 0) i a) = List.replicate l.length (T.int 0) := fun l => by
        induction l with
        | nil => rfl
        | cons x l ih => rw [List.map_cons, ih]; rfl
      rw [this, List.length_range]
    rw [e0]
    have hnew : ∀ (l : List T) (S : Sto), newL false l S = .ok (.ref S.length) (S ++ [.lst l]) := fun l S => rfl
    try simp_arith only [l1, hit, hnew, List.length_cons, List.cons_append]
    refine ok_for (fun j τ S => ∃ y5 y6 y7 y8 : Option T, τ = [some m.t, some (ledT m.ss pf ds), some (.ref 0), some (.str a), some (.ref (rest.length + 1)), y5, y6, y7, y8] ∧ S = O.lst ((List.range i).map fun j => T.ref (j + 1)) :: (rest ++ [.lst ((rowZ (ds.take j) pf.length a).map T.int)])) ⟨_, _, _, _, rfl, rfl⟩ ?_ ?_
    · rintro j u τ S2 e2 ⟨y5, y6, y7, y8, rfl, rfl⟩
      rw [List.getElem?_map] at e2
      obtain ⟨d, hd, rfl⟩ := Option.map_eq_some_iff.mp e2
      obtain ⟨hj, hde⟩ := List.getElem?_eq_some_iff.mp hd
      have hD := h.ds d (List.mem_of_getElem? hd)
      have hE := hm.es d.k hD.k
      have d0 : ∀ S, fIx d.t (.int 0) S = .ok (.str d.k.name) S := fun S => rfl
      have d1 : ∀ S, fIx d.t (.int 1) S = .ok (.int (d.a : Int)) S := fun S => rfl
      have d2 : ∀ S, fIx d.t (.int 2) S = .ok (.int (d.b : Int)) S := fun S => rfl
      have d3 : ∀ S, fIx d.t (.int 3) S = .ok (.int d.n) S := fun S => rfl
      have k0 : ∀ (k : Kd) S, fIx k.t (.int 0) S = .ok (.str k.name) S := fun k S => rfl
      have k2 : ∀ S, fIx d.k.t (.int 2) S = .ok (entsT d.k.given) S := fun S => rfl
      have k4 : ∀ S, fIx d.k.t (.int 4) S = .ok (entsT d.k.taken) S := fun S => rfl
      have en1 := fun S => lentry_ev (a := a) hE.1.nd hE.1.ln S
      have en2 := fun S => lentry_ev (a := a) hE.2.nd hE.2.ln S
      have mu1 := fun S => mulS d.n S (entryOf_small (a := a) hE.1.sm)
      have mu2 := fun S => mulS d.n S (entryOf_small (a := a) hE.2.sm)
      have hkl := hm.u.kl
      refine ⟨_, bindP_nm _ _ _, ?_⟩
      try simp_arith only [m2, d0, hit]
      rw [lc_pure (fun t => match t with
        | .tup (.str n :: _) => decide (n = d.k.name)
        | _ => false) (fun t => t) _ [] (by rw [List.length_map, List.length_nil]; omega) fun t mt => ?s]
      case s =>
        obtain ⟨k, mk, rfl⟩ := List.mem_map.mp mt
        refine ⟨_, bindP_nm _ _ _, ?_, fun _ => ?_⟩
        · try simp_arith only [k0, d0]
          rfl
        · try simp_arith only []
      have ef : ((m.kinds.map Kd.t).filter fun t => match t with
          | .tup (.str n :: _) => decide (n = d.k.name)
          | _ => false).map (fun t => t) = [d.k.t] := by
        rw [List.map_id', List.filter_map]
        have := filter_kd d.k.name hm.nn d.k hD.k rfl
        show (m.kinds.filter fun k => decide (k.name = d.k.name)).map Kd.t = _
        rw [this]
        rfl
      rw [List.nil_append, ef]
      have hS : ∀ x : O, (O.lst ((List.range i).map fun j => T.ref (j + 1)) :: (rest ++ [x]))[rest.length + 1]? = some x := fun x => ref_last1 _ rest x
      have hW : ∀ x z : O, (O.lst ((List.range i).map fun j => T.ref (j + 1)) :: (rest ++ [x])).set (rest.length + 1) z = O.lst ((List.range i).map fun j => T.ref (j + 1)) :: (rest ++ [z]) := fun x z => set_last1 _ rest x z
      have at1 : L2.atI ((rowZ (ds.take j) pf.length a).map T.int) (d.a : Int) = some (.int (balZ (ds.take j) d.a a)) := by
        rw [atI_in _ _ (by omega) (by rw [List.length_map, rowZ_len]; have := hD.a; omega), Int.toNat_natCast, List.getElem?_map, rowZ_get _ _ hD.a]
        rfl
      have ix1 : ixN ((rowZ (ds.take j) pf.length a).map T.int).length (d.a : Int) = some d.a := by
        rw [List.length_map, rowZ_len, ixN_in _ _ (by omega) (by have := hD.a; omega), Int.toNat_natCast]
      have at2 : L2.atI (((rowZ (ds.take j) pf.length a).map T.int).set d.a (.int (balZ (ds.take j) d.a a + d.n * entryOf a d.k.given))) (d.b : Int) = some (.int (balZ (ds.take j) d.b a)) := by
        rw [atI_in _ _ (by omega) (by rw [List.length_set, List.length_map, rowZ_len]; have := hD.b; omega), Int.toNat_natCast, List.getElem?_set_ne hD.ne, List.getElem?_map, rowZ_get _ _ hD.b]
        rfl
      have ix2 : ixN (((rowZ (ds.take j) pf.length a).map T.int).set d.a (.int (balZ (ds.take j) d.a a + d.n * entryOf a d.k.given))).length (d.b : Int) = some d.b := by
        rw [List.length_set, List.length_map, rowZ_len, ixN_in _ _ (by omega) (by have := hD.b; omega), Int.toNat_natCast]
      try simp_arith only [d1, d2, d3, k2, k4, en1, en2, mu1, mu2, hS, hW, at1, ix1, at2, ix2, forQ]
      refine ⟨_, _, _, _, rfl, ?_⟩
      rw [List.take_succ_eq_append_getElem hj, hde, ← rowZ_put (ds.take j) a hD.a hD.b hD.ne, List.map_set, List.map_set]
    · rintro τ S2 ⟨y5, y6, y7, y8, rfl, rfl⟩
      rw [List.length_map, List.take_length]
      try simp_arith only []
      rw [append_ev (k := 0) rfl (by rw [List.length_map, List.length_range]; omega)]
      try simp_arith only [forQ]
      refine ⟨_, _, _, _, _, _, rfl, ?_⟩
      rw [List.range_succ, List.map_append, List.take_succ_eq_append_getElem hi, List.map_append, hae, ← hrest, hrl]
      rfl
  · rintro τ S1 ⟨x3, x4, x5, x6, x7, x8, rfl, rfl⟩
    rw [List.length_map, List.take_length]
    try simp_arith only [endQ]
    rw [thaw_books]
    exact ⟨booksT_cl 0 _ _ _, q⟩
theorem rowTz_ix {ds : List Dl} {n : Nat} {a : Str} {i : Nat} (h : i < n) (S : Sto) : fIx (rowTz ds n a) (.int (i : Int)) S = .ok (.int (balZ ds i a)) S := by
  unfold rowTz
  rw [ev_ixL, atI_in _ _ (by omega) (by rw [List.length_map, rowZ_len]; omega), Int.toNat_natCast, List.getElem?_map, rowZ_get _ _ h]
  rfl
theorem books_ix {as : List Str} {ds : List Dl} {n : Nat} {j : Nat} (h : j < as.length) (S : Sto) : fIx (booksT as ds n) (.int (j : Int)) S = .ok (rowTz ds n as[j]) S := by
  unfold booksT
  rw [ev_ixL, atI_in _ _ (by omega) (by rw [List.length_map]; omega), Int.toNat_natCast, List.getElem?_map, List.getElem?_eq_getElem h]
  rfl
theorem bal_bd {m : Mdl} {pf : List Nat} {ds : List Dl} (hm : MdlW m) (h : LedG m pf ds) (hb : ∀ d ∈ ds, d.n < 2 ^ 200) (i : Nat) (a : Str) : -(2 ^ 226) ≤ balZ ds i a ∧ balZ ds i a ≤ 2 ^ 226 := by
  have h1 := sum_bd (B := 2 ^ 200 * 19998) (f := fun d : Dl => d.n * ((if d.a = i then entryOf a d.k.given else 0) + (if d.b = i then entryOf a d.k.taken else 0))) (by decide) (l := ds) fun d md => by
    have hd := h.ds d md
    have g1 := entryOf_small (a := a) (hm.es _ hd.k).1.sm
    have g2 := entryOf_small (a := a) (hm.es _ hd.k).2.sm
    have hn := hd.n
    have hn2 := hb d md
    have hz : ∀ z : Int, -19998 ≤ z ∧ z ≤ 19998 → -(2 ^ 200 * 19998) ≤ d.n * z ∧ d.n * z ≤ 2 ^ 200 * 19998 := fun z hz => by
      have q : (d.n * z).natAbs ≤ 2 ^ 200 * 19998 := by
        rw [Int.natAbs_mul]
        exact Nat.mul_le_mul (by omega) (by omega)
      omega
    exact hz _ (by split <;> split <;> omega)
  have h2 := h.dl
  unfold balZ
  omega
theorem bals_bd {m : Mdl} {pf : List Nat} {ds : List Dl} (hm : MdlW m) (h : LedG m pf ds) (hb : ∀ d ∈ ds, d.n < 2 ^ 200) (e : SE) (a : Str) : ((memP m.ss pf e).map fun i => balZ ds i a).sum.natAbs < 2 ^ 240 := by
  have h1 := sum_bd (B := 2 ^ 226) (f := fun i : Nat => balZ ds i a) (by decide) (l := memP m.ss pf e) fun i _ => bal_bd hm h hb i a
  have h2 := memP_len m.ss pf e
  have h3 := h.pl
  omega
theorem lworthW_ev {m : Mdl} {pf : List Nat} {ds : List Dl} {ts : List ((Int × Str) × SE)} {r : Str} (hm : MdlW m) (h : LedG m pf ds) (hb : ∀ d ∈ ds, d.n < 2 ^ 200) (hv0 : ConV m.ss (.sum ts r)) (hac : ∀ w ∈ (Con.sum ts r).accs, w ∈ m.as) (hsz : ∀ t ∈ ts, t.1.1.natAbs < 2 ^ 110) (S : Sto) : F__law_worth [m.t, ledT m.ss pf ds, booksT m.as ds pf.length, (Con.sum ts r).t] S = .ok (.int (valS m.ss pf ds ts)) S := ok_ev fun Q q => by
  unfold F__law_worth
  refine ok_frame0 (by rw [Fx.cls_cons, m.cl, Fx.cls_cons, ledT_cl, Fx.cls_cons, booksT_cl, Fx.cls_cons, (Con.sum ts r).cl, Fx.cls_nil]; rfl) ?_
  generalize hB : B__law_worth = B
  refine ok_run ?_
  subst hB
  unfold B__law_worth
  have hpl := h.pl
  have m1 : ∀ S, fIx m.t (.int 1) S = .ok (strsT m.as) S := fun S => rfl
  have hli : ∀ S : Sto, fListA true [strsT m.as] S = .ok (.lst (m.as.map T.str)) S := fun S => rfl
  have hit : ∀ (l : List T) S, itOf (.tup l) S = .ok ⟨l, []⟩ S := fun l S => rfl
  have hil : ∀ (l : List T) S, itOf (.lst l) S = .ok ⟨l, []⟩ S := fun l S => rfl
  have hmem := fun (e : SE) (ho : e.over m.ss) (hd : e.dep < 24) S => lmembers_ev (m := m) (pf := pf) (e := e) (X := .tup (peoL m.ss pf)) (Y := .tup (ds.map Dl.t)) (S := S) hm.u.sl hm.u.nd ho hd (by omega) h.lt (fun S' _ => peo_len S') fun i hi => peo_ix hi S
  have el : T.tup [.tup (peoL m.ss pf), .tup (ds.map Dl.t)] = ledT m.ss pf ds := rfl
  rw [el] at hmem
  have hbk : ∀ w ∈ m.as, ∃ j : Nat, (∀ S, fIndex (.lst (m.as.map T.str)) [.str w] S = .ok (.int (j : Int)) S) ∧ ∀ S, fIx (booksT m.as ds pf.length) (.int (j : Int)) S = .ok (rowTz ds pf.length w) S := fun w mw => by
    obtain ⟨j, hj, hjs, hji⟩ := index_ok mw
    exact ⟨j, hji, fun S => by rw [books_ix hj, hjs]⟩
  have c0 : ∀ S, fIx (Con.sum ts r).t (.int 0) S = .ok (.str "sum") S := fun S => rfl
  have c1 : ∀ S, fIx (Con.sum ts r).t (.int 1) S = .ok (.tup (ts.map qT)) S := fun S => rfl
  try simp_arith only [m1, hli, c0, kd_ss', c1, hit]
  refine ok_for (fun i τ S => ∃ x6 x7 x8 : Option T, τ = [some m.t, some (ledT m.ss pf ds), some (booksT m.as ds pf.length), some (Con.sum ts r).t, some (.lst (m.as.map T.str)), some (.int (valS m.ss pf ds (ts.take i))), x6, x7, x8, none] ∧ S = []) ⟨_, _, _, rfl, rfl⟩ ?_ ?_
  · rintro i t τ S e ⟨x6, x7, x8, rfl, rfl⟩
    rw [List.getElem?_map] at e
    obtain ⟨u, hu, rfl⟩ := Option.map_eq_some_iff.mp e
    obtain ⟨hi, hue⟩ := List.getElem?_eq_some_iff.mp hu
    have mu := List.mem_of_getElem? hu
    have u0 : ∀ S, fIx (qT u) (.int 0) S = .ok (.int u.1.1) S := fun S => rfl
    have u1 : ∀ S, fIx (qT u) (.int 1) S = .ok (.str u.1.2) S := fun S => rfl
    have u2 : ∀ S, fIx (qT u) (.int 2) S = .ok u.2.t S := fun S => rfl
    obtain ⟨j, hj1, hj2⟩ := hbk u.1.2 (hac _ (List.mem_map.mpr ⟨u, mu, rfl⟩))
    have hv := hv0.2 u mu
    have hsm := hsz u mu
    have hme := hmem u.2 hv.1 hv.2
    refine ⟨_, bindP_nm _ _ _, ?_⟩
    try simp_arith only [u0, u1, u2, hj1, hj2, hme, hil]
    rw [lc_map (fun t => match t with
      | .int k => T.int (balZ ds k.toNat u.1.2)
      | _ => .non) _ (by rw [intsN_len]; have := memP_len m.ss pf u.2; omega) fun t mt => ?s]
    case s =>
      obtain ⟨k, mk, rfl⟩ := List.mem_map.mp mt
      have hk := (memP_mem.mp mk).1
      have hrx := fun S => rowTz_ix (ds := ds) (a := u.1.2) hk S
      refine ⟨_, bindP_nm _ _ _, ?_⟩
      try simp_arith only [hrx, Int.toNat_natCast]
    have e1 : ((intsN (memP m.ss pf u.2)).map fun t => match t with
        | .int k => T.int (balZ ds k.toNat u.1.2)
        | _ => .non) = ((memP m.ss pf u.2).map fun i => balZ ds i u.1.2).map T.int := by
      unfold intsN
      rw [List.map_map, List.map_map]
      exact List.map_congr_left fun i _ => by
        show T.int (balZ ds (i : Int).toNat u.1.2) = _
        rw [Int.toNat_natCast]
        rfl
    rw [e1]
    have mul := fun S => ev_mulW (a := 110) (b := 240) hsm (bals_bd hm h hb u.2 u.1.2) (by decide) (by decide) (by decide) S
    try simp_arith only [sum_ints, mul, forQ]
    have ev : valS m.ss pf ds (ts.take (i + 1)) = valS m.ss pf ds (ts.take i) + u.1.1 * ((memP m.ss pf u.2).map fun i => balZ ds i u.1.2).sum := by
      rw [List.take_succ_eq_append_getElem hi, hue]
      unfold valS
      rw [List.map_append, List.sum_append]
      simp
    rw [ev]
    exact ⟨_, _, _, rfl, by trivial⟩
  · rintro τ S ⟨x6, x7, x8, rfl, rfl⟩
    rw [List.length_map, List.take_length]
    try simp_arith only [endQ]
    exact ⟨by simp, by rw [thaw_int]; exact q⟩
theorem pw6 (S : Sto) : fPow (.int 10) (.int 6) S = .ok (.int 1000000) S := id rfl
theorem pw9 (S : Sto) : fPow (.int 10) (.int 9) S = .ok (.int 1000000000) S := id rfl
theorem pw59 (S : Sto) : fPow (.int 10) (.int 59) S = .ok (.int 100000000000000000000000000000000000000000000000000000000000) S := id rfl
theorem lamount_ok {t : Tp} {rest : Sto} {Q : T → Sto → Prop} (hp : 0 ≤ t.pl) (h : ∀ (n : Int) (t' : Tp), 0 ≤ t'.pl → (0 ≤ n ∧ n < 2 ^ 200) → Q (.int n) (t'.o :: rest)) : Ok (F__law_amount [.ref 0] (t.o :: rest)) Q := by
  unfold F__law_amount
  refine ok_frame1 (by simp) t.clO ?_
  generalize hB : B__law_amount = B
  refine ok_run ?_
  subst hB
  unfold B__law_amount
  have fin : ∀ (n : Int) (t1 : Tp), 0 ≤ t1.pl → (0 ≤ n ∧ n < 2 ^ 200) → endQ (fun t S1 => ∃ o' g, S1 = o' :: g ∧ clO 1 o' = true ∧ Fx.cl 1 (Fx.thaw 1 true t S1) = true ∧ Q (Fx.thaw 1 true t S1) (o' :: rest)) (.rt (.int n)) [t1.o] := fun n t1 hp1 hn => ⟨t1.o, [], rfl, t1.clO, by simp, by rw [thaw_int]; exact h n t1 hp1 hn⟩
  try simp_arith only []
  refine draw_ok hp (by decide) fun k t1 hp1 h0 h1 => ?_
  try simp_arith only []
  by_cases c0 : k = 0
  · try simp_arith only [decide_eq_true c0, pw6]
    refine draw_ok hp1 (by decide) fun j t2 hp2 hj0 hj => ?_
    try simp_arith only []
    exact fin _ t2 hp2 (by omega)
  · by_cases c1 : k = 1
    · try simp_arith only [decide_eq_false c0, decide_eq_true c1, pw9, pw59]
      refine draw_ok hp1 (by decide) fun j t2 hp2 hj0 hj => ?_
      have : ∃ v : Int, (0 ≤ v ∧ v < 2 ^ 199) ∧ L2.atI [T.int 10, .int 1000, .int 1000000000, .int 100000000000000000000000000000000000000000000000000000000000] j = some (.int v) := by
        have : j = 0 ∨ j = 1 ∨ j = 2 ∨ j = 3 := by omega
        rcases this with rfl | rfl | rfl | rfl
        · exact ⟨10, by decide, rfl⟩
        · exact ⟨1000, by decide, rfl⟩
        · exact ⟨1000000000, by decide, rfl⟩
        · exact ⟨100000000000000000000000000000000000000000000000000000000000, by decide, rfl⟩
      obtain ⟨v, hv, hat⟩ := this
      try simp_arith only [hat]
      refine draw_ok hp2 (by decide) fun i t3 hp3 hi0 hi => ?_
      try simp_arith only []
      exact fin _ t3 hp3 (by omega)
    · try simp_arith only [decide_eq_false c0, decide_eq_false c1]
      refine draw_ok hp1 (by decide) fun j t2 hp2 hj0 hj => ?_
      try simp_arith only []
      exact fin _ t2 hp2 (by omega)
def DlB (m : Mdl) (pf : List Nat) (d : Dl) : Prop := DlOk m pf d ∧ d.n < 2 ^ 200
theorem dl_snoc {m : Mdl} {pf : List Nat} {ds : List Dl} {d : Dl} (h : ∀ x ∈ ds, DlB m pf x) (hd : DlB m pf d) : ∀ x ∈ ds ++ [d], DlB m pf x := fun x mx => by
  rcases List.mem_append.mp mx with mx | mx
  · exact h x mx
  · rw [List.mem_singleton.mp mx]; exact hd
theorem ldeals_ok {m : Mdl} {pf : List Nat} {n : Nat} {t : Tp} {Q : T → Sto → Prop} (hp : 0 ≤ t.pl) (hu : MdlU m) (hn : n ≤ 100) (hpl : pf.length ≤ 100) (hpf : ∀ p ∈ pf, p < szOf m.ss)
    (q : ∀ (ds : List Dl) (t' : Tp) (g : Sto), 0 ≤ t'.pl → ds.length ≤ n → (∀ d ∈ ds, DlB m pf d) → Q (.tup (ds.map Dl.t)) (t'.o :: .lst (peoL m.ss pf) :: g)) : Ok (F__law_drawn_deals [.ref 0, m.t, .ref 1, .int (n : Int)] [t.o, .lst (peoL m.ss pf)]) Q := by
  unfold F__law_drawn_deals
  generalize hB : B__law_drawn_deals = B
  refine ok_run ?_
  subst hB
  unfold B__law_drawn_deals
  have m2 : ∀ S, fIx m.t (.int 2) S = .ok (.tup (m.kinds.map Kd.t)) S := fun S => rfl
  have hkl := hu.kl
  have lk : ∀ S, fLen [.tup (m.kinds.map Kd.t)] S = .ok (.int (m.kinds.length : Int)) S := fun S => by rw [ev_lenT, List.length_map]
  have hil : ∀ (l : List T) S, itOf (.lst l) S = .ok ⟨l, []⟩ S := fun l S => rfl
  have ll : ∀ (l : List Nat) S, fLen [.lst (intsN l)] S = .ok (.int (l.length : Int)) S := fun l S => by
    show R.ok (T.int ((intsN l).length : Int)) S = _
    rw [intsN_len]
  have l1 : ∀ (o : O) (z : Sto), fLen [.ref 1] (o :: .lst (peoL m.ss pf) :: z) = .ok (.int (pf.length : Int)) (o :: .lst (peoL m.ss pf) :: z) := fun o z => by
    show R.ok (T.int ((peoL m.ss pf).length : Int)) _ = _
    unfold peoL
    rw [List.length_map]
  have x1 : ∀ (o : O) (z : Sto) (i : Nat), i < pf.length → fIx (.ref 1) (.int (i : Int)) (o :: .lst (peoL m.ss pf) :: z) = .ok (strsT (namesN 0 (pf.getD i 0) m.ss)) (o :: .lst (peoL m.ss pf) :: z) := fun o z i hi => by
    rw [ev_ixR]
    show (match L2.atI (peoL m.ss pf) (i : Int) with
      | some t => R.ok t _
      | none => .bad) = _
    unfold peoL
    rw [atI_in _ _ (by omega) (by rw [List.length_map]; omega), Int.toNat_natCast, List.getElem?_map, List.getElem?_eq_getElem hi, List.getD_eq_getElem?_getD, List.getElem?_eq_getElem hi]
    rfl
  have hmem := fun (e : SE) (ho : e.over m.ss) (hd : e.dep < 24) (o : O) (z : Sto) => lmembers_ev (m := m) (pf := pf) (e := e) (X := .ref 1) (Y := .tup []) (S := o :: .lst (peoL m.ss pf) :: z) hu.sl hu.nd ho hd (by omega) hpf (fun S' e => by subst e; exact l1 o z) fun i hi => x1 o z i hi
  try simp_arith only []
  rw [range1_ev _ _ (by omega)]
  try simp_arith only []
  refine ok_for (fun i τ S => ∃ (ds : List Dl) (t1 : Tp) (x5 x6 x7 x8 x9 x10 : Option T), τ = [some (.ref 0), some m.t, some (.ref 1), some (.int (n : Int)), some (.ref 2), x5, x6, x7, x8, x9, x10] ∧ S = [t1.o, .lst (peoL m.ss pf), .lst (ds.map Dl.t)] ∧ 0 ≤ t1.pl ∧ ds.length ≤ i ∧ ∀ d ∈ ds, DlB m pf d) ⟨[], t, _, _, _, _, _, _, rfl, rfl, hp, Nat.le_refl _, fun _ h => nomatch h⟩ ?_ ?_
  · rintro i v τ S e ⟨ds, t1, x5, x6, x7, x8, x9, x10, rfl, rfl, hp1, hdl, hds⟩
    obtain ⟨hi, rfl⟩ := rangeT_at e
    rw [Int.toNat_natCast] at hi
    refine ⟨_, bindP_nm _ _ _, ?_⟩
    have stop : ∀ (t2 : Tp) (y6 y7 y8 y9 y10 : Option T), 0 ≤ t2.pl → ∃ (ds' : List Dl) (t1' : Tp) (x5 x6 x7 x8 x9 x10 : Option T), [some (.ref 0), some m.t, some (.ref 1), some (.int (n : Int)), some (.ref 2), some (.int (0 + (i : Int))), y6, y7, y8, y9, y10] = [some (.ref 0), some m.t, some (.ref 1), some (.int (n : Int)), some (.ref 2), x5, x6, x7, x8, x9, x10] ∧ ([t2.o, .lst (peoL m.ss pf), .lst (ds.map Dl.t)] : Sto) = [t1'.o, .lst (peoL m.ss pf), .lst (ds'.map Dl.t)] ∧ 0 ≤ t1'.pl ∧ ds'.length ≤ i + 1 ∧ ∀ d ∈ ds', DlB m pf d := fun t2 y6 y7 y8 y9 y10 hp2 => ⟨ds, t2, _, _, _, _, _, _, rfl, rfl, hp2, by omega, hds⟩
    try simp_arith only [m2, lk]
    by_cases c0 : (0 : Int) < (m.kinds.length : Int)
    · try simp_arith only [decide_eq_true c0, m2, lk]
      refine draw_ok hp1 (by omega) fun kk t2 hp2 hk0 hk => ?_
      obtain ⟨kn, rfl⟩ := Int.eq_ofNat_of_zero_le hk0
      have hkn : kn < m.kinds.length := by omega
      have hkm := List.getElem_mem hkn
      have hat : L2.atI (m.kinds.map Kd.t) (kn : Int) = some (m.kinds[kn]).t := by
        rw [atI_in _ _ (by omega) (by rw [List.length_map]; omega), Int.toNat_natCast, List.getElem?_map, List.getElem?_eq_getElem hkn]
        rfl
      generalize m.kinds[kn] = k at hkm hat
      have k0 : ∀ S, fIx k.t (.int 0) S = .ok (.str k.name) S := fun S => rfl
      have k1 : ∀ S, fIx k.t (.int 1) S = .ok k.payer.t S := fun S => rfl
      have k3 : ∀ S, fIx k.t (.int 3) S = .ok k.payee.t S := fun S => rfl
      have hm1 := hmem k.payer (hu.o1 k hkm).1 (hu.o1 k hkm).2
      have hm3 := hmem k.payee (hu.o2 k hkm).1 (hu.o2 k hkm).2
      have hl1 := memP_len m.ss pf k.payer
      have hl3 := memP_len m.ss pf k.payee
      try simp_arith only [hat, k1, hm1, ll, intsN_len]
      by_cases c1 : (0 : Int) < ((memP m.ss pf k.payer).length : Int)
      · try simp_arith only [decide_eq_true c1, ll, intsN_len]
        refine draw_ok hp2 (by omega) fun pp t3 hp3 hp0 hpp => ?_
        obtain ⟨pn, rfl⟩ := Int.eq_ofNat_of_zero_le hp0
        have hpn : pn < (memP m.ss pf k.payer).length := by omega
        have hpm := List.getElem_mem hpn
        have hat1 : L2.atI (intsN (memP m.ss pf k.payer)) (pn : Int) = some (.int ((memP m.ss pf k.payer)[pn] : Nat)) := by
          rw [atI_in _ _ (by omega) (by rw [intsN_len]; omega), Int.toNat_natCast, intsN_at hpn]
        generalize (memP m.ss pf k.payer)[pn] = pa at hpm hat1
        try simp_arith only [hat1, k3, hm3, hil]
        rw [lc_pure (fun t => match t with
          | .int i => !decide (i = (pa : Int))
          | _ => false) (fun t => t) _ [] (by rw [intsN_len, List.length_nil]; omega) fun t mt => ?s]
        case s =>
          obtain ⟨j, mj, rfl⟩ := List.mem_map.mp mt
          refine ⟨_, bindP_nm _ _ _, ?_, fun _ => ?_⟩
          · try simp_arith only []
          · try simp_arith only []
        have ef : ((intsN (memP m.ss pf k.payee)).filter fun t => match t with
            | .int i => !decide (i = (pa : Int))
            | _ => false).map (fun t => t) = intsN ((memP m.ss pf k.payee).filter fun i => !decide (i = pa)) := by
          rw [List.map_id']
          unfold intsN
          rw [List.filter_map]
          congr 1
          refine List.filter_congr fun i _ => ?_
          show (!decide ((i : Int) = (pa : Int))) = _
          congr 1
          exact decide_eq_decide.mpr (by omega)
        rw [List.nil_append, ef]
        have hlf : ((memP m.ss pf k.payee).filter fun i => !decide (i = pa)).length ≤ 100 := Nat.le_trans (List.length_filter_le _ _) (by omega)
        have hfm : ∀ j ∈ ((memP m.ss pf k.payee).filter fun i => !decide (i = pa)), j ∈ memP m.ss pf k.payee ∧ pa ≠ j := fun j mj => by
          have := List.mem_filter.mp mj
          exact ⟨this.1, fun e => by have h2 := this.2; rw [e] at h2; simp at h2⟩
        generalize ((memP m.ss pf k.payee).filter fun i => !decide (i = pa)) = PE at hlf hfm
        try simp_arith only [ll, intsN_len]
        by_cases c2 : (0 : Int) < (PE.length : Int)
        · try simp_arith only [decide_eq_true c2, k0, ll, intsN_len]
          refine draw_ok hp3 (by omega) fun ee t4 hp4 he0 hee => ?_
          obtain ⟨en, rfl⟩ := Int.eq_ofNat_of_zero_le he0
          have hen : en < PE.length := by omega
          have hem := List.getElem_mem hen
          have hat2 : L2.atI (intsN PE) (en : Int) = some (.int (PE[en] : Nat)) := by
            rw [atI_in _ _ (by omega) (by rw [intsN_len]; omega), Int.toNat_natCast, intsN_at hen]
          generalize PE[en] = pb at hem hat2
          try simp_arith only [hat2]
          refine lamount_ok hp4 fun am t5 hp5 ham => ?_
          try simp_arith only []
          rw [append_ev (k := 2) rfl (by rw [List.length_map]; omega)]
          try simp_arith only [forQ]
          obtain ⟨hf1, hf2⟩ := hfm pb hem
          refine ⟨ds ++ [⟨k, pa, pb, am⟩], t5, _, _, _, _, _, _, rfl, ?_, hp5, by rw [List.length_append, List.length_singleton]; omega, dl_snoc hds ⟨⟨hkm, (memP_mem.mp hpm).1, (memP_mem.mp hf1).1, hf2, (memP_mem.mp hpm).2, (memP_mem.mp hf1).2, ham.1⟩, ham.2⟩⟩
          rw [List.map_append]
          rfl
        · try simp_arith only [decide_eq_false c2, forQ]
          exact stop t3 _ _ _ _ _ hp3
      · try simp_arith only [decide_eq_false c1, forQ]
        exact stop t2 _ _ _ _ _ hp2
    · try simp_arith only [decide_eq_false c0, forQ]
      exact stop t1 _ _ _ _ _ hp1
  · rintro τ S ⟨ds, t1, x5, x6, x7, x8, x9, x10, rfl, rfl, hp1, hdl, hds⟩
    rw [rangeT_length, Int.toNat_natCast] at hdl
    have htr : fTuple [.ref 2] [t1.o, .lst (peoL m.ss pf), .lst (ds.map Dl.t)] = .ok (.tup (ds.map Dl.t)) [t1.o, .lst (peoL m.ss pf), .lst (ds.map Dl.t)] := tupR (k := 2) rfl
    try simp_arith only [htr, endQ]
    exact q ds t1 _ hp1 hdl hds
theorem in_bl (L : List Bool) (S : Sto) : ∃ b : Bool, fIn false (.bl true) (.lst (L.map T.bl)) S = .ok (.bl b) S := by
  unfold fIn
  dsimp only [seqOf]
  have hf : (L.map T.bl).all flatT = true := List.all_eq_true.mpr fun t mt => by
    obtain ⟨b, _, rfl⟩ := List.mem_map.mp mt
    rfl
  have e : lstD S (.lst (L.map T.bl)) = some (L.map T.bl) := rfl
  rw [e]
  dsimp only
  rw [hf, if_pos (show (flatT (.bl true) && true) = true from rfl)]
  exact ⟨_, rfl⟩
def sidesL (ks : List Kd) : List SE := ks.map Kd.payer ++ ks.map Kd.payee
theorem within_ev {m : Mdl} {e : SE} {p : Nat} (hsl : m.ss.length ≤ 3) (hnd : m.ss.Nodup) (ho : e.over m.ss) (hd : e.dep < 24) (S : Sto) : F__law_within 24 [m.t, e.t, .int (p : Int)] S = .ok (.bl (e.mem (namesN 0 p m.ss))) S := by
  have := ok_ev fun Q h => within_ok (p := p) (S := S) e (mdl_cr m) hnd hsl ho hd h
  rw [← mdl_t] at this
  exact this
theorem ledger3_ok {m : Mdl} {np nd : Nat} {lk : List Nat} {x4 x5 x8 : Option T} {t : Tp} {Q : T → Sto → Prop} (hp : 0 ≤ t.pl) (hu : MdlU m) (hn : np ≤ 100) (hd : nd ≤ 100) (hlk : ∀ p ∈ lk, p < szOf m.ss) (hll : lk.length ≤ 100)
    (q : ∀ (pf : List Nat) (ds : List Dl) (t' : Tp) (g : Sto), 0 ≤ t'.pl → LedG m pf ds → (∀ d ∈ ds, d.n < 2 ^ 200) → pf.length = np → Q (ledT m.ss pf ds) (t'.o :: g)) :
    Ok (B__law_ledger_t3 [some (.ref 0), some m.t, some (.int (np : Int)), some (.int (nd : Int)), x4, x5, some (.lst (intsN lk)), none, x8, some (.ref 1), none] [t.o, .lst []]) (endQ Q) := by
  have kd := fun (pf : List Nat) (t1 : Tp) (Q : T → Sto → Prop) => @ldeals_ok m pf nd t1 Q
  unfold B__law_ledger_t3
  generalize F__law_drawn_deals = FD at kd ⊢
  have hsz := fun S => size_ev (S := S) (mdl_cr m) hu.sl
  rw [← mdl_t] at hsz
  have h8 := szOf_le hu.sl
  have h1 : 1 ≤ szOf m.ss := Nat.one_le_two_pow
  have hli := fun (p : Nat) S => listed_ev (p := p) (mdl_cr m) hu.sl S
  rw [← mdl_t] at hli
  try simp_arith only []
  rw [range1_ev _ _ (by omega)]
  try simp_arith only []
  refine ok_for (fun i τ S => ∃ (pf : List Nat) (t1 : Tp) (x7 x10 : Option T), τ = [some (.ref 0), some m.t, some (.int (np : Int)), some (.int (nd : Int)), x4, x5, some (.lst (intsN lk)), x7, x8, some (.ref 1), x10] ∧ S = [t1.o, .lst (peoL m.ss pf)] ∧ 0 ≤ t1.pl ∧ pf.length = i ∧ ∀ p ∈ pf, p < szOf m.ss) ⟨[], t, _, _, rfl, rfl, hp, rfl, fun _ h => nomatch h⟩ ?_ ?_
  · rintro i v τ S e ⟨pf, t1, x7, x10, rfl, rfl, hp1, hpl, hpf⟩
    obtain ⟨hi, rfl⟩ := rangeT_at e
    rw [Int.toNat_natCast] at hi
    refine ⟨_, bindP_nm _ _ _, ?_⟩
    have app : ∀ (pr : Nat) (t2 : Tp), 0 ≤ t2.pl → pr < szOf m.ss → Ok (sDrop (mMeth isLst fAppend (mVar 9) (mCons (mFn (fun ts S => if ts.length = 2 then F__law_listed ts S else .bad) (mCons (mVar 1) (mCons (mVar 10) mNil))) mNil)) [some (.ref 0), some m.t, some (.int (np : Int)), some (.int (nd : Int)), x4, x5, some (.lst (intsN lk)), some (.int (0 + (i : Int))), x8, some (.ref 1), some (.int (pr : Int))] [t2.o, .lst (peoL m.ss pf)]) (forQ (fun τ S => ∃ (pf : List Nat) (t1 : Tp) (x7 x10 : Option T), τ = [some (.ref 0), some m.t, some (.int (np : Int)), some (.int (nd : Int)), x4, x5, some (.lst (intsN lk)), x7, x8, some (.ref 1), x10] ∧ S = [t1.o, .lst (peoL m.ss pf)] ∧ 0 ≤ t1.pl ∧ pf.length = i + 1 ∧ ∀ p ∈ pf, p < szOf m.ss) fun f S => Ok (match f with
          | .nx τ1 => sRet (mTup (mCons (mFn fTuple (mCons (mVar 9) mNil)) (mCons (mFn (fun ts S => if ts.length = 4 then FD ts S else .bad) (mCons (mVar 0) (mCons (mVar 1) (mCons (mVar 9) (mCons (mVar 3) mNil))))) mNil))) τ1 S
          | .rt t => .ok (.rt t) S
          | .bk τ1 => .ok (.bk τ1) S
          | .ct τ1 => .ok (.ct τ1) S) (endQ Q)) := fun pr t2 hp2 hpr => by
      have hlp := hli pr
      try simp_arith only [hlp]
      rw [append_ev (k := 1) rfl (by unfold peoL; rw [List.length_map]; omega)]
      try simp_arith only [forQ]
      refine ⟨pf ++ [pr], t2, _, _, rfl, ?_, hp2, by rw [List.length_append, List.length_singleton, hpl], fun p mp => ?_⟩
      · unfold peoL
        rw [List.map_append]
        rfl
      · rcases List.mem_append.mp mp with mp | mp
        · exact hpf p mp
        · rw [List.mem_singleton.mp mp]; exact hpr
    try simp_arith only [hsz]
    refine draw_ok hp1 (by omega) fun pr t2 hp2 hr0 hr => ?_
    obtain ⟨prn, rfl⟩ := Int.eq_ofNat_of_zero_le hr0
    have hprn : prn < szOf m.ss := by omega
    try simp_arith only [intsN_len]
    by_cases c0 : (0 : Int) < (lk.length : Int)
    · try simp_arith only [decide_eq_true c0]
      refine draw_ok hp2 (by decide) fun d t3 hp3 hd0 hdd => ?_
      by_cases c1 : (0 : Int) < d
      · try simp_arith only [decide_eq_true c1, intsN_len]
        refine draw_ok hp3 (by omega) fun z t4 hp4 hz0 hz => ?_
        obtain ⟨zn, rfl⟩ := Int.eq_ofNat_of_zero_le hz0
        have hzn : zn < lk.length := by omega
        have hat : L2.atI (intsN lk) (zn : Int) = some (.int (lk[zn] : Nat)) := by
          rw [atI_in _ _ (by omega) (by rw [intsN_len]; omega), Int.toNat_natCast, intsN_at hzn]
        have hzl := hlk _ (List.getElem_mem hzn)
        have a := app lk[zn] t4 hp4 hzl
        try simp_arith only [hat] at a ⊢
        exact a
      · have a := app prn t3 hp3 hprn
        try simp_arith only [decide_eq_false c1] at a ⊢
        exact a
    · have a := app prn t2 hp2 hprn
      try simp_arith only [decide_eq_false c0] at a ⊢
      exact a
  · rintro τ S ⟨pf, t1, x7, x10, rfl, rfl, hp1, hpl, hpf⟩
    rw [rangeT_length, Int.toNat_natCast] at hpl
    have htr : fTuple [.ref 1] [t1.o, .lst (peoL m.ss pf)] = .ok (.tup (peoL m.ss pf)) [t1.o, .lst (peoL m.ss pf)] := tupR (k := 1) rfl
    try simp_arith only [htr]
    refine kd pf t1 _ hp1 hu hd (by omega) hpf fun ds t2 g hp2 hdl hds => ?_
    try simp_arith only [endQ]
    exact q pf ds t2 _ hp2 ⟨by omega, by omega, hpf, fun d md => (hds d md).1⟩ (fun d md => (hds d md).2) hpl
theorem lledger_ok {m : Mdl} {np nd : Nat} {t : Tp} {rest : Sto} {Q : T → Sto → Prop} (hp : 0 ≤ t.pl) (hu : MdlU m) (hn : np ≤ 100) (hd : nd ≤ 100)
    (q : ∀ (pf : List Nat) (ds : List Dl) (t' : Tp), 0 ≤ t'.pl → LedG m pf ds → (∀ d ∈ ds, d.n < 2 ^ 200) → pf.length = np → Q (ledT m.ss pf ds) (t'.o :: rest)) : Ok (F__law_ledger [.ref 0, m.t, .int (np : Int), .int (nd : Int)] (t.o :: rest)) Q := by
  unfold F__law_ledger
  refine ok_frame1 (by rw [Fx.cls_cons, Fx.cls_cons, m.cl]; simp) t.clO ?_
  generalize hB1 : B__law_ledger_t3 = B1
  have key := fun (lk : List Nat) (x4 x5 x8 : Option T) (Q : T → Sto → Prop) => @ledger3_ok m np nd lk x4 x5 x8 t Q hp hu hn hd
  rw [hB1] at key
  generalize hB : B__law_ledger = B
  refine ok_run ?_
  subst hB
  unfold B__law_ledger
  rw [hB1]
  have m2 : ∀ S, fIx m.t (.int 2) S = .ok (.tup (m.kinds.map Kd.t)) S := fun S => rfl
  have hkl := hu.kl
  have hit : ∀ (l : List T) S, itOf (.tup l) S = .ok ⟨l, []⟩ S := fun l S => rfl
  have hil : ∀ (l : List T) S, itOf (.lst l) S = .ok ⟨l, []⟩ S := fun l S => rfl
  have hsz := fun S => size_ev (S := S) (mdl_cr m) hu.sl
  rw [← mdl_t] at hsz
  have h8 := szOf_le hu.sl
  have hnL : ∀ (l : List T) S, newL true l S = .ok (.lst l) S := fun l S => rfl
  try simp_arith only [m2, hit]
  rw [lc_map (fun t => match t with
    | .tup (_ :: x :: _) => x
    | _ => .non) _ (by rw [List.length_map]; omega) fun t mt => ?s1]
  case s1 =>
    obtain ⟨k, mk, rfl⟩ := List.mem_map.mp mt
    refine ⟨_, bindP_nm _ _ _, ?_⟩
    have k1 : ∀ S, fIx k.t (.int 1) S = .ok k.payer.t S := fun S => rfl
    try simp_arith only [k1]
    rfl
  have eA : ((m.kinds.map Kd.t).map fun t => match t with
      | .tup (_ :: x :: _) => x
      | _ => .non) = (m.kinds.map Kd.payer).map SE.t := by
    rw [List.map_map, List.map_map]
    rfl
  rw [eA]
  try simp_arith only [m2, hit]
  rw [lc_map (fun t => match t with
    | .tup (_ :: _ :: _ :: x :: _) => x
    | _ => .non) _ (by rw [List.length_map]; omega) fun t mt => ?s2]
  case s2 =>
    obtain ⟨k, mk, rfl⟩ := List.mem_map.mp mt
    refine ⟨_, bindP_nm _ _ _, ?_⟩
    have k3 : ∀ S, fIx k.t (.int 3) S = .ok k.payee.t S := fun S => rfl
    try simp_arith only [k3]
    rfl
  have eB : ((m.kinds.map Kd.t).map fun t => match t with
      | .tup (_ :: _ :: _ :: x :: _) => x
      | _ => .non) = (m.kinds.map Kd.payee).map SE.t := by
    rw [List.map_map, List.map_map]
    rfl
  rw [eB]
  have hs : (m.kinds.map Kd.payer).map SE.t ++ (m.kinds.map Kd.payee).map SE.t = (sidesL m.kinds).map SE.t := by unfold sidesL; rw [List.map_append]
  have hadd : ∀ S, fAddA true (.lst ((m.kinds.map Kd.payer).map SE.t)) (.lst ((m.kinds.map Kd.payee).map SE.t)) S = .ok (.lst ((sidesL m.kinds).map SE.t)) S := fun S => by
    rw [ev_addL, if_pos (by rw [List.length_map, List.length_map, List.length_map, List.length_map]; omega), hs]
    rfl
  have hside : ∀ e ∈ sidesL m.kinds, e.over m.ss ∧ e.dep < 24 := fun e me => by
    rcases List.mem_append.mp me with me | me
    · obtain ⟨k, mk, rfl⟩ := List.mem_map.mp me
      exact hu.o1 k mk
    · obtain ⟨k, mk, rfl⟩ := List.mem_map.mp me
      exact hu.o2 k mk
  have hsll : (sidesL m.kinds).length ≤ 200 := by unfold sidesL; rw [List.length_append, List.length_map, List.length_map]; omega
  try simp_arith only [hs, hsz]
  rw [if_pos (by rw [List.length_map, List.length_map, List.length_map, List.length_map]; omega)]
  rw [range1_ev _ _ (by omega)]
  try simp_arith only [rangeT_0, Int.toNat_natCast]
  rw [lc_pure (fun w => match w with
    | .int p => (match fIn false (.bl true) (.lst (((sidesL m.kinds).map fun e : SE => e.mem (namesN 0 p.toNat m.ss)).map T.bl)) [t.o] with
      | .ok (.bl b) _ => b
      | _ => false)
    | _ => false) (fun t => t) _ [] (by rw [intsN_len, List.length_range, List.length_nil]; omega) fun u mu => ?s3]
  case s3 =>
    obtain ⟨p, mp, rfl⟩ := List.mem_map.mp mu
    refine ⟨_, bindP_nm _ _ _, ?_, fun _ => ?_⟩
    · try simp_arith only [hil]
      rw [lc_map (fun z => match F__law_within 24 [m.t, z, .int (p : Int)] [t.o] with
        | .ok v _ => v
        | _ => .non) _ (by rw [List.length_map]; omega) fun z mz => ?s4]
      case s4 =>
        obtain ⟨e, me, rfl⟩ := List.mem_map.mp mz
        have hw := fun S => within_ev (p := p) hu.sl hu.nd (hside e me).1 (hside e me).2 S
        refine ⟨_, bindP_nm _ _ _, ?_⟩
        try simp_arith only [hw]
      have e1 : (((sidesL m.kinds).map SE.t).map fun z => match F__law_within 24 [m.t, z, .int (p : Int)] [t.o] with
          | .ok v _ => v
          | _ => .non) = ((sidesL m.kinds).map fun e => e.mem (namesN 0 p m.ss)).map T.bl := by
        rw [List.map_map, List.map_map]
        refine List.map_congr_left fun e me => ?_
        show (match F__law_within 24 [m.t, e.t, .int (p : Int)] [t.o] with
          | .ok v _ => v
          | _ => .non) = _
        rw [within_ev (p := p) hu.sl hu.nd (hside e me).1 (hside e me).2]
        rfl
      rw [e1]
      obtain ⟨b, hb⟩ := in_bl ((sidesL m.kinds).map fun e => e.mem (namesN 0 p m.ss)) [t.o]
      try simp_arith only [hb, Int.toNat_natCast]
    · try simp_arith only []
  generalize hf : (fun u : T => match u with
    | .int p => (match fIn false (.bl true) (.lst (((sidesL m.kinds).map fun e : SE => e.mem (namesN 0 p.toNat m.ss)).map T.bl)) [t.o] with
      | .ok (.bl b) _ => b
      | _ => false)
    | _ => false) = f
  have e2 : ((intsN (List.range (szOf m.ss))).filter f).map (fun t => t) = intsN ((List.range (szOf m.ss)).filter fun p : Nat => f (.int (p : Int))) := by
    rw [List.map_id']
    unfold intsN
    rw [List.filter_map]
    rfl
  rw [List.nil_append, e2]
  have k2 := key ((List.range (szOf m.ss)).filter fun p : Nat => f (.int (p : Int)))
  have hfl : ((List.range (szOf m.ss)).filter fun p : Nat => f (.int (p : Int))).length ≤ 100 := Nat.le_trans (List.length_filter_le _ _) (by rw [List.length_range]; omega)
  have hfp : ∀ p ∈ (List.range (szOf m.ss)).filter (fun p : Nat => f (.int (p : Int))), p < szOf m.ss := fun p mp => List.mem_range.mp (List.mem_filter.mp mp).1
  try simp_arith only []
  refine k2 _ _ _ _ hfp hfl fun pf ds t2 g hp2 hL hnb hpl => ?_
  exact ⟨t2.o, g, rfl, t2.clO, by unfold ledT; rw [thaw_tup]; exact ledT_cl 1 _ _ _, by unfold ledT; rw [thaw_tup]; exact q pf ds t2 hp2 hL hnb hpl⟩
theorem str_ext {a b : Str} (h : cs a = cs b) : a = b := by
  obtain ⟨⟨a⟩⟩ := a
  obtain ⟨⟨b⟩⟩ := b
  have h : a = b := h
  rw [h]
theorem str_assoc (a b c : Str) : (a ++ b) ++ c = a ++ (b ++ c) := str_ext (by rw [cs_app, cs_app, cs_app, cs_app, List.append_assoc])
theorem str_nil (a : Str) : ("" : Str) ++ a = a := str_ext (by rw [cs_app]; rfl)
theorem str_nil' (a : Str) : Str.empty ++ a = a := str_ext (by rw [cs_app]; rfl)
theorem str_len (a b : Str) : (a ++ b).length = a.length + b.length := by
  have h := congrArg List.length (cs_app a b)
  rw [List.length_append] at h
  exact h
def par (b : Bool) (w : Str) : Str := if b = true then ("(" ++ w) ++ ")" else w
def SE.rk : SE → Nat
  | .or _ _ => 0
  | .and _ _ => 1
  | .not _ => 2
  | _ => 9
def SE.pt : SE → Str
  | .all => "all"
  | .none => "none"
  | .sec s => s
  | .not e => "not " ++ par (decide (e.rk < 3)) e.pt
  | .and a b => (par (decide (a.rk < 1)) a.pt ++ " and ") ++ par (decide (b.rk < 2)) b.pt
  | .or a b => (a.pt ++ " or ") ++ par (decide (b.rk < 1)) b.pt
def SE.tx (e : SE) (l : Nat) : Str := par (decide (e.rk < l)) e.pt
def txW : Nat → Nat
  | 0 => 20
  | n + 1 => 2 * txW n + 20
theorem txW_s (n : Nat) : txW (n + 1) = 2 * txW n + 20 := rfl
theorem txW_le {n m : Nat} (h : n ≤ m) : txW n ≤ txW m := by
  induction m with
  | zero => rw [Nat.le_zero.mp h]; exact Nat.le_refl _
  | succ m ih =>
    by_cases c : n = m + 1
    · rw [c]; exact Nat.le_refl _
    · have := ih (by omega)
      rw [txW_s]
      omega
theorem par_len (b : Bool) (w : Str) : (par b w).length ≤ w.length + 2 := by
  unfold par
  cases b
  · exact Nat.le_add_right _ _
  · rw [if_pos rfl, str_len, str_len]
    have h1 : ("(" : Str).length = 1 := by decide +kernel
    have h2 : (")" : Str).length = 1 := by decide +kernel
    omega
theorem pt_len {ss : List Str} (hs : ∀ w ∈ ss, w.length ≤ 20) : ∀ (d : Nat) (e : SE), e.over ss → e.dep ≤ d → e.pt.length ≤ txW d
  | d, .all, _, _ => by
    have h : ("all" : Str).length = 3 := by decide +kernel
    have := txW_le (Nat.zero_le d)
    have e0 : txW 0 = 20 := rfl
    show ("all" : Str).length ≤ _
    omega
  | d, .none, _, _ => by
    have h : ("none" : Str).length = 4 := by decide +kernel
    have := txW_le (Nat.zero_le d)
    have e0 : txW 0 = 20 := rfl
    show ("none" : Str).length ≤ _
    omega
  | d, .sec s, h, _ => by
    have := txW_le (Nat.zero_le d)
    have e0 : txW 0 = 20 := rfl
    have := hs s h
    show s.length ≤ _
    omega
  | 0, .not e, _, hd => absurd hd (Nat.not_succ_le_zero _)
  | d + 1, .not e, h, hd => by
    have := pt_len hs d e h (Nat.le_of_succ_le_succ hd)
    have := par_len (decide (e.rk < 3)) e.pt
    have h1 : ("not " : Str).length = 4 := by decide +kernel
    show (("not " : Str) ++ par (decide (e.rk < 3)) e.pt).length ≤ _
    rw [str_len, txW_s]
    omega
  | 0, .and a b, _, hd => absurd hd (Nat.not_succ_le_zero _)
  | d + 1, .and a b, h, hd => by
    have hd : max a.dep b.dep + 1 ≤ d + 1 := hd
    have := pt_len hs d a h.1 (by omega)
    have := pt_len hs d b h.2 (by omega)
    have := par_len (decide (a.rk < 1)) a.pt
    have := par_len (decide (b.rk < 2)) b.pt
    have h1 : (" and " : Str).length = 5 := by decide +kernel
    show ((par (decide (a.rk < 1)) a.pt ++ " and ") ++ par (decide (b.rk < 2)) b.pt).length ≤ _
    rw [str_len, str_len, txW_s]
    omega
  | 0, .or a b, _, hd => absurd hd (Nat.not_succ_le_zero _)
  | d + 1, .or a b, h, hd => by
    have hd : max a.dep b.dep + 1 ≤ d + 1 := hd
    have := pt_len hs d a h.1 (by omega)
    have := pt_len hs d b h.2 (by omega)
    have := par_len (decide (b.rk < 1)) b.pt
    have h1 : (" or " : Str).length = 4 := by decide +kernel
    show ((a.pt ++ " or ") ++ par (decide (b.rk < 1)) b.pt).length ≤ _
    rw [str_len, str_len, txW_s]
    omega
def SE.wd : SE → Str
  | .all => "all"
  | .none => "none"
  | .sec _ => "sector"
  | .not _ => "not"
  | .and _ _ => "and"
  | .or _ _ => "or"
theorem se_ix0 (e : SE) (S : Sto) : fIx e.t (.int 0) S = .ok (.str e.wd) S := by cases e <;> rfl
theorem enc_has (e : SE) : decide (e.wd ∈ (["not", "and", "or"] : List Str)) = decide (e.rk < 3) ∧ decide (e.wd ∈ (["or"] : List Str)) = decide (e.rk < 1) ∧ decide (e.wd ∈ (["and", "or"] : List Str)) = decide (e.rk < 2) := by
  have sector0 : decide (("sector" : Str) ∈ (["not", "and", "or"] : List Str)) = decide (9 < 3) := by decide +kernel
  have sector1 : decide (("sector" : Str) ∈ (["or"] : List Str)) = decide (9 < 1) := by decide +kernel
  have sector2 : decide (("sector" : Str) ∈ (["and", "or"] : List Str)) = decide (9 < 2) := by decide +kernel
  have not0 : decide (("not" : Str) ∈ (["not", "and", "or"] : List Str)) = decide (2 < 3) := by decide +kernel
  have not1 : decide (("not" : Str) ∈ (["or"] : List Str)) = decide (2 < 1) := by decide +kernel
  have not2 : decide (("not" : Str) ∈ (["and", "or"] : List Str)) = decide (2 < 2) := by decide +kernel
  have and0 : decide (("and" : Str) ∈ (["not", "and", "or"] : List Str)) = decide (1 < 3) := by decide +kernel
  have and1 : decide (("and" : Str) ∈ (["or"] : List Str)) = decide (1 < 1) := by decide +kernel
  have and2 : decide (("and" : Str) ∈ (["and", "or"] : List Str)) = decide (1 < 2) := by decide +kernel
  have or0 : decide (("or" : Str) ∈ (["not", "and", "or"] : List Str)) = decide (0 < 3) := by decide +kernel
  have or1 : decide (("or" : Str) ∈ (["or"] : List Str)) = decide (0 < 1) := by decide +kernel
  have or2 : decide (("or" : Str) ∈ (["and", "or"] : List Str)) = decide (0 < 2) := by decide +kernel
  cases e
  · exact ⟨by decide +kernel, by decide +kernel, by decide +kernel⟩
  · exact ⟨by decide +kernel, by decide +kernel, by decide +kernel⟩
  · exact ⟨sector0, sector1, sector2⟩
  · exact ⟨not0, not1, not2⟩
  · exact ⟨and0, and1, and2⟩
  · exact ⟨or0, or1, or2⟩
theorem enclosed_ev {d : List T → Sto → Fx.R T} {e : SE} {ws : List Str} {l : Nat} (hd : ∀ S, d [e.t] S = .ok (.str e.pt) S) (hw : decide (e.wd ∈ ws) = decide (e.rk < l)) (hl : e.pt.length ≤ 100000) (S : Sto) : F__enclosed d [e.t, .tup (ws.map T.str)] S = .ok (.str (e.tx l)) S := ok_ev fun Q h => by
  unfold F__enclosed
  refine ok_frame0 (by rw [Fx.cls_cons, SE.cl, Fx.cls_cons, cl_tup, cls_strs, Fx.cls_nil]; rfl) ?_
  generalize hB : B__enclosed = B
  refine ok_run ?_
  subst hB
  unfold B__enclosed
  have h0 := fun S => se_ix0 e S
  have hin : ∀ S, fIn false (.str e.wd) (.tup (ws.map T.str)) S = .ok (.bl (decide (e.rk < l))) S := fun S => by
    rw [in_ev (xs := ws) rfl (fun z h => by cases h), hw]
  have h1 : ("(" : Str).length = 1 := by decide +kernel
  have h2 : (")" : Str).length = 1 := by decide +kernel
  unfold SE.tx par at h
  by_cases c : e.rk < l
  · rw [decide_eq_true c, if_pos rfl] at h
    try simp_arith only [h0, hin, decide_eq_true c, hd]
    rw [if_pos (by omega)]
    try simp_arith only []
    rw [if_pos (by rw [str_len]; omega)]
    try simp_arith only [endQ]
    exact ⟨by simp, by rw [thaw_str]; exact h⟩
  · rw [decide_eq_false c, if_neg Bool.false_ne_true] at h
    try simp_arith only [h0, hin, decide_eq_false c, hd, endQ]
    exact ⟨by simp, by rw [thaw_str]; exact h⟩
theorem txW9 : txW 9 ≤ 100000 := by decide
theorem show_ev {ss : List Str} (hs : ∀ w ∈ ss, w.length ≤ 20) : ∀ (d : Nat) (e : SE) (S : Sto), e.over ss → e.dep ≤ 9 → e.dep < d → F_show_sector d [e.t] S = .ok (.str e.pt) S
  | 0, e, _, _, _, h => absurd h (Nat.not_lt_zero _)
  | d + 1, e, S, ho, h9, hd => ok_ev fun Q h => by
    have hlen := fun (e : SE) (ho : e.over ss) (h9 : e.dep ≤ 9) => Nat.le_trans (pt_len hs 9 e ho h9) txW9
    have hlt := fun (e : SE) (l : Nat) (ho : e.over ss) (h9 : e.dep ≤ 9) => Nat.le_trans (par_len (decide (e.rk < l)) e.pt) (Nat.add_le_add_right (hlen e ho h9) 2)
    rw [F_show_sector]
    refine ok_frame0 (by simp [SE.cl]) (ok_run ?_)
    have fin : ∀ (w : Str) (S1 : Sto), w = e.pt → endQ (fun t S1 => cl 0 (thaw 0 true t S1) = true ∧ Q (thaw 0 true t S1) S) (.rt (.str w)) S1 := fun w S1 hb => ⟨by simp, by rw [hb, thaw_str]; exact h⟩
    have hE := fun (e : SE) (ho : e.over ss) (h9 : e.dep ≤ 9) (hd : e.dep < d) (ws : List Str) (l : Nat) (hw : decide (e.wd ∈ ws) = decide (e.rk < l)) S => enclosed_ev (d := F_show_sector d) (ws := ws) (l := l) (fun S => show_ev hs d e S ho h9 hd) hw (hlen e ho h9) S
    unfold B_show_sector
    cases e with
    | all => try simp_arith only [SE.t, kd_self, kd_as, kd_an, kd_aa, kd_ao, kd_aN, kd_Na, kd_Ns, kd_Nn, kd_NA, kd_No, kd_sa, kd_sN, kd_sn, kd_sA, kd_so, kd_na, kd_nN, kd_ns, kd_nA, kd_no, kd_nl, kd_Aa, kd_AN, kd_As, kd_An, kd_Ao, kd_Al, kd_oa, kd_oN, kd_os, kd_on, kd_oA, kd_ol, kd_ln]; exact fin _ _ rfl
    | none => try simp_arith only [SE.t, kd_self, kd_as, kd_an, kd_aa, kd_ao, kd_aN, kd_Na, kd_Ns, kd_Nn, kd_NA, kd_No, kd_sa, kd_sN, kd_sn, kd_sA, kd_so, kd_na, kd_nN, kd_ns, kd_nA, kd_no, kd_nl, kd_Aa, kd_AN, kd_As, kd_An, kd_Ao, kd_Al, kd_oa, kd_oN, kd_os, kd_on, kd_oA, kd_ol, kd_ln]; exact fin _ _ rfl
    | sec s => try simp_arith only [SE.t, kd_self, kd_as, kd_an, kd_aa, kd_ao, kd_aN, kd_Na, kd_Ns, kd_Nn, kd_NA, kd_No, kd_sa, kd_sN, kd_sn, kd_sA, kd_so, kd_na, kd_nN, kd_ns, kd_nA, kd_no, kd_nl, kd_Aa, kd_AN, kd_As, kd_An, kd_Ao, kd_Al, kd_oa, kd_oN, kd_os, kd_on, kd_oA, kd_ol, kd_ln]; exact fin _ _ rfl
    | not e =>
      have h9' : e.dep + 1 ≤ 9 := h9
      have hd' : e.dep + 1 < d + 1 := hd
      have e1 : ∀ S, F__enclosed (F_show_sector d) [e.t, .tup [.str "not", .str "and", .str "or"]] S = .ok (.str (e.tx 3)) S := hE e ho (by omega) (by omega) ["not", "and", "or"] 3 (enc_has e).1
      have l1 := hlt e 3 ho (by omega)
      have h1 : ("not " : Str).length = 4 := by decide +kernel
      try simp_arith only [SE.t, kd_self, kd_as, kd_an, kd_aa, kd_ao, kd_aN, kd_Na, kd_Ns, kd_Nn, kd_NA, kd_No, kd_sa, kd_sN, kd_sn, kd_sA, kd_so, kd_na, kd_nN, kd_ns, kd_nA, kd_no, kd_nl, kd_Aa, kd_AN, kd_As, kd_An, kd_Ao, kd_Al, kd_oa, kd_oN, kd_os, kd_on, kd_oA, kd_ol, kd_ln, e1]
      rw [if_pos (by show _ + (par _ _).length ≤ _; omega)]
      exact fin _ _ rfl
    | and a b =>
      have h9' : max a.dep b.dep + 1 ≤ 9 := h9
      have hd' : max a.dep b.dep + 1 < d + 1 := hd
      have e1 : ∀ S, F__enclosed (F_show_sector d) [a.t, .tup [.str "or"]] S = .ok (.str (a.tx 1)) S := hE a ho.1 (by omega) (by omega) ["or"] 1 (enc_has a).2.1
      have e2 : ∀ S, F__enclosed (F_show_sector d) [b.t, .tup [.str "and", .str "or"]] S = .ok (.str (b.tx 2)) S := hE b ho.2 (by omega) (by omega) ["and", "or"] 2 (enc_has b).2.2
      have l1 := hlt a 1 ho.1 (by omega)
      have l2 := hlt b 2 ho.2 (by omega)
      have h1 : (" and " : Str).length = 5 := by decide +kernel
      try simp_arith only [SE.t, kd_self, kd_as, kd_an, kd_aa, kd_ao, kd_aN, kd_Na, kd_Ns, kd_Nn, kd_NA, kd_No, kd_sa, kd_sN, kd_sn, kd_sA, kd_so, kd_na, kd_nN, kd_ns, kd_nA, kd_no, kd_nl, kd_Aa, kd_AN, kd_As, kd_An, kd_Ao, kd_Al, kd_oa, kd_oN, kd_os, kd_on, kd_oA, kd_ol, kd_ln, e1]
      rw [if_pos (by show (par _ _).length + _ ≤ _; omega)]
      try simp_arith only [e2]
      rw [if_pos (by rw [str_len]; show (par _ _).length + _ + (par _ _).length ≤ _; omega)]
      exact fin _ _ rfl
    | or a b =>
      have h9' : max a.dep b.dep + 1 ≤ 9 := h9
      have hd' : max a.dep b.dep + 1 < d + 1 := hd
      have e1 := fun S => show_ev hs d a S ho.1 (by omega) (by omega)
      have e2 : ∀ S, F__enclosed (F_show_sector d) [b.t, .tup [.str "or"]] S = .ok (.str (b.tx 1)) S := hE b ho.2 (by omega) (by omega) ["or"] 1 (enc_has b).2.1
      have l1 := hlen a ho.1 (by omega)
      have l2 := hlt b 1 ho.2 (by omega)
      have h1 : (" or " : Str).length = 4 := by decide +kernel
      try simp_arith only [SE.t, kd_self, kd_as, kd_an, kd_aa, kd_ao, kd_aN, kd_Na, kd_Ns, kd_Nn, kd_NA, kd_No, kd_sa, kd_sN, kd_sn, kd_sA, kd_so, kd_na, kd_nN, kd_ns, kd_nA, kd_no, kd_nl, kd_Aa, kd_AN, kd_As, kd_An, kd_Ao, kd_Al, kd_oa, kd_oN, kd_os, kd_on, kd_oA, kd_ol, kd_ln, e1]
      rw [if_pos (by omega)]
      try simp_arith only [e2]
      rw [if_pos (by rw [str_len]; show _ + _ + (par _ _).length ≤ _; omega)]
      exact fin _ _ rfl
theorem str_mid (a b : Str) : ((((a ++ " ") ++ "and") ++ " ") ++ b) = (a ++ " and ") ++ b ∧ ((((a ++ " ") ++ "or") ++ " ") ++ b) = (a ++ " or ") ++ b := by
  have e1 : ((" " : Str) ++ ("and" ++ " ")) = " and " := by decide +kernel
  have e2 : ((" " : Str) ++ ("or" ++ " ")) = " or " := by decide +kernel
  rw [str_assoc a " " "and", str_assoc a (" " ++ "and") " ", str_assoc " " "and" " ", e1, str_assoc a " " "or", str_assoc a (" " ++ "or") " ", str_assoc " " "or" " ", e2]
  exact ⟨rfl, rfl⟩
theorem leaf_tx (e : SE) (l : Nat) (hl : l ≤ 3) (h : e.rk = 9) : e.pt = e.tx l := by
  unfold SE.tx par
  rw [h, decide_eq_false (by omega), if_neg Bool.false_ne_true]
theorem up_tx (e : SE) (l : Nat) : (e.rk < l → ("(" ++ e.pt) ++ ")" = e.tx l) ∧ (¬ e.rk < l → e.pt = e.tx l) := by
  unfold SE.tx par
  exact ⟨fun h => by rw [if_pos (decide_eq_true h)], fun h => by rw [decide_eq_false h, if_neg Bool.false_ne_true]⟩
theorem ltext_ev {ss : List Str} (hs : ∀ w ∈ ss, w.length ≤ 20) : ∀ (d : Nat) (e : SE) (l : Nat) (S : Sto), e.over ss → e.dep ≤ 9 → e.dep < d → l ≤ 3 → F__law_sector_text d [e.t, .int (l : Int)] S = .ok (.str (e.tx l)) S
  | 0, e, _, _, _, _, h, _ => absurd h (Nat.not_lt_zero _)
  | d + 1, e, l, S, ho, h9, hd, hl3 => ok_ev fun Q h => by
    have hlen := fun (e : SE) (ho : e.over ss) (h9 : e.dep ≤ 9) => Nat.le_trans (pt_len hs 9 e ho h9) txW9
    have hlt := fun (e : SE) (l : Nat) (ho : e.over ss) (h9 : e.dep ≤ 9) => Nat.le_trans (par_len (decide (e.rk < l)) e.pt) (Nat.add_le_add_right (hlen e ho h9) 2)
    rw [F__law_sector_text]
    refine ok_frame0 (by simp [SE.cl]) (ok_run ?_)
    have fin : ∀ (w : Str) (S1 : Sto), w = e.tx l → endQ (fun t S1 => cl 0 (thaw 0 true t S1) = true ∧ Q (thaw 0 true t S1) S) (.rt (.str w)) S1 := fun w S1 hb => ⟨by simp, by rw [hb, thaw_str]; exact h⟩
    have ih := fun (e : SE) (l : Nat) (ho : e.over ss) (h9 : e.dep ≤ 9) (hd : e.dep < d) (hl : l ≤ 3) S => ltext_ev hs d e l S ho h9 hd hl
    have hmain := hlen e ho h9
    have q1 : ("(" : Str).length = 1 := by decide +kernel
    have q2 : (")" : Str).length = 1 := by decide +kernel
    have q3 : (" " : Str).length = 1 := by decide +kernel
    have q4 : ("and" : Str).length = 3 := by decide +kernel
    have q5 : ("or" : Str).length = 2 := by decide +kernel
    have q6 : ("not " : Str).length = 4 := by decide +kernel
    have hin : ∀ (w : Str) S, fIn false (.str w) (.lst [.str "all", .str "none"]) S = .ok (.bl (decide (w ∈ (["all", "none"] : List Str)))) S := fun w S => in_ev (xs := ["all", "none"]) rfl (fun z h => by cases h)
    have hn1 : decide (("all" : Str) ∈ (["all", "none"] : List Str)) = true := by decide +kernel
    have hn2 : decide (("none" : Str) ∈ (["all", "none"] : List Str)) = true := by decide +kernel
    have hn3 : decide (("not" : Str) ∈ (["all", "none"] : List Str)) = false := by decide +kernel
    have hn4 : decide (("and" : Str) ∈ (["all", "none"] : List Str)) = false := by decide +kernel
    have hn5 : decide (("or" : Str) ∈ (["all", "none"] : List Str)) = false := by decide +kernel
    have r1 : ∀ S, fIndex (.lst [.str "or", .str "and", .str "not"]) [.str "or"] S = .ok (.int 0) S := fun S => rfl
    have r2 : ∀ S, fIndex (.lst [.str "or", .str "and", .str "not"]) [.str "and"] S = .ok (.int 1) S := fun S => rfl
    have r3 : ∀ S, fIndex (.lst [.str "or", .str "and", .str "not"]) [.str "not"] S = .ok (.int 2) S := fun S => rfl
    unfold B__law_sector_text
    cases e with
    | all =>
      try simp_arith only [SE.t, kd_self, kd_as, kd_an, kd_aa, kd_ao, kd_aN, kd_Na, kd_Ns, kd_Nn, kd_NA, kd_No, kd_sa, kd_sN, kd_sn, kd_sA, kd_so, kd_na, kd_nN, kd_ns, kd_nA, kd_no, kd_nl, kd_Aa, kd_AN, kd_As, kd_An, kd_Ao, kd_Al, kd_oa, kd_oN, kd_os, kd_on, kd_oA, kd_ol, kd_ln, hin, hn1]
      exact fin _ _ (leaf_tx .all l hl3 rfl)
    | none =>
      try simp_arith only [SE.t, kd_self, kd_as, kd_an, kd_aa, kd_ao, kd_aN, kd_Na, kd_Ns, kd_Nn, kd_NA, kd_No, kd_sa, kd_sN, kd_sn, kd_sA, kd_so, kd_na, kd_nN, kd_ns, kd_nA, kd_no, kd_nl, kd_Aa, kd_AN, kd_As, kd_An, kd_Ao, kd_Al, kd_oa, kd_oN, kd_os, kd_on, kd_oA, kd_ol, kd_ln, hin, hn2]
      exact fin _ _ (leaf_tx .none l hl3 rfl)
    | sec s =>
      try simp_arith only [SE.t, kd_self, kd_as, kd_an, kd_aa, kd_ao, kd_aN, kd_Na, kd_Ns, kd_Nn, kd_NA, kd_No, kd_sa, kd_sN, kd_sn, kd_sA, kd_so, kd_na, kd_nN, kd_ns, kd_nA, kd_no, kd_nl, kd_Aa, kd_AN, kd_As, kd_An, kd_Ao, kd_Al, kd_oa, kd_oN, kd_os, kd_on, kd_oA, kd_ol, kd_ln]
      exact fin _ _ (leaf_tx (.sec s) l hl3 rfl)
    | not e =>
      have h9' : e.dep + 1 ≤ 9 := h9
      have hd' : e.dep + 1 < d + 1 := hd
      have e1 : ∀ S, F__law_sector_text d [e.t, .int 3] S = .ok (.str (e.tx 3)) S := ih e 3 ho (by omega) (by omega) (by decide)
      have hp : (("not " : Str) ++ e.tx 3) = (SE.not e).pt := rfl
      have hll : ("not " : Str).length + (e.tx 3).length ≤ 100000 := by rw [← str_len, hp]; exact hmain
      try simp_arith only [SE.t, kd_self, kd_as, kd_an, kd_aa, kd_ao, kd_aN, kd_Na, kd_Ns, kd_Nn, kd_NA, kd_No, kd_sa, kd_sN, kd_sn, kd_sA, kd_so, kd_na, kd_nN, kd_ns, kd_nA, kd_no, kd_nl, kd_Aa, kd_AN, kd_As, kd_An, kd_Ao, kd_Al, kd_oa, kd_oN, kd_os, kd_on, kd_oA, kd_ol, kd_ln, hin, hn3, r3, e1]
      rw [if_pos (by omega), hp]
      by_cases c : 2 < l
      · have c' : (2 : Int) < (l : Int) := by omega
        try simp_arith only [decide_eq_true c']
        rw [if_pos (by omega)]
        try simp_arith only []
        rw [if_pos (by rw [str_len]; omega)]
        exact fin _ _ ((up_tx (SE.not e) l).1 c)
      · have c' : ¬ (2 : Int) < (l : Int) := by omega
        try simp_arith only [decide_eq_false c']
        exact fin _ _ ((up_tx (SE.not e) l).2 c)
    | and a b =>
      have h9' : max a.dep b.dep + 1 ≤ 9 := h9
      have hd' : max a.dep b.dep + 1 < d + 1 := hd
      have e1 : ∀ S, F__law_sector_text d [a.t, .int 1] S = .ok (.str (a.tx 1)) S := ih a 1 ho.1 (by omega) (by omega) (by decide)
      have e2 : ∀ S, F__law_sector_text d [b.t, .int (1 + 1)] S = .ok (.str (b.tx 2)) S := ih b 2 ho.2 (by omega) (by omega) (by decide)
      have hp : (((((a.tx 1) ++ " ") ++ "and") ++ " ") ++ b.tx 2) = (SE.and a b).pt := (str_mid _ _).1
      have hll : (a.tx 1).length + 1 + 3 + 1 + (b.tx 2).length ≤ 100000 := by
        have := hmain
        rw [← hp, str_len, str_len, str_len, str_len, q3, q4] at this
        omega
      have d12 : decide ((1 : Int) = 2) = false := by decide
      try simp_arith only [SE.t, kd_self, kd_as, kd_an, kd_aa, kd_ao, kd_aN, kd_Na, kd_Ns, kd_Nn, kd_NA, kd_No, kd_sa, kd_sN, kd_sn, kd_sA, kd_so, kd_na, kd_nN, kd_ns, kd_nA, kd_no, kd_nl, kd_Aa, kd_AN, kd_As, kd_An, kd_Ao, kd_Al, kd_oa, kd_oN, kd_os, kd_on, kd_oA, kd_ol, kd_ln, hin, hn4, r2, d12, e1]
      rw [if_pos (by omega)]
      try simp_arith only []
      rw [if_pos (by rw [str_len]; omega)]
      try simp_arith only []
      rw [if_pos (by rw [str_len, str_len]; omega)]
      try simp_arith only [e2]
      rw [if_pos (by rw [str_len, str_len, str_len]; omega), hp]
      by_cases c : 1 < l
      · have c' : (1 : Int) < (l : Int) := by omega
        try simp_arith only [decide_eq_true c']
        rw [if_pos (by omega)]
        try simp_arith only []
        rw [if_pos (by rw [str_len]; omega)]
        exact fin _ _ ((up_tx (SE.and a b) l).1 c)
      · have c' : ¬ (1 : Int) < (l : Int) := by omega
        try simp_arith only [decide_eq_false c']
        exact fin _ _ ((up_tx (SE.and a b) l).2 c)
    | or a b =>
      have h9' : max a.dep b.dep + 1 ≤ 9 := h9
      have hd' : max a.dep b.dep + 1 < d + 1 := hd
      have e1 : ∀ S, F__law_sector_text d [a.t, .int 0] S = .ok (.str (a.tx 0)) S := ih a 0 ho.1 (by omega) (by omega) (by decide)
      have e2 : ∀ S, F__law_sector_text d [b.t, .int (0 + 1)] S = .ok (.str (b.tx 1)) S := ih b 1 ho.2 (by omega) (by omega) (by decide)
      have ea : a.tx 0 = a.pt := rfl
      have hp : (((((a.tx 0) ++ " ") ++ "or") ++ " ") ++ b.tx 1) = (SE.or a b).pt := (str_mid _ _).2
      have hll : (a.tx 0).length + 1 + 2 + 1 + (b.tx 1).length ≤ 100000 := by
        have := hmain
        rw [← hp, str_len, str_len, str_len, str_len, q3, q5] at this
        omega
      have d02 : decide ((0 : Int) = 2) = false := by decide
      try simp_arith only [SE.t, kd_self, kd_as, kd_an, kd_aa, kd_ao, kd_aN, kd_Na, kd_Ns, kd_Nn, kd_NA, kd_No, kd_sa, kd_sN, kd_sn, kd_sA, kd_so, kd_na, kd_nN, kd_ns, kd_nA, kd_no, kd_nl, kd_Aa, kd_AN, kd_As, kd_An, kd_Ao, kd_Al, kd_oa, kd_oN, kd_os, kd_on, kd_oA, kd_ol, kd_ln, hin, hn5, r1, d02, e1]
      rw [if_pos (by omega)]
      try simp_arith only []
      rw [if_pos (by rw [str_len]; omega)]
      try simp_arith only []
      rw [if_pos (by rw [str_len, str_len]; omega)]
      try simp_arith only [e2]
      rw [if_pos (by rw [str_len, str_len, str_len]; omega), hp]
      by_cases c : 0 < l
      · have c' : (0 : Int) < (l : Int) := by omega
        try simp_arith only [decide_eq_true c']
        rw [if_pos (by omega)]
        try simp_arith only []
        rw [if_pos (by rw [str_len]; omega)]
        exact fin _ _ ((up_tx (SE.or a b) l).1 c)
      · have c' : ¬ (0 : Int) < (l : Int) := by omega
        try simp_arith only [decide_eq_false c']
        exact fin _ _ ((up_tx (SE.or a b) l).2 c)
def cntT (n : Int) (a : Str) : Str := if n.natAbs = 1 then a else (Str.ofString (toString ((n.natAbs : Nat) : Int)) ++ " ") ++ a
theorem num_len {n : Int} (hn : n.natAbs < 2 ^ 110) : ((n.natAbs : Nat) : Int).natAbs.log2 < 1920 ∧ (Str.ofString (toString ((n.natAbs : Nat) : Int))).length ≤ 111 := by
  have hl : ((n.natAbs : Nat) : Int).natAbs.log2 < 110 := PySem.Flt.log2_lt_of (by decide) (by rw [Int.natAbs_natCast]; exact hn)
  refine ⟨by omega, ?_⟩
  rw [PySem.ofString_length]
  exact int_text_length_le (by decide) hl
theorem cnt_len {n : Int} {a : Str} (hn : n.natAbs < 2 ^ 110) (ha : a.length ≤ 20) : (cntT n a).length ≤ 132 := by
  have h := (num_len hn).2
  have h1 : (" " : Str).length = 1 := by decide +kernel
  unfold cntT
  split
  · omega
  · rw [str_len, str_len]
    omega
theorem js_cons {m : Fx.Env → Sto → Fx.R T} {ms : List (Fx.Env → Sto → Fx.R T)} {acc y : Str} {τ : Fx.Env} {S S1 : Sto} (h : m τ S = .ok (.str y) S1) (hl : (acc ++ y).length ≤ 1000000) : jsGo (m :: ms) acc τ S = jsGo ms (acc ++ y) τ S1 := by
  show (m τ S).bind _ = _
  rw [h]
  show (if (acc ++ y).length ≤ 1000000 then jsGo ms (acc ++ y) τ S1 else .bad) = _
  rw [if_pos hl]
theorem counted_ev {n : Int} {a : Str} (hn : n.natAbs < 2 ^ 110) (ha : a.length ≤ 20) (S : Sto) : F__counted [.int n, .str a] S = .ok (.str (cntT n a)) S := ok_ev fun Q h => by
  unfold F__counted
  refine ok_frame0 (by rw [Fx.cls_cons, cl_int, Fx.cls_cons, cl_str, Fx.cls_nil]; rfl) ?_
  generalize hB : B__counted = B
  refine ok_run ?_
  subst hB
  unfold B__counted
  obtain ⟨g1, g2⟩ := num_len hn
  have h1 : (" " : Str).length = 1 := by decide +kernel
  have h0 : (Str.empty : Str).length = 0 := rfl
  have hj : ∀ S, jsGo [mUn fFmt (mFn fAbs (mCons (mVar 0) mNil)), mC (.str " "), mUn fFmt (mVar 1)] Str.empty [some (.int n), some (.str a)] S = .ok (.str ((Str.ofString (toString ((n.natAbs : Nat) : Int)) ++ " ") ++ a)) S := fun S => by
    have a1 : (mUn fFmt (mFn fAbs (mCons (mVar 0) mNil))) [some (.int n), some (.str a)] S = .ok (.str (Str.ofString (toString ((n.natAbs : Nat) : Int)))) S := by
      show (fAbs [.int n] S).bind fFmt = _
      rw [ev_abs]
      show (if ((n.natAbs : Nat) : Int).natAbs.log2 < 1920 then Fx.R.ok (T.str (Str.ofString (toString ((n.natAbs : Nat) : Int)))) S else .bad) = _
      rw [if_pos g1]
    have a2 : (mC (.str " ")) [some (.int n), some (.str a)] S = .ok (.str " ") S := rfl
    have a3 : (mUn fFmt (mVar 1)) [some (.int n), some (.str a)] S = .ok (.str a) S := by
      show (if a.length ≤ 1000000 then Fx.R.ok (T.str a) S else .bad) = _
      rw [if_pos (by omega)]
    rw [js_cons a1 (by rw [str_len]; omega), str_nil', js_cons a2 (by rw [str_len]; omega), js_cons a3 (by rw [str_len, str_len]; omega)]
    rfl
  by_cases c : n.natAbs = 1
  · have c' : ((n.natAbs : Nat) : Int) = 1 := by omega
    unfold cntT at h
    rw [if_pos c] at h
    try simp_arith only [decide_eq_true c', endQ]
    exact ⟨by simp, by rw [thaw_str]; exact h⟩
  · have c' : ¬ ((n.natAbs : Nat) : Int) = 1 := by omega
    unfold cntT at h
    rw [if_neg c] at h
    try simp_arith only [decide_eq_false c', hj, endQ]
    exact ⟨by simp, by rw [thaw_str]; exact h⟩
theorem ltimes_ev {n : Int} {a : Str} (hn : n.natAbs < 2 ^ 110) (ha : a.length ≤ 20) (S : Sto) : F__law_times [.int n, .str a] S = .ok (.str (cntT n a)) S := ok_ev fun Q h => by
  unfold F__law_times
  refine ok_frame0 (by rw [Fx.cls_cons, cl_int, Fx.cls_cons, cl_str, Fx.cls_nil]; rfl) ?_
  generalize hB : B__law_times = B
  refine ok_run ?_
  subst hB
  unfold B__law_times
  obtain ⟨g1, g2⟩ := num_len hn
  have h1 : (" " : Str).length = 1 := by decide +kernel
  have hs : ∀ S, fStr [.int ((n.natAbs : Nat) : Int)] S = .ok (.str (Str.ofString (toString ((n.natAbs : Nat) : Int)))) S := fun S => by
    show (if ((n.natAbs : Nat) : Int).natAbs.log2 < 1920 then Fx.R.ok (T.str (Str.ofString (toString ((n.natAbs : Nat) : Int)))) S else .bad) = _
    rw [if_pos g1]
  by_cases c : n.natAbs = 1
  · have c' : ((n.natAbs : Nat) : Int) = 1 := by omega
    unfold cntT at h
    rw [if_pos c] at h
    try simp_arith only [decide_eq_true c', endQ]
    exact ⟨by simp, by rw [thaw_str]; exact h⟩
  · have c' : ¬ ((n.natAbs : Nat) : Int) = 1 := by omega
    unfold cntT at h
    rw [if_neg c] at h
    try simp_arith only [decide_eq_false c', hs]
    rw [if_pos (by omega)]
    try simp_arith only []
    rw [if_pos (by rw [str_len]; omega)]
    try simp_arith only [endQ]
    exact ⟨by simp, by rw [thaw_str]; exact h⟩
def txM (t : Int × Str) : Str := cntT t.1 t.2
def txS (t : (Int × Str) × SE) : Str := (cntT t.1.1 t.1.2 ++ " of ") ++ t.2.tx 2
theorem termM_ev {t : Int × Str} (h1 : t.1.natAbs < 2 ^ 110) (h2 : t.2.length ≤ 20) (S : Sto) : F__term [pT t] S = .ok (.str (txM t)) S := ok_ev fun Q h => by
  unfold F__term
  refine ok_frame0 (by rw [Fx.cls_cons]; simp [pT]) ?_
  generalize hB : B__term = B
  refine ok_run ?_
  subst hB
  unfold B__term
  have i0 : ∀ S, fIx (pT t) (.int 0) S = .ok (.int t.1) S := fun S => rfl
  have i1 : ∀ S, fIx (pT t) (.int 1) S = .ok (.str t.2) S := fun S => rfl
  have ll : ∀ S, fLen [pT t] S = .ok (.int 2) S := fun S => rfl
  have hc := fun S => counted_ev h1 h2 S
  have d22 : decide ((2 : Int) = 2) = true := rfl
  try simp_arith only [i0, i1, hc, ll, d22, endQ]
  exact ⟨by simp, by rw [thaw_str]; exact h⟩
theorem termS_ev {ss : List Str} (hs : ∀ w ∈ ss, w.length ≤ 20) {t : (Int × Str) × SE} (h1 : t.1.1.natAbs < 2 ^ 110) (h2 : t.1.2.length ≤ 20) (ho : t.2.over ss) (hd : t.2.dep ≤ 9) (S : Sto) : F__term [qT t] S = .ok (.str (txS t)) S := ok_ev fun Q h => by
  unfold F__term
  refine ok_frame0 (by rw [Fx.cls_cons]; simp [qT, SE.cl]) ?_
  generalize hB : B__term = B
  refine ok_run ?_
  subst hB
  unfold B__term
  have i0 : ∀ S, fIx (qT t) (.int 0) S = .ok (.int t.1.1) S := fun S => rfl
  have i1 : ∀ S, fIx (qT t) (.int 1) S = .ok (.str t.1.2) S := fun S => rfl
  have i2 : ∀ S, fIx (qT t) (.int 2) S = .ok t.2.t S := fun S => rfl
  have ll : ∀ S, fLen [qT t] S = .ok (.int 3) S := fun S => rfl
  have hc := fun S => counted_ev h1 h2 S
  have d32 : decide ((3 : Int) = 2) = false := by decide
  have hl := cnt_len h1 h2
  have hlen := Nat.le_trans (pt_len hs 9 t.2 ho hd) txW9
  have he : ∀ S, F__enclosed (F_show_sector 24) [t.2.t, .tup [.str "and", .str "or"]] S = .ok (.str (t.2.tx 2)) S := fun S => enclosed_ev (d := F_show_sector 24) (ws := ["and", "or"]) (l := 2) (fun S => show_ev hs 24 t.2 S ho hd (by omega)) (enc_has t.2).2.2 hlen S
  have hp := par_len (decide (t.2.rk < 2)) t.2.pt
  have h4 : (" of " : Str).length = 4 := by decide +kernel
  try simp_arith only [i0, i1, i2, hc, ll, d32]
  rw [if_pos (by omega)]
  try simp_arith only [i2, he]
  rw [if_pos (by rw [str_len]; show _ + _ + (par _ _).length ≤ _; omega)]
  try simp_arith only [endQ]
  exact ⟨by simp, by rw [thaw_str]; exact h⟩
section
variable {α : Type} (fn : α → Int) (fx : α → Str)
def sgT (n : Int) : Str := if n < 0 then " - " else " + "
def jn : List α → Str
  | [] => ""
  | t :: ts => ts.foldl (fun acc t => acc ++ (sgT (fn t) ++ fx t)) ((if fn t < 0 then ("-" : Str) else "") ++ fx t)
theorem jn_snoc {xs : List α} (h : xs ≠ []) (x : α) : jn fn fx (xs ++ [x]) = jn fn fx xs ++ (sgT (fn x) ++ fx x) := by
  cases xs with
  | nil => exact absurd rfl h
  | cons y ys =>
    show (ys ++ [x]).foldl _ _ = _
    rw [List.foldl_append]
    rfl
theorem sgT_len (n : Int) : (sgT n).length = 3 := by
  have h1 : (" - " : Str).length = 3 := by decide +kernel
  have h2 : (" + " : Str).length = 3 := by decide +kernel
  unfold sgT
  split <;> assumption
theorem jn_len {B : Nat} : ∀ (n : Nat) (xs : List α), (∀ x ∈ xs, (fx x).length ≤ B) → xs.length ≤ n → (jn fn fx xs).length ≤ (B + 3) * n
  | 0, [], _, _ => by
    show ("" : Str).length ≤ _
    exact Nat.zero_le _
  | 0, _ :: _, _, h => absurd h (Nat.not_succ_le_zero _)
  | n + 1, [], _, _ => by
    show ("" : Str).length ≤ _
    exact Nat.zero_le _
  | n + 1, x :: xs, hB, h => by
    by_cases c : xs = []
    · subst c
      have := hB x List.mem_cons_self
      have h1 : ("-" : Str).length = 1 := by decide +kernel
      have h0 : ("" : Str).length = 0 := by decide +kernel
      show ((if fn x < 0 then ("-" : Str) else "") ++ fx x).length ≤ _
      rw [str_len, Nat.mul_succ]
      split <;> omega
    · obtain ⟨ys, y, e⟩ : ∃ ys y, x :: xs = ys ++ [y] := ⟨(x :: xs).dropLast, (x :: xs).getLast (by simp), (List.dropLast_concat_getLast (by simp)).symm⟩
      have hy : ys ≠ [] := fun e2 => by
        rw [e2] at e
        have := congrArg List.length e
        simp at this
        exact c this
      have hl := congrArg List.length e
      rw [List.length_append, List.length_singleton] at hl
      have ih := jn_len n ys (fun z mz => hB z (by rw [e]; exact List.mem_append_left _ mz)) (by omega)
      rw [e, jn_snoc fn fx hy, str_len, str_len, sgT_len, Nat.mul_succ]
      have := hB y (by rw [e]; exact List.mem_append_right _ (List.mem_singleton.mpr rfl))
      omega
end
theorem joined_ok {α : Type} {fT : α → T} {fn : α → Int} {fx : α → Str} {B : Nat} (hB2 : B ≤ 1000) (xs : List α) (hB : ∀ x ∈ xs, (fx x).length ≤ B) (hn : xs ≠ []) (hl : xs.length ≤ 100) (hc : Fx.cls 0 (xs.map fT) = true) (ht : ∀ x ∈ xs, ∀ S, F__term [fT x] S = .ok (.str (fx x)) S) (hi : ∀ x S, fIx (fT x) (.int 0) S = .ok (.int (fn x)) S) (S : Sto) : F__joined [.tup (xs.map fT)] S = .ok (.str (jn fn fx xs)) S := ok_ev fun Q h => by
  unfold F__joined
  refine ok_frame0 (by rw [Fx.cls_cons, cl_tup, hc, Fx.cls_nil]; rfl) ?_
  generalize hBB : B__joined = B1
  refine ok_run ?_
  subst hBB
  unfold B__joined
  obtain ⟨x, ys, rfl⟩ : ∃ x ys, xs = x :: ys := by
    cases xs with
    | nil => exact absurd rfl hn
    | cons x ys => exact ⟨x, ys, rfl⟩
  have hx0 := ht x List.mem_cons_self
  have hi0 := hi x
  have i0 : ∀ S, fIx (.tup (fT x :: ys.map fT)) (.int 0) S = .ok (fT x) S := fun S => by rw [ev_ixT, atI_0]
  have sl : ∀ S, fSlA true (.tup (fT x :: ys.map fT)) (some 1) none S = .ok (.tup (ys.map fT)) S := fun S => by
    rw [ev_slT, cut_from _ (by decide)]
    rfl
  have hit : ∀ (l : List T) S, itOf (.tup l) S = .ok ⟨l, []⟩ S := fun l S => rfl
  have q1 : ("-" : Str).length = 1 := by decide +kernel
  have q0 : ("" : Str).length = 0 := by decide +kernel
  have q2 : (" - " : Str).length = 3 := by decide +kernel
  have q3 : (" + " : Str).length = 3 := by decide +kernel
  have hbx := hB x List.mem_cons_self
  have add : ∀ (a b : Str) S, a.length + b.length ≤ 1000000 → fIpaddS (.str a) (.str b) S = .ok (.str (a ++ b)) S := fun a b S h => by
    show (if a.length + b.length ≤ 1000000 then Fx.R.ok (T.str (a ++ b)) S else .bad) = _
    rw [if_pos h]
  have aug : ∀ (i : Nat) (f : T → T → Sto → Fx.R T) (m : Fx.Env → Sto → Fx.R T) (τ : Fx.Env) (S : Sto) (t : T), τ[i]? = some (some t) → sAug i f m τ S = (m τ S).bind fun y S1 => (f t y S1).bind fun z S2 => .ok (.nx (τ.set i (some z))) S2 := fun i f m τ S t h => by
    unfold sAug mVar
    rw [h]
    rfl
  have main : ∀ (w : Str), w = jn fn fx [x] → Ok (sForGo ⟨ys.map fT, []⟩ (.nm 2) (sAug 1 fIpaddS (mBin (fAddA true) (mIte (mTst (mBin fLt (mBin fIx (mVar 2) (mC (.int 0))) (mC (.int 0)))) (mC (.str " - ")) (mC (.str " + "))) (mFn (fun ts S => if ts.length = 1 then F__term ts S else .bad) (mCons (mVar 2) mNil)))) (ys.map fT) [some (.tup ((x :: ys).map fT)), some (.str w), none] []) fun f S1 => ∃ x2, f = .nx [some (.tup ((x :: ys).map fT)), some (.str (jn fn fx (x :: ys))), x2] ∧ S1 = [] := fun w hw => by
    refine ok_for (fun i τ S => ∃ x2 : Option T, τ = [some (.tup ((x :: ys).map fT)), some (.str (jn fn fx (x :: ys.take i))), x2] ∧ S = []) ⟨none, by rw [hw]; rfl, rfl⟩ ?_ ?_
    · rintro i t τ S e ⟨x2, rfl, rfl⟩
      rw [List.getElem?_map] at e
      obtain ⟨y, hy, rfl⟩ := Option.map_eq_some_iff.mp e
      obtain ⟨hyi, hye⟩ := List.getElem?_eq_some_iff.mp hy
      have my := List.mem_of_getElem? hy
      have hty := ht y (List.mem_cons_of_mem _ my)
      have hiy := hi y
      have hby := hB y (List.mem_cons_of_mem _ my)
      have hlen := jn_len fn fx 101 (x :: ys.take i) (fun z mz => hB z (by
        rcases List.mem_cons.mp mz with rfl | mz
        · exact List.mem_cons_self
        · exact List.mem_cons_of_mem _ (List.mem_of_mem_take mz))) (by rw [List.length_cons, List.length_take]; rw [List.length_cons] at hl; omega)
      have hnx : jn fn fx (x :: ys.take (i + 1)) = jn fn fx (x :: ys.take i) ++ (sgT (fn y) ++ fx y) := by
        rw [List.take_succ_eq_append_getElem hyi, hye]
        exact jn_snoc fn fx (xs := x :: ys.take i) (by simp) y
      have hw2 : (B + 3) * 101 ≤ 110000 := by omega
      refine ⟨_, bindP_nm _ _ _, ?_⟩
      rw [aug 1 _ _ _ _ _ rfl]
      by_cases c : fn y < 0
      · have hs : sgT (fn y) = " - " := by unfold sgT; rw [if_pos c]
        try simp_arith only [hiy, decide_eq_true c, hty]
        rw [if_pos (by omega)]
        try simp_arith only []
        rw [add _ _ _ (by rw [str_len]; omega)]
        try simp_arith only [forQ]
        exact ⟨_, by rw [hnx, hs], by trivial⟩
      · have hs : sgT (fn y) = " + " := by unfold sgT; rw [if_neg c]
        try simp_arith only [hiy, decide_eq_false c, hty]
        rw [if_pos (by omega)]
        try simp_arith only []
        rw [add _ _ _ (by rw [str_len]; omega)]
        try simp_arith only [forQ]
        exact ⟨_, by rw [hnx, hs], by trivial⟩
    · rintro τ S ⟨x2, rfl, rfl⟩
      rw [List.length_map, List.take_length]
      exact ⟨x2, rfl, rfl⟩
  by_cases c : fn x < 0
  · have hj : ("-" : Str) ++ fx x = jn fn fx [x] := by
      show _ = (if fn x < 0 then ("-" : Str) else "") ++ fx x
      rw [if_pos c]
    try simp_arith only [i0, hi0, decide_eq_true c]
    rw [aug 1 _ _ _ _ _ rfl]
    try simp_arith only [i0, hx0]
    rw [add _ _ _ (by omega)]
    try simp_arith only [sl, hit]
    refine (main _ hj).mono fun f S1 hf => ?_
    obtain ⟨x2, rfl, rfl⟩ := hf
    try simp_arith only [endQ]
    exact ⟨by simp, by rw [thaw_str]; exact h⟩
  · have hj : ("" : Str) ++ fx x = jn fn fx [x] := by
      show _ = (if fn x < 0 then ("-" : Str) else "") ++ fx x
      rw [if_neg c]
    try simp_arith only [i0, hi0, decide_eq_false c]
    rw [aug 1 _ _ _ _ _ rfl]
    try simp_arith only [i0, hx0]
    rw [add _ _ _ (by omega)]
    try simp_arith only [sl, hit]
    refine (main _ hj).mono fun f S1 hf => ?_
    obtain ⟨x2, rfl, rfl⟩ := hf
    try simp_arith only [endQ]
    exact ⟨by simp, by rw [thaw_str]; exact h⟩
def ctx : Con → Str
  | .each e ts r => (((((("each " : Str) ++ e.pt) ++ ": ") ++ jn (·.1) txM ts) ++ " ") ++ r) ++ " 0"
  | .sum ts r => ((jn (fun t : (Int × Str) × SE => t.1.1) txS ts ++ " ") ++ r) ++ " 0"
/-- a constraint that can be written -/
def Wr (ss : List Str) : Con → Prop
  | .each e ts r => ts ≠ [] ∧ ts.length ≤ 12 ∧ (∀ t ∈ ts, t.1.natAbs < 2 ^ 110 ∧ t.2.length ≤ 20) ∧ e.over ss ∧ e.dep ≤ 3 ∧ r.length ≤ 2
  | .sum ts r => ts ≠ [] ∧ ts.length ≤ 12 ∧ (∀ t ∈ ts, (t.1.1.natAbs < 2 ^ 110 ∧ t.1.2.length ≤ 20) ∧ t.2.over ss ∧ t.2.dep ≤ 3) ∧ r.length ≤ 2
theorem txS_len {ss : List Str} (hs : ∀ w ∈ ss, w.length ≤ 20) {t : (Int × Str) × SE} (h1 : t.1.1.natAbs < 2 ^ 110) (h2 : t.1.2.length ≤ 20) (ho : t.2.over ss) (hd : t.2.dep ≤ 3) : (txS t).length ≤ 450 := by
  have a := cnt_len h1 h2
  have b := pt_len hs 3 t.2 ho hd
  have e : txW 3 = 300 := by decide
  have p := par_len (decide (t.2.rk < 2)) t.2.pt
  have h4 : (" of " : Str).length = 4 := by decide +kernel
  unfold txS
  rw [str_len, str_len]
  show _ + _ + (par _ _).length ≤ _
  omega
theorem txM_len {t : Int × Str} (h1 : t.1.natAbs < 2 ^ 110) (h2 : t.2.length ≤ 20) : (txM t).length ≤ 450 := by
  have a := cnt_len h1 h2
  unfold txM
  omega
theorem jnM_len {ts : List (Int × Str)} (hl : ts.length ≤ 12) (h : ∀ t ∈ ts, t.1.natAbs < 2 ^ 110 ∧ t.2.length ≤ 20) : (jn (·.1) txM ts).length ≤ 5500 := by
  have := jn_len (fun t : Int × Str => t.1) txM (B := 450) 12 ts (fun t mt => txM_len (h t mt).1 (h t mt).2) hl
  omega
theorem jnS_len {ss : List Str} (hs : ∀ w ∈ ss, w.length ≤ 20) {ts : List ((Int × Str) × SE)} (hl : ts.length ≤ 12) (h : ∀ t ∈ ts, (t.1.1.natAbs < 2 ^ 110 ∧ t.1.2.length ≤ 20) ∧ t.2.over ss ∧ t.2.dep ≤ 3) : (jn (fun t : (Int × Str) × SE => t.1.1) txS ts).length ≤ 5500 := by
  have := jn_len (fun t : (Int × Str) × SE => t.1.1) txS (B := 450) 12 ts (fun t mt => txS_len hs (h t mt).1.1 (h t mt).1.2 (h t mt).2.1 (h t mt).2.2) hl
  omega
theorem ctx_len {ss : List Str} (hs : ∀ w ∈ ss, w.length ≤ 20) {c : Con} (h : Wr ss c) : (ctx c).length ≤ 6000 := by
  have q1 : (" " : Str).length = 1 := by decide +kernel
  have q2 : (" 0" : Str).length = 2 := by decide +kernel
  have q3 : ("each " : Str).length = 5 := by decide +kernel
  have q4 : (": " : Str).length = 2 := by decide +kernel
  cases c with
  | each e ts r =>
    obtain ⟨-, hl, ht, ho, hd, hr⟩ := h
    have a := jnM_len hl ht
    have b := pt_len hs 3 e ho hd
    have e3 : txW 3 = 300 := by decide
    unfold ctx
    rw [str_len, str_len, str_len, str_len, str_len, str_len]
    omega
  | sum ts r =>
    obtain ⟨-, hl, ht, hr⟩ := h
    have a := jnS_len hs hl ht
    unfold ctx
    rw [str_len, str_len, str_len]
    omega
theorem showc_ev {ss : List Str} (hs : ∀ w ∈ ss, w.length ≤ 20) {c : Con} (h : Wr ss c) (S : Sto) : F_show_constraint [c.t] S = .ok (.str (ctx c)) S := ok_ev fun Q hq => by
  unfold F_show_constraint
  refine ok_frame0 (by rw [Fx.cls_cons, c.cl, Fx.cls_nil]; rfl) ?_
  generalize hB : B_show_constraint = B
  refine ok_run ?_
  subst hB
  unfold B_show_constraint
  have q1 : (" " : Str).length = 1 := by decide +kernel
  have q2 : (" 0" : Str).length = 2 := by decide +kernel
  have q3 : ("each " : Str).length = 5 := by decide +kernel
  have q4 : (": " : Str).length = 2 := by decide +kernel
  have q0 : ("" : Str).length = 0 := by decide +kernel
  have hb : ∀ (a b : T) (τ : Fx.Env), bindP (.tp [.nm 1, .nm 2]) (.tup [a, b]) τ = some ((τ.set 1 (some a)).set 2 (some b)) := fun a b τ => rfl
  have hneg : ∀ S, fNeg (.int 2) S = .ok (.int (-2)) S := fun S => rfl
  have hse : decide (("sum" : Str) = "sum") = true := decide_eq_true rfl
  have hes : decide (("each" : Str) = "sum") = false := by decide +kernel
  cases c with
  | each e ts r =>
    obtain ⟨hn, hl, ht, ho, hd, hr⟩ := h
    have a := jnM_len hl ht
    have b := pt_len hs 3 e ho hd
    have e3 : txW 3 = 300 := by decide
    have sl : ∀ S, fSlA true (Con.each e ts r).t (some (-2)) none S = .ok (.tup [.tup (ts.map pT), .str r]) S := fun S => rfl
    have i0 : ∀ S, fIx (Con.each e ts r).t (.int 0) S = .ok (.str "each") S := fun S => rfl
    have i1 : ∀ S, fIx (Con.each e ts r).t (.int 1) S = .ok e.t S := fun S => rfl
    have hsh := fun S => show_ev hs 24 e S ho (by omega) (by omega)
    have hj := fun S => joined_ok (fT := pT) (fn := fun t : Int × Str => t.1) (fx := txM) (B := 450) (by decide) ts (fun t mt => txM_len (ht t mt).1 (ht t mt).2) hn (by omega) (cls_all 0 _ fun t mt => by obtain ⟨p, _, rfl⟩ := List.mem_map.mp mt; simp [pT]) (fun t mt S => termM_ev (ht t mt).1 (ht t mt).2 S) (fun t S => rfl) S
    try simp_arith only [asg_ev, hneg, sl, hb, i0, hes, i1, hsh]
    rw [if_pos (by omega)]
    try simp_arith only []
    rw [if_pos (by rw [str_len]; omega)]
    try simp_arith only [hj]
    rw [if_pos (by rw [str_len, str_len]; omega)]
    try simp_arith only []
    rw [if_pos (by rw [str_len, str_len, str_len]; omega)]
    try simp_arith only []
    rw [if_pos (by rw [str_len, str_len, str_len, str_len]; omega)]
    try simp_arith only []
    rw [if_pos (by rw [str_len, str_len, str_len, str_len, str_len]; omega)]
    try simp_arith only [endQ]
    exact ⟨by simp, by rw [thaw_str]; exact hq⟩
  | sum ts r =>
    obtain ⟨hn, hl, ht, hr⟩ := h
    have a := jnS_len hs hl ht
    have sl : ∀ S, fSlA true (Con.sum ts r).t (some (-2)) none S = .ok (.tup [.tup (ts.map qT), .str r]) S := fun S => rfl
    have i0 : ∀ S, fIx (Con.sum ts r).t (.int 0) S = .ok (.str "sum") S := fun S => rfl
    have hj := fun S => joined_ok (fT := qT) (fn := fun t : (Int × Str) × SE => t.1.1) (fx := txS) (B := 450) (by decide) ts (fun t mt => txS_len hs (ht t mt).1.1 (ht t mt).1.2 (ht t mt).2.1 (ht t mt).2.2) hn (by omega) (cls_all 0 _ fun t mt => by obtain ⟨p, _, rfl⟩ := List.mem_map.mp mt; simp [qT, SE.cl]) (fun t mt S => termS_ev hs (ht t mt).1.1 (ht t mt).1.2 (ht t mt).2.1 (by have := (ht t mt).2.2; omega) S) (fun t S => rfl) S
    try simp_arith only [asg_ev, hneg, sl, hb, i0, hse, hj]
    rw [if_pos (by omega), str_nil]
    try simp_arith only []
    rw [if_pos (by omega)]
    try simp_arith only []
    rw [if_pos (by rw [str_len]; omega)]
    try simp_arith only []
    rw [if_pos (by rw [str_len, str_len]; omega)]
    try simp_arith only [endQ]
    exact ⟨by simp, by rw [thaw_str]; exact hq⟩
def lsg (i : Nat) (n : Int) : Str := if i = 0 then (if n < 0 then ("-" : Str) else "") else sgT n
theorem lsg_len (i : Nat) (n : Int) : (lsg i n).length ≤ 3 := by
  have q1 : ("-" : Str).length = 1 := by decide +kernel
  have q0 : ("" : Str).length = 0 := by decide +kernel
  have := sgT_len n
  unfold lsg
  split
  · split <;> omega
  · omega
theorem jn_next {α : Type} (fn : α → Int) (fx : α → Str) {xs : List α} {i : Nat} {x : α} (h : xs[i]? = some x) : jn fn fx (xs.take (i + 1)) = (jn fn fx (xs.take i) ++ lsg i (fn x)) ++ fx x := by
  obtain ⟨hi, hx⟩ := List.getElem?_eq_some_iff.mp h
  rw [List.take_succ_eq_append_getElem hi, hx]
  by_cases c : i = 0
  · subst c
    rw [List.take_zero, List.nil_append]
    show (if fn x < 0 then ("-" : Str) else "") ++ fx x = (("" : Str) ++ (if fn x < 0 then ("-" : Str) else "")) ++ fx x
    rw [str_nil]
  · have e : lsg i (fn x) = sgT (fn x) := by unfold lsg; rw [if_neg c]
    rw [jn_snoc fn fx (by
      intro e2
      have := congrArg List.length e2
      rw [List.length_take, List.length_nil] at this
      omega), e, str_assoc]
theorem jn_nil {α : Type} (fn : α → Int) (fx : α → Str) : jn fn fx [] = ("" : Str) := by unfold jn; rfl
theorem lctextE_ev {ss : List Str} (hs : ∀ w ∈ ss, w.length ≤ 20) {e : SE} {ts : List (Int × Str)} {r : Str} (hl : ts.length ≤ 12) (ht : ∀ t ∈ ts, t.1.natAbs < 2 ^ 110 ∧ t.2.length ≤ 20) (ho : e.over ss) (hd : e.dep ≤ 3) (hr : r.length ≤ 2) (S : Sto) : F__law_constraint_text [(Con.each e ts r).t] S = .ok (.str (ctx (.each e ts r))) S := ok_ev fun Q hq => by
  unfold F__law_constraint_text
  refine ok_frame0 (by rw [Fx.cls_cons, (Con.each e ts r).cl, Fx.cls_nil]; rfl) ?_
  generalize hB : B__law_constraint_text = B
  refine ok_run ?_
  subst hB
  unfold B__law_constraint_text
  have q1 : (" " : Str).length = 1 := by decide +kernel
  have q2 : (" 0" : Str).length = 2 := by decide +kernel
  have q3 : ("each " : Str).length = 5 := by decide +kernel
  have q4 : (": " : Str).length = 2 := by decide +kernel
  have q5 : (" of " : Str).length = 4 := by decide +kernel
  have hse : decide (("sum" : Str) = "each") = false := by decide +kernel
  have hee : decide (("each" : Str) = "each") = true := decide_eq_true rfl
  have hss : decide (("sum" : Str) = "sum") = true := decide_eq_true rfl
  have hes : decide (("each" : Str) = "sum") = false := by decide +kernel
  have hfT : ∀ S, fInt [.bl true] S = .ok (.int 1) S := fun S => rfl
  have hfF : ∀ S, fInt [.bl false] S = .ok (.int 0) S := fun S => rfl
  have ez : ∀ i : Nat, (0 : Int) + (i : Int) = (i : Int) := fun i => by omega
  have hsub : ∀ (i j : Int) (S : Sto), fSub (.int i) (.int j) S = .ok (.int (i - j)) S := fun _ _ _ => rfl
  have b11 : ∀ (a b : T) S, fIx (.lst [a, b]) (.int 1) S = .ok b S := fun a b S => rfl
  have b10 : ∀ (a b : T) S, fIx (.lst [a, b]) (.int 0) S = .ok a S := fun a b S => rfl
  have i0 : ∀ S, fIx (Con.each e ts r).t (.int 0) S = .ok (.str "each") S := fun S => rfl
  have i1 : ∀ S, fIx (Con.each e ts r).t (.int 1) S = .ok e.t S := fun S => rfl
  have i2 : ∀ S, fIx (Con.each e ts r).t (.int 2) S = .ok (.tup (ts.map pT)) S := fun S => rfl
  have i3 : ∀ S, fIx (Con.each e ts r).t (.int (4 - 1)) S = .ok (.str r) S := fun S => rfl
  have cl : ∀ S, fLen [(Con.each e ts r).t] S = .ok (.int 4) S := fun S => rfl
  have ll : ∀ S, fLen [.tup (ts.map pT)] S = .ok (.int (ts.length : Int)) S := fun S => by rw [ev_lenT, List.length_map]
  have hlt : ∀ S, F__law_sector_text 24 [e.t, .int 0] S = .ok (.str e.pt) S := fun S => ltext_ev hs 24 e 0 S ho (by omega) (by omega) (by decide)
  have b := pt_len hs 3 e ho hd
  have e3 : txW 3 = 300 := by decide
  try simp_arith only [i0, i1, i2, hee, ll]
  rw [range1_ev _ _ (by omega)]
  try simp_arith only [Int.toNat_natCast]
  refine ok_for (fun i τ S => ∃ (x3 x4 : Option T), τ = [some (Con.each e ts r).t, some (.tup (ts.map pT)), some (.str (jn (fun t : Int × Str => t.1) txM (ts.take i))), x3, x4] ∧ S = []) ⟨none, none, by rw [List.take_zero, jn_nil], by rfl⟩ ?_ ?_
  · rintro i v τ S e1 ⟨x3, x4, rfl, rfl⟩
    obtain ⟨hi, rfl⟩ := rangeT_at e1
    have hi : i < ts.length := hi
    obtain ⟨t, ht1⟩ : ∃ t, ts[i]? = some t := ⟨_, List.getElem?_eq_getElem hi⟩
    have mt := List.mem_of_getElem? ht1
    have tx : ∀ S, fIx (.tup (ts.map pT)) (.int (i : Int)) S = .ok (pT t) S := fun S => by
      rw [ev_ixT, atI_in _ _ (by omega) (by rw [List.length_map]; omega), Int.toNat_natCast, List.getElem?_map, ht1]
      rfl
    have t0 : ∀ S, fIx (pT t) (.int 0) S = .ok (.int t.1) S := fun S => rfl
    have t1 : ∀ S, fIx (pT t) (.int 1) S = .ok (.str t.2) S := fun S => rfl
    have hti := fun S => ltimes_ev (ht t mt).1 (ht t mt).2 S
    have hnx := jn_next (fun t : Int × Str => t.1) txM ht1
    have hJ := jnM_len (ts := ts.take i) (by rw [List.length_take]; omega) fun t mt => ht t (List.mem_of_mem_take mt)
    have hsl := lsg_len i t.1
    have hcl := cnt_len (ht t mt).1 (ht t mt).2
    have fin : ∀ (w : Str), w = lsg i t.1 → ((jn (fun t : Int × Str => t.1) txM (ts.take i)).length + w.length ≤ 1000000 ∧ ((jn (fun t : Int × Str => t.1) txM (ts.take i)) ++ w).length + (cntT t.1 t.2).length ≤ 1000000) ∧ ((jn (fun t : Int × Str => t.1) txM (ts.take i)) ++ w) ++ cntT t.1 t.2 = jn (fun t : Int × Str => t.1) txM (ts.take (i + 1)) := fun w hw => by
      subst hw
      refine ⟨⟨by omega, by rw [str_len]; omega⟩, ?_⟩
      rw [hnx]
      rfl
    refine ⟨_, bindP_nm _ _ _, ?_⟩
    by_cases c1 : i = 0
    · have c1' : ¬ (0 : Int) < (i : Int) := by omega
      by_cases c2 : t.1 < 0
      · obtain ⟨⟨f1, f2⟩, f3⟩ := fin "-" (by unfold lsg; rw [if_pos c1, if_pos c2])
        try simp_arith only [ez, tx, t0, t1, decide_eq_false c1', decide_eq_true c2, hfT, hfF, b10, b11, hti]
        rw [if_pos f1]
        try simp_arith only [tx, t0, t1, hti]
        rw [if_pos f2, f3]
        try simp_arith only [i0, hes, forQ]
        exact ⟨_, _, rfl, by trivial⟩
      · obtain ⟨⟨f1, f2⟩, f3⟩ := fin "" (by unfold lsg; rw [if_pos c1, if_neg c2])
        try simp_arith only [ez, tx, t0, t1, decide_eq_false c1', decide_eq_false c2, hfT, hfF, b10, b11, hti]
        rw [if_pos f1]
        try simp_arith only [tx, t0, t1, hti]
        rw [if_pos f2, f3]
        try simp_arith only [i0, hes, forQ]
        exact ⟨_, _, rfl, by trivial⟩
    · have c1' : (0 : Int) < (i : Int) := by omega
      by_cases c2 : t.1 < 0
      · obtain ⟨⟨f1, f2⟩, f3⟩ := fin " - " (by unfold lsg sgT; rw [if_neg c1, if_pos c2])
        try simp_arith only [ez, tx, t0, t1, decide_eq_true c1', decide_eq_true c2, hfT, hfF, b10, b11, hti]
        rw [if_pos f1]
        try simp_arith only [tx, t0, t1, hti]
        rw [if_pos f2, f3]
        try simp_arith only [i0, hes, forQ]
        exact ⟨_, _, rfl, by trivial⟩
      · obtain ⟨⟨f1, f2⟩, f3⟩ := fin " + " (by unfold lsg sgT; rw [if_neg c1, if_neg c2])
        try simp_arith only [ez, tx, t0, t1, decide_eq_true c1', decide_eq_false c2, hfT, hfF, b10, b11, hti]
        rw [if_pos f1]
        try simp_arith only [tx, t0, t1, hti]
        rw [if_pos f2, f3]
        try simp_arith only [i0, hes, forQ]
        exact ⟨_, _, rfl, by trivial⟩
  · rintro τ S ⟨x3, x4, rfl, rfl⟩
    have hrl : (Fx.rangeT 0 ts.length).length = ts.length := rangeT_length _ _
    rw [hrl, List.take_length]
    have a := jnM_len hl ht
    try simp_arith only [i0, hee, i1, hlt]
    rw [if_pos (by omega)]
    try simp_arith only []
    rw [if_pos (by rw [str_len]; omega)]
    try simp_arith only []
    rw [if_pos (by rw [str_len, str_len]; omega)]
    try simp_arith only []
    rw [if_pos (by rw [str_len, str_len, str_len]; omega)]
    try simp_arith only [cl, hsub, i3]
    rw [if_pos (by rw [str_len, str_len, str_len, str_len]; omega)]
    try simp_arith only []
    rw [if_pos (by rw [str_len, str_len, str_len, str_len, str_len]; omega)]
    try simp_arith only [endQ]
    exact ⟨by simp, by rw [thaw_str]; exact hq⟩
theorem lctextS_ev {ss : List Str} (hs : ∀ w ∈ ss, w.length ≤ 20) {ts : List ((Int × Str) × SE)} {r : Str} (hl : ts.length ≤ 12) (ht : ∀ t ∈ ts, (t.1.1.natAbs < 2 ^ 110 ∧ t.1.2.length ≤ 20) ∧ t.2.over ss ∧ t.2.dep ≤ 3) (hr : r.length ≤ 2) (S : Sto) : F__law_constraint_text [(Con.sum ts r).t] S = .ok (.str (ctx (.sum ts r))) S := ok_ev fun Q hq => by
  unfold F__law_constraint_text
  refine ok_frame0 (by rw [Fx.cls_cons, (Con.sum ts r).cl, Fx.cls_nil]; rfl) ?_
  generalize hB : B__law_constraint_text = B
  refine ok_run ?_
  subst hB
  unfold B__law_constraint_text
  have q1 : (" " : Str).length = 1 := by decide +kernel
  have q2 : (" 0" : Str).length = 2 := by decide +kernel
  have q3 : ("each " : Str).length = 5 := by decide +kernel
  have q4 : (": " : Str).length = 2 := by decide +kernel
  have q5 : (" of " : Str).length = 4 := by decide +kernel
  have hse : decide (("sum" : Str) = "each") = false := by decide +kernel
  have hee : decide (("each" : Str) = "each") = true := decide_eq_true rfl
  have hss : decide (("sum" : Str) = "sum") = true := decide_eq_true rfl
  have hes : decide (("each" : Str) = "sum") = false := by decide +kernel
  have hfT : ∀ S, fInt [.bl true] S = .ok (.int 1) S := fun S => rfl
  have hfF : ∀ S, fInt [.bl false] S = .ok (.int 0) S := fun S => rfl
  have ez : ∀ i : Nat, (0 : Int) + (i : Int) = (i : Int) := fun i => by omega
  have hsub : ∀ (i j : Int) (S : Sto), fSub (.int i) (.int j) S = .ok (.int (i - j)) S := fun _ _ _ => rfl
  have b11 : ∀ (a b : T) S, fIx (.lst [a, b]) (.int 1) S = .ok b S := fun a b S => rfl
  have b10 : ∀ (a b : T) S, fIx (.lst [a, b]) (.int 0) S = .ok a S := fun a b S => rfl
  have i0 : ∀ S, fIx (Con.sum ts r).t (.int 0) S = .ok (.str "sum") S := fun S => rfl
  have i1 : ∀ S, fIx (Con.sum ts r).t (.int 1) S = .ok (.tup (ts.map qT)) S := fun S => rfl
  have i3 : ∀ S, fIx (Con.sum ts r).t (.int (3 - 1)) S = .ok (.str r) S := fun S => rfl
  have cl : ∀ S, fLen [(Con.sum ts r).t] S = .ok (.int 3) S := fun S => rfl
  have ll : ∀ S, fLen [.tup (ts.map qT)] S = .ok (.int (ts.length : Int)) S := fun S => by rw [ev_lenT, List.length_map]
  try simp_arith only [i0, i1, hse, ll]
  rw [range1_ev _ _ (by omega)]
  try simp_arith only [Int.toNat_natCast]
  refine ok_for (fun i τ S => ∃ (x3 x4 : Option T), τ = [some (Con.sum ts r).t, some (.tup (ts.map qT)), some (.str (jn (fun t : (Int × Str) × SE => t.1.1) txS (ts.take i))), x3, x4] ∧ S = []) ⟨none, none, by rw [List.take_zero, jn_nil], by rfl⟩ ?_ ?_
  · rintro i v τ S e1 ⟨x3, x4, rfl, rfl⟩
    obtain ⟨hi, rfl⟩ := rangeT_at e1
    have hi : i < ts.length := hi
    obtain ⟨t, ht1⟩ : ∃ t, ts[i]? = some t := ⟨_, List.getElem?_eq_getElem hi⟩
    have mt := List.mem_of_getElem? ht1
    have tx : ∀ S, fIx (.tup (ts.map qT)) (.int (i : Int)) S = .ok (qT t) S := fun S => by
      rw [ev_ixT, atI_in _ _ (by omega) (by rw [List.length_map]; omega), Int.toNat_natCast, List.getElem?_map, ht1]
      rfl
    have t0 : ∀ S, fIx (qT t) (.int 0) S = .ok (.int t.1.1) S := fun S => rfl
    have t1 : ∀ S, fIx (qT t) (.int 1) S = .ok (.str t.1.2) S := fun S => rfl
    have t2 : ∀ S, fIx (qT t) (.int 2) S = .ok t.2.t S := fun S => rfl
    have hti := fun S => ltimes_ev (ht t mt).1.1 (ht t mt).1.2 S
    have hd3 := (ht t mt).2.2
    have hlt : ∀ S, F__law_sector_text 24 [t.2.t, .int 2] S = .ok (.str (t.2.tx 2)) S := fun S => ltext_ev hs 24 t.2 2 S (ht t mt).2.1 (by omega) (by omega) (by decide)
    have hpl := pt_len hs 3 t.2 (ht t mt).2.1 hd3
    have e3 : txW 3 = 300 := by decide
    have hpr := par_len (decide (t.2.rk < 2)) t.2.pt
    have hpx : (t.2.tx 2).length ≤ 302 := by
      show (par _ _).length ≤ _
      omega
    have hnx := jn_next (fun t : (Int × Str) × SE => t.1.1) txS ht1
    have hJ := jnS_len hs (ts := ts.take i) (by rw [List.length_take]; omega) fun t mt => ht t (List.mem_of_mem_take mt)
    have hsl := lsg_len i t.1.1
    have hcl := cnt_len (ht t mt).1.1 (ht t mt).1.2
    have fin : ∀ (w : Str), w = lsg i t.1.1 → ((jn (fun t : (Int × Str) × SE => t.1.1) txS (ts.take i)).length + w.length ≤ 1000000 ∧ ((jn (fun t : (Int × Str) × SE => t.1.1) txS (ts.take i)) ++ w).length + (cntT t.1.1 t.1.2).length ≤ 1000000 ∧ (((jn (fun t : (Int × Str) × SE => t.1.1) txS (ts.take i)) ++ w) ++ cntT t.1.1 t.1.2).length + (" of " : Str).length ≤ 1000000 ∧ ((((jn (fun t : (Int × Str) × SE => t.1.1) txS (ts.take i)) ++ w) ++ cntT t.1.1 t.1.2) ++ " of ").length + (t.2.tx 2).length ≤ 1000000) ∧ ((((jn (fun t : (Int × Str) × SE => t.1.1) txS (ts.take i)) ++ w) ++ cntT t.1.1 t.1.2) ++ " of ") ++ t.2.tx 2 = jn (fun t : (Int × Str) × SE => t.1.1) txS (ts.take (i + 1)) := fun w hw => by
      subst hw
      refine ⟨⟨by omega, by rw [str_len]; omega, by rw [str_len, str_len]; omega, by rw [str_len, str_len, str_len]; omega⟩, ?_⟩
      rw [hnx]
      unfold txS
      rw [str_assoc _ (cntT t.1.1 t.1.2) " of ", str_assoc _ (cntT t.1.1 t.1.2 ++ " of ") (t.2.tx 2)]
    refine ⟨_, bindP_nm _ _ _, ?_⟩
    by_cases c1 : i = 0
    · have c1' : ¬ (0 : Int) < (i : Int) := by omega
      by_cases c2 : t.1.1 < 0
      · obtain ⟨⟨f1, f2, f3, f4⟩, f5⟩ := fin "-" (by unfold lsg; rw [if_pos c1, if_pos c2])
        try simp_arith only [ez, tx, t0, t1, decide_eq_false c1', decide_eq_true c2, hfT, hfF, b10, b11, hti]
        rw [if_pos f1]
        try simp_arith only [tx, t0, t1, hti]
        rw [if_pos f2]
        try simp_arith only [i0, hss, tx, t2, hlt]
        rw [if_pos f3]
        try simp_arith only [tx, t2, hlt]
        rw [if_pos f4, f5]
        try simp_arith only [forQ]
        exact ⟨_, _, rfl, by trivial⟩
      · obtain ⟨⟨f1, f2, f3, f4⟩, f5⟩ := fin "" (by unfold lsg; rw [if_pos c1, if_neg c2])
        try simp_arith only [ez, tx, t0, t1, decide_eq_false c1', decide_eq_false c2, hfT, hfF, b10, b11, hti]
        rw [if_pos f1]
        try simp_arith only [tx, t0, t1, hti]
        rw [if_pos f2]
        try simp_arith only [i0, hss, tx, t2, hlt]
        rw [if_pos f3]
        try simp_arith only [tx, t2, hlt]
        rw [if_pos f4, f5]
        try simp_arith only [forQ]
        exact ⟨_, _, rfl, by trivial⟩
    · have c1' : (0 : Int) < (i : Int) := by omega
      by_cases c2 : t.1.1 < 0
      · obtain ⟨⟨f1, f2, f3, f4⟩, f5⟩ := fin " - " (by unfold lsg sgT; rw [if_neg c1, if_pos c2])
        try simp_arith only [ez, tx, t0, t1, decide_eq_true c1', decide_eq_true c2, hfT, hfF, b10, b11, hti]
        rw [if_pos f1]
        try simp_arith only [tx, t0, t1, hti]
        rw [if_pos f2]
        try simp_arith only [i0, hss, tx, t2, hlt]
        rw [if_pos f3]
        try simp_arith only [tx, t2, hlt]
        rw [if_pos f4, f5]
        try simp_arith only [forQ]
        exact ⟨_, _, rfl, by trivial⟩
      · obtain ⟨⟨f1, f2, f3, f4⟩, f5⟩ := fin " + " (by unfold lsg sgT; rw [if_neg c1, if_neg c2])
        try simp_arith only [ez, tx, t0, t1, decide_eq_true c1', decide_eq_false c2, hfT, hfF, b10, b11, hti]
        rw [if_pos f1]
        try simp_arith only [tx, t0, t1, hti]
        rw [if_pos f2]
        try simp_arith only [i0, hss, tx, t2, hlt]
        rw [if_pos f3]
        try simp_arith only [tx, t2, hlt]
        rw [if_pos f4, f5]
        try simp_arith only [forQ]
        exact ⟨_, _, rfl, by trivial⟩
  · rintro τ S ⟨x3, x4, rfl, rfl⟩
    have hrl : (Fx.rangeT 0 ts.length).length = ts.length := rangeT_length _ _
    rw [hrl, List.take_length]
    have a := jnS_len hs hl ht
    try simp_arith only [i0, hse]
    rw [if_pos (by omega)]
    try simp_arith only [cl, hsub, i3]
    rw [if_pos (by rw [str_len]; omega)]
    try simp_arith only []
    rw [if_pos (by rw [str_len, str_len]; omega)]
    try simp_arith only [endQ]
    exact ⟨by simp, by rw [thaw_str]; exact hq⟩
theorem lctext_ev {ss : List Str} (hs : ∀ w ∈ ss, w.length ≤ 20) {c : Con} (h : Wr ss c) (S : Sto) : F__law_constraint_text [c.t] S = .ok (.str (ctx c)) S := by
  cases c with
  | each e ts r => exact lctextE_ev hs h.2.1 h.2.2.1 h.2.2.2.1 h.2.2.2.2.1 h.2.2.2.2.2 S
  | sum ts r => exact lctextS_ev hs h.2.1 h.2.2.1 h.2.2.2 S
theorem join_len (a : Str) : ∀ ys : List Str, (Txt.join a ys).length ≤ (ys.map Str.length).sum + ys.length * a.length
  | [] => by
    show (Builtin.Str.glued a []).length ≤ _
    rw [StrLaws.glued_eq_join]
    exact Nat.zero_le _
  | [x] => by
    show (Builtin.Str.glued a [x]).length ≤ _
    rw [StrLaws.glued_eq_join]
    simp [Str.join]
  | x :: y :: r => by
    have ih := join_len a (y :: r)
    show (Builtin.Str.glued a (x :: y :: r)).length ≤ _
    have ih : (Builtin.Str.glued a (y :: r)).length ≤ ((y :: r).map Str.length).sum + (y :: r).length * a.length := ih
    rw [StrLaws.glued_eq_join] at ih ⊢
    show (x ++ a ++ Str.join a (y :: r)).length ≤ _
    rw [str_len, str_len, List.map_cons, List.sum_cons, List.length_cons, Nat.succ_mul]
    omega
theorem strs_bd {B : Nat} : ∀ {ys : List Str}, (∀ y ∈ ys, y.length ≤ B) → (ys.map Str.length).sum ≤ ys.length * B
  | [], _ => Nat.zero_le _
  | y :: ys, h => by
    have h1 := h y List.mem_cons_self
    have h2 := strs_bd (ys := ys) fun z m => h z (List.mem_cons_of_mem _ m)
    rw [List.map_cons, List.sum_cons, List.length_cons, Nat.succ_mul]
    omega
theorem join_ev (a : Str) (ys : List Str) (S : Sto) (h : (ys.map Str.length).sum + ys.length * a.length ≤ 1000000) : fJoin (.str a) [.lst (ys.map T.str)] S = .ok (.str (Txt.join a ys)) S := by
  show (match strsOf (ys.map T.str) with
      | some ys => if (ys.map Str.length).sum + ys.length * a.length ≤ 1000000 then R.ok (T.str (Txt.join a ys)) S else .bad
      | none => .bad) = _
  rw [strsOf_map]
  dsimp only
  rw [if_pos h]
def clx (b : Bool) (c : Clm) : Str := if b = true then ctx c.c else ((("if " : Str) ++ Txt.join ", " (c.ps.map ctx)) ++ " then ") ++ ctx c.c
structure Shw (ss : List Str) (b : Bool) (c : Clm) : Prop where
  pl : c.ps.length ≤ 24
  ps : ∀ x ∈ c.ps, Wr ss x
  cc : Wr ss c.c
  eq : ∀ S, fEq (.tup (c.ps.map Con.t)) (.tup []) S = .ok (.bl b) S
theorem Shw.jn {ss : List Str} (hs : ∀ w ∈ ss, w.length ≤ 20) {b : Bool} {c : Clm} (h : Shw ss b c) : ((c.ps.map ctx).map Str.length).sum + (c.ps.map ctx).length * (", " : Str).length ≤ 200000 := by
  have q1 : (", " : Str).length = 2 := by decide +kernel
  have h1 := strs_bd (B := 6000) (ys := c.ps.map ctx) fun y my => by
    obtain ⟨x, mx, rfl⟩ := List.mem_map.mp my
    exact ctx_len hs (h.ps x mx)
  have := h.pl
  rw [List.length_map] at h1
  rw [q1, List.length_map]
  omega
theorem showclaim_ev {ss : List Str} (hs : ∀ w ∈ ss, w.length ≤ 20) {b : Bool} {c : Clm} (h : Shw ss b c) (S : Sto) : F_show_claim [c.t] S = .ok (.str (clx b c)) S := ok_ev fun Q hq => by
  unfold F_show_claim
  refine ok_frame0 (by rw [Fx.cls_cons, c.cl, Fx.cls_nil]; rfl) ?_
  generalize hB : B_show_claim = B
  refine ok_run ?_
  subst hB
  unfold B_show_claim
  have q1 : ("if " : Str).length = 3 := by decide +kernel
  have q2 : (" then " : Str).length = 6 := by decide +kernel
  have hb : ∀ (τ : Fx.Env), bindP (.tp [.nm 1, .nm 2]) c.t τ = some ((τ.set 1 (some (.tup (c.ps.map Con.t)))).set 2 (some c.c.t)) := fun τ => rfl
  have hcc := fun S => showc_ev hs h.cc S
  have hE := h.eq
  have hj := h.jn hs
  have hjl := join_len ", " (c.ps.map ctx)
  have hcl := ctx_len hs h.cc
  have hpl := h.pl
  try simp_arith only [asg_ev, hb, hcc, hE]
  cases b with
  | true =>
    try simp_arith only [endQ]
    exact ⟨by simp, by rw [thaw_str]; exact hq⟩
  | false =>
    try simp_arith only []
    rw [lc_over Con.t (fun x => T.str (ctx x)) c.ps (by omega) fun x mx => ⟨_, bindP_nm _ _ _, by
      have g := fun S => showc_ev hs (h.ps x mx) S
      try simp_arith only [g]⟩]
    rw [show c.ps.map (fun x => T.str (ctx x)) = (c.ps.map ctx).map T.str by rw [List.map_map]; rfl]
    have hje := fun S => join_ev ", " (c.ps.map ctx) S (by exact Nat.le_trans hj (by decide))
    try simp_arith only [hje]
    rw [if_pos (by omega)]
    try simp_arith only []
    rw [if_pos (by rw [str_len]; omega)]
    try simp_arith only []
    rw [if_pos (by rw [str_len, str_len]; omega)]
    try simp_arith only [endQ]
    exact ⟨by simp, by rw [thaw_str]; exact hq⟩
theorem lclaimtext_ev {ss : List Str} (hs : ∀ w ∈ ss, w.length ≤ 20) {b : Bool} {c : Clm} (h : Shw ss b c) (S : Sto) : F__law_claim_text [c.t] S = .ok (.str (clx b c)) S := ok_ev fun Q hq => by
  unfold F__law_claim_text
  refine ok_frame0 (by rw [Fx.cls_cons, c.cl, Fx.cls_nil]; rfl) ?_
  generalize hB : B__law_claim_text = B
  refine ok_run ?_
  subst hB
  unfold B__law_claim_text
  have q1 : ("if " : Str).length = 3 := by decide +kernel
  have q2 : (" then " : Str).length = 6 := by decide +kernel
  have i0 : ∀ S, fIx c.t (.int 0) S = .ok (.tup (c.ps.map Con.t)) S := fun S => rfl
  have i1 : ∀ S, fIx c.t (.int 1) S = .ok c.c.t S := fun S => rfl
  have hcc := fun S => lctext_ev hs h.cc S
  have hE := h.eq
  have hj := h.jn hs
  have hjl := join_len ", " (c.ps.map ctx)
  have hcl := ctx_len hs h.cc
  have hpl := h.pl
  try simp_arith only [i0, i1, hcc, hE]
  cases b with
  | true =>
    try simp_arith only [endQ]
    exact ⟨by simp, by rw [thaw_str]; exact hq⟩
  | false =>
    try simp_arith only [i0]
    rw [lc_over Con.t (fun x => T.str (ctx x)) c.ps (by omega) fun x mx => ⟨_, bindP_nm _ _ _, by
      have g := fun S => lctext_ev hs (h.ps x mx) S
      try simp_arith only [g]⟩]
    rw [show c.ps.map (fun x => T.str (ctx x)) = (c.ps.map ctx).map T.str by rw [List.map_map]; rfl]
    have hje := fun S => join_ev ", " (c.ps.map ctx) S (by exact Nat.le_trans hj (by decide))
    try simp_arith only [hje]
    rw [if_pos (by omega)]
    try simp_arith only []
    rw [if_pos (by rw [str_len]; omega)]
    try simp_arith only []
    rw [if_pos (by rw [str_len, str_len]; omega)]
    try simp_arith only [endQ]
    exact ⟨by simp, by rw [thaw_str]; exact hq⟩
theorem ok_iterW {c : Fx.Env → Sto → R Bool} {b : Fx.Env → Sto → R Fl} {Q : Fl → Sto → Prop} (I : Nat → Fx.Env → Sto → Prop)
    (hs : ∀ m τ S, I m τ S → Ok (c τ S) fun k S1 => if k = true then Ok (b τ S1) (forQ (fun τ2 S2 => ∃ m', m' < m ∧ I m' τ2 S2) Q) else Q (.nx τ) S1) : ∀ (n m : Nat) (τ : Fx.Env) (S : Sto), m < n → I m τ S → Ok (iterW c b n τ S) Q
  | 0, _, _, _, h, _ => absurd h (Nat.not_lt_zero _)
  | n + 1, m, τ, S, h, i => by
    unfold iterW
    rw [Ok_bind]
    refine (hs m τ S i).mono fun k S1 q => ?_
    cases k with
    | false => exact q
    | true =>
      rw [if_pos rfl] at q ⊢
      rw [Ok_bind]
      refine q.mono fun f S2 q2 => ?_
      cases f with
      | nx τ2 =>
        obtain ⟨m', hm, q2⟩ := q2
        exact ok_iterW I hs n m' τ2 S2 (by omega) q2
      | ct τ2 =>
        obtain ⟨m', hm, q2⟩ := q2
        exact ok_iterW I hs n m' τ2 S2 (by omega) q2
      | bk τ2 => exact q2
      | rt t => exact q2
theorem ok_while {c : Fx.Env → Sto → R Bool} {b : Fx.Env → Sto → R Fl} {Q : Fl → Sto → Prop} {τ : Fx.Env} {S : Sto} (I : Nat → Fx.Env → Sto → Prop) (m : Nat) (h0 : I m τ S)
    (hs : ∀ m τ S, I m τ S → Ok (c τ S) fun k S1 => if k = true then Ok (b τ S1) (forQ (fun τ2 S2 => ∃ m', m' < m ∧ I m' τ2 S2) Q) else Q (.nx τ) S1) : Ok (sWhile c b τ S) Q := by
  have h := ok_iterW I hs (m + 1) m τ S (Nat.lt_succ_self _) h0
  obtain ⟨a, S1, e, q⟩ := h.get
  rw [sWhile_of e (by intro x; cases x)]
  exact q
theorem gcd_pos_r {a b : Int} (hb : 0 < b) : 0 < Nat.gcd a.natAbs b.natAbs := Nat.gcd_pos_of_pos_right _ (by omega)
theorem gcd_le_r {a b : Int} (hb : 0 < b) : Nat.gcd a.natAbs b.natAbs ≤ b.natAbs := Nat.gcd_le_right _ (by omega)
theorem lgcd_ev (a b : Int) (S : Sto) : F__law_gcd [.int a, .int b] S = .ok (.int (Nat.gcd a.natAbs b.natAbs : Nat)) S := ok_ev fun Q h => by
  unfold F__law_gcd
  refine ok_frame0 (by simp) ?_
  generalize hB : B__law_gcd = B
  refine ok_run ?_
  subst hB
  unfold B__law_gcd
  try simp_arith only []
  refine ok_while (fun m τ S => ∃ (x y : Nat) (z : Option T), τ = [some (.int (x : Int)), some (.int (y : Int)), z] ∧ S = [] ∧ Nat.gcd x y = Nat.gcd a.natAbs b.natAbs ∧ m = y) b.natAbs ⟨_, _, _, rfl, rfl, rfl, rfl⟩ ?_
  rintro m τ S ⟨x, y, z, rfl, rfl, hg, rfl⟩
  try simp_arith only []
  by_cases c : (0 : Int) < (m : Int)
  · have e := ev_mod (S := []) (i := (x : Int)) (j := (m : Int)) c
    have hx : (x : Int) % (m : Int) = ((x % m : Nat) : Int) := (Int.natCast_emod ..).symm
    try simp_arith only [decide_eq_true c, e, hx, forQ]
    refine ⟨x % m, Nat.mod_lt _ (by omega), m, x % m, _, rfl, by trivial, ?_, rfl⟩
    rw [← hg, Nat.gcd_comm x m, Nat.gcd_rec m x, Nat.gcd_comm]
  · have hm : m = 0 := by omega
    subst hm
    rw [Nat.gcd_zero_right] at hg
    rw [← hg] at h
    try simp_arith only [decide_eq_false c, endQ]
    exact ⟨by simp, by rw [thaw_int]; exact h⟩
theorem NmG.sok {w : Str} (h : NmG w) : PyData.strOk w = true := by
  show (w.cps.all fun c => decide (c < 0x110000)) = true
  rw [← Array.all_toList, List.all_eq_true]
  intro c hc
  have := h.low c hc
  unfold Lt at this
  exact decide_eq_true (by omega)
theorem ok_frameX0 {F : List T → Sto → Fx.R T} {ts : List T} {S : Sto} {Q : T → Sto → Prop} (hc : Fx.cls 0 ts = true) (h : Ok (F ts []) (fun t S1 => Fx.cl 0 (thaw 0 true t S1) = true ∧ Q (thaw 0 true t S1) S)) : Ok (frameX 0 true F ts S) Q := by
  obtain ⟨t, S1, e, q1, q2⟩ := h.get
  unfold frameX
  rw [ifP_t ⟨Nat.zero_le _, hc, rfl⟩]
  have e' : F ts (S.take 0) = .ok t S1 := e
  rw [e']
  show Ok (ifP (0 ≤ S1.length ∧ (S1.take 0).all (clO 0) = true ∧ Fx.cl 0 (thaw 0 true t S1) = true) (.ok (thaw 0 true t S1) (S1.take 0 ++ S.drop 0)) .bad) Q
  rw [ifP_t ⟨Nat.zero_le _, rfl, q1⟩]
  exact q2
theorem ok_runX {N : Nat} {b : Fx.Env → Sto → Fx.R Fl} {ts : List T} {S : Sto} {Q : T → Sto → Prop} (h : Ok (b (ts.map some ++ List.replicate (N - ts.length) none) S) (endQ Q)) : Ok (runFX N b ts S) Q := by
  unfold runFX
  rw [Ok_bind]
  refine h.mono fun f S1 q => ?_
  cases f with
  | nx τ => exact q
  | rt t => exact q
  | bk τ => exact q.elim
  | ct τ => exact q.elim
def nasT : T := .exn "NotASum" false [] []
theorem plain_ev (S : Sto) : F__law_is_plain [nasT] S = .ok (.bl true) S := ok_ev fun Q h => by
  unfold F__law_is_plain
  refine ok_frame0 rfl ?_
  generalize hB : B__law_is_plain = B
  refine ok_run ?_
  have e : B ([nasT].map some ++ List.replicate (2 - [nasT].length) none) [] = .ok (.rt (.bl true)) [] := by
    subst hB
    rfl
  rw [e]
  exact ⟨by simp, by rw [thaw_bl]; exact h⟩
inductive PI : Nat → T → Prop
  | int (n : Nat) (i : Int) : PI n (.int i)
  | str (n : Nat) (w : Str) : PyData.strOk w = true → PI n (.str w)
  | tup {n : Nat} {ts : List T} : (∀ t ∈ ts, PI n t) → PI (n + 1) (.tup ts)
theorem PI.le : ∀ {n m : Nat} {t : T}, PI n t → n ≤ m → PI m t := by
  intro n m t h
  induction h generalizing m with
  | int n i => exact fun _ => .int m i
  | str n w hw => exact fun _ => .str m w hw
  | @tup n ts h ih =>
    intro hl
    obtain ⟨k, rfl⟩ : ∃ k, m = k + 1 := ⟨m - 1, by omega⟩
    exact .tup fun t mt => ih t mt (by omega)
theorem PI.ly : ∀ {n : Nat} {t : T}, PI n t → ∃ d, Ly t d n := by
  intro n t h
  induction h with
  | int n i => exact ⟨_, (Ly.int i).le (Nat.zero_le _)⟩
  | str n w hw => exact ⟨_, (Ly.str hw).le (Nat.zero_le _)⟩
  | @tup n ts h ih =>
    have := Ly.tup (n := n) (fun t : T => t) (fun t : T => (toD t).getD .none) ts fun t mt => by
      obtain ⟨d, hd⟩ := ih t mt
      rw [hd.e]
      exact hd
    rw [List.map_id'] at this
    exact ⟨_, this⟩
theorem pi_list {n : Nat} (ih : ∀ x y d e, PI n x → PI n y → toD x = some d → toD y = some e → PyData.eqv d e = true → x = y) : ∀ {ts us : List T} {ds es : List PyData}, (∀ t ∈ ts, PI n t) → (∀ u ∈ us, PI n u) → toDs ts = some ds → toDs us = some es → PyData.eqvAll ds es = true → ts = us
  | [], [], _, _, _, _, _, _, _ => rfl
  | [], u :: us, ds, es, _, _, h1, h2, h => by
    cases h1
    rw [toDs] at h2
    obtain ⟨e, he, h2⟩ := Option.bind_eq_some_iff.mp h2
    obtain ⟨r, hr, rfl⟩ := Option.map_eq_some_iff.mp h2
    rw [PyData.eqvAll] at h
    cases h
  | t :: ts, [], ds, es, _, _, h1, h2, h => by
    cases h2
    rw [toDs] at h1
    obtain ⟨e, he, h1⟩ := Option.bind_eq_some_iff.mp h1
    obtain ⟨r, hr, rfl⟩ := Option.map_eq_some_iff.mp h1
    rw [PyData.eqvAll] at h
    cases h
  | t :: ts, u :: us, ds, es, ht, hu, h1, h2, h => by
    rw [toDs] at h1 h2
    obtain ⟨d, hd, h1⟩ := Option.bind_eq_some_iff.mp h1
    obtain ⟨r, hr, rfl⟩ := Option.map_eq_some_iff.mp h1
    obtain ⟨e, he, h2⟩ := Option.bind_eq_some_iff.mp h2
    obtain ⟨r2, hr2, rfl⟩ := Option.map_eq_some_iff.mp h2
    rw [PyData.eqvAll] at h
    have h := Bool.and_eq_true_iff.mp h
    rw [ih t u d e (ht t List.mem_cons_self) (hu u List.mem_cons_self) hd he h.1, pi_list ih (fun x mx => ht x (List.mem_cons_of_mem _ mx)) (fun x mx => hu x (List.mem_cons_of_mem _ mx)) hr hr2 h.2]
theorem pi_eqv : ∀ (n : Nat) (x y : T) (d e : PyData), PI n x → PI n y → toD x = some d → toD y = some e → PyData.eqv d e = true → x = y := by
  have scal : ∀ (n : Nat) (x y : T) (d e : PyData), PI n x → PI n y → (∀ ts, x ≠ .tup ts) → toD x = some d → toD y = some e → PyData.eqv d e = true → x = y := fun n x y d e hx hy hnt h1 h2 h => by
    cases hx with
    | int n i =>
      cases h1
      cases hy with
      | int n j => cases h2; rw [PyData.eqv] at h; rw [eq_of_beq h]
      | str n w hw => cases h2; rw [PyData.eqv] at h; cases h
      | tup hh =>
        rw [toD] at h2
        obtain ⟨r, hr, rfl⟩ := Option.map_eq_some_iff.mp h2
        rw [PyData.eqv] at h; cases h
    | str n w hw =>
      cases h1
      cases hy with
      | int n j => cases h2; rw [PyData.eqv] at h; cases h
      | str n w hw => cases h2; rw [PyData.eqv] at h; rw [eq_of_beq h]
      | tup hh =>
        rw [toD] at h2
        obtain ⟨r, hr, rfl⟩ := Option.map_eq_some_iff.mp h2
        rw [PyData.eqv] at h; cases h
    | tup hh => exact absurd rfl (hnt _)
  intro n
  induction n with
  | zero =>
    intro x y d e hx hy h1 h2 h
    exact scal 0 x y d e hx hy (fun ts e => by subst e; cases hx) h1 h2 h
  | succ n ih =>
    intro x y d e hx hy h1 h2 h
    by_cases hxt : ∃ ts, x = .tup ts
    · obtain ⟨ts, rfl⟩ := hxt
      rw [toD] at h1
      obtain ⟨ds, hds, rfl⟩ := Option.map_eq_some_iff.mp h1
      cases hx with
      | tup hx =>
        cases hy with
        | int n j => cases h2; rw [PyData.eqv] at h; cases h
        | str n w hw => cases h2; rw [PyData.eqv] at h; cases h
        | tup hy =>
          rw [toD] at h2
          obtain ⟨es, hes, rfl⟩ := Option.map_eq_some_iff.mp h2
          rw [PyData.eqv] at h
          rw [pi_list ih hx hy hds hes h]
    · exact scal (n + 1) x y d e hx hy (fun ts e => hxt ⟨ts, e⟩) h1 h2 h
theorem pi_eq {n : Nat} {ts us : List T} (hx : PI n (.tup ts)) (hy : PI n (.tup us)) (hn : n ≤ 64) : ∃ b : Bool, (∀ S, fEq (.tup ts) (.tup us) S = .ok (.bl b) S) ∧ (b = true → T.tup ts = .tup us) := by
  obtain ⟨d, hd⟩ := hx.ly
  obtain ⟨e, he⟩ := hy.ly
  have s1 : SeqAt.shaped d = true := by
    unfold SeqAt.shaped
    rw [hd.l, decide_eq_true (by have := hd.h; omega)]
    rfl
  have s2 : SeqAt.shaped e = true := by
    unfold SeqAt.shaped
    rw [he.l, decide_eq_true (by have := he.h; omega)]
    rfl
  refine ⟨PyData.eqv d e, fun S => ?_, fun h => pi_eqv n _ _ d e hx hy hd.e he.e h⟩
  have e1 : eqT (.tup ts) (.tup us) = match toD (.tup ts), toD (.tup us) with
    | some d, some e => if (SeqAt.shaped d && SeqAt.shaped e) = true then some (PyData.eqv d e) else none
    | _, _ => none := rfl
  unfold fEq
  rw [e1, hd.e, he.e]
  dsimp only
  rw [s1, s2]
  rfl
theorem SE.pi {ss : List Str} (hs : ∀ w ∈ ss, PyData.strOk w = true) : ∀ e : SE, e.over ss → PI (e.dep + 1) e.t
  | .all, _ => .tup fun t mt => by rw [List.mem_singleton.mp mt]; exact .str _ _ (by decide +kernel)
  | .none, _ => .tup fun t mt => by rw [List.mem_singleton.mp mt]; exact .str _ _ (by decide +kernel)
  | .sec s, h => .tup fun t mt => by
    simp only [List.mem_cons, List.not_mem_nil, or_false] at mt
    rcases mt with rfl | rfl
    · exact .str _ _ (by decide +kernel)
    · exact .str _ _ (hs s h)
  | .not e, h => .tup fun t mt => by
    simp only [List.mem_cons, List.not_mem_nil, or_false] at mt
    rcases mt with rfl | rfl
    · exact .str _ _ (by decide +kernel)
    · exact SE.pi hs e h
  | .and a b, h => .tup fun t mt => by
    simp only [List.mem_cons, List.not_mem_nil, or_false] at mt
    rcases mt with rfl | rfl | rfl
    · exact .str _ _ (by decide +kernel)
    · exact (SE.pi hs a h.1).le (Nat.succ_le_succ (Nat.le_max_left _ _))
    · exact (SE.pi hs b h.2).le (Nat.succ_le_succ (Nat.le_max_right _ _))
  | .or a b, h => .tup fun t mt => by
    simp only [List.mem_cons, List.not_mem_nil, or_false] at mt
    rcases mt with rfl | rfl | rfl
    · exact .str _ _ (by decide +kernel)
    · exact (SE.pi hs a h.1).le (Nat.succ_le_succ (Nat.le_max_left _ _))
    · exact (SE.pi hs b h.2).le (Nat.succ_le_succ (Nat.le_max_right _ _))
theorem rel_str {r : Str} (h : relOk r) : PyData.strOk r = true := by
  rcases h with rfl | rfl <;> decide +kernel
structure Prk (b n W : Nat) (t : T) (d : PyData) : Prop where
  e : toD t = some d
  s : d.showable = true
  h : d.hasDict = false
  l : d.leavesShort (b + 1) = true
  dp : d.depth ≤ n
  w : d.bulk ≤ W
theorem toDs_mapK {α : Type} (f : α → T) (g : α → PyData) : ∀ xs : List α, (∀ x ∈ xs, toD (f x) = some (g x)) → toDs (xs.map f) = some (xs.map g)
  | [], _ => rfl
  | x :: xs, h => by
    rw [List.map_cons, toDs, h x List.mem_cons_self, toDs_mapK f g xs fun y m => h y (List.mem_cons_of_mem _ m)]
    rfl
theorem Prk.int {b : Nat} {i : Int} (hb : 0 < b) (hb2 : b ≤ 1920) (h : i.natAbs < 2 ^ b) : Prk b 0 0 (.int i) (.int i) := by
  have hl : i.natAbs.log2 < b := PySem.Flt.log2_lt_of hb h
  refine ⟨rfl, ?_, ?_, ?_, ?_, ?_⟩
  · rw [PyData.showable]
    exact decide_eq_true (by omega)
  · rw [PyData.hasDict]
  · rw [PyData.leavesShort]
    refine decide_eq_true ?_
    rw [PyData.shown]
    show (Str.ofString (toString i)).length ≤ b + 1
    rw [PySem.ofString_length]
    exact int_text_length_le hb hl
  · rw [PyData.depth]
    omega
  · rw [PyData.bulk]
    exact Nat.le_refl _
theorem Prk.tup {α : Type} {b n W : Nat} {xs : List α} (f : α → T) (g : α → PyData) (h : ∀ x ∈ xs, Prk b n W (f x) (g x)) : Prk b (n + 1) ((W + 1) * xs.length) (.tup (xs.map f)) (.tuple (xs.map g)) := by
  have all : ∀ xs : List α, (∀ x ∈ xs, Prk b n W (f x) (g x)) → PyData.showableAll (xs.map g) = true ∧ PyData.hasDictAll (xs.map g) = false ∧ PyData.leavesShortAll (b + 1) (xs.map g) = true ∧ PyData.depthAll (xs.map g) ≤ n ∧ PyData.bulkAll (xs.map g) ≤ (W + 1) * xs.length := by
    intro xs
    induction xs with
    | nil =>
      intro _
      rw [List.map_nil, PyData.showableAll, PyData.hasDictAll, PyData.leavesShortAll, PyData.depthAll, PyData.bulkAll]
      exact ⟨rfl, rfl, rfl, Nat.zero_le _, Nat.zero_le _⟩
    | cons x xs ih =>
      intro h
      obtain ⟨a1, a2, a3, a4, a5⟩ := ih fun y m => h y (List.mem_cons_of_mem _ m)
      have p := h x List.mem_cons_self
      rw [List.map_cons, PyData.showableAll, PyData.hasDictAll, PyData.leavesShortAll, PyData.depthAll, PyData.bulkAll, p.s, p.h, p.l, a1, a2, a3, List.length_cons, Nat.mul_succ]
      exact ⟨rfl, rfl, rfl, Nat.max_le.mpr ⟨p.dp, a4⟩, by have := p.w; omega⟩
  obtain ⟨a1, a2, a3, a4, a5⟩ := all xs h
  refine ⟨?_, ?_, ?_, ?_, ?_, ?_⟩
  · show (toDs (xs.map f)).map PyData.tuple = _
    rw [toDs_mapK f g xs fun x m => (h x m).e]
    rfl
  · rw [PyData.showable]; exact a1
  · rw [PyData.hasDict]; exact a2
  · rw [PyData.leavesShort]; exact a3
  · rw [PyData.depth]; omega
  · rw [PyData.bulk]; exact a5
theorem Prk.le {b n m W V : Nat} {t : T} {d : PyData} (h : Prk b n W t d) (hn : n ≤ m) (hw : W ≤ V) : Prk b m V t d := ⟨h.e, h.s, h.h, h.l, Nat.le_trans h.dp hn, Nat.le_trans h.w hw⟩
theorem reprK_ev {b n W : Nat} {t : T} {ds : List PyData} (h : Prk b n W t (.tuple ds)) (hb : 7 ≤ b) (hn : n ≤ 63) (hw : (b + 1 + 2) * W + (b + 1) ≤ sizeLine) (S : Sto) : fRepr [t] S = .ok (.str (PyData.tuple ds).shown) S := by
  have hl : (PyData.tuple ds).shown.length ≤ sizeLine := by
    have := PyData.shown_le_bulk (b + 1) (by omega) (.tuple ds) h.l
    have h2 := Nat.mul_le_mul_left (b + 1 + 2) h.w
    omega
  have hd := h.dp
  unfold fRepr
  dsimp only
  rw [h.e]
  dsimp only
  rw [h.s, h.h, decide_eq_true hl, decide_eq_true (by omega : (PyData.tuple ds).depth ≤ 63)]
  rfl
theorem Prk.nm {b : Nat} {w : Str} (h : NmG w) : Prk b 0 13 (.str w) (.str w) := by
  refine ⟨rfl, ?_, ?_, ?_, ?_, ?_⟩
  · rw [PyData.showable]
  · rw [PyData.hasDict]
  · rw [PyData.leavesShort, List.all_eq_true]
    intro c hc
    have := h.low c hc
    unfold Lt at this
    exact decide_eq_true (by have : (16 : Nat) ^ 8 = 4294967296 := by decide
                             omega)
  · rw [PyData.depth]
    omega
  · rw [PyData.bulk]
    exact h.le
structure PrkL (b n W : Nat) (ts : List T) (ds : List PyData) : Prop where
  e : toDs ts = some ds
  s : PyData.showableAll ds = true
  h : PyData.hasDictAll ds = false
  l : PyData.leavesShortAll (b + 1) ds = true
  dp : PyData.depthAll ds ≤ n
  w : PyData.bulkAll ds ≤ W
theorem PrkL.nil {b n : Nat} : PrkL b n 0 [] [] := by
  refine ⟨rfl, ?_, ?_, ?_, ?_, ?_⟩
  · rw [PyData.showableAll]
  · rw [PyData.hasDictAll]
  · rw [PyData.leavesShortAll]
  · rw [PyData.depthAll]; exact Nat.zero_le _
  · rw [PyData.bulkAll]; exact Nat.le_refl _
theorem PrkL.cons {b n W V : Nat} {t : T} {d : PyData} {ts : List T} {ds : List PyData} (p : Prk b n W t d) (q : PrkL b n V ts ds) : PrkL b n (W + V + 1) (t :: ts) (d :: ds) := by
  obtain ⟨a0, a1, a2, a3, a4, a5⟩ := q
  refine ⟨?_, ?_, ?_, ?_, ?_, ?_⟩
  · rw [toDs, p.e, a0]; rfl
  · rw [PyData.showableAll, p.s, a1]; rfl
  · rw [PyData.hasDictAll, p.h, a2]; rfl
  · rw [PyData.leavesShortAll, p.l, a3]; rfl
  · rw [PyData.depthAll]; exact Nat.max_le.mpr ⟨p.dp, a4⟩
  · rw [PyData.bulkAll]
    have := p.w
    omega
theorem PrkL.tup {b n W : Nat} {ts : List T} {ds : List PyData} (q : PrkL b n W ts ds) : Prk b (n + 1) W (.tup ts) (.tuple ds) := by
  refine ⟨?_, ?_, ?_, ?_, ?_, ?_⟩
  · show (toDs ts).map PyData.tuple = _
    rw [q.e]
    rfl
  · rw [PyData.showable]; exact q.s
  · rw [PyData.hasDict]; exact q.h
  · rw [PyData.leavesShort]; exact q.l
  · rw [PyData.depth]; have := q.dp; omega
  · rw [PyData.bulk]; exact q.w
theorem WldG.w {m : Mdl} (g : WldG m) : MdlW m where
  u := {
    sl := g.sl
    nd := g.snd
    kl := by have := g.kl; omega
    o1 := fun k mk => ⟨(g.kg k mk).payer.over, by have := (g.kg k mk).payer.dep; omega⟩
    o2 := fun k mk => ⟨(g.kg k mk).payee.over, by have := (g.kg k mk).payee.dep; omega⟩ }
  nn := by
    have := g.nd
    unfold Mdl.names at this
    exact (List.nodup_append.mp this).1
  es := fun k mk => by
    have := g.al
    exact ⟨(g.kg k mk).given, (g.kg k mk).taken⟩
theorem Prk.wd {b : Nat} {w : Str} (h : (PyData.str w).leavesShort 8 = true) (h2 : (PyData.str w).bulk ≤ 10) (hb : 7 ≤ b) : Prk b 0 10 (.str w) (.str w) := by
  refine ⟨rfl, ?_, ?_, ?_, ?_, h2⟩
  · rw [PyData.showable]
  · rw [PyData.hasDict]
  · rw [PyData.leavesShort] at h ⊢
    exact h
  · rw [PyData.depth]
    omega
def arW : Nat → Nat
  | 0 => 40
  | n + 1 => 2 * arW n + 40
theorem arW_s (n : Nat) : arW (n + 1) = 2 * arW n + 40 := rfl
theorem SE.prk {ss : List Str} (hs : ∀ w ∈ ss, NmG w) {b : Nat} (hb : 7 ≤ b) : ∀ (d : Nat) (e : SE), e.over ss → e.dep ≤ d → ∃ x, Prk b (d + 1) (arW d) e.t (.tuple x)
  | d, .all, _, _ => ⟨_, ((PrkL.cons (Prk.wd (by decide +kernel) (by decide +kernel) hb) .nil).tup).le (by omega) (by cases d with
    | zero => decide
    | succ n => rw [arW_s]; omega)⟩
  | d, .none, _, _ => ⟨_, ((PrkL.cons (Prk.wd (by decide +kernel) (by decide +kernel) hb) .nil).tup).le (by omega) (by cases d with
    | zero => decide
    | succ n => rw [arW_s]; omega)⟩
  | d, .sec s, h, _ => ⟨_, ((PrkL.cons (Prk.wd (by decide +kernel) (by decide +kernel) hb) (.cons (Prk.nm (hs s h)) .nil)).tup).le (by omega) (by cases d with
    | zero => decide
    | succ n => rw [arW_s]; omega)⟩
  | 0, .not e, _, hd => absurd hd (Nat.not_succ_le_zero _)
  | d + 1, .not e, h, hd => by
    obtain ⟨x, hx⟩ := SE.prk hs hb d e h (Nat.le_of_succ_le_succ hd)
    exact ⟨_, ((PrkL.cons ((Prk.wd (by decide +kernel) (by decide +kernel) hb).le (Nat.zero_le (d + 1)) (Nat.le_refl _)) (.cons hx .nil)).tup).le (Nat.le_refl _) (by rw [arW_s]; omega)⟩
  | 0, .and a c, _, hd => absurd hd (Nat.not_succ_le_zero _)
  | d + 1, .and a c, h, hd => by
    have hd : max a.dep c.dep + 1 ≤ d + 1 := hd
    obtain ⟨x, hx⟩ := SE.prk hs hb d a h.1 (by omega)
    obtain ⟨y, hy⟩ := SE.prk hs hb d c h.2 (by omega)
    exact ⟨_, ((PrkL.cons ((Prk.wd (by decide +kernel) (by decide +kernel) hb).le (Nat.zero_le (d + 1)) (Nat.le_refl _)) (.cons hx (.cons hy .nil))).tup).le (Nat.le_refl _) (by rw [arW_s]; omega)⟩
  | 0, .or a c, _, hd => absurd hd (Nat.not_succ_le_zero _)
  | d + 1, .or a c, h, hd => by
    have hd : max a.dep c.dep + 1 ≤ d + 1 := hd
    obtain ⟨x, hx⟩ := SE.prk hs hb d a h.1 (by omega)
    obtain ⟨y, hy⟩ := SE.prk hs hb d c h.2 (by omega)
    exact ⟨_, ((PrkL.cons ((Prk.wd (by decide +kernel) (by decide +kernel) hb).le (Nat.zero_le (d + 1)) (Nat.le_refl _)) (.cons hx (.cons hy .nil))).tup).le (Nat.le_refl _) (by rw [arW_s]; omega)⟩
theorem SE.plD : ∀ e : SE, Pl (e.dep + 1) e.t
  | .all => .tup (by decide) fun t m => by rw [List.mem_singleton.mp m]; exact .str _ _
  | .none => .tup (by decide) fun t m => by rw [List.mem_singleton.mp m]; exact .str _ _
  | .sec s => .tup (by show 2 ≤ 1000000; decide) fun t m => by
    simp only [List.mem_cons, List.not_mem_nil, or_false] at m
    rcases m with rfl | rfl <;> exact .str _ _
  | .not e => .tup (by show 2 ≤ 1000000; decide) fun t m => by
    simp only [List.mem_cons, List.not_mem_nil, or_false] at m
    rcases m with rfl | rfl
    · exact .str _ _
    · exact SE.plD e
  | .and a b => .tup (by show 3 ≤ 1000000; decide) fun t m => by
    simp only [List.mem_cons, List.not_mem_nil, or_false] at m
    rcases m with rfl | rfl | rfl
    · exact .str _ _
    · exact (SE.plD a).le (by show a.dep + 1 ≤ max a.dep b.dep + 1; omega)
    · exact (SE.plD b).le (by show b.dep + 1 ≤ max a.dep b.dep + 1; omega)
  | .or a b => .tup (by show 3 ≤ 1000000; decide) fun t m => by
    simp only [List.mem_cons, List.not_mem_nil, or_false] at m
    rcases m with rfl | rfl | rfl
    · exact .str _ _
    · exact (SE.plD a).le (by show a.dep + 1 ≤ max a.dep b.dep + 1; omega)
    · exact (SE.plD b).le (by show b.dep + 1 ≤ max a.dep b.dep + 1; omega)
def ConD (d : Nat) : Con → Prop
  | .each e ts _ => ts.length ≤ 1000 ∧ e.dep ≤ d
  | .sum ts _ => ts.length ≤ 1000 ∧ ∀ t ∈ ts, t.2.dep ≤ d
theorem Con.plD {d : Nat} {c : Con} (h : ConD d c) : Pl (d + 4) c.t := by
  cases c with
  | each e ts r =>
    refine .tup (by show 4 ≤ 1000000; decide) fun t m => ?_
    simp only [List.mem_cons, List.not_mem_nil, or_false] at m
    rcases m with rfl | rfl | rfl | rfl
    · exact .str _ _
    · exact (SE.plD e).le (by have := h.2; omega)
    · refine .tup (by rw [List.length_map]; have := h.1; omega) fun t m => ?_
      obtain ⟨p, _, rfl⟩ := List.mem_map.mp m
      exact .tup (by show 2 ≤ 1000000; decide) fun t m => by
        simp only [List.mem_cons, List.not_mem_nil, or_false] at m
        rcases m with rfl | rfl
        · exact .int _ _
        · exact .str _ _
    · exact .str _ _
  | sum ts r =>
    refine .tup (by show 3 ≤ 1000000; decide) fun t m => ?_
    simp only [List.mem_cons, List.not_mem_nil, or_false] at m
    rcases m with rfl | rfl | rfl
    · exact .str _ _
    · refine .tup (by rw [List.length_map]; have := h.1; omega) fun t m => ?_
      obtain ⟨p, mp, rfl⟩ := List.mem_map.mp m
      exact .tup (by show 3 ≤ 1000000; decide) fun t m => by
        simp only [List.mem_cons, List.not_mem_nil, or_false] at m
        rcases m with rfl | rfl | rfl
        · exact .int _ _
        · exact .str _ _
        · exact (SE.plD p.2).le (by have := h.2 p mp; omega)
    · exact .str _ _
theorem Clm.plD {d : Nat} {c : Clm} (h1 : c.ps.length ≤ 1000) (h2 : ∀ x ∈ c.ps, ConD d x) (h3 : ConD d c.c) : Pl (d + 6) c.t := by
  refine .tup (by show 2 ≤ 1000000; decide) fun t m => ?_
  simp only [List.mem_cons, List.not_mem_nil, or_false] at m
  rcases m with rfl | rfl
  · refine .tup (by rw [List.length_map]; omega) fun t m => ?_
    obtain ⟨x, mx, rfl⟩ := List.mem_map.mp m
    exact Con.plD (h2 x mx)
  · exact (Con.plD h3).le (by omega)
theorem ConG.d {ss as : List Str} {d : Nat} {c : Con} (h : ConG ss as d c) : ConD d c := by
  cases c with
  | each e ts r => exact ⟨by have := h.2.2.1; omega, h.1.dep⟩
  | sum ts r => exact ⟨by have := h.2.1; omega, fun t m => (h.2.2.1 t m).2.dep⟩
theorem Prk.rel {b : Nat} {r : Str} (h : relOk r) (hb : 7 ≤ b) : Prk b 0 10 (.str r) (.str r) := by
  rcases h with rfl | rfl
  · exact Prk.wd (by decide +kernel) (by decide +kernel) hb
  · exact Prk.wd (by decide +kernel) (by decide +kernel) hb
def CoB (ss as : List Str) : Con → Prop
  | .each e ts r => Ar ss 3 e ∧ 1 ≤ ts.length ∧ ts.length ≤ 12 ∧ (∀ p ∈ ts, p.1.natAbs < 2 ^ 110 ∧ p.2 ∈ as) ∧ relOk r
  | .sum ts r => 1 ≤ ts.length ∧ ts.length ≤ 12 ∧ (∀ p ∈ ts, (p.1.1.natAbs < 2 ^ 110 ∧ p.1.2 ∈ as) ∧ Ar ss 3 p.2) ∧ relOk r
theorem tiny_bits {i : Int} (h : numOk i) : i.natAbs < 2 ^ 110 := Nat.lt_of_lt_of_le (show i.natAbs < 2 ^ 14 by rcases h with h | h <;> omega) (Nat.pow_le_pow_right (by decide) (by decide))
theorem ConG.co {ss as : List Str} {x : Con} (h : ConG ss as 3 x) : CoB ss as x := by
  cases x with
  | each e ts r =>
    obtain ⟨h1, h2, h3, h4, h5⟩ := h
    exact ⟨h1, h2, by omega, fun t mt => ⟨tiny_bits (h4 t mt).1, (h4 t mt).2⟩, h5⟩
  | sum ts r =>
    obtain ⟨h2, h3, h4, h5⟩ := h
    exact ⟨h2, by omega, fun t mt => ⟨⟨tiny_bits (h4 t mt).1.1, (h4 t mt).1.2⟩, (h4 t mt).2⟩, h5⟩
theorem CoB.wr {ss as : List Str} (ha : ∀ w ∈ as, NmG w) {x : Con} (h : CoB ss as x) : Wr ss x := by
  have hr : ∀ {r : Str}, relOk r → r.length ≤ 2 := fun {r} h => by
    rcases h with rfl | rfl <;> decide +kernel
  cases x with
  | each e ts r =>
    obtain ⟨h1, h2, h3, h4, h5⟩ := h
    exact ⟨fun q => by rw [q] at h2; exact absurd h2 (by decide), h3, fun t mt => ⟨(h4 t mt).1, by have := (ha _ (h4 t mt).2).le; omega⟩, h1.over, h1.dep, hr h5⟩
  | sum ts r =>
    obtain ⟨h2, h3, h4, h5⟩ := h
    exact ⟨fun q => by rw [q] at h2; exact absurd h2 (by decide), h3, fun t mt => ⟨⟨(h4 t mt).1.1, by have := (ha _ (h4 t mt).1.2).le; omega⟩, (h4 t mt).2.over, (h4 t mt).2.dep⟩, hr h5⟩
theorem CoB.pi {ss as : List Str} (hs : ∀ w ∈ ss, NmG w) (ha : ∀ w ∈ as, NmG w) {x : Con} (h : CoB ss as x) : PI 27 x.t := by
  have hr : ∀ {r : Str}, relOk r → PyData.strOk r = true := rel_str
  cases x with
  | each e ts rel =>
    obtain ⟨h1, h2, h3, h4, h5⟩ := h
    refine .tup fun t mt => ?_
    simp only [List.mem_cons, List.not_mem_nil, or_false] at mt
    rcases mt with rfl | rfl | rfl | rfl
    · exact .str _ _ (by decide +kernel)
    · exact (SE.pi (fun w mw => (hs w mw).sok) e h1.over).le (by have := h1.dep; omega)
    · refine PI.le (n := 2) (.tup fun t mt => ?_) (by decide)
      obtain ⟨p, mp, rfl⟩ := List.mem_map.mp mt
      refine .tup fun t mt => ?_
      simp only [List.mem_cons, List.not_mem_nil, or_false] at mt
      rcases mt with rfl | rfl
      · exact .int _ _
      · exact .str _ _ (ha _ (h4 p mp).2).sok
    · exact .str _ _ (hr h5)
  | sum ts rel =>
    obtain ⟨h2, h3, h4, h5⟩ := h
    refine .tup fun t mt => ?_
    simp only [List.mem_cons, List.not_mem_nil, or_false] at mt
    rcases mt with rfl | rfl | rfl
    · exact .str _ _ (by decide +kernel)
    · refine .tup fun t mt => ?_
      obtain ⟨p, mp, rfl⟩ := List.mem_map.mp mt
      refine PI.le (n := 25) (.tup fun t mt => ?_) (by decide)
      simp only [List.mem_cons, List.not_mem_nil, or_false] at mt
      rcases mt with rfl | rfl | rfl
      · exact .int _ _
      · exact .str _ _ (ha _ (h4 p mp).1.2).sok
      · exact (SE.pi (fun w mw => (hs w mw).sok) _ (h4 p mp).2.over).le (by have := (h4 p mp).2.dep; omega)
    · exact .str _ _ (hr h5)
theorem CoB.prk {ss as : List Str} (hs : ∀ w ∈ ss, NmG w) (ha : ∀ w ∈ as, NmG w) {x : Con} (h : CoB ss as x) : ∃ y, Prk 110 7 9000 x.t y := by
  have e3 : arW 3 = 600 := by decide
  cases x with
  | each e ts r =>
    obtain ⟨h1, h2, h3, h4, h5⟩ := h
    obtain ⟨y, p⟩ := SE.prk hs (b := 110) (by decide) 3 e h1.over h1.dep
    rw [e3] at p
    have ht : ∀ t ∈ ts, Prk 110 5 620 (pT t) ((toD (pT t)).getD .none) := fun t mt => by
      obtain ⟨h6, h7⟩ := h4 t mt
      have q := (PrkL.cons ((Prk.int (b := 110) (by decide) (by decide) h6).le (Nat.zero_le 4) (Nat.le_refl _)) (.cons ((Prk.nm (ha _ h7)).le (Nat.zero_le 4) (Nat.le_refl _)) .nil)).tup.le (Nat.le_refl 5) (show _ ≤ 620 by decide)
      have q2 : Prk 110 5 620 (pT t) _ := q
      rw [q2.e]
      exact q2
    have hl : (620 + 1) * ts.length ≤ 7452 := by omega
    exact ⟨_, ((PrkL.cons ((Prk.wd (by decide +kernel) (by decide +kernel) (by decide)).le (Nat.zero_le 6) (Nat.le_refl 10)) (.cons (p.le (by decide) (Nat.le_refl _)) (.cons ((Prk.tup pT _ ht).le (Nat.le_refl _) hl) (.cons ((Prk.rel h5 (by decide)).le (Nat.zero_le 6) (Nat.le_refl _)) .nil)))).tup).le (Nat.le_refl _) (by decide)⟩
  | sum ts r =>
    obtain ⟨h2, h3, h4, h5⟩ := h
    have ht : ∀ t ∈ ts, Prk 110 5 620 (qT t) ((toD (qT t)).getD .none) := fun t mt => by
      obtain ⟨h6, h7⟩ := h4 t mt
      obtain ⟨x, p⟩ := SE.prk hs (b := 110) (by decide) 3 t.2 h7.over h7.dep
      rw [e3] at p
      have q := (PrkL.cons ((Prk.int (b := 110) (by decide) (by decide) h6.1).le (Nat.zero_le 4) (Nat.le_refl _)) (.cons ((Prk.nm (ha _ h6.2)).le (Nat.zero_le 4) (Nat.le_refl _)) (.cons p .nil))).tup.le (Nat.le_refl 5) (show _ ≤ 620 by decide)
      have q2 : Prk 110 5 620 (qT t) _ := q
      rw [q2.e]
      exact q2
    have hl : (620 + 1) * ts.length ≤ 7452 := by omega
    exact ⟨_, ((PrkL.cons ((Prk.wd (by decide +kernel) (by decide +kernel) (by decide)).le (Nat.zero_le 6) (Nat.le_refl 10)) (.cons ((Prk.tup qT _ ht).le (Nat.le_refl _) hl) (.cons ((Prk.rel h5 (by decide)).le (Nat.zero_le 6) (Nat.le_refl _)) .nil))).tup).le (Nat.le_refl _) (by decide)⟩
theorem CoB.d {ss as : List Str} {x : Con} (h : CoB ss as x) : ConD 3 x := by
  cases x with
  | each e ts r => exact ⟨by have := h.2.2.1; omega, h.1.dep⟩
  | sum ts r => exact ⟨by have := h.2.1; omega, fun t mt => (h.2.2.1 t mt).2.dep⟩
abbrev Tm := (Int × Str) × SE
def scl (k : Int) (ts : List Tm) : List Tm := ts.map fun t => ((k * t.1.1, t.1.2), t.2)
def risL (ts ms : List Tm) (n d : Int) : List Tm := scl d ts ++ if n = 0 then [] else scl n ms
def risC (ps : List Con) (ts ms : List Tm) (n d : Int) : Clm := ⟨ps, .sum (risL ts ms n d) ">="⟩
structure Frc (n d : Int) : Prop where
  n0 : 0 ≤ n
  n1 : n ≤ 100000000000000000000000000007
  d0 : 1 ≤ d
  d1 : d ≤ 100000000000000000000000000007
theorem times_ev {k : Int} {ts : List Tm} {r : Str} (hl : ts.length ≤ 100) (hs : ∀ t ∈ ts, -9999 ≤ t.1.1 ∧ t.1.1 ≤ 9999) (S : Sto) : F__times [(Con.sum ts r).t, .int k] S = .ok (.tup ((scl k ts).map qT)) S := ok_ev fun Q h => by
  unfold F__times
  refine ok_frame0 (by rw [Fx.cls_cons, Con.cl, Fx.cls_cons]; simp) ?_
  generalize hB : B__times = B
  refine ok_run ?_
  subst hB
  unfold B__times
  have i1 : ∀ S, fIx (Con.sum ts r).t (.int 1) S = .ok (.tup (ts.map qT)) S := fun S => rfl
  have hb : ∀ (t : Tm) (τ : Fx.Env), bindP (.tp [.nm 2, .nm 3, .nm 4]) (qT t) τ = some (((τ.set 2 (some (.int t.1.1))).set 3 (some (.str t.1.2))).set 4 (some t.2.t)) := fun t τ => rfl
  have hit : ∀ (l : List T) S, itOf (.tup l) S = .ok ⟨l, []⟩ S := fun l S => rfl
  try simp_arith only [i1, hit]
  rw [lc_over qT (fun t : Tm => qT ((k * t.1.1, t.1.2), t.2)) ts (by omega) fun t mt => ⟨_, hb _ _, by
    have g := fun S => ev_mul (S := S) (i := k) (j := t.1.1) (by have := hs t mt; omega)
    try simp_arith only [g]
    rfl⟩]
  have et : (scl k ts).map qT = ts.map fun t : Tm => qT ((k * t.1.1, t.1.2), t.2) := by
    unfold scl
    rw [List.map_map]
    rfl
  have hc : Fx.cls 0 ((scl k ts).map qT) = true := cls_all 0 _ fun t mt => by
    obtain ⟨u, _, rfl⟩ := List.mem_map.mp mt
    simp [qT, SE.cl]
  rw [← et]
  try simp_arith only [endQ]
  exact ⟨by rw [thaw_tup, cl_tup]; exact hc, by rw [thaw_tup]; exact h⟩
theorem check_ev {ps : List Con} {ts ms : List Tm} (S : Sto) : F__check_sums [(Clm.mk ps (.sum ts ">=")).t, (Con.sum ms ">=").t] S = .ok .non S := ok_ev fun Q h => by
  unfold F__check_sums
  refine ok_frameX0 (by rw [Fx.cls_cons, Clm.cl, Fx.cls_cons, Con.cl, Fx.cls_nil]; rfl) ?_
  generalize hB : B__check_sums = B
  refine ok_runX ?_
  subst hB
  unfold B__check_sums
  have i1 : ∀ S, fIx (Clm.mk ps (.sum ts ">=")).t (.int 1) S = .ok (Con.sum ts ">=").t S := fun S => rfl
  have j0 : ∀ (ts : List Tm) S, fIx (Con.sum ts ">=").t (.int 0) S = .ok (.str "sum") S := fun ts S => rfl
  have jm : ∀ (ts : List Tm) S, fIx (Con.sum ts ">=").t (.int (-1)) S = .ok (.str ">=") S := fun ts S => rfl
  have hneg : ∀ S, fNeg (.int 1) S = .ok (.int (-1)) S := fun S => rfl
  have hit : ∀ (l : List T) S, itOf (.tup l) S = .ok ⟨l, []⟩ S := fun l S => rfl
  have hss : decide (("sum" : Str) = "sum") = true := decide_eq_true rfl
  have hgg : decide ((">=" : Str) = ">=") = true := decide_eq_true rfl
  try simp_arith only [i1, hit]
  refine ok_for (fun i τ S => ∃ (x2 : Option T), τ = [some (Clm.mk ps (.sum ts ">=")).t, some (Con.sum ms ">=").t, x2] ∧ S = []) ⟨_, rfl, rfl⟩ ?_ ?_
  · rintro i v τ S e ⟨x2, rfl, rfl⟩
    have hv : v = (Con.sum ts ">=").t ∨ v = (Con.sum ms ">=").t := by
      have := List.mem_of_getElem? e
      simp only [List.mem_cons, List.not_mem_nil, or_false] at this
      exact this
    refine ⟨_, bindP_nm _ _ _, ?_⟩
    rcases hv with rfl | rfl
    · try simp_arith only [j0, hneg, jm, hss, hgg, forQ]
      exact ⟨_, rfl, by trivial⟩
    · try simp_arith only [j0, hneg, jm, hss, hgg, forQ]
      exact ⟨_, rfl, by trivial⟩
  · rintro τ S ⟨x2, rfl, rfl⟩
    try simp_arith only [endQ]
    exact ⟨by rfl, h⟩
theorem raised_ev {ps : List Con} {ts ms : List Tm} {n d : Int} (h1 : ts.length ≤ 100) (h2 : ms.length ≤ 100) (s1 : ∀ t ∈ ts, -9999 ≤ t.1.1 ∧ t.1.1 ≤ 9999) (s2 : ∀ t ∈ ms, -9999 ≤ t.1.1 ∧ t.1.1 ≤ 9999) (S : Sto) :
    F_raised [(Clm.mk ps (.sum ts ">=")).t, (Con.sum ms ">=").t, .tup [.int n, .int d]] S = .ok (risC ps ts ms n d).t S := ok_ev fun Q h => by
  unfold F_raised
  refine ok_frameX0 (by rw [Fx.cls_cons, Clm.cl, Fx.cls_cons, Con.cl, Fx.cls_cons]; simp) ?_
  generalize hB : B_raised = B
  refine ok_runX ?_
  subst hB
  unfold B_raised
  have i0 : ∀ S, fIx (Clm.mk ps (.sum ts ">=")).t (.int 0) S = .ok (.tup (ps.map Con.t)) S := fun S => rfl
  have i1 : ∀ S, fIx (Clm.mk ps (.sum ts ">=")).t (.int 1) S = .ok (Con.sum ts ">=").t S := fun S => rfl
  have hb : ∀ (τ : Fx.Env), bindP (.tp [.nm 3, .nm 4]) (.tup [.int n, .int d]) τ = some ((τ.set 3 (some (.int n))).set 4 (some (.int d))) := fun τ => rfl
  have hck := fun S => check_ev (ps := ps) (ts := ts) (ms := ms) S
  have ht1 := fun S => times_ev (k := d) (r := ">=") h1 s1 S
  have ht2 := fun S => times_ev (k := n) (r := ">=") h2 s2 S
  try simp_arith only [hck, asg_ev, hb, i1, ht1]
  by_cases c : n = 0
  · have e1 : risL ts ms n d = scl d ts := by unfold risL; rw [if_pos c, List.append_nil]
    have et : T.tup [.tup (ps.map Con.t), .tup [.str "sum", .tup ((scl d ts).map qT), .str ">="]] = (risC ps ts ms n d).t := by
      unfold risC
      rw [e1]
      rfl
    try simp_arith only [decide_eq_true c, i0, et, endQ]
    exact ⟨by unfold Clm.t; rw [thaw_tup]; exact Clm.cl 0 _, by unfold Clm.t; rw [thaw_tup]; exact h⟩
  · have e1 : risL ts ms n d = scl d ts ++ scl n ms := by unfold risL; rw [if_neg c]
    have et : T.tup [.tup (ps.map Con.t), .tup [.str "sum", .tup ((scl d ts).map qT ++ (scl n ms).map qT), .str ">="]] = (risC ps ts ms n d).t := by
      unfold risC
      rw [e1, ← List.map_append]
      rfl
    try simp_arith only [decide_eq_false c, ht2, mStar, seqOf, List.append_nil]
    rw [if_pos (by unfold scl; rw [List.length_append, List.length_map, List.length_map, List.length_map, List.length_map]; omega)]
    try simp_arith only [i0, et, endQ]
    exact ⟨by unfold Clm.t; rw [thaw_tup]; exact Clm.cl 0 _, by unfold Clm.t; rw [thaw_tup]; exact h⟩
theorem ldue_ev {ps : List Con} {ts ms : List Tm} {n d : Int} (h0 : 0 ≤ n) (h1 : ts.length ≤ 100) (h2 : ms.length ≤ 100) (s1 : ∀ t ∈ ts, -9999 ≤ t.1.1 ∧ t.1.1 ≤ 9999) (s2 : ∀ t ∈ ms, -9999 ≤ t.1.1 ∧ t.1.1 ≤ 9999) (S : Sto) :
    F__law_due_claim [.tup (ps.map Con.t), (Con.sum ts ">=").t, (Con.sum ms ">=").t, .tup [.int n, .int d]] S = .ok (risC ps ts ms n d).t S := ok_ev fun Q h => by
  unfold F__law_due_claim
  refine ok_frame0 (by rw [Fx.cls_cons, cl_tup, cls_all 0 _ fun t mt => by
    obtain ⟨x, _, rfl⟩ := List.mem_map.mp mt
    exact Con.cl 0 x, Fx.cls_cons, Con.cl, Fx.cls_cons, Con.cl]; simp) ?_
  generalize hB : B__law_due_claim = B
  refine ok_run ?_
  subst hB
  unfold B__law_due_claim
  have i1 : ∀ (ts : List Tm) S, fIx (Con.sum ts ">=").t (.int 1) S = .ok (.tup (ts.map qT)) S := fun ts S => rfl
  have f0 : ∀ S, fIx (.tup [.int n, .int d]) (.int 0) S = .ok (.int n) S := fun S => rfl
  have f1 : ∀ S, fIx (.tup [.int n, .int d]) (.int 1) S = .ok (.int d) S := fun S => rfl
  have u0 : ∀ (u : Tm) S, fIx (qT u) (.int 0) S = .ok (.int u.1.1) S := fun u S => rfl
  have u1 : ∀ (u : Tm) S, fIx (qT u) (.int 1) S = .ok (.str u.1.2) S := fun u S => rfl
  have u2 : ∀ (u : Tm) S, fIx (qT u) (.int 2) S = .ok u.2.t S := fun u S => rfl
  have hit : ∀ (l : List T) S, itOf (.tup l) S = .ok ⟨l, []⟩ S := fun l S => rfl
  have et : ∀ (k : Int) (ts : List Tm), (scl k ts).map qT = ts.map fun t : Tm => qT ((k * t.1.1, t.1.2), t.2) := fun k ts => by
    unfold scl
    rw [List.map_map]
    rfl
  try simp_arith only [i1, hit]
  rw [lc_over qT (fun t : Tm => qT ((d * t.1.1, t.1.2), t.2)) ts (by omega) fun t mt => ⟨_, bindP_nm _ _ _, by
    have g := fun S => ev_mul (S := S) (i := d) (j := t.1.1) (by have := s1 t mt; omega)
    try simp_arith only [f1, u0, u1, u2, g]
    rfl⟩]
  rw [← et]
  try simp_arith only [f0]
  have htl : ∀ (l : List T) S, fTuple [.lst l] S = .ok (.tup l) S := fun l S => rfl
  by_cases c : n = 0
  · have c' : ¬ (0 : Int) < n := by omega
    have e1 : risL ts ms n d = scl d ts := by unfold risL; rw [if_pos c, List.append_nil]
    have et : T.tup [.tup (ps.map Con.t), .tup [.str "sum", .tup ((scl d ts).map qT), .str ">="]] = (risC ps ts ms n d).t := by
      unfold risC
      rw [e1]
      rfl
    try simp_arith only [decide_eq_false c', htl, et, endQ]
    exact ⟨by unfold Clm.t; rw [thaw_tup]; exact Clm.cl 0 _, by unfold Clm.t; rw [thaw_tup]; exact h⟩
  · have c' : (0 : Int) < n := by omega
    have e1 : risL ts ms n d = scl d ts ++ scl n ms := by unfold risL; rw [if_neg c]
    have et2 : T.tup [.tup (ps.map Con.t), .tup [.str "sum", .tup ((scl d ts).map qT ++ (scl n ms).map qT), .str ">="]] = (risC ps ts ms n d).t := by
      unfold risC
      rw [e1, ← List.map_append]
      rfl
    try simp_arith only [decide_eq_true c', i1, hit]
    rw [lc_over qT (fun t : Tm => qT ((n * t.1.1, t.1.2), t.2)) ms (by omega) fun t mt => ⟨_, bindP_nm _ _ _, by
      have g := fun S => ev_mul (S := S) (i := n) (j := t.1.1) (by have := s2 t mt; omega)
      try simp_arith only [f0, u0, u1, u2, g]
      rfl⟩]
    rw [← et]
    have hla : ((scl d ts).map qT).length + ((scl n ms).map qT).length ≤ 1000000 := by
      unfold scl
      rw [List.length_map, List.length_map, List.length_map, List.length_map]
      omega
    have hadd : ∀ S, fAddA true (.lst ((scl d ts).map qT)) (.lst ((scl n ms).map qT)) S = .ok (.lst ((scl d ts).map qT ++ (scl n ms).map qT)) S := fun S => by
      rw [ev_addL, if_pos (by unfold scl; rw [List.length_map, List.length_map, List.length_map, List.length_map]; omega)]
      rfl
    try simp_arith only [hadd, htl, et2, endQ]
    exact ⟨by unfold Clm.t; rw [thaw_tup]; exact Clm.cl 0 _, by unfold Clm.t; rw [thaw_tup]; exact h⟩
theorem pw29 (S : Sto) : fPow (.int 10) (.int 29) S = .ok (.int 100000000000000000000000000000) S := id rfl
theorem lfrac80 {D : Nat} {a b : Int} (ha : 0 ≤ a) (hb : 0 < b) (h9 : b.natAbs < 2 ^ 9000) (S : Sto) : ∃ n d : Int, (0 ≤ n ∧ n ≤ a ∧ 1 ≤ d ∧ d ≤ b) ∧ F__law_fraction (D + 1) [.int a, .int b] S = .ok (.tup [.int n, .int d]) S := by
  have hg := gcd_pos_r (a := a) hb
  have hl := gcd_le_r (a := a) hb
  have d1 : ((Nat.gcd a.natAbs b.natAbs : Nat) : Int) ∣ a := Int.ofNat_dvd_left.mpr (Nat.gcd_dvd_left ..)
  have d2 : ((Nat.gcd a.natAbs b.natAbs : Nat) : Int) ∣ b := Int.ofNat_dvd_left.mpr (Nat.gcd_dvd_right ..)
  generalize hG : Nat.gcd a.natAbs b.natAbs = g at *
  obtain ⟨n, hn⟩ := d1
  obtain ⟨d, hd⟩ := d2
  have hg' : (1 : Int) ≤ (g : Int) := by omega
  have hn0 : 0 ≤ n := by
    refine Int.not_lt.mp fun c => ?_
    have := Int.mul_neg_of_pos_of_neg (show (0 : Int) < g by omega) c
    omega
  have hd0 : 1 ≤ d := by
    refine Int.not_lt.mp fun c => ?_
    have := Int.mul_nonneg (show (0 : Int) ≤ g by omega) (show 0 ≤ -d by omega)
    rw [Int.mul_neg] at this
    omega
  have hna : n ≤ a := by
    have := Int.mul_le_mul_of_nonneg_right hg' hn0
    omega
  have hdb : d ≤ b := by
    have := Int.mul_le_mul_of_nonneg_right hg' (show 0 ≤ d by omega)
    omega
  refine ⟨n, d, ⟨hn0, hna, hd0, hdb⟩, ok_ev fun Q h => ?_⟩
  rw [F__law_fraction]
  refine ok_frame0 (by simp) (ok_run ?_)
  unfold B__law_fraction
  have hgc := fun S => lgcd_ev a b S
  rw [hG] at hgc
  have e1 := fun S => ev_divZ (i := a) (j := (g : Int)) (q := n) (b := 9000) (by omega) hn (by rw [Int.natAbs_natCast]; exact Nat.lt_of_le_of_lt hl h9) (by decide) (Nat.le_refl _) S
  have e2 := fun S => ev_divZ (i := b) (j := (g : Int)) (q := d) (b := 9000) (by omega) hd (by rw [Int.natAbs_natCast]; exact Nat.lt_of_le_of_lt hl h9) (by decide) (Nat.le_refl _) S
  try simp_arith only [decide_eq_false (show ¬ b < 0 by omega), hgc, e1, e2, endQ]
  exact ⟨by simp, by rw [thaw_tup]; exact h⟩
theorem ratio_ok {t : Tp} {rest : Sto} {Q : T → Sto → Prop} (hp : 0 ≤ t.pl) (h : ∀ (n d : Int) (t' : Tp), 0 ≤ t'.pl → Frc n d → Q (.tup [.int n, .int d]) (t'.o :: rest)) : Ok (F__law_ratio [.ref 0] (t.o :: rest)) Q := by
  unfold F__law_ratio
  refine ok_frame1 (by simp) t.clO ?_
  generalize hB : B__law_ratio = B
  refine ok_run ?_
  subst hB
  unfold B__law_ratio
  have hadd : ∀ (i j : Int) (S : Sto), fAddA true (.int i) (.int j) S = .ok (.int (i + j)) S := fun i j S => rfl
  have hnL : ∀ (l : List T) S, newL true l S = .ok (.lst l) S := fun l S => rfl
  try simp_arith only [pw29]
  refine draw_ok hp (by decide) fun i t1 hp1 hi0 hi => ?_
  have h1 : ∃ v : Int, (0 ≤ v ∧ v ≤ 100000000000000000000000000007) ∧ L2.atI [T.int 0, .int 1, .int 2, .int 3, .int 7, .int (100000000000000000000000000000 + 1)] i = some (.int v) := by
    have : i = 0 ∨ i = 1 ∨ i = 2 ∨ i = 3 ∨ i = 4 ∨ i = 5 := by omega
    rcases this with rfl | rfl | rfl | rfl | rfl | rfl
    · exact ⟨0, by decide, rfl⟩
    · exact ⟨1, by decide, rfl⟩
    · exact ⟨2, by decide, rfl⟩
    · exact ⟨3, by decide, rfl⟩
    · exact ⟨7, by decide, rfl⟩
    · exact ⟨100000000000000000000000000001, by decide, rfl⟩
  obtain ⟨a, ha, hat⟩ := h1
  have hix : ∀ (l : List T) (i : Int) S, fIx (.lst l) (.int i) S = match L2.atI l i with
      | some t => .ok t S
      | none => .bad := fun l i S => rfl
  try simp_arith only [hat, pw29]
  refine draw_ok hp1 (by decide) fun j t2 hp2 hj0 hj => ?_
  have h2 : ∃ v : Int, (1 ≤ v ∧ v ≤ 100000000000000000000000000007) ∧ L2.atI [T.int 1, .int 1, .int 2, .int 3, .int 10, .int (100000000000000000000000000000 + 7)] j = some (.int v) := by
    have : j = 0 ∨ j = 1 ∨ j = 2 ∨ j = 3 ∨ j = 4 ∨ j = 5 := by omega
    rcases this with rfl | rfl | rfl | rfl | rfl | rfl
    · exact ⟨1, by decide, rfl⟩
    · exact ⟨1, by decide, rfl⟩
    · exact ⟨2, by decide, rfl⟩
    · exact ⟨3, by decide, rfl⟩
    · exact ⟨10, by decide, rfl⟩
    · exact ⟨100000000000000000000000000007, by decide, rfl⟩
  obtain ⟨b, hb, hbt⟩ := h2
  have fr := fun S => lfrac80 (D := 23) (a := a) (b := b) ha.1 (by omega) (Nat.lt_of_lt_of_le (show b.natAbs < 2 ^ 100 by omega) (Nat.pow_le_pow_right (by decide) (by decide))) S
  obtain ⟨n, d, hnd, hf⟩ := fr [t2.o]
  try simp_arith only [hbt, hf, endQ]
  exact ⟨t2.o, _, rfl, t2.clO, by simp, by rw [thaw_tup]; exact h n d t2 hp2 ⟨hnd.1, by omega, hnd.2.2.1, by omega⟩⟩
structure K80 (m : Mdl) (ps : List Con) (ts ms : List Tm) : Prop where
  g : WldG m
  pl : ps.length ≤ 2
  pg : ∀ x ∈ ps, ConG m.ss m.as 3 x
  tg : ConG m.ss m.as 3 (.sum ts ">=")
  mg : ConG m.ss m.as 3 (.sum ms ">=")
theorem num9 {n : Int} (h : numOk n) : -9999 ≤ n ∧ n ≤ 9999 := by rcases h with h | h <;> omega
theorem tms_small {ss as : List Str} {ts : List Tm} {r : Str} (h : ConG ss as 3 (.sum ts r)) : ts.length ≤ 6 ∧ ∀ t ∈ ts, -9999 ≤ t.1.1 ∧ t.1.1 ≤ 9999 := ⟨h.2.1, fun t mt => num9 (h.2.2.1 t mt).1.1⟩
theorem scl_co {ss as : List Str} {ts : List Tm} {r : Str} {k : Int} (h : ConG ss as 3 (.sum ts r)) (hk : 0 ≤ k ∧ k ≤ 100000000000000000000000000007) : ∀ t ∈ scl k ts, (t.1.1.natAbs < 2 ^ 110 ∧ t.1.2 ∈ as) ∧ Ar ss 3 t.2 := fun t mt => by
  obtain ⟨u, mu, rfl⟩ := List.mem_map.mp mt
  have h1 := h.2.2.1 u mu
  refine ⟨⟨?_, h1.1.2⟩, h1.2⟩
  have h2 := num9 h1.1.1
  show (k * u.1.1).natAbs < 2 ^ 110
  rw [Int.natAbs_mul]
  exact Nat.lt_of_le_of_lt (Nat.mul_le_mul (show k.natAbs ≤ 100000000000000000000000000007 by omega) (show u.1.1.natAbs ≤ 9999 by omega)) (by decide)
theorem ris_co {ss as : List Str} {ps : List Con} {ts ms : List Tm} {n d : Int} (ht : ConG ss as 3 (.sum ts ">=")) (hm : ConG ss as 3 (.sum ms ">=")) (f : Frc n d) : CoB ss as (risC ps ts ms n d).c := by
  have h1 := tms_small ht
  have h2 := tms_small hm
  have hs : ∀ k (l : List Tm), (scl k l).length = l.length := fun k l => by unfold scl; rw [List.length_map]
  have h3 : 1 ≤ ts.length := ht.1
  have hl : 1 ≤ (risL ts ms n d).length ∧ (risL ts ms n d).length ≤ 12 := by
    unfold risL
    rw [List.length_append, hs]
    split
    · rw [List.length_nil]; omega
    · rw [hs]; omega
  refine ⟨hl.1, hl.2, fun t mt => ?_, .inl rfl⟩
  unfold risL at mt
  rcases List.mem_append.mp mt with mt | mt
  · exact scl_co ht ⟨by have := f.d0; omega, f.d1⟩ t mt
  · split at mt
    · exact nomatch mt
    · exact scl_co hm ⟨f.n0, f.n1⟩ t mt
theorem val_scl (ss : List Str) (pf : List Nat) (ds : List Dl) (k : Int) (ts : List Tm) : valS ss pf ds (scl k ts) = k * valS ss pf ds ts := by
  unfold valS scl
  rw [List.map_map, ← sum_mul']
  congr 1
  refine List.map_congr_left fun t _ => ?_
  show k * t.1.1 * _ = k * (t.1.1 * _)
  rw [Int.mul_assoc]
theorem val_ris (ss : List Str) (pf : List Nat) (ds : List Dl) (ts ms : List Tm) (n d : Int) : valS ss pf ds (risL ts ms n d) = d * valS ss pf ds ts + n * valS ss pf ds ms := by
  have ha : ∀ a b : List Tm, valS ss pf ds (a ++ b) = valS ss pf ds a + valS ss pf ds b := fun a b => by
    unfold valS
    rw [List.map_append, List.sum_append]
  unfold risL
  rw [ha, val_scl]
  by_cases c : n = 0
  · rw [if_pos c, c, Int.zero_mul]
    rfl
  · rw [if_neg c, val_scl]
theorem val_bd {m : Mdl} {pf : List Nat} {ds : List Dl} (hm : MdlW m) (h : LedG m pf ds) (hb : ∀ d ∈ ds, d.n < 2 ^ 200) {ts : List Tm} (hl : ts.length ≤ 12) (hs : ∀ t ∈ ts, -9999 ≤ t.1.1 ∧ t.1.1 ≤ 9999) : (valS m.ss pf ds ts).natAbs < 2 ^ 300 := by
  have h1 := sum_bd (B := 9999 * 2 ^ 240) (f := fun t : Tm => t.1.1 * ((memP m.ss pf t.2).map fun i => balZ ds i t.1.2).sum) (by decide) (l := ts) fun t mt => by
    have a := bals_bd hm h hb t.2 t.1.2
    have b := hs t mt
    have q : (t.1.1 * ((memP m.ss pf t.2).map fun i => balZ ds i t.1.2).sum).natAbs ≤ 9999 * 2 ^ 240 := by
      rw [Int.natAbs_mul]
      exact Nat.mul_le_mul (by omega) (by omega)
    omega
  have e : valS m.ss pf ds ts = (ts.map fun t : Tm => t.1.1 * ((memP m.ss pf t.2).map fun i => balZ ds i t.1.2).sum).sum := rfl
  rw [e]
  omega
theorem K80.shw {m : Mdl} {ps : List Con} {ts ms : List Tm} {n d : Int} (h : K80 m ps ts ms) (f : Frc n d) : ∃ b, Shw m.ss b (risC ps ts ms n d) := by
  obtain ⟨b, hb, -⟩ := pi_eq (n := 28) (ts := (risC ps ts ms n d).ps.map Con.t) (us := []) (.tup fun t mt => by
    obtain ⟨x, mx, rfl⟩ := List.mem_map.mp mt
    exact CoB.pi h.g.snm h.g.anm (ConG.co (h.pg x mx))) (.tup fun t mt => nomatch mt) (by decide)
  exact ⟨b, by show ps.length ≤ 24; have := h.pl; omega, fun x mx => CoB.wr h.g.anm (ConG.co (h.pg x mx)), CoB.wr h.g.anm (ris_co h.tg h.mg f), hb⟩
theorem K80.repr {m : Mdl} {ps : List Con} {ts ms : List Tm} {n d : Int} (h : K80 m ps ts ms) (f : Frc n d) : ∃ z : Str, ∀ S, fRepr [(risC ps ts ms n d).t] S = .ok (.str z) S := by
  have hp : ∀ y ∈ ps, Prk 110 7 9000 y.t ((toD y.t).getD .none) := fun y my => by
    obtain ⟨x, hx⟩ := CoB.prk h.g.snm h.g.anm (ConG.co (h.pg y my))
    rw [hx.e]
    exact hx
  obtain ⟨x, hx⟩ := CoB.prk h.g.snm h.g.anm (ris_co (ps := ps) h.tg h.mg f)
  have hl : (9000 + 1) * ps.length ≤ 18002 := by have := h.pl; omega
  have q := (PrkL.cons ((Prk.tup Con.t _ hp).le (Nat.le_refl 8) hl) (.cons (hx.le (by decide) (Nat.le_refl _)) .nil)).tup
  have et : T.tup [.tup (ps.map Con.t), (risC ps ts ms n d).c.t] = (risC ps ts ms n d).t := rfl
  rw [et] at q
  exact ⟨_, fun S => reprK_ev q (by decide) (by decide) (by rw [sizeLine_eq]; decide) S⟩
theorem ris_same {m : Mdl} {ps : List Con} {ts ms : List Tm} {n d : Int} (hl : ps.length ≤ 2) (hp : ∀ x ∈ ps, ConG m.ss m.as 3 x) (ht : ConG m.ss m.as 3 (.sum ts ">=")) (hm : ConG m.ss m.as 3 (.sum ms ">=")) (f : Frc n d) (S : Sto) : F__law_same 24 [(risC ps ts ms n d).t, (risC ps ts ms n d).t] S = .ok (.bl true) S := ok_ev fun Q q =>
  same_yes (d := 23) (Clm.plD (d := 3) (by show ps.length ≤ 1000; omega) (fun x mx => CoB.d (ConG.co (hp x mx))) (CoB.d (ris_co (ps := ps) ht hm f))) (by decide) q
abbrev End80 : Fl → Sto → Prop := endQ fun t S1 => Fx.cl 0 (thaw 0 true t S1) = true ∧ thaw 0 true t S1 = .bl true
abbrev nas : Exn := ⟨"NotASum", false, [], []⟩
theorem rerr {a b c : T} (hc : Fx.cls 0 [a, b, c] = true) (hk : ∀ S, F__check_sums [a, b] S = .err nas S) (S : Sto) : F_raised [a, b, c] S = .err nas S := by
  unfold F_raised frameX
  rw [ifP_t ⟨Nat.zero_le _, hc, rfl⟩]
  have h : runFX 6 B_raised [a, b, c] (S.take 0) = .err nas [] := by
    have hm : (mFn (fun ts S => if ts.length = 2 then F__check_sums ts S else .bad) (mCons (mVar 0) (mCons (mVar 1) mNil))) ([a, b, c].map some ++ List.replicate (6 - [a, b, c].length) none) [] = .err nas [] := hk []
    have hseq : ∀ (x y : Fx.Env → Sto → Fx.R Fl) (τ : Fx.Env) (S S1 : Sto), x τ S = .err nas S1 → sSeq x y τ S = .err nas S1 := fun x y τ S S1 h => by
      show (x τ S).bind _ = _
      rw [h]
      rfl
    have hdr : ∀ (x : Fx.Env → Sto → Fx.R T) (τ : Fx.Env) (S S1 : Sto), x τ S = .err nas S1 → sDrop x τ S = .err nas S1 := fun x τ S S1 h => by
      show (x τ S).bind _ = _
      rw [h]
      rfl
    rw [show S.take 0 = ([] : Sto) from rfl]
    unfold runFX B_raised
    rw [hseq _ _ _ _ _ (hdr _ _ _ _ hm)]
    rfl
  rw [h]
  dsimp only
  rw [ifP_t ⟨Nat.zero_le _, rfl, rfl⟩]
  rfl
noncomputable def tsE : Fx.Env → Sto → Fx.R Bool := mOr (mTst (mBin fNe (mBin fIx (mVar 2) (mC (.int 0))) (mC (.str "sum")))) (mTst (mBin fNe (mBin fIx (mVar 2) (mUn fNeg (mC (.int 1)))) (mC (.str ">="))))
theorem ts_each (x0 x1 : Option T) (e : SE) (us : List (Int × Str)) (r : Str) (S : Sto) : tsE [x0, x1, some (Con.each e us r).t] S = .ok true S := by
  have j0 : ∀ S, fIx (Con.each e us r).t (.int 0) S = .ok (.str "each") S := fun S => rfl
  have hse : decide (("each" : Str) = "sum") = false := by decide +kernel
  unfold tsE
  simp_arith only [j0, hse]
theorem ts_sum (x0 x1 : Option T) (us : List Tm) (S : Sto) : tsE [x0, x1, some (Con.sum us "=").t] S = .ok true S := by
  have j0 : ∀ S, fIx (Con.sum us "=").t (.int 0) S = .ok (.str "sum") S := fun S => rfl
  have jm : ∀ S, fIx (Con.sum us "=").t (.int (-1)) S = .ok (.str "=") S := fun S => rfl
  have hneg : ∀ S, fNeg (.int 1) S = .ok (.int (-1)) S := fun S => rfl
  have hss : decide (("sum" : Str) = "sum") = true := decide_eq_true rfl
  have hse : decide (("=" : Str) = ">=") = false := by decide +kernel
  unfold tsE
  simp_arith only [j0, hneg, jm, hss, hse]
theorem ts_ok (x0 x1 : Option T) (us : List Tm) (S : Sto) : tsE [x0, x1, some (Con.sum us ">=").t] S = .ok false S := by
  have j0 : ∀ S, fIx (Con.sum us ">=").t (.int 0) S = .ok (.str "sum") S := fun S => rfl
  have jm : ∀ S, fIx (Con.sum us ">=").t (.int (-1)) S = .ok (.str ">=") S := fun S => rfl
  have hneg : ∀ S, fNeg (.int 1) S = .ok (.int (-1)) S := fun S => rfl
  have hss : decide (("sum" : Str) = "sum") = true := decide_eq_true rfl
  have hse : decide ((">=" : Str) = ">=") = true := decide_eq_true rfl
  unfold tsE
  simp_arith only [j0, hneg, jm, hss, hse]
theorem bad_first {ts0 : List T} {v : T} {us : List T} {x0 x1 x2 : Option T} {S : Sto} (hv : tsE [x0, x1, some v] S = .ok true S) : sForGo ⟨ts0, []⟩ (.nm 2) (sIf tsE (mRaise0 "NotASum") sNext) (v :: us) [x0, x1, x2] S = .err nas S := by
  rw [sForGo, ifP_t (chk_nil _ _)]
  have h : sIf tsE (mRaise0 "NotASum") sNext [x0, x1, some v] S = .err nas S := by
    show (tsE _ S).bind _ = _
    rw [hv]
    rfl
  show ((sIf tsE (mRaise0 "NotASum") sNext [x0, x1, some v] S).bind _) = _
  rw [h]
  rfl
theorem bad_next {ts0 : List T} {v w : T} {us : List T} {x0 x1 x2 : Option T} {S : Sto} (hv : tsE [x0, x1, some v] S = .ok false S) (hw : tsE [x0, x1, some w] S = .ok true S) : sForGo ⟨ts0, []⟩ (.nm 2) (sIf tsE (mRaise0 "NotASum") sNext) (v :: w :: us) [x0, x1, x2] S = .err nas S := by
  rw [sForGo, ifP_t (chk_nil _ _)]
  have h : sIf tsE (mRaise0 "NotASum") sNext [x0, x1, some v] S = .ok (.nx [x0, x1, some v]) S := by
    show (tsE _ S).bind _ = _
    rw [hv]
    rfl
  show ((sIf tsE (mRaise0 "NotASum") sNext [x0, x1, some v] S).bind _) = _
  rw [h]
  exact bad_first hw
theorem cerr1 {ps : List Con} {e : SE} {us : List (Int × Str)} {r : Str} {ms : List Tm} (S : Sto) : F__check_sums [(Clm.mk ps (.each e us r)).t, (Con.sum ms ">=").t] S = .err nas S := by
  unfold F__check_sums frameX
  rw [ifP_t ⟨Nat.zero_le _, by rw [Fx.cls_cons, Clm.cl, Fx.cls_cons, Con.cl, Fx.cls_nil]; rfl, rfl⟩]
  have h : runFX 3 B__check_sums [(Clm.mk ps (.each e us r)).t, (Con.sum ms ">=").t] (S.take 0) = .err nas [] := by
    rw [show S.take 0 = ([] : Sto) from rfl]
    have hb : B__check_sums [some (Clm.mk ps (.each e us r)).t, some (Con.sum ms ">=").t, none] [] = .err nas [] := by
      show sForGo ⟨[(Con.each e us r).t, (Con.sum ms ">=").t], []⟩ (.nm 2) (sIf tsE (mRaise0 "NotASum") sNext) [(Con.each e us r).t, (Con.sum ms ">=").t] [some (Clm.mk ps (.each e us r)).t, some (Con.sum ms ">=").t, none] [] = _
      exact bad_first (ts_each _ _ e us r _)
    show (B__check_sums [some (Clm.mk ps (.each e us r)).t, some (Con.sum ms ">=").t, none] []).bind _ = _
    rw [hb]
    rfl
  rw [h]
  dsimp only
  rw [ifP_t ⟨Nat.zero_le _, rfl, rfl⟩]
  rfl
theorem cerr2 {ps : List Con} {us : List Tm} {ms : List Tm} (S : Sto) : F__check_sums [(Clm.mk ps (.sum us "=")).t, (Con.sum ms ">=").t] S = .err nas S := by
  unfold F__check_sums frameX
  rw [ifP_t ⟨Nat.zero_le _, by rw [Fx.cls_cons, Clm.cl, Fx.cls_cons, Con.cl, Fx.cls_nil]; rfl, rfl⟩]
  have h : runFX 3 B__check_sums [(Clm.mk ps (.sum us "=")).t, (Con.sum ms ">=").t] (S.take 0) = .err nas [] := by
    rw [show S.take 0 = ([] : Sto) from rfl]
    have hb : B__check_sums [some (Clm.mk ps (.sum us "=")).t, some (Con.sum ms ">=").t, none] [] = .err nas [] := by
      show sForGo ⟨[(Con.sum us "=").t, (Con.sum ms ">=").t], []⟩ (.nm 2) (sIf tsE (mRaise0 "NotASum") sNext) [(Con.sum us "=").t, (Con.sum ms ">=").t] [some (Clm.mk ps (.sum us "=")).t, some (Con.sum ms ">=").t, none] [] = _
      exact bad_first (ts_sum _ _ us _)
    show (B__check_sums [some (Clm.mk ps (.sum us "=")).t, some (Con.sum ms ">=").t, none] []).bind _ = _
    rw [hb]
    rfl
  rw [h]
  dsimp only
  rw [ifP_t ⟨Nat.zero_le _, rfl, rfl⟩]
  rfl
theorem cerr3 {ps : List Con} {e : SE} {us : List (Int × Str)} {r : Str} {ts : List Tm} (S : Sto) : F__check_sums [(Clm.mk ps (.sum ts ">=")).t, (Con.each e us r).t] S = .err nas S := by
  unfold F__check_sums frameX
  rw [ifP_t ⟨Nat.zero_le _, by rw [Fx.cls_cons, Clm.cl, Fx.cls_cons, Con.cl, Fx.cls_nil]; rfl, rfl⟩]
  have h : runFX 3 B__check_sums [(Clm.mk ps (.sum ts ">=")).t, (Con.each e us r).t] (S.take 0) = .err nas [] := by
    rw [show S.take 0 = ([] : Sto) from rfl]
    have hb : B__check_sums [some (Clm.mk ps (.sum ts ">=")).t, some (Con.each e us r).t, none] [] = .err nas [] := by
      show sForGo ⟨[(Con.sum ts ">=").t, (Con.each e us r).t], []⟩ (.nm 2) (sIf tsE (mRaise0 "NotASum") sNext) [(Con.sum ts ">=").t, (Con.each e us r).t] [some (Clm.mk ps (.sum ts ">=")).t, some (Con.each e us r).t, none] [] = _
      exact bad_next (ts_ok _ _ ts _) (ts_each _ _ e us r _)
    show (B__check_sums [some (Clm.mk ps (.sum ts ">=")).t, some (Con.each e us r).t, none] []).bind _ = _
    rw [hb]
    rfl
  rw [h]
  dsimp only
  rw [ifP_t ⟨Nat.zero_le _, rfl, rfl⟩]
  rfl
theorem cerr4 {ps : List Con} {us : List Tm} {ts : List Tm} (S : Sto) : F__check_sums [(Clm.mk ps (.sum ts ">=")).t, (Con.sum us "=").t] S = .err nas S := by
  unfold F__check_sums frameX
  rw [ifP_t ⟨Nat.zero_le _, by rw [Fx.cls_cons, Clm.cl, Fx.cls_cons, Con.cl, Fx.cls_nil]; rfl, rfl⟩]
  have h : runFX 3 B__check_sums [(Clm.mk ps (.sum ts ">=")).t, (Con.sum us "=").t] (S.take 0) = .err nas [] := by
    rw [show S.take 0 = ([] : Sto) from rfl]
    have hb : B__check_sums [some (Clm.mk ps (.sum ts ">=")).t, some (Con.sum us "=").t, none] [] = .err nas [] := by
      show sForGo ⟨[(Con.sum ts ">=").t, (Con.sum us "=").t], []⟩ (.nm 2) (sIf tsE (mRaise0 "NotASum") sNext) [(Con.sum ts ">=").t, (Con.sum us "=").t] [some (Clm.mk ps (.sum ts ">=")).t, some (Con.sum us "=").t, none] [] = _
      exact bad_next (ts_ok _ _ ts _) (ts_sum _ _ us _)
    show (B__check_sums [some (Clm.mk ps (.sum ts ">=")).t, some (Con.sum us "=").t, none] []).bind _ = _
    rw [hb]
    rfl
  rw [h]
  dsimp only
  rw [ifP_t ⟨Nat.zero_le _, rfl, rfl⟩]
  rfl
theorem ref80 {a b c : T} (hc : Fx.cls 0 [a, b, c] = true) (hr : ∀ S, F_raised [a, b, c] S = .err nas S) (S : Sto) : F__law_is_refused [a, b, c] S = .ok (.bl true) S := ok_ev fun Q h => by
  unfold F__law_is_refused
  refine ok_frame0 hc ?_
  generalize hB : B__law_is_refused = B
  refine ok_run ?_
  subst hB
  unfold B__law_is_refused
  have hm : (mFn (fun ts S => if ts.length = 3 then F_raised ts S else .bad) (mCons (mVar 0) (mCons (mVar 1) (mCons (mVar 2) mNil)))) ([a, b, c].map some ++ List.replicate (4 - [a, b, c].length) none) [] = .err nas [] := hr []
  have hx : exm_NotASum "NotASum" = some true := by decide +kernel
  have hs : sTryX exm_NotASum 3 (mFn (fun ts S => if ts.length = 3 then F_raised ts S else .bad) (mCons (mVar 0) (mCons (mVar 1) (mCons (mVar 2) mNil)))) (sRet (mFn (fun ts S => if ts.length = 1 then F__law_is_plain ts S else .bad) (mCons (mVar 3) mNil))) ([a, b, c].map some ++ List.replicate (4 - [a, b, c].length) none) [] = .ok (.rt (.bl true)) [] := by
    unfold sTryX
    rw [hm]
    dsimp only
    rw [hx]
    dsimp only
    have hp : sRet (mFn (fun ts S => if ts.length = 1 then F__law_is_plain ts S else .bad) (mCons (mVar 3) mNil)) (([a, b, c].map some ++ List.replicate (4 - [a, b, c].length) none).set 3 (some (.exn "NotASum" false [] []))) [] = (F__law_is_plain [nasT] []).bind fun t S => .ok (.rt t) S := rfl
    rw [hp, plain_ev]
    rfl
  have hseq : ∀ (a b : Fx.Env → Sto → Fx.R Fl) (τ : Fx.Env) (S : Sto) (t : T) (S1 : Sto), a τ S = .ok (.rt t) S1 → sSeq a b τ S = .ok (.rt t) S1 := fun a b τ S t S1 h => by
    show (a τ S).bind _ = _
    rw [h]
    rfl
  rw [hseq _ _ _ _ _ _ hs]
  exact ⟨by simp, by rw [thaw_bl]; exact h⟩
theorem cls3 (c : Clm) (x : Con) (n d : Int) : Fx.cls 0 [c.t, x.t, .tup [.int n, .int d]] = true := by rw [Fx.cls_cons, Clm.cl, Fx.cls_cons, Con.cl, Fx.cls_cons]; simp
theorem t14_80 {m : Mdl} {ps : List Con} {ts ms : List Tm} {n d : Int} {x0 x8 x9 x10 x11 x12 : Option T} {t : Tp} {rest : Sto} (hp : 0 ≤ t.pl) (h : K80 m ps ts ms) (f : Frc n d) :
    Ok (B_law_t14 [x0, some (.ref 0), some m.t, some (.tup (ps.map Con.t)), some (Con.sum ts ">=").t, some (Con.sum ms ">=").t, some (.tup [.int n, .int d]), some (risC ps ts ms n d).t, x8, x9, x10, x11, x12, none] (t.o :: rest)) End80 := by
  unfold B_law_t14
  have hsl := h.g.sl
  have hal := h.g.al
  have m0 : ∀ S, fIx m.t (.int 0) S = .ok (strsT m.ss) S := fun S => rfl
  have m1 : ∀ S, fIx m.t (.int 1) S = .ok (strsT m.as) S := fun S => rfl
  have c1 : ∀ S, fIx (Con.sum ts ">=").t (.int 1) S = .ok (.tup (ts.map qT)) S := fun S => rfl
  have hnL : ∀ (l : List T) S, newL true l S = .ok (.lst l) S := fun l S => rfl
  have hil : ∀ (l : List T) S, itOf (.lst l) S = .ok ⟨l, []⟩ S := fun l S => rfl
  have e0 : T.tup [.str "sum", .tup (ts.map qT), .str "="] = (Con.sum ts "=").t := rfl
  have eC : ∀ x : Con, T.tup [.tup (ps.map Con.t), x.t] = (Clm.mk ps x).t := fun x => rfl
  have s1 := tms_small h.tg
  have s2 := tms_small h.mg
  have hra := fun S => raised_ev (ps := ps) (n := n) (d := d) (by omega) (by omega) s1.2 s2.2 S
  obtain ⟨z, hz⟩ := h.repr f
  have hzz : decide (z = z) = true := decide_eq_true rfl
  try simp_arith only [m0, m1]
  refine geach_ok hp (by omega) h.g.al1 (by omega) fun e2 us r2 t2 hp2 hc2 => ?_
  have r1 := fun S => ref80 (cls3 _ _ _ _) (rerr (cls3 _ _ _ _) (cerr1 (ps := ps) (e := e2) (us := us) (r := r2) (ms := ms))) (c := .tup [.int n, .int d]) S
  have r2' := fun S => ref80 (cls3 _ _ _ _) (rerr (cls3 _ _ _ _) (cerr2 (ps := ps) (us := ts) (ms := ms))) (c := .tup [.int n, .int d]) S
  have r3 := fun S => ref80 (cls3 _ _ _ _) (rerr (cls3 _ _ _ _) (cerr3 (ps := ps) (e := e2) (us := us) (r := r2) (ts := ts))) (c := .tup [.int n, .int d]) S
  have r4 := fun S => ref80 (cls3 _ _ _ _) (rerr (cls3 _ _ _ _) (cerr4 (ps := ps) (us := ts) (ts := ts))) (c := .tup [.int n, .int d]) S
  try simp_arith only [c1, e0, hnL, hil]
  refine ok_for (fun i τ S => ∃ x9 : Option T, τ = [x0, some (.ref 0), some m.t, some (.tup (ps.map Con.t)), some (Con.sum ts ">=").t, some (Con.sum ms ">=").t, some (.tup [.int n, .int d]), some (risC ps ts ms n d).t, x8, x9, x10, x11, x12, some (Con.each e2 us r2).t] ∧ S = t2.o :: rest) ⟨_, rfl, rfl⟩ ?_ ?_
  · rintro i v τ S e ⟨x9, rfl, rfl⟩
    have hv : v = (Con.each e2 us r2).t ∨ v = (Con.sum ts "=").t := by
      have := List.mem_of_getElem? e
      simp only [List.mem_cons, List.not_mem_nil, or_false] at this
      exact this
    refine ⟨_, bindP_nm _ _ _, ?_⟩
    rcases hv with rfl | rfl
    · try simp_arith only [eC, r1, r3, fTru_bl, forQ]
      exact ⟨_, rfl, by trivial⟩
    · try simp_arith only [eC, r2', r4, fTru_bl, forQ]
      exact ⟨_, rfl, by trivial⟩
  · rintro τ S ⟨x9, rfl, rfl⟩
    try simp_arith only [eC, hra, hz, hzz, endQ]
    exact ⟨by simp, by simp⟩
theorem t10_80 {m : Mdl} {ps : List Con} {ts ms : List Tm} {n d : Int} {x0 x8 x9 : Option T} {t : Tp} {rest : Sto} (hp : 0 ≤ t.pl) (h : K80 m ps ts ms) (f : Frc n d) :
    Ok (B_law_t10 [x0, some (.ref 0), some m.t, some (.tup (ps.map Con.t)), some (Con.sum ts ">=").t, some (Con.sum ms ">=").t, some (.tup [.int n, .int d]), some (risC ps ts ms n d).t, x8, x9, none, none, none, none] (t.o :: rest)) End80 := by
  generalize hB1 : B_law_t14 = B1
  have key := fun (x9 x10 x11 x12 : Option T) (t : Tp) (hp : 0 ≤ t.pl) => @t14_80 m ps ts ms n d x0 x8 x9 x10 x11 x12 t rest hp h f
  rw [hB1] at key
  unfold B_law_t10
  rw [hB1]
  have hw := h.g.w
  have hal := h.g.al
  have s1 := tms_small h.tg
  have s2 := tms_small h.mg
  have kl := fun (np : Nat) (t : Tp) (Q : T → Sto → Prop) (hp : 0 ≤ t.pl) (hn : np ≤ 100) => @lledger_ok m np 9 t rest Q hp hw.u hn (by decide)
  generalize F__law_ledger = FL at kl ⊢
  try simp_arith only []
  refine draw_ok hp (by decide) fun k t1 hp1 hk0 hk => ?_
  obtain ⟨kn, rfl⟩ := Int.eq_ofNat_of_zero_le hk0
  have e1 : (2 : Int) + (kn : Int) = ((2 + kn : Nat) : Int) := by omega
  try simp_arith only [e1]
  refine kl (2 + kn) t1 _ hp1 (by omega) fun pf ds t2 hp2 L hb hpl => ?_
  have hbk := fun S => lbooks_ev hw (by omega) L S
  have hco := ris_co (ps := ps) h.tg h.mg f
  have i1 : ∀ S, fIx (risC ps ts ms n d).t (.int 1) S = .ok (Con.sum (risL ts ms n d) ">=").t S := fun S => rfl
  have hnL : ∀ (l : List T) S, newL true l S = .ok (.lst l) S := fun l S => rfl
  have hil : ∀ (l : List T) S, itOf (.lst l) S = .ok ⟨l, []⟩ S := fun l S => rfl
  have w3 : ∀ l ∈ [risL ts ms n d, ts, ms], ∀ S, F__law_worth [m.t, ledT m.ss pf ds, booksT m.as ds pf.length, (Con.sum l ">=").t] S = .ok (.int (valS m.ss pf ds l)) S := fun l ml S => by
    have hg : CoB m.ss m.as (.sum l ">=") := by
      simp only [List.mem_cons, List.not_mem_nil, or_false] at ml
      rcases ml with rfl | rfl | rfl
      · exact hco
      · exact ConG.co h.tg
      · exact ConG.co h.mg
    exact lworthW_ev hw L hb ⟨by have := hg.2.1; omega, fun t mt => ⟨(hg.2.2.1 t mt).2.over, by have := (hg.2.2.1 t mt).2.dep; omega⟩⟩ (fun w mw => by
      obtain ⟨u, mu, rfl⟩ := List.mem_map.mp mw
      exact (hg.2.2.1 u mu).1.2) (fun t mt => (hg.2.2.1 t mt).1.1) S
  try simp_arith only [hbk, i1, hnL, hil]
  have eL : ([(Con.sum (risL ts ms n d) ">=").t, (Con.sum ts ">=").t, (Con.sum ms ">=").t] : List T) = [risL ts ms n d, ts, ms].map fun l => (Con.sum l ">=").t := rfl
  rw [eL]
  rw [lc_over (fun l : List Tm => (Con.sum l ">=").t) (fun l => T.int (valS m.ss pf ds l)) [risL ts ms n d, ts, ms] (by show 3 ≤ 100000; decide) fun l ml => ⟨_, bindP_nm _ _ _, by
    have g := w3 l ml
    try simp_arith only [g]⟩]
  have f0 : ∀ S, fIx (.tup [.int n, .int d]) (.int 0) S = .ok (.int n) S := fun S => rfl
  have f1 : ∀ S, fIx (.tup [.int n, .int d]) (.int 1) S = .ok (.int d) S := fun S => rfl
  have v0 : ∀ S, fIx (.lst ([risL ts ms n d, ts, ms].map fun l => T.int (valS m.ss pf ds l))) (.int 0) S = .ok (.int (valS m.ss pf ds (risL ts ms n d))) S := fun S => rfl
  have v1 : ∀ S, fIx (.lst ([risL ts ms n d, ts, ms].map fun l => T.int (valS m.ss pf ds l))) (.int 1) S = .ok (.int (valS m.ss pf ds ts)) S := fun S => rfl
  have v2 : ∀ S, fIx (.lst ([risL ts ms n d, ts, ms].map fun l => T.int (valS m.ss pf ds l))) (.int 2) S = .ok (.int (valS m.ss pf ds ms)) S := fun S => rfl
  have hv1 := val_bd hw L hb (ts := ts) (by omega) s1.2
  have hv2 := val_bd hw L hb (ts := ms) (by omega) s2.2
  have fd0 := f.d0
  have fd1 := f.d1
  have fn0 := f.n0
  have fn1 := f.n1
  have g1 := fun S => ev_mulW (i := d) (j := valS m.ss pf ds ts) (a := 100) (b := 300) (by omega) hv1 (by decide) (by decide) (by decide) S
  have g2 := fun S => ev_mulW (i := n) (j := valS m.ss pf ds ms) (a := 100) (b := 300) (by omega) hv2 (by decide) (by decide) (by decide) S
  have hvr := val_ris m.ss pf ds ts ms n d
  rw [hvr] at v0
  have hdd : decide (d * valS m.ss pf ds ts + n * valS m.ss pf ds ms = d * valS m.ss pf ds ts + n * valS m.ss pf ds ms) = true := decide_eq_true rfl
  generalize ([risL ts ms n d, ts, ms].map fun l => T.int (valS m.ss pf ds l)) = VL at v0 v1 v2 ⊢
  try simp_arith only [f0, f1, v0, v1, v2, g1, g2, hdd]
  exact key _ _ _ _ t2 hp2
theorem t9_80 {m : Mdl} {ps : List Con} {ts ms : List Tm} {n d : Int} {x0 x8 x9 : Option T} {t : Tp} {rest : Sto} (hp : 0 ≤ t.pl) (h : K80 m ps ts ms) (f : Frc n d) :
    Ok (B_law_t9 [x0, some (.ref 0), some m.t, some (.tup (ps.map Con.t)), some (Con.sum ts ">=").t, some (Con.sum ms ">=").t, some (.tup [.int n, .int d]), some (risC ps ts ms n d).t, x8, x9, none, none, none, none] (t.o :: rest)) End80 := by
  generalize hB1 : B_law_t10 = B1
  have key := @t10_80 m ps ts ms n d x0 x8 x9 t rest hp h f
  rw [hB1] at key
  unfold B_law_t9
  rw [hB1]
  obtain ⟨b, hb⟩ := h.shw f
  have hss : ∀ w ∈ m.ss, w.length ≤ 20 := fun w mw => by have := (h.g.snm w mw).le; omega
  have hsc := fun S => showclaim_ev hss hb S
  have hlc := fun S => lclaimtext_ev hss hb S
  generalize clx b (risC ps ts ms n d) = w at hsc hlc
  have hww : decide (w = w) = true := decide_eq_true rfl
  try simp_arith only [hsc, hlc, hww]
  exact key
structure It80 where
  a : List Tm
  b : List Tm
  n : Int
  d : Int
def It80.t (p : It80) : T := .tup [(Con.sum p.a ">=").t, (Con.sum p.b ">=").t, .tup [.int p.n, .int p.d]]
theorem t7_80 {m : Mdl} {ps : List Con} {ts ms : List Tm} {n d : Int} {x0 : Option T} {t : Tp} {rest : Sto} (hp : 0 ≤ t.pl) (h : K80 m ps ts ms) (f : Frc n d) :
    Ok (B_law_t7 [x0, some (.ref 0), some m.t, some (.tup (ps.map Con.t)), some (Con.sum ts ">=").t, some (Con.sum ms ">=").t, some (.tup [.int n, .int d]), some (risC ps ts ms n d).t, none, none, none, none, none, none] (t.o :: rest)) End80 := by
  generalize hB1 : B_law_t9 = B1
  have key := fun (x8 x9 : Option T) (t : Tp) (hp : 0 ≤ t.pl) => @t9_80 m ps ts ms n d x0 x8 x9 t rest hp h f
  rw [hB1] at key
  have kr := fun (t : Tp) (Q : T → Sto → Prop) => @ratio_ok t rest Q
  unfold B_law_t7
  rw [hB1]
  generalize F__law_ratio = FR at kr ⊢
  have hnL : ∀ (l : List T) S, newL true l S = .ok (.lst l) S := fun l S => rfl
  have hil : ∀ (l : List T) S, itOf (.lst l) S = .ok ⟨l, []⟩ S := fun l S => rfl
  try simp_arith only []
  refine kr t _ hp fun n2 d2 t2 hp2 f2 => ?_
  have eL : ([.tup [(Con.sum ts ">=").t, (Con.sum ms ">=").t, .tup [.int n, .int d]], .tup [(Con.sum ts ">=").t, (Con.sum ms ">=").t, .tup [.int n2, .int d2]], .tup [(Con.sum ts ">=").t, (Con.sum ts ">=").t, .tup [.int n, .int d]], .tup [(Con.sum ms ">=").t, (Con.sum ms ">=").t, .tup [.int n, .int d]]] : List T) = ([⟨ts, ms, n, d⟩, ⟨ts, ms, n2, d2⟩, ⟨ts, ts, n, d⟩, ⟨ms, ms, n, d⟩] : List It80).map It80.t := rfl
  have hsl : ∀ (a b c d : T) S, fSlA true (.lst [a, b, c, d]) none (some 1) S = .ok (.lst [a]) S := fun a b c d S => rfl
  have had : ∀ (a b c d e : T) S, fAddA true (.lst [a, b, c, d]) (.lst [e]) S = .ok (.lst [a, b, c, d, e]) S := fun a b c d e S => rfl
  have eL5 : ([.tup [(Con.sum ts ">=").t, (Con.sum ms ">=").t, .tup [.int n, .int d]], .tup [(Con.sum ts ">=").t, (Con.sum ms ">=").t, .tup [.int n2, .int d2]], .tup [(Con.sum ts ">=").t, (Con.sum ts ">=").t, .tup [.int n, .int d]], .tup [(Con.sum ms ">=").t, (Con.sum ms ">=").t, .tup [.int n, .int d]], .tup [(Con.sum ts ">=").t, (Con.sum ms ">=").t, .tup [.int n, .int d]]] : List T) = ([⟨ts, ms, n, d⟩, ⟨ts, ms, n2, d2⟩, ⟨ts, ts, n, d⟩, ⟨ms, ms, n, d⟩, ⟨ts, ms, n, d⟩] : List It80).map It80.t := rfl
  have hA : ∀ p ∈ ([⟨ts, ms, n, d⟩, ⟨ts, ms, n2, d2⟩, ⟨ts, ts, n, d⟩, ⟨ms, ms, n, d⟩, ⟨ts, ms, n, d⟩] : List It80), ConG m.ss m.as 3 (.sum p.a ">=") ∧ ConG m.ss m.as 3 (.sum p.b ">=") ∧ Frc p.n p.d := fun p mp => by
    simp only [List.mem_cons, List.not_mem_nil, or_false] at mp
    rcases mp with rfl | rfl | rfl | rfl | rfl
    · exact ⟨h.tg, h.mg, f⟩
    · exact ⟨h.tg, h.mg, f2⟩
    · exact ⟨h.tg, h.tg, f⟩
    · exact ⟨h.mg, h.mg, f⟩
    · exact ⟨h.tg, h.mg, f⟩
  generalize hAA : ([⟨ts, ms, n, d⟩, ⟨ts, ms, n2, d2⟩, ⟨ts, ts, n, d⟩, ⟨ms, ms, n, d⟩, ⟨ts, ms, n, d⟩] : List It80) = AA at *
  try simp_arith only [hnL, hsl, had]
  rw [eL5]
  try simp_arith only [hil]
  obtain ⟨AL, hAL⟩ : ∃ x8 : Option T, x8 = some (.lst [.tup [(Con.sum ts ">=").t, (Con.sum ms ">=").t, .tup [.int n, .int d]], .tup [(Con.sum ts ">=").t, (Con.sum ms ">=").t, .tup [.int n2, .int d2]], .tup [(Con.sum ts ">=").t, (Con.sum ts ">=").t, .tup [.int n, .int d]], .tup [(Con.sum ms ">=").t, (Con.sum ms ">=").t, .tup [.int n, .int d]]]) := ⟨_, rfl⟩
  rw [← hAL]
  refine ok_for (fun i τ S => ∃ x9 : Option T, τ = [x0, some (.ref 0), some m.t, some (.tup (ps.map Con.t)), some (Con.sum ts ">=").t, some (Con.sum ms ">=").t, some (.tup [.int n, .int d]), some (risC ps ts ms n d).t, AL, x9, none, none, none, none] ∧ S = t2.o :: rest) ⟨_, rfl, rfl⟩ ?_ ?_
  · rintro i v τ S e ⟨x9, rfl, rfl⟩
    rw [List.getElem?_map] at e
    obtain ⟨p, hpi, rfl⟩ := Option.map_eq_some_iff.mp e
    obtain ⟨g1, g2, g3⟩ := hA p (List.mem_of_getElem? hpi)
    have s1 := tms_small g1
    have s2 := tms_small g2
    have p0 : ∀ S, fIx p.t (.int 0) S = .ok (Con.sum p.a ">=").t S := fun S => rfl
    have p1 : ∀ S, fIx p.t (.int 1) S = .ok (Con.sum p.b ">=").t S := fun S => rfl
    have p2 : ∀ S, fIx p.t (.int 2) S = .ok (.tup [.int p.n, .int p.d]) S := fun S => rfl
    have eC : ∀ x : Con, T.tup [.tup (ps.map Con.t), x.t] = (Clm.mk ps x).t := fun x => rfl
    have hra := fun S => raised_ev (ps := ps) (n := p.n) (d := p.d) (by omega) (by omega) s1.2 s2.2 S
    have hdu := fun S => ldue_ev (ps := ps) (n := p.n) (d := p.d) g3.n0 (by omega) (by omega) s1.2 s2.2 S
    have hsa := fun S => ris_same (ps := ps) h.pl h.pg g1 g2 g3 S
    refine ⟨_, bindP_nm _ _ _, ?_⟩
    try simp_arith only [p0, p1, p2, eC, hra, hdu, hsa, fTru_bl, forQ]
    exact ⟨_, rfl, by trivial⟩
  · rintro τ S ⟨x9, rfl, rfl⟩
    try simp_arith only []
    exact key _ _ t2 hp2
theorem t6_80 {m : Mdl} {ps : List Con} {ts ms : List Tm} {n d : Int} {x0 : Option T} {t : Tp} {rest : Sto} (hp : 0 ≤ t.pl) (h : K80 m ps ts ms) (f : Frc n d) :
    Ok (B_law_t6 [x0, some (.ref 0), some m.t, some (.tup (ps.map Con.t)), some (Con.sum ts ">=").t, some (Con.sum ms ">=").t, some (.tup [.int n, .int d]), none, none, none, none, none, none, none] (t.o :: rest)) End80 := by
  generalize hB1 : B_law_t7 = B1
  have key := @t7_80 m ps ts ms n d x0 t rest hp h f
  rw [hB1] at key
  unfold B_law_t6
  rw [hB1]
  have s1 := tms_small h.tg
  have s2 := tms_small h.mg
  have eC : ∀ x : Con, T.tup [.tup (ps.map Con.t), x.t] = (Clm.mk ps x).t := fun x => rfl
  have hra := fun S => raised_ev (ps := ps) (n := n) (d := d) (by omega) (by omega) s1.2 s2.2 S
  try simp_arith only [eC, hra]
  exact key
theorem loose80_ev {ts : List Tm} {r : Str} (S : Sto) : F__law_loose [(Con.sum ts r).t] S = .ok (Con.sum ts ">=").t S := ok_ev fun Q h => by
  unfold F__law_loose
  refine ok_frame0 (by rw [Fx.cls_cons, Con.cl]; rfl) ?_
  generalize hB : B__law_loose = B
  refine ok_run ?_
  subst hB
  unfold B__law_loose
  have hl : ∀ S, fLen [(Con.sum ts r).t] S = .ok (.int 3) S := fun S => rfl
  have hsl : ∀ S, fSlA true (Con.sum ts r).t none (some 2) S = .ok (.tup [.str "sum", .tup (ts.map qT)]) S := fun S => by
    show fSlA true (.tup _) _ _ S = _
    rw [ev_slT, cut_to _ (show (0:Int) ≤ 2 by omega)]
    rfl
  have h31 : (3 : Int) - 1 = 2 := rfl
  try simp_arith only [hl, h31, hsl, endQ]
  exact ⟨by show Fx.cl 0 (Fx.thaw 0 true (Con.sum ts ">=").t _) = true; rw [Con.thaw]; exact Con.cl 0 _, by show Q (Fx.thaw 0 true (Con.sum ts ">=").t _) _; rw [Con.thaw]; exact h⟩
theorem law_true : ∀ ns : List Int, ns.length ≤ 63 → ∃ S, F_law [.kst (ns.map T.int)] [] = .ok (.bl true) S := by
  intro ns _
  suffices hh : Ok (F_law [.kst (ns.map T.int)] []) fun t _ => t = .bl true by
    obtain ⟨t, S, e, rfl⟩ := hh.get
    exact ⟨S, e⟩
  unfold F_law
  refine ok_frame0 (by rw [Fx.cls_cons, cl_kst, cls_ints, Fx.cls_nil]; rfl) ?_
  generalize hB1 : B_law_t6 = B1
  have key := fun (m : Mdl) (ps : List Con) (ts ms : List Tm) (n d : Int) (x0 : Option T) (t : Tp) => @t6_80 m ps ts ms n d x0 t []
  rw [hB1] at key
  have kr := fun (t : Tp) (Q : T → Sto → Prop) => @ratio_ok t [] Q
  generalize hB : B_law = B
  refine ok_run ?_
  subst hB
  unfold B_law
  rw [hB1]
  generalize F__law_ratio = FR at kr ⊢
  try simp_arith only []
  refine tape_ok fun t hp => ?_
  try simp_arith only []
  refine world_ok hp fun m t1 hp1 g => ?_
  have hsl := g.sl
  have hal := g.al
  have m0 : ∀ S, fIx m.t (.int 0) S = .ok (strsT m.ss) S := fun S => rfl
  have m1 : ∀ S, fIx m.t (.int 1) S = .ok (strsT m.as) S := fun S => rfl
  try simp_arith only [m0, m1]
  refine gprem_ok hp1 (by omega) g.al1 (by omega) (by decide) fun ps t2 hp2 hpl hps => ?_
  try simp_arith only [m0, m1]
  refine gsum_ok hp2 (by omega) g.al1 (by omega) fun ts r1 t3 hp3 hc1 => ?_
  have l1 := fun S => loose80_ev (ts := ts) (r := r1) S
  try simp_arith only [l1, m0, m1]
  refine gsum_ok hp3 (by omega) g.al1 (by omega) fun ms r2 t4 hp4 hc2 => ?_
  have l2 := fun S => loose80_ev (ts := ms) (r := r2) S
  try simp_arith only [l2]
  have lo : ∀ {l : List Tm} {r : Str}, ConG m.ss m.as 1 (.sum l r) → ConG m.ss m.as 3 (.sum l ">=") := fun h => by
    have h := h.le (d' := 3) (by decide)
    exact ⟨h.1, h.2.1, h.2.2.1, .inl rfl⟩
  have K : K80 m ps ts ms := ⟨g, by omega, fun x mx => (hps x mx).le (by decide), lo hc1, lo hc2⟩
  refine kr t4 _ hp4 fun n d t5 hp5 f => ?_
  try simp_arith only []
  exact key m ps ts ms n d _ t5 hp5 K f
set_option maxHeartbeats 0 in
theorem all_mk {l : PySem.W.OpenLaw} {w : World} {K : PySem.W.Frag} {h : Heap} {mg : Str → Option Value} {fa : Addr} (law_true : ∀ ns : List Int, ns.length ≤ 63 → ∃ S, F_law [.kst (ns.map T.int)] [] = .ok (.bl true) S) (X : K.In h) (G : h.Ns mainGlobals mg) (hfa : mg "law" = some (.ref fa))
    {f0 : Addr} {od0 an0 : Option Addr} {sl0 : Array (Option Value)} {oc0 kV0 dc0 pm0 cd0 ct0 : Value}
    (a0 : PySem.W.nsIn K mainGlobals "_check_sums" = some (some (.ref f0))) (l0 : K.lookup f0 = some ⟨oc0, od0, .func (PySem.W.fnOf "_check_sums" "_check_sums" (defArgs st__check_sums) (defBody st__check_sums) (defScope st__check_sums) .none kV0 dc0 pm0 an0 cd0 ct0), sl0⟩) (c0 : PySem.W.codeIn K cd0 "_check_sums" = true) (k0 : PySem.W.keepIn K (.ref f0) = true)
    {f1 : Addr} {od1 an1 : Option Addr} {sl1 : Array (Option Value)} {oc1 kV1 dc1 pm1 cd1 ct1 : Value}
    (a1 : PySem.W.nsIn K mainGlobals "_times" = some (some (.ref f1))) (l1 : K.lookup f1 = some ⟨oc1, od1, .func (PySem.W.fnOf "_times" "_times" (defArgs st__times) (defBody st__times) (defScope st__times) .none kV1 dc1 pm1 an1 cd1 ct1), sl1⟩) (c1 : PySem.W.codeIn K cd1 "_times" = true) (k1 : PySem.W.keepIn K (.ref f1) = true)
    {f2 : Addr} {od2 an2 : Option Addr} {sl2 : Array (Option Value)} {oc2 kV2 dc2 pm2 cd2 ct2 : Value}
    (a2 : PySem.W.nsIn K mainGlobals "raised" = some (some (.ref f2))) (l2 : K.lookup f2 = some ⟨oc2, od2, .func (PySem.W.fnOf "raised" "raised" (defArgs st_raised) (defBody st_raised) (defScope st_raised) .none kV2 dc2 pm2 an2 cd2 ct2), sl2⟩) (c2 : PySem.W.codeIn K cd2 "raised" = true) (k2 : PySem.W.keepIn K (.ref f2) = true)
    {f3 : Addr} {od3 an3 : Option Addr} {sl3 : Array (Option Value)} {oc3 kV3 dc3 pm3 cd3 ct3 : Value}
    (a3 : PySem.W.nsIn K mainGlobals "_enclosed" = some (some (.ref f3))) (l3 : K.lookup f3 = some ⟨oc3, od3, .func (PySem.W.fnOf "_enclosed" "_enclosed" (defArgs st__enclosed) (defBody st__enclosed) (defScope st__enclosed) .none kV3 dc3 pm3 an3 cd3 ct3), sl3⟩) (c3 : PySem.W.codeIn K cd3 "_enclosed" = true) (k3 : PySem.W.keepIn K (.ref f3) = true)
    {f4 : Addr} {od4 an4 : Option Addr} {sl4 : Array (Option Value)} {oc4 kV4 dc4 pm4 cd4 ct4 : Value}
    (a4 : PySem.W.nsIn K mainGlobals "show_sector" = some (some (.ref f4))) (l4 : K.lookup f4 = some ⟨oc4, od4, .func (PySem.W.fnOf "show_sector" "show_sector" (defArgs st_show_sector) (defBody st_show_sector) (defScope st_show_sector) .none kV4 dc4 pm4 an4 cd4 ct4), sl4⟩) (c4 : PySem.W.codeIn K cd4 "show_sector" = true) (k4 : PySem.W.keepIn K (.ref f4) = true)
    {f5 : Addr} {od5 an5 : Option Addr} {sl5 : Array (Option Value)} {oc5 kV5 dc5 pm5 cd5 ct5 : Value}
    (a5 : PySem.W.nsIn K mainGlobals "_counted" = some (some (.ref f5))) (l5 : K.lookup f5 = some ⟨oc5, od5, .func (PySem.W.fnOf "_counted" "_counted" (defArgs st__counted) (defBody st__counted) (defScope st__counted) .none kV5 dc5 pm5 an5 cd5 ct5), sl5⟩) (c5 : PySem.W.codeIn K cd5 "_counted" = true) (k5 : PySem.W.keepIn K (.ref f5) = true)
    {f6 : Addr} {od6 an6 : Option Addr} {sl6 : Array (Option Value)} {oc6 kV6 dc6 pm6 cd6 ct6 : Value}
    (a6 : PySem.W.nsIn K mainGlobals "_term" = some (some (.ref f6))) (l6 : K.lookup f6 = some ⟨oc6, od6, .func (PySem.W.fnOf "_term" "_term" (defArgs st__term) (defBody st__term) (defScope st__term) .none kV6 dc6 pm6 an6 cd6 ct6), sl6⟩) (c6 : PySem.W.codeIn K cd6 "_term" = true) (k6 : PySem.W.keepIn K (.ref f6) = true)
    {f7 : Addr} {od7 an7 : Option Addr} {sl7 : Array (Option Value)} {oc7 kV7 dc7 pm7 cd7 ct7 : Value}
    (a7 : PySem.W.nsIn K mainGlobals "_joined" = some (some (.ref f7))) (l7 : K.lookup f7 = some ⟨oc7, od7, .func (PySem.W.fnOf "_joined" "_joined" (defArgs st__joined) (defBody st__joined) (defScope st__joined) .none kV7 dc7 pm7 an7 cd7 ct7), sl7⟩) (c7 : PySem.W.codeIn K cd7 "_joined" = true) (k7 : PySem.W.keepIn K (.ref f7) = true)
    {f8 : Addr} {od8 an8 : Option Addr} {sl8 : Array (Option Value)} {oc8 kV8 dc8 pm8 cd8 ct8 : Value}
    (a8 : PySem.W.nsIn K mainGlobals "show_constraint" = some (some (.ref f8))) (l8 : K.lookup f8 = some ⟨oc8, od8, .func (PySem.W.fnOf "show_constraint" "show_constraint" (defArgs st_show_constraint) (defBody st_show_constraint) (defScope st_show_constraint) .none kV8 dc8 pm8 an8 cd8 ct8), sl8⟩) (c8 : PySem.W.codeIn K cd8 "show_constraint" = true) (k8 : PySem.W.keepIn K (.ref f8) = true)
    {f9 : Addr} {od9 an9 : Option Addr} {sl9 : Array (Option Value)} {oc9 kV9 dc9 pm9 cd9 ct9 : Value}
    (a9 : PySem.W.nsIn K mainGlobals "show_claim" = some (some (.ref f9))) (l9 : K.lookup f9 = some ⟨oc9, od9, .func (PySem.W.fnOf "show_claim" "show_claim" (defArgs st_show_claim) (defBody st_show_claim) (defScope st_show_claim) .none kV9 dc9 pm9 an9 cd9 ct9), sl9⟩) (c9 : PySem.W.codeIn K cd9 "show_claim" = true) (k9 : PySem.W.keepIn K (.ref f9) = true)
    {f10 : Addr} {od10 an10 : Option Addr} {sl10 : Array (Option Value)} {oc10 kV10 dc10 pm10 cd10 ct10 : Value}
    (a10 : PySem.W.nsIn K mainGlobals "_law_tape" = some (some (.ref f10))) (l10 : K.lookup f10 = some ⟨oc10, od10, .func (PySem.W.fnOf "_law_tape" "_law_tape" (defArgs st__law_tape) (defBody st__law_tape) (defScope st__law_tape) .none kV10 dc10 pm10 an10 cd10 ct10), sl10⟩) (c10 : PySem.W.codeIn K cd10 "_law_tape" = true) (k10 : PySem.W.keepIn K (.ref f10) = true)
    {f11 : Addr} {od11 an11 : Option Addr} {sl11 : Array (Option Value)} {oc11 kV11 dc11 pm11 cd11 ct11 : Value}
    (a11 : PySem.W.nsIn K mainGlobals "_law_draw" = some (some (.ref f11))) (l11 : K.lookup f11 = some ⟨oc11, od11, .func (PySem.W.fnOf "_law_draw" "_law_draw" (defArgs st__law_draw) (defBody st__law_draw) (defScope st__law_draw) .none kV11 dc11 pm11 an11 cd11 ct11), sl11⟩) (c11 : PySem.W.codeIn K cd11 "_law_draw" = true) (k11 : PySem.W.keepIn K (.ref f11) = true)
    {f12 : Addr} {od12 an12 : Option Addr} {sl12 : Array (Option Value)} {oc12 kV12 dc12 pm12 cd12 ct12 : Value}
    (a12 : PySem.W.nsIn K mainGlobals "_law_number" = some (some (.ref f12))) (l12 : K.lookup f12 = some ⟨oc12, od12, .func (PySem.W.fnOf "_law_number" "_law_number" (defArgs st__law_number) (defBody st__law_number) (defScope st__law_number) .none kV12 dc12 pm12 an12 cd12 ct12), sl12⟩) (c12 : PySem.W.codeIn K cd12 "_law_number" = true) (k12 : PySem.W.keepIn K (.ref f12) = true)
    {f13 : Addr} {od13 an13 : Option Addr} {sl13 : Array (Option Value)} {oc13 kV13 dc13 pm13 cd13 ct13 : Value}
    (a13 : PySem.W.nsIn K mainGlobals "_law_area" = some (some (.ref f13))) (l13 : K.lookup f13 = some ⟨oc13, od13, .func (PySem.W.fnOf "_law_area" "_law_area" (defArgs st__law_area) (defBody st__law_area) (defScope st__law_area) .none kV13 dc13 pm13 an13 cd13 ct13), sl13⟩) (c13 : PySem.W.codeIn K cd13 "_law_area" = true) (k13 : PySem.W.keepIn K (.ref f13) = true)
    {f14 : Addr} {od14 an14 : Option Addr} {sl14 : Array (Option Value)} {oc14 kV14 dc14 pm14 cd14 ct14 : Value}
    (a14 : PySem.W.nsIn K mainGlobals "_law_relation" = some (some (.ref f14))) (l14 : K.lookup f14 = some ⟨oc14, od14, .func (PySem.W.fnOf "_law_relation" "_law_relation" (defArgs st__law_relation) (defBody st__law_relation) (defScope st__law_relation) .none kV14 dc14 pm14 an14 cd14 ct14), sl14⟩) (c14 : PySem.W.codeIn K cd14 "_law_relation" = true) (k14 : PySem.W.keepIn K (.ref f14) = true)
    {f15 : Addr} {od15 an15 : Option Addr} {sl15 : Array (Option Value)} {oc15 kV15 dc15 pm15 cd15 ct15 : Value}
    (a15 : PySem.W.nsIn K mainGlobals "_law_sum" = some (some (.ref f15))) (l15 : K.lookup f15 = some ⟨oc15, od15, .func (PySem.W.fnOf "_law_sum" "_law_sum" (defArgs st__law_sum) (defBody st__law_sum) (defScope st__law_sum) .none kV15 dc15 pm15 an15 cd15 ct15), sl15⟩) (c15 : PySem.W.codeIn K cd15 "_law_sum" = true) (k15 : PySem.W.keepIn K (.ref f15) = true)
    {f16 : Addr} {od16 an16 : Option Addr} {sl16 : Array (Option Value)} {oc16 kV16 dc16 pm16 cd16 ct16 : Value}
    (a16 : PySem.W.nsIn K mainGlobals "_law_each" = some (some (.ref f16))) (l16 : K.lookup f16 = some ⟨oc16, od16, .func (PySem.W.fnOf "_law_each" "_law_each" (defArgs st__law_each) (defBody st__law_each) (defScope st__law_each) .none kV16 dc16 pm16 an16 cd16 ct16), sl16⟩) (c16 : PySem.W.codeIn K cd16 "_law_each" = true) (k16 : PySem.W.keepIn K (.ref f16) = true)
    {f17 : Addr} {od17 an17 : Option Addr} {sl17 : Array (Option Value)} {oc17 kV17 dc17 pm17 cd17 ct17 : Value}
    (a17 : PySem.W.nsIn K mainGlobals "_law_constraint" = some (some (.ref f17))) (l17 : K.lookup f17 = some ⟨oc17, od17, .func (PySem.W.fnOf "_law_constraint" "_law_constraint" (defArgs st__law_constraint) (defBody st__law_constraint) (defScope st__law_constraint) .none kV17 dc17 pm17 an17 cd17 ct17), sl17⟩) (c17 : PySem.W.codeIn K cd17 "_law_constraint" = true) (k17 : PySem.W.keepIn K (.ref f17) = true)
    {f18 : Addr} {od18 an18 : Option Addr} {sl18 : Array (Option Value)} {oc18 kV18 dc18 pm18 cd18 ct18 : Value}
    (a18 : PySem.W.nsIn K mainGlobals "_law_premises" = some (some (.ref f18))) (l18 : K.lookup f18 = some ⟨oc18, od18, .func (PySem.W.fnOf "_law_premises" "_law_premises" (defArgs st__law_premises) (defBody st__law_premises) (defScope st__law_premises) .none kV18 dc18 pm18 an18 cd18 ct18), sl18⟩) (c18 : PySem.W.codeIn K cd18 "_law_premises" = true) (k18 : PySem.W.keepIn K (.ref f18) = true)
    {f19 : Addr} {od19 an19 : Option Addr} {sl19 : Array (Option Value)} {oc19 kV19 dc19 pm19 cd19 ct19 : Value}
    (a19 : PySem.W.nsIn K mainGlobals "_law_entry" = some (some (.ref f19))) (l19 : K.lookup f19 = some ⟨oc19, od19, .func (PySem.W.fnOf "_law_entry" "_law_entry" (defArgs st__law_entry) (defBody st__law_entry) (defScope st__law_entry) .none kV19 dc19 pm19 an19 cd19 ct19), sl19⟩) (c19 : PySem.W.codeIn K cd19 "_law_entry" = true) (k19 : PySem.W.keepIn K (.ref f19) = true)
    {f20 : Addr} {od20 an20 : Option Addr} {sl20 : Array (Option Value)} {oc20 kV20 dc20 pm20 cd20 ct20 : Value}
    (a20 : PySem.W.nsIn K mainGlobals "_law_books" = some (some (.ref f20))) (l20 : K.lookup f20 = some ⟨oc20, od20, .func (PySem.W.fnOf "_law_books" "_law_books" (defArgs st__law_books) (defBody st__law_books) (defScope st__law_books) .none kV20 dc20 pm20 an20 cd20 ct20), sl20⟩) (c20 : PySem.W.codeIn K cd20 "_law_books" = true) (k20 : PySem.W.keepIn K (.ref f20) = true)
    {f21 : Addr} {od21 an21 : Option Addr} {sl21 : Array (Option Value)} {oc21 kV21 dc21 pm21 cd21 ct21 : Value}
    (a21 : PySem.W.nsIn K mainGlobals "_law_within" = some (some (.ref f21))) (l21 : K.lookup f21 = some ⟨oc21, od21, .func (PySem.W.fnOf "_law_within" "_law_within" (defArgs st__law_within) (defBody st__law_within) (defScope st__law_within) .none kV21 dc21 pm21 an21 cd21 ct21), sl21⟩) (c21 : PySem.W.codeIn K cd21 "_law_within" = true) (k21 : PySem.W.keepIn K (.ref f21) = true)
    {f22 : Addr} {od22 an22 : Option Addr} {sl22 : Array (Option Value)} {oc22 kV22 dc22 pm22 cd22 ct22 : Value}
    (a22 : PySem.W.nsIn K mainGlobals "_law_profile" = some (some (.ref f22))) (l22 : K.lookup f22 = some ⟨oc22, od22, .func (PySem.W.fnOf "_law_profile" "_law_profile" (defArgs st__law_profile) (defBody st__law_profile) (defScope st__law_profile) .none kV22 dc22 pm22 an22 cd22 ct22), sl22⟩) (c22 : PySem.W.codeIn K cd22 "_law_profile" = true) (k22 : PySem.W.keepIn K (.ref f22) = true)
    {f23 : Addr} {od23 an23 : Option Addr} {sl23 : Array (Option Value)} {oc23 kV23 dc23 pm23 cd23 ct23 : Value}
    (a23 : PySem.W.nsIn K mainGlobals "_law_members" = some (some (.ref f23))) (l23 : K.lookup f23 = some ⟨oc23, od23, .func (PySem.W.fnOf "_law_members" "_law_members" (defArgs st__law_members) (defBody st__law_members) (defScope st__law_members) .none kV23 dc23 pm23 an23 cd23 ct23), sl23⟩) (c23 : PySem.W.codeIn K cd23 "_law_members" = true) (k23 : PySem.W.keepIn K (.ref f23) = true)
    {f24 : Addr} {od24 an24 : Option Addr} {sl24 : Array (Option Value)} {oc24 kV24 dc24 pm24 cd24 ct24 : Value}
    (a24 : PySem.W.nsIn K mainGlobals "_law_worth" = some (some (.ref f24))) (l24 : K.lookup f24 = some ⟨oc24, od24, .func (PySem.W.fnOf "_law_worth" "_law_worth" (defArgs st__law_worth) (defBody st__law_worth) (defScope st__law_worth) .none kV24 dc24 pm24 an24 cd24 ct24), sl24⟩) (c24 : PySem.W.codeIn K cd24 "_law_worth" = true) (k24 : PySem.W.keepIn K (.ref f24) = true)
    {f25 : Addr} {od25 an25 : Option Addr} {sl25 : Array (Option Value)} {oc25 kV25 dc25 pm25 cd25 ct25 : Value}
    (a25 : PySem.W.nsIn K mainGlobals "_law_size" = some (some (.ref f25))) (l25 : K.lookup f25 = some ⟨oc25, od25, .func (PySem.W.fnOf "_law_size" "_law_size" (defArgs st__law_size) (defBody st__law_size) (defScope st__law_size) .none kV25 dc25 pm25 an25 cd25 ct25), sl25⟩) (c25 : PySem.W.codeIn K cd25 "_law_size" = true) (k25 : PySem.W.keepIn K (.ref f25) = true)
    {f26 : Addr} {od26 an26 : Option Addr} {sl26 : Array (Option Value)} {oc26 kV26 dc26 pm26 cd26 ct26 : Value}
    (a26 : PySem.W.nsIn K mainGlobals "_law_amount" = some (some (.ref f26))) (l26 : K.lookup f26 = some ⟨oc26, od26, .func (PySem.W.fnOf "_law_amount" "_law_amount" (defArgs st__law_amount) (defBody st__law_amount) (defScope st__law_amount) .none kV26 dc26 pm26 an26 cd26 ct26), sl26⟩) (c26 : PySem.W.codeIn K cd26 "_law_amount" = true) (k26 : PySem.W.keepIn K (.ref f26) = true)
    {f27 : Addr} {od27 an27 : Option Addr} {sl27 : Array (Option Value)} {oc27 kV27 dc27 pm27 cd27 ct27 : Value}
    (a27 : PySem.W.nsIn K mainGlobals "_law_drawn_deals" = some (some (.ref f27))) (l27 : K.lookup f27 = some ⟨oc27, od27, .func (PySem.W.fnOf "_law_drawn_deals" "_law_drawn_deals" (defArgs st__law_drawn_deals) (defBody st__law_drawn_deals) (defScope st__law_drawn_deals) .none kV27 dc27 pm27 an27 cd27 ct27), sl27⟩) (c27 : PySem.W.codeIn K cd27 "_law_drawn_deals" = true) (k27 : PySem.W.keepIn K (.ref f27) = true)
    {f28 : Addr} {od28 an28 : Option Addr} {sl28 : Array (Option Value)} {oc28 kV28 dc28 pm28 cd28 ct28 : Value}
    (a28 : PySem.W.nsIn K mainGlobals "_law_listed" = some (some (.ref f28))) (l28 : K.lookup f28 = some ⟨oc28, od28, .func (PySem.W.fnOf "_law_listed" "_law_listed" (defArgs st__law_listed) (defBody st__law_listed) (defScope st__law_listed) .none kV28 dc28 pm28 an28 cd28 ct28), sl28⟩) (c28 : PySem.W.codeIn K cd28 "_law_listed" = true) (k28 : PySem.W.keepIn K (.ref f28) = true)
    {f29 : Addr} {od29 an29 : Option Addr} {sl29 : Array (Option Value)} {oc29 kV29 dc29 pm29 cd29 ct29 : Value}
    (a29 : PySem.W.nsIn K mainGlobals "_law_ledger" = some (some (.ref f29))) (l29 : K.lookup f29 = some ⟨oc29, od29, .func (PySem.W.fnOf "_law_ledger" "_law_ledger" (defArgs st__law_ledger) (defBody st__law_ledger) (defScope st__law_ledger) .none kV29 dc29 pm29 an29 cd29 ct29), sl29⟩) (c29 : PySem.W.codeIn K cd29 "_law_ledger" = true) (k29 : PySem.W.keepIn K (.ref f29) = true)
    {f30 : Addr} {od30 an30 : Option Addr} {sl30 : Array (Option Value)} {oc30 kV30 dc30 pm30 cd30 ct30 : Value}
    (a30 : PySem.W.nsIn K mainGlobals "_law_same" = some (some (.ref f30))) (l30 : K.lookup f30 = some ⟨oc30, od30, .func (PySem.W.fnOf "_law_same" "_law_same" (defArgs st__law_same) (defBody st__law_same) (defScope st__law_same) .none kV30 dc30 pm30 an30 cd30 ct30), sl30⟩) (c30 : PySem.W.codeIn K cd30 "_law_same" = true) (k30 : PySem.W.keepIn K (.ref f30) = true)
    {f31 : Addr} {od31 an31 : Option Addr} {sl31 : Array (Option Value)} {oc31 kV31 dc31 pm31 cd31 ct31 : Value}
    (a31 : PySem.W.nsIn K mainGlobals "_law_names" = some (some (.ref f31))) (l31 : K.lookup f31 = some ⟨oc31, od31, .func (PySem.W.fnOf "_law_names" "_law_names" (defArgs st__law_names) (defBody st__law_names) (defScope st__law_names) .none kV31 dc31 pm31 an31 cd31 ct31), sl31⟩) (c31 : PySem.W.codeIn K cd31 "_law_names" = true) (k31 : PySem.W.keepIn K (.ref f31) = true)
    {f32 : Addr} {od32 an32 : Option Addr} {sl32 : Array (Option Value)} {oc32 kV32 dc32 pm32 cd32 ct32 : Value}
    (a32 : PySem.W.nsIn K mainGlobals "_law_entries" = some (some (.ref f32))) (l32 : K.lookup f32 = some ⟨oc32, od32, .func (PySem.W.fnOf "_law_entries" "_law_entries" (defArgs st__law_entries) (defBody st__law_entries) (defScope st__law_entries) .none kV32 dc32 pm32 an32 cd32 ct32), sl32⟩) (c32 : PySem.W.codeIn K cd32 "_law_entries" = true) (k32 : PySem.W.keepIn K (.ref f32) = true)
    {f33 : Addr} {od33 an33 : Option Addr} {sl33 : Array (Option Value)} {oc33 kV33 dc33 pm33 cd33 ct33 : Value}
    (a33 : PySem.W.nsIn K mainGlobals "_law_kind" = some (some (.ref f33))) (l33 : K.lookup f33 = some ⟨oc33, od33, .func (PySem.W.fnOf "_law_kind" "_law_kind" (defArgs st__law_kind) (defBody st__law_kind) (defScope st__law_kind) .none kV33 dc33 pm33 an33 cd33 ct33), sl33⟩) (c33 : PySem.W.codeIn K cd33 "_law_kind" = true) (k33 : PySem.W.keepIn K (.ref f33) = true)
    {f34 : Addr} {od34 an34 : Option Addr} {sl34 : Array (Option Value)} {oc34 kV34 dc34 pm34 cd34 ct34 : Value}
    (a34 : PySem.W.nsIn K mainGlobals "_law_exactly" = some (some (.ref f34))) (l34 : K.lookup f34 = some ⟨oc34, od34, .func (PySem.W.fnOf "_law_exactly" "_law_exactly" (defArgs st__law_exactly) (defBody st__law_exactly) (defScope st__law_exactly) .none kV34 dc34 pm34 an34 cd34 ct34), sl34⟩) (c34 : PySem.W.codeIn K cd34 "_law_exactly" = true) (k34 : PySem.W.keepIn K (.ref f34) = true)
    {f35 : Addr} {od35 an35 : Option Addr} {sl35 : Array (Option Value)} {oc35 kV35 dc35 pm35 cd35 ct35 : Value}
    (a35 : PySem.W.nsIn K mainGlobals "_law_narrow" = some (some (.ref f35))) (l35 : K.lookup f35 = some ⟨oc35, od35, .func (PySem.W.fnOf "_law_narrow" "_law_narrow" (defArgs st__law_narrow) (defBody st__law_narrow) (defScope st__law_narrow) .none kV35 dc35 pm35 an35 cd35 ct35), sl35⟩) (c35 : PySem.W.codeIn K cd35 "_law_narrow" = true) (k35 : PySem.W.keepIn K (.ref f35) = true)
    {f36 : Addr} {od36 an36 : Option Addr} {sl36 : Array (Option Value)} {oc36 kV36 dc36 pm36 cd36 ct36 : Value}
    (a36 : PySem.W.nsIn K mainGlobals "_law_short" = some (some (.ref f36))) (l36 : K.lookup f36 = some ⟨oc36, od36, .func (PySem.W.fnOf "_law_short" "_law_short" (defArgs st__law_short) (defBody st__law_short) (defScope st__law_short) .none kV36 dc36 pm36 an36 cd36 ct36), sl36⟩) (c36 : PySem.W.codeIn K cd36 "_law_short" = true) (k36 : PySem.W.keepIn K (.ref f36) = true)
    {f37 : Addr} {od37 an37 : Option Addr} {sl37 : Array (Option Value)} {oc37 kV37 dc37 pm37 cd37 ct37 : Value}
    (a37 : PySem.W.nsIn K mainGlobals "_law_scene" = some (some (.ref f37))) (l37 : K.lookup f37 = some ⟨oc37, od37, .func (PySem.W.fnOf "_law_scene" "_law_scene" (defArgs st__law_scene) (defBody st__law_scene) (defScope st__law_scene) .none kV37 dc37 pm37 an37 cd37 ct37), sl37⟩) (c37 : PySem.W.codeIn K cd37 "_law_scene" = true) (k37 : PySem.W.keepIn K (.ref f37) = true)
    {f38 : Addr} {od38 an38 : Option Addr} {sl38 : Array (Option Value)} {oc38 kV38 dc38 pm38 cd38 ct38 : Value}
    (a38 : PySem.W.nsIn K mainGlobals "_law_world" = some (some (.ref f38))) (l38 : K.lookup f38 = some ⟨oc38, od38, .func (PySem.W.fnOf "_law_world" "_law_world" (defArgs st__law_world) (defBody st__law_world) (defScope st__law_world) .none kV38 dc38 pm38 an38 cd38 ct38), sl38⟩) (c38 : PySem.W.codeIn K cd38 "_law_world" = true) (k38 : PySem.W.keepIn K (.ref f38) = true)
    {f39 : Addr} {od39 an39 : Option Addr} {sl39 : Array (Option Value)} {oc39 kV39 dc39 pm39 cd39 ct39 : Value}
    (a39 : PySem.W.nsIn K mainGlobals "_law_loose" = some (some (.ref f39))) (l39 : K.lookup f39 = some ⟨oc39, od39, .func (PySem.W.fnOf "_law_loose" "_law_loose" (defArgs st__law_loose) (defBody st__law_loose) (defScope st__law_loose) .none kV39 dc39 pm39 an39 cd39 ct39), sl39⟩) (c39 : PySem.W.codeIn K cd39 "_law_loose" = true) (k39 : PySem.W.keepIn K (.ref f39) = true)
    {f40 : Addr} {od40 an40 : Option Addr} {sl40 : Array (Option Value)} {oc40 kV40 dc40 pm40 cd40 ct40 : Value}
    (a40 : PySem.W.nsIn K mainGlobals "_law_sector_text" = some (some (.ref f40))) (l40 : K.lookup f40 = some ⟨oc40, od40, .func (PySem.W.fnOf "_law_sector_text" "_law_sector_text" (defArgs st__law_sector_text) (defBody st__law_sector_text) (defScope st__law_sector_text) .none kV40 dc40 pm40 an40 cd40 ct40), sl40⟩) (c40 : PySem.W.codeIn K cd40 "_law_sector_text" = true) (k40 : PySem.W.keepIn K (.ref f40) = true)
    {f41 : Addr} {od41 an41 : Option Addr} {sl41 : Array (Option Value)} {oc41 kV41 dc41 pm41 cd41 ct41 : Value}
    (a41 : PySem.W.nsIn K mainGlobals "_law_times" = some (some (.ref f41))) (l41 : K.lookup f41 = some ⟨oc41, od41, .func (PySem.W.fnOf "_law_times" "_law_times" (defArgs st__law_times) (defBody st__law_times) (defScope st__law_times) .none kV41 dc41 pm41 an41 cd41 ct41), sl41⟩) (c41 : PySem.W.codeIn K cd41 "_law_times" = true) (k41 : PySem.W.keepIn K (.ref f41) = true)
    {f42 : Addr} {od42 an42 : Option Addr} {sl42 : Array (Option Value)} {oc42 kV42 dc42 pm42 cd42 ct42 : Value}
    (a42 : PySem.W.nsIn K mainGlobals "_law_constraint_text" = some (some (.ref f42))) (l42 : K.lookup f42 = some ⟨oc42, od42, .func (PySem.W.fnOf "_law_constraint_text" "_law_constraint_text" (defArgs st__law_constraint_text) (defBody st__law_constraint_text) (defScope st__law_constraint_text) .none kV42 dc42 pm42 an42 cd42 ct42), sl42⟩) (c42 : PySem.W.codeIn K cd42 "_law_constraint_text" = true) (k42 : PySem.W.keepIn K (.ref f42) = true)
    {f43 : Addr} {od43 an43 : Option Addr} {sl43 : Array (Option Value)} {oc43 kV43 dc43 pm43 cd43 ct43 : Value}
    (a43 : PySem.W.nsIn K mainGlobals "_law_claim_text" = some (some (.ref f43))) (l43 : K.lookup f43 = some ⟨oc43, od43, .func (PySem.W.fnOf "_law_claim_text" "_law_claim_text" (defArgs st__law_claim_text) (defBody st__law_claim_text) (defScope st__law_claim_text) .none kV43 dc43 pm43 an43 cd43 ct43), sl43⟩) (c43 : PySem.W.codeIn K cd43 "_law_claim_text" = true) (k43 : PySem.W.keepIn K (.ref f43) = true)
    {f44 : Addr} {od44 an44 : Option Addr} {sl44 : Array (Option Value)} {oc44 kV44 dc44 pm44 cd44 ct44 : Value}
    (a44 : PySem.W.nsIn K mainGlobals "_law_is_plain" = some (some (.ref f44))) (l44 : K.lookup f44 = some ⟨oc44, od44, .func (PySem.W.fnOf "_law_is_plain" "_law_is_plain" (defArgs st__law_is_plain) (defBody st__law_is_plain) (defScope st__law_is_plain) .none kV44 dc44 pm44 an44 cd44 ct44), sl44⟩) (c44 : PySem.W.codeIn K cd44 "_law_is_plain" = true) (k44 : PySem.W.keepIn K (.ref f44) = true)
    {f45 : Addr} {od45 an45 : Option Addr} {sl45 : Array (Option Value)} {oc45 kV45 dc45 pm45 cd45 ct45 : Value}
    (a45 : PySem.W.nsIn K mainGlobals "_law_is_refused" = some (some (.ref f45))) (l45 : K.lookup f45 = some ⟨oc45, od45, .func (PySem.W.fnOf "_law_is_refused" "_law_is_refused" (defArgs st__law_is_refused) (defBody st__law_is_refused) (defScope st__law_is_refused) .none kV45 dc45 pm45 an45 cd45 ct45), sl45⟩) (c45 : PySem.W.codeIn K cd45 "_law_is_refused" = true) (k45 : PySem.W.keepIn K (.ref f45) = true)
    {f46 : Addr} {od46 an46 : Option Addr} {sl46 : Array (Option Value)} {oc46 kV46 dc46 pm46 cd46 ct46 : Value}
    (a46 : PySem.W.nsIn K mainGlobals "_law_due_claim" = some (some (.ref f46))) (l46 : K.lookup f46 = some ⟨oc46, od46, .func (PySem.W.fnOf "_law_due_claim" "_law_due_claim" (defArgs st__law_due_claim) (defBody st__law_due_claim) (defScope st__law_due_claim) .none kV46 dc46 pm46 an46 cd46 ct46), sl46⟩) (c46 : PySem.W.codeIn K cd46 "_law_due_claim" = true) (k46 : PySem.W.keepIn K (.ref f46) = true)
    {f47 : Addr} {od47 an47 : Option Addr} {sl47 : Array (Option Value)} {oc47 kV47 dc47 pm47 cd47 ct47 : Value}
    (a47 : PySem.W.nsIn K mainGlobals "_law_gcd" = some (some (.ref f47))) (l47 : K.lookup f47 = some ⟨oc47, od47, .func (PySem.W.fnOf "_law_gcd" "_law_gcd" (defArgs st__law_gcd) (defBody st__law_gcd) (defScope st__law_gcd) .none kV47 dc47 pm47 an47 cd47 ct47), sl47⟩) (c47 : PySem.W.codeIn K cd47 "_law_gcd" = true) (k47 : PySem.W.keepIn K (.ref f47) = true)
    {f48 : Addr} {od48 an48 : Option Addr} {sl48 : Array (Option Value)} {oc48 kV48 dc48 pm48 cd48 ct48 : Value}
    (a48 : PySem.W.nsIn K mainGlobals "_law_fraction" = some (some (.ref f48))) (l48 : K.lookup f48 = some ⟨oc48, od48, .func (PySem.W.fnOf "_law_fraction" "_law_fraction" (defArgs st__law_fraction) (defBody st__law_fraction) (defScope st__law_fraction) .none kV48 dc48 pm48 an48 cd48 ct48), sl48⟩) (c48 : PySem.W.codeIn K cd48 "_law_fraction" = true) (k48 : PySem.W.keepIn K (.ref f48) = true)
    {f49 : Addr} {od49 an49 : Option Addr} {sl49 : Array (Option Value)} {oc49 kV49 dc49 pm49 cd49 ct49 : Value}
    (a49 : PySem.W.nsIn K mainGlobals "_law_ratio" = some (some (.ref f49))) (l49 : K.lookup f49 = some ⟨oc49, od49, .func (PySem.W.fnOf "_law_ratio" "_law_ratio" (defArgs st__law_ratio) (defBody st__law_ratio) (defScope st__law_ratio) .none kV49 dc49 pm49 an49 cd49 ct49), sl49⟩) (c49 : PySem.W.codeIn K cd49 "_law_ratio" = true) (k49 : PySem.W.keepIn K (.ref f49) = true)
    {f50 : Addr} {od50 an50 : Option Addr} {sl50 : Array (Option Value)} {oc50 kV50 dc50 pm50 cd50 ct50 : Value}
    (a50 : PySem.W.nsIn K mainGlobals "law" = some (some (.ref f50))) (l50 : K.lookup f50 = some ⟨oc50, od50, .func (PySem.W.fnOf "law" "law" (defArgs st_law) (defBody st_law) (defScope st_law) .none kV50 dc50 pm50 an50 cd50 ct50), sl50⟩) (c50 : PySem.W.codeIn K cd50 "law" = true) (k50 : PySem.W.keepIn K (.ref f50) = true)
    (z0 : PySem.W.nsIn K mainGlobals "ValueError" = some none)
    (z1 : PySem.W.nsIn K mainGlobals "abs" = some none)
    (z2 : PySem.W.nsIn K mainGlobals "bool" = some none)
    (z3 : PySem.W.nsIn K mainGlobals "int" = some none)
    (z4 : PySem.W.nsIn K mainGlobals "isinstance" = some none)
    (z5 : PySem.W.nsIn K mainGlobals "len" = some none)
    (z6 : PySem.W.nsIn K mainGlobals "list" = some none)
    (z7 : PySem.W.nsIn K mainGlobals "max" = some none)
    (z8 : PySem.W.nsIn K mainGlobals "min" = some none)
    (z9 : PySem.W.nsIn K mainGlobals "range" = some none)
    (z10 : PySem.W.nsIn K mainGlobals "repr" = some none)
    (z11 : PySem.W.nsIn K mainGlobals "str" = some none)
    (z12 : PySem.W.nsIn K mainGlobals "sum" = some none)
    (z13 : PySem.W.nsIn K mainGlobals "tuple" = some none)
    {e0 : Addr} (ea0 : PySem.W.nsIn K mainGlobals "BadParticipant" = some (some (.ref e0)))
    {e1 : Addr} (ea1 : PySem.W.nsIn K mainGlobals "BadTransaction" = some (some (.ref e1)))
    {e2 : Addr} (ea2 : PySem.W.nsIn K mainGlobals "BadValue" = some (some (.ref e2)))
    {e3 : Addr} (ea3 : PySem.W.nsIn K mainGlobals "DoesNotHold" = some (some (.ref e3)))
    {e4 : Addr} (ea4 : PySem.W.nsIn K mainGlobals "Mistakes" = some (some (.ref e4)))
    {e5 : Addr} (ea5 : PySem.W.nsIn K mainGlobals "NeedsJournal" = some (some (.ref e5)))
    {e6 : Addr} (ea6 : PySem.W.nsIn K mainGlobals "NeedsModel" = some (some (.ref e6)))
    {e7 : Addr} (ea7 : PySem.W.nsIn K mainGlobals "NotASum" = some (some (.ref e7)))
    {e8 : Addr} (ea8 : PySem.W.nsIn K mainGlobals "NotRefuted" = some (some (.ref e8)))
    {e9 : Addr} (ea9 : PySem.W.nsIn K mainGlobals "NothingToRedo" = some (some (.ref e9)))
    {e10 : Addr} (ea10 : PySem.W.nsIn K mainGlobals "NothingToUndo" = some (some (.ref e10)))
    {e11 : Addr} (ea11 : PySem.W.nsIn K mainGlobals "ProofError" = some (some (.ref e11)))
    {e12 : Addr} (ea12 : PySem.W.nsIn K mainGlobals "ReadError" = some (some (.ref e12)))
    {e13 : Addr} (ea13 : PySem.W.nsIn K mainGlobals "TooMany" = some (some (.ref e13)))
    {e14 : Addr} (ea14 : PySem.W.nsIn K mainGlobals "UnknownClaim" = some (some (.ref e14)))
    (wo0_ : oex0B K e7 = true) (we0 : excB K e7 = true)
    (wk0_BadParticipant : PySem.W.kitOne K (.ref e7) (.ref e0) = some false)
    (wk0_BadTransaction : PySem.W.kitOne K (.ref e7) (.ref e1) = some false)
    (wk0_BadValue : PySem.W.kitOne K (.ref e7) (.ref e2) = some false)
    (wk0_DoesNotHold : PySem.W.kitOne K (.ref e7) (.ref e3) = some false)
    (wk0_Mistakes : PySem.W.kitOne K (.ref e7) (.ref e4) = some false)
    (wk0_NeedsJournal : PySem.W.kitOne K (.ref e7) (.ref e5) = some false)
    (wk0_NeedsModel : PySem.W.kitOne K (.ref e7) (.ref e6) = some false)
    (wk0_NotASum : PySem.W.kitOne K (.ref e7) (.ref e7) = some true)
    (wk0_NotRefuted : PySem.W.kitOne K (.ref e7) (.ref e8) = some false)
    (wk0_NothingToRedo : PySem.W.kitOne K (.ref e7) (.ref e9) = some false)
    (wk0_NothingToUndo : PySem.W.kitOne K (.ref e7) (.ref e10) = some false)
    (wk0_ProofError : PySem.W.kitOne K (.ref e7) (.ref e11) = some true)
    (wk0_ReadError : PySem.W.kitOne K (.ref e7) (.ref e12) = some false)
    (wk0_TooMany : PySem.W.kitOne K (.ref e7) (.ref e13) = some false)
    (wk0_UnknownClaim : PySem.W.kitOne K (.ref e7) (.ref e14) = some false)
    (wk0_ValueError : PySem.W.kitOne K (.ref e7) (.type "ValueError") = some true)
    (wm0_NotASum : PySem.W.exmOne K (.ref e7) (.ref e7) = some true)
    : ∃ fd : FuncData, (∀ (s : Shared) (v : Value), BindsTo s fd ⟨[v], []⟩ [("script", v)]) ∧ ∀ base : Heap, K.In base → base.Ns mainGlobals mg → FnG l.prog w K mg base 56 fa fd ["script"] (spLaw K) := by
  have e := hfa.symm.trans (PySem.W.mg_of X G a50)
  cases e
  let T : Facts K mg := {
    a__check_sums := f0
    d__check_sums := _
    F__check_sums := fun_mk (st := st__check_sums) l0 c0 k0
    g__check_sums := PySem.W.mg_of X G a0
    b__check_sums := (fun_mk (st := st__check_sums) l0 c0 k0).binds (ps := ["claim", "constraint"]) fun _ _ _ _ _ _ us hl => match us, hl with | [_, _], _ => rfl
    a__times := f1
    d__times := _
    F__times := fun_mk (st := st__times) l1 c1 k1
    g__times := PySem.W.mg_of X G a1
    b__times := (fun_mk (st := st__times) l1 c1 k1).binds (ps := ["constraint", "factor"]) fun _ _ _ _ _ _ us hl => match us, hl with | [_, _], _ => rfl
    a_raised := f2
    d_raised := _
    F_raised := fun_mk (st := st_raised) l2 c2 k2
    g_raised := PySem.W.mg_of X G a2
    b_raised := (fun_mk (st := st_raised) l2 c2 k2).binds (ps := ["claim", "constraint", "fraction"]) fun _ _ _ _ _ _ us hl => match us, hl with | [_, _, _], _ => rfl
    a__enclosed := f3
    d__enclosed := _
    F__enclosed := fun_mk (st := st__enclosed) l3 c3 k3
    g__enclosed := PySem.W.mg_of X G a3
    b__enclosed := (fun_mk (st := st__enclosed) l3 c3 k3).binds (ps := ["sector", "words"]) fun _ _ _ _ _ _ us hl => match us, hl with | [_, _], _ => rfl
    a_show_sector := f4
    d_show_sector := _
    F_show_sector := fun_mk (st := st_show_sector) l4 c4 k4
    g_show_sector := PySem.W.mg_of X G a4
    b_show_sector := (fun_mk (st := st_show_sector) l4 c4 k4).binds (ps := ["sector"]) fun _ _ _ _ _ _ us hl => match us, hl with | [_], _ => rfl
    a__counted := f5
    d__counted := _
    F__counted := fun_mk (st := st__counted) l5 c5 k5
    g__counted := PySem.W.mg_of X G a5
    b__counted := (fun_mk (st := st__counted) l5 c5 k5).binds (ps := ["number", "account"]) fun _ _ _ _ _ _ us hl => match us, hl with | [_, _], _ => rfl
    a__term := f6
    d__term := _
    F__term := fun_mk (st := st__term) l6 c6 k6
    g__term := PySem.W.mg_of X G a6
    b__term := (fun_mk (st := st__term) l6 c6 k6).binds (ps := ["term"]) fun _ _ _ _ _ _ us hl => match us, hl with | [_], _ => rfl
    a__joined := f7
    d__joined := _
    F__joined := fun_mk (st := st__joined) l7 c7 k7
    g__joined := PySem.W.mg_of X G a7
    b__joined := (fun_mk (st := st__joined) l7 c7 k7).binds (ps := ["terms"]) fun _ _ _ _ _ _ us hl => match us, hl with | [_], _ => rfl
    a_show_constraint := f8
    d_show_constraint := _
    F_show_constraint := fun_mk (st := st_show_constraint) l8 c8 k8
    g_show_constraint := PySem.W.mg_of X G a8
    b_show_constraint := (fun_mk (st := st_show_constraint) l8 c8 k8).binds (ps := ["constraint"]) fun _ _ _ _ _ _ us hl => match us, hl with | [_], _ => rfl
    a_show_claim := f9
    d_show_claim := _
    F_show_claim := fun_mk (st := st_show_claim) l9 c9 k9
    g_show_claim := PySem.W.mg_of X G a9
    b_show_claim := (fun_mk (st := st_show_claim) l9 c9 k9).binds (ps := ["claim"]) fun _ _ _ _ _ _ us hl => match us, hl with | [_], _ => rfl
    a__law_tape := f10
    d__law_tape := _
    F__law_tape := fun_mk (st := st__law_tape) l10 c10 k10
    g__law_tape := PySem.W.mg_of X G a10
    b__law_tape := (fun_mk (st := st__law_tape) l10 c10 k10).binds (ps := ["script"]) fun _ _ _ _ _ _ us hl => match us, hl with | [_], _ => rfl
    a__law_draw := f11
    d__law_draw := _
    F__law_draw := fun_mk (st := st__law_draw) l11 c11 k11
    g__law_draw := PySem.W.mg_of X G a11
    b__law_draw := (fun_mk (st := st__law_draw) l11 c11 k11).binds (ps := ["tape", "many"]) fun _ _ _ _ _ _ us hl => match us, hl with | [_, _], _ => rfl
    a__law_number := f12
    d__law_number := _
    F__law_number := fun_mk (st := st__law_number) l12 c12 k12
    g__law_number := PySem.W.mg_of X G a12
    b__law_number := (fun_mk (st := st__law_number) l12 c12 k12).binds (ps := ["tape"]) fun _ _ _ _ _ _ us hl => match us, hl with | [_], _ => rfl
    a__law_area := f13
    d__law_area := _
    F__law_area := fun_mk (st := st__law_area) l13 c13 k13
    g__law_area := PySem.W.mg_of X G a13
    b__law_area := (fun_mk (st := st__law_area) l13 c13 k13).binds (ps := ["tape", "names", "depth"]) fun _ _ _ _ _ _ us hl => match us, hl with | [_, _, _], _ => rfl
    a__law_relation := f14
    d__law_relation := _
    F__law_relation := fun_mk (st := st__law_relation) l14 c14 k14
    g__law_relation := PySem.W.mg_of X G a14
    b__law_relation := (fun_mk (st := st__law_relation) l14 c14 k14).binds (ps := ["tape"]) fun _ _ _ _ _ _ us hl => match us, hl with | [_], _ => rfl
    a__law_sum := f15
    d__law_sum := _
    F__law_sum := fun_mk (st := st__law_sum) l15 c15 k15
    g__law_sum := PySem.W.mg_of X G a15
    b__law_sum := (fun_mk (st := st__law_sum) l15 c15 k15).binds (ps := ["tape", "names", "accounts"]) fun _ _ _ _ _ _ us hl => match us, hl with | [_, _, _], _ => rfl
    a__law_each := f16
    d__law_each := _
    F__law_each := fun_mk (st := st__law_each) l16 c16 k16
    g__law_each := PySem.W.mg_of X G a16
    b__law_each := (fun_mk (st := st__law_each) l16 c16 k16).binds (ps := ["tape", "names", "accounts"]) fun _ _ _ _ _ _ us hl => match us, hl with | [_, _, _], _ => rfl
    a__law_constraint := f17
    d__law_constraint := _
    F__law_constraint := fun_mk (st := st__law_constraint) l17 c17 k17
    g__law_constraint := PySem.W.mg_of X G a17
    b__law_constraint := (fun_mk (st := st__law_constraint) l17 c17 k17).binds (ps := ["tape", "names", "accounts"]) fun _ _ _ _ _ _ us hl => match us, hl with | [_, _, _], _ => rfl
    a__law_premises := f18
    d__law_premises := _
    F__law_premises := fun_mk (st := st__law_premises) l18 c18 k18
    g__law_premises := PySem.W.mg_of X G a18
    b__law_premises := (fun_mk (st := st__law_premises) l18 c18 k18).binds (ps := ["tape", "names", "accounts", "most"]) fun _ _ _ _ _ _ us hl => match us, hl with | [_, _, _, _], _ => rfl
    a__law_entry := f19
    d__law_entry := _
    F__law_entry := fun_mk (st := st__law_entry) l19 c19 k19
    g__law_entry := PySem.W.mg_of X G a19
    b__law_entry := (fun_mk (st := st__law_entry) l19 c19 k19).binds (ps := ["entries", "account"]) fun _ _ _ _ _ _ us hl => match us, hl with | [_, _], _ => rfl
    a__law_books := f20
    d__law_books := _
    F__law_books := fun_mk (st := st__law_books) l20 c20 k20
    g__law_books := PySem.W.mg_of X G a20
    b__law_books := (fun_mk (st := st__law_books) l20 c20 k20).binds (ps := ["model", "ledger"]) fun _ _ _ _ _ _ us hl => match us, hl with | [_, _], _ => rfl
    a__law_within := f21
    d__law_within := _
    F__law_within := fun_mk (st := st__law_within) l21 c21 k21
    g__law_within := PySem.W.mg_of X G a21
    b__law_within := (fun_mk (st := st__law_within) l21 c21 k21).binds (ps := ["model", "area", "profile"]) fun _ _ _ _ _ _ us hl => match us, hl with | [_, _, _], _ => rfl
    a__law_profile := f22
    d__law_profile := _
    F__law_profile := fun_mk (st := st__law_profile) l22 c22 k22
    g__law_profile := PySem.W.mg_of X G a22
    b__law_profile := (fun_mk (st := st__law_profile) l22 c22 k22).binds (ps := ["model", "names"]) fun _ _ _ _ _ _ us hl => match us, hl with | [_, _], _ => rfl
    a__law_members := f23
    d__law_members := _
    F__law_members := fun_mk (st := st__law_members) l23 c23 k23
    g__law_members := PySem.W.mg_of X G a23
    b__law_members := (fun_mk (st := st__law_members) l23 c23 k23).binds (ps := ["model", "ledger", "area"]) fun _ _ _ _ _ _ us hl => match us, hl with | [_, _, _], _ => rfl
    a__law_worth := f24
    d__law_worth := _
    F__law_worth := fun_mk (st := st__law_worth) l24 c24 k24
    g__law_worth := PySem.W.mg_of X G a24
    b__law_worth := (fun_mk (st := st__law_worth) l24 c24 k24).binds (ps := ["model", "ledger", "books", "constraint"]) fun _ _ _ _ _ _ us hl => match us, hl with | [_, _, _, _], _ => rfl
    a__law_size := f25
    d__law_size := _
    F__law_size := fun_mk (st := st__law_size) l25 c25 k25
    g__law_size := PySem.W.mg_of X G a25
    b__law_size := (fun_mk (st := st__law_size) l25 c25 k25).binds (ps := ["model"]) fun _ _ _ _ _ _ us hl => match us, hl with | [_], _ => rfl
    a__law_amount := f26
    d__law_amount := _
    F__law_amount := fun_mk (st := st__law_amount) l26 c26 k26
    g__law_amount := PySem.W.mg_of X G a26
    b__law_amount := (fun_mk (st := st__law_amount) l26 c26 k26).binds (ps := ["tape"]) fun _ _ _ _ _ _ us hl => match us, hl with | [_], _ => rfl
    a__law_drawn_deals := f27
    d__law_drawn_deals := _
    F__law_drawn_deals := fun_mk (st := st__law_drawn_deals) l27 c27 k27
    g__law_drawn_deals := PySem.W.mg_of X G a27
    b__law_drawn_deals := (fun_mk (st := st__law_drawn_deals) l27 c27 k27).binds (ps := ["tape", "model", "crowd", "deals"]) fun _ _ _ _ _ _ us hl => match us, hl with | [_, _, _, _], _ => rfl
    a__law_listed := f28
    d__law_listed := _
    F__law_listed := fun_mk (st := st__law_listed) l28 c28 k28
    g__law_listed := PySem.W.mg_of X G a28
    b__law_listed := (fun_mk (st := st__law_listed) l28 c28 k28).binds (ps := ["model", "profile"]) fun _ _ _ _ _ _ us hl => match us, hl with | [_, _], _ => rfl
    a__law_ledger := f29
    d__law_ledger := _
    F__law_ledger := fun_mk (st := st__law_ledger) l29 c29 k29
    g__law_ledger := PySem.W.mg_of X G a29
    b__law_ledger := (fun_mk (st := st__law_ledger) l29 c29 k29).binds (ps := ["tape", "model", "people", "deals"]) fun _ _ _ _ _ _ us hl => match us, hl with | [_, _, _, _], _ => rfl
    a__law_same := f30
    d__law_same := _
    F__law_same := fun_mk (st := st__law_same) l30 c30 k30
    g__law_same := PySem.W.mg_of X G a30
    b__law_same := (fun_mk (st := st__law_same) l30 c30 k30).binds (ps := ["told", "due"]) fun _ _ _ _ _ _ us hl => match us, hl with | [_, _], _ => rfl
    a__law_names := f31
    d__law_names := _
    F__law_names := fun_mk (st := st__law_names) l31 c31 k31
    g__law_names := PySem.W.mg_of X G a31
    b__law_names := (fun_mk (st := st__law_names) l31 c31 k31).binds (ps := ["tape", "many"]) fun _ _ _ _ _ _ us hl => match us, hl with | [_, _], _ => rfl
    a__law_entries := f32
    d__law_entries := _
    F__law_entries := fun_mk (st := st__law_entries) l32 c32 k32
    g__law_entries := PySem.W.mg_of X G a32
    b__law_entries := (fun_mk (st := st__law_entries) l32 c32 k32).binds (ps := ["tape", "accounts"]) fun _ _ _ _ _ _ us hl => match us, hl with | [_, _], _ => rfl
    a__law_kind := f33
    d__law_kind := _
    F__law_kind := fun_mk (st := st__law_kind) l33 c33 k33
    g__law_kind := PySem.W.mg_of X G a33
    b__law_kind := (fun_mk (st := st__law_kind) l33 c33 k33).binds (ps := ["tape", "name", "names", "accounts"]) fun _ _ _ _ _ _ us hl => match us, hl with | [_, _, _, _], _ => rfl
    a__law_exactly := f34
    d__law_exactly := _
    F__law_exactly := fun_mk (st := st__law_exactly) l34 c34 k34
    g__law_exactly := PySem.W.mg_of X G a34
    b__law_exactly := (fun_mk (st := st__law_exactly) l34 c34 k34).binds (ps := ["model", "profile"]) fun _ _ _ _ _ _ us hl => match us, hl with | [_, _], _ => rfl
    a__law_narrow := f35
    d__law_narrow := _
    F__law_narrow := fun_mk (st := st__law_narrow) l35 c35 k35
    g__law_narrow := PySem.W.mg_of X G a35
    b__law_narrow := (fun_mk (st := st__law_narrow) l35 c35 k35).binds (ps := ["tape", "names", "area"]) fun _ _ _ _ _ _ us hl => match us, hl with | [_, _, _], _ => rfl
    a__law_short := f36
    d__law_short := _
    F__law_short := fun_mk (st := st__law_short) l36 c36 k36
    g__law_short := PySem.W.mg_of X G a36
    b__law_short := (fun_mk (st := st__law_short) l36 c36 k36).binds (ps := ["tape", "names", "accounts"]) fun _ _ _ _ _ _ us hl => match us, hl with | [_, _, _], _ => rfl
    a__law_scene := f37
    d__law_scene := _
    F__law_scene := fun_mk (st := st__law_scene) l37 c37 k37
    g__law_scene := PySem.W.mg_of X G a37
    b__law_scene := (fun_mk (st := st__law_scene) l37 c37 k37).binds (ps := ["tape", "full"]) fun _ _ _ _ _ _ us hl => match us, hl with | [_, _], _ => rfl
    a__law_world := f38
    d__law_world := _
    F__law_world := fun_mk (st := st__law_world) l38 c38 k38
    g__law_world := PySem.W.mg_of X G a38
    b__law_world := (fun_mk (st := st__law_world) l38 c38 k38).binds (ps := ["tape"]) fun _ _ _ _ _ _ us hl => match us, hl with | [_], _ => rfl
    a__law_loose := f39
    d__law_loose := _
    F__law_loose := fun_mk (st := st__law_loose) l39 c39 k39
    g__law_loose := PySem.W.mg_of X G a39
    b__law_loose := (fun_mk (st := st__law_loose) l39 c39 k39).binds (ps := ["constraint"]) fun _ _ _ _ _ _ us hl => match us, hl with | [_], _ => rfl
    a__law_sector_text := f40
    d__law_sector_text := _
    F__law_sector_text := fun_mk (st := st__law_sector_text) l40 c40 k40
    g__law_sector_text := PySem.W.mg_of X G a40
    b__law_sector_text := (fun_mk (st := st__law_sector_text) l40 c40 k40).binds (ps := ["sector", "level"]) fun _ _ _ _ _ _ us hl => match us, hl with | [_, _], _ => rfl
    a__law_times := f41
    d__law_times := _
    F__law_times := fun_mk (st := st__law_times) l41 c41 k41
    g__law_times := PySem.W.mg_of X G a41
    b__law_times := (fun_mk (st := st__law_times) l41 c41 k41).binds (ps := ["number", "name"]) fun _ _ _ _ _ _ us hl => match us, hl with | [_, _], _ => rfl
    a__law_constraint_text := f42
    d__law_constraint_text := _
    F__law_constraint_text := fun_mk (st := st__law_constraint_text) l42 c42 k42
    g__law_constraint_text := PySem.W.mg_of X G a42
    b__law_constraint_text := (fun_mk (st := st__law_constraint_text) l42 c42 k42).binds (ps := ["constraint"]) fun _ _ _ _ _ _ us hl => match us, hl with | [_], _ => rfl
    a__law_claim_text := f43
    d__law_claim_text := _
    F__law_claim_text := fun_mk (st := st__law_claim_text) l43 c43 k43
    g__law_claim_text := PySem.W.mg_of X G a43
    b__law_claim_text := (fun_mk (st := st__law_claim_text) l43 c43 k43).binds (ps := ["claim"]) fun _ _ _ _ _ _ us hl => match us, hl with | [_], _ => rfl
    a__law_is_plain := f44
    d__law_is_plain := _
    F__law_is_plain := fun_mk (st := st__law_is_plain) l44 c44 k44
    g__law_is_plain := PySem.W.mg_of X G a44
    b__law_is_plain := (fun_mk (st := st__law_is_plain) l44 c44 k44).binds (ps := ["e"]) fun _ _ _ _ _ _ us hl => match us, hl with | [_], _ => rfl
    a__law_is_refused := f45
    d__law_is_refused := _
    F__law_is_refused := fun_mk (st := st__law_is_refused) l45 c45 k45
    g__law_is_refused := PySem.W.mg_of X G a45
    b__law_is_refused := (fun_mk (st := st__law_is_refused) l45 c45 k45).binds (ps := ["claim", "constraint", "fraction"]) fun _ _ _ _ _ _ us hl => match us, hl with | [_, _, _], _ => rfl
    a__law_due_claim := f46
    d__law_due_claim := _
    F__law_due_claim := fun_mk (st := st__law_due_claim) l46 c46 k46
    g__law_due_claim := PySem.W.mg_of X G a46
    b__law_due_claim := (fun_mk (st := st__law_due_claim) l46 c46 k46).binds (ps := ["rows", "total", "more", "fraction"]) fun _ _ _ _ _ _ us hl => match us, hl with | [_, _, _, _], _ => rfl
    a__law_gcd := f47
    d__law_gcd := _
    F__law_gcd := fun_mk (st := st__law_gcd) l47 c47 k47
    g__law_gcd := PySem.W.mg_of X G a47
    b__law_gcd := (fun_mk (st := st__law_gcd) l47 c47 k47).binds (ps := ["one", "two"]) fun _ _ _ _ _ _ us hl => match us, hl with | [_, _], _ => rfl
    a__law_fraction := f48
    d__law_fraction := _
    F__law_fraction := fun_mk (st := st__law_fraction) l48 c48 k48
    g__law_fraction := PySem.W.mg_of X G a48
    b__law_fraction := (fun_mk (st := st__law_fraction) l48 c48 k48).binds (ps := ["above", "below"]) fun _ _ _ _ _ _ us hl => match us, hl with | [_, _], _ => rfl
    a__law_ratio := f49
    d__law_ratio := _
    F__law_ratio := fun_mk (st := st__law_ratio) l49 c49 k49
    g__law_ratio := PySem.W.mg_of X G a49
    b__law_ratio := (fun_mk (st := st__law_ratio) l49 c49 k49).binds (ps := ["tape"]) fun _ _ _ _ _ _ us hl => match us, hl with | [_], _ => rfl
    a_law := fa
    d_law := _
    F_law := fun_mk (st := st_law) l50 c50 k50
    g_law := PySem.W.mg_of X G a50
    b_law := (fun_mk (st := st_law) l50 c50 k50).binds (ps := ["script"]) fun _ _ _ _ _ _ us hl => match us, hl with | [_], _ => rfl
    m_ValueError := PySem.W.mg_none_of X G z0
    m_abs := PySem.W.mg_none_of X G z1
    m_bool := PySem.W.mg_none_of X G z2
    m_int := PySem.W.mg_none_of X G z3
    m_isinstance := PySem.W.mg_none_of X G z4
    m_len := PySem.W.mg_none_of X G z5
    m_list := PySem.W.mg_none_of X G z6
    m_max := PySem.W.mg_none_of X G z7
    m_min := PySem.W.mg_none_of X G z8
    m_range := PySem.W.mg_none_of X G z9
    m_repr := PySem.W.mg_none_of X G z10
    m_str := PySem.W.mg_none_of X G z11
    m_sum := PySem.W.mg_none_of X G z12
    m_tuple := PySem.W.mg_none_of X G z13
    a_BadParticipant := e0
    g_BadParticipant := PySem.W.mg_of X G ea0
    a_BadTransaction := e1
    g_BadTransaction := PySem.W.mg_of X G ea1
    a_BadValue := e2
    g_BadValue := PySem.W.mg_of X G ea2
    a_DoesNotHold := e3
    g_DoesNotHold := PySem.W.mg_of X G ea3
    a_Mistakes := e4
    g_Mistakes := PySem.W.mg_of X G ea4
    a_NeedsJournal := e5
    g_NeedsJournal := PySem.W.mg_of X G ea5
    a_NeedsModel := e6
    g_NeedsModel := PySem.W.mg_of X G ea6
    a_NotASum := e7
    g_NotASum := PySem.W.mg_of X G ea7
    a_NotRefuted := e8
    g_NotRefuted := PySem.W.mg_of X G ea8
    a_NothingToRedo := e9
    g_NothingToRedo := PySem.W.mg_of X G ea9
    a_NothingToUndo := e10
    g_NothingToUndo := PySem.W.mg_of X G ea10
    a_ProofError := e11
    g_ProofError := PySem.W.mg_of X G ea11
    a_ReadError := e12
    g_ReadError := PySem.W.mg_of X G ea12
    a_TooMany := e13
    g_TooMany := PySem.W.mg_of X G ea13
    a_UnknownClaim := e14
    g_UnknownClaim := PySem.W.mg_of X G ea14
    M_NotASum := mkC0_of wo0_ (PySem.W.mg_of X G ea7) (gaK_of ea7)
    x_NotASum := we0
    kit_NotASum_BadParticipant := wk0_BadParticipant
    kit_NotASum_BadTransaction := wk0_BadTransaction
    kit_NotASum_BadValue := wk0_BadValue
    kit_NotASum_DoesNotHold := wk0_DoesNotHold
    kit_NotASum_Mistakes := wk0_Mistakes
    kit_NotASum_NeedsJournal := wk0_NeedsJournal
    kit_NotASum_NeedsModel := wk0_NeedsModel
    kit_NotASum_NotASum := wk0_NotASum
    kit_NotASum_NotRefuted := wk0_NotRefuted
    kit_NotASum_NothingToRedo := wk0_NothingToRedo
    kit_NotASum_NothingToUndo := wk0_NothingToUndo
    kit_NotASum_ProofError := wk0_ProofError
    kit_NotASum_ReadError := wk0_ReadError
    kit_NotASum_TooMany := wk0_TooMany
    kit_NotASum_UnknownClaim := wk0_UnknownClaim
    kit_NotASum_ValueError := wk0_ValueError
    exm_NotASum_NotASum := wm0_NotASum
  }
  exact ⟨T.d_law, fun s v => .of_eq rfl, fun base _ _ => law_okG (ok_law T) law_true⟩
end Go
open PySem PySem.W PyProof.Rows
set_option maxHeartbeats 0 in
theorem PySem.Challenge.cw_ledgerproof_k80_raised_claims_holds : PySem.Challenge.rw_ledgerproof_k80_raised_claims.Holds := by
  w_on; o_law; k_head; (case hw => w_witness2)
  k_fill
  refine Fx.walk_ofG (l := PySem.Challenge.rw_ledgerproof_k80_raised_claims) (n := 63) (k := 56) (x := "script") (sp := fun w => Fx.spLaw _) rfl (by decide) rfl ⟨rfl, by decide, by decide⟩ (fun w h Y => PySem.W.kIn_of Y) ?F (fun _ _ a ns hl hS => ⟨a, ns, rfl, hS, hl, fun _ => rfl⟩)
  case F =>
    intro w mg fa h KX G hmg
    refine' Go.all_mk Go.law_true KX G hmg ?a0 ?l0 ?c0 ?k0 ?a1 ?l1 ?c1 ?k1 ?a2 ?l2 ?c2 ?k2 ?a3 ?l3 ?c3 ?k3 ?a4 ?l4 ?c4 ?k4 ?a5 ?l5 ?c5 ?k5 ?a6 ?l6 ?c6 ?k6 ?a7 ?l7 ?c7 ?k7 ?a8 ?l8 ?c8 ?k8 ?a9 ?l9 ?c9 ?k9 ?a10 ?l10 ?c10 ?k10 ?a11 ?l11 ?c11 ?k11 ?a12 ?l12 ?c12 ?k12 ?a13 ?l13 ?c13 ?k13 ?a14 ?l14 ?c14 ?k14 ?a15 ?l15 ?c15 ?k15 ?a16 ?l16 ?c16 ?k16 ?a17 ?l17 ?c17 ?k17 ?a18 ?l18 ?c18 ?k18 ?a19 ?l19 ?c19 ?k19 ?a20 ?l20 ?c20 ?k20 ?a21 ?l21 ?c21 ?k21 ?a22 ?l22 ?c22 ?k22 ?a23 ?l23 ?c23 ?k23 ?a24 ?l24 ?c24 ?k24 ?a25 ?l25 ?c25 ?k25 ?a26 ?l26 ?c26 ?k26 ?a27 ?l27 ?c27 ?k27 ?a28 ?l28 ?c28 ?k28 ?a29 ?l29 ?c29 ?k29 ?a30 ?l30 ?c30 ?k30 ?a31 ?l31 ?c31 ?k31 ?a32 ?l32 ?c32 ?k32 ?a33 ?l33 ?c33 ?k33 ?a34 ?l34 ?c34 ?k34 ?a35 ?l35 ?c35 ?k35 ?a36 ?l36 ?c36 ?k36 ?a37 ?l37 ?c37 ?k37 ?a38 ?l38 ?c38 ?k38 ?a39 ?l39 ?c39 ?k39 ?a40 ?l40 ?c40 ?k40 ?a41 ?l41 ?c41 ?k41 ?a42 ?l42 ?c42 ?k42 ?a43 ?l43 ?c43 ?k43 ?a44 ?l44 ?c44 ?k44 ?a45 ?l45 ?c45 ?k45 ?a46 ?l46 ?c46 ?k46 ?a47 ?l47 ?c47 ?k47 ?a48 ?l48 ?c48 ?k48 ?a49 ?l49 ?c49 ?k49 ?a50 ?l50 ?c50 ?k50 ?z0 ?z1 ?z2 ?z3 ?z4 ?z5 ?z6 ?z7 ?z8 ?z9 ?z10 ?z11 ?z12 ?z13 ?ea0 ?ea1 ?ea2 ?ea3 ?ea4 ?ea5 ?ea6 ?ea7 ?ea8 ?ea9 ?ea10 ?ea11 ?ea12 ?ea13 ?ea14 ?wo0_ ?we0 ?wk0_BadParticipant ?wk0_BadTransaction ?wk0_BadValue ?wk0_DoesNotHold ?wk0_Mistakes ?wk0_NeedsJournal ?wk0_NeedsModel ?wk0_NotASum ?wk0_NotRefuted ?wk0_NothingToRedo ?wk0_NothingToUndo ?wk0_ProofError ?wk0_ReadError ?wk0_TooMany ?wk0_UnknownClaim ?wk0_ValueError ?wm0_NotASum
    (case a0 => k_is)
    (case l0 => k_is)
    (case c0 => k_is)
    (case k0 => k_is)
    (case a1 => k_is)
    (case l1 => k_is)
    (case c1 => k_is)
    (case k1 => k_is)
    (case a2 => k_is)
    (case l2 => k_is)
    (case c2 => k_is)
    (case k2 => k_is)
    (case a3 => k_is)
    (case l3 => k_is)
    (case c3 => k_is)
    (case k3 => k_is)
    (case a4 => k_is)
    (case l4 => k_is)
    (case c4 => k_is)
    (case k4 => k_is)
    (case a5 => k_is)
    (case l5 => k_is)
    (case c5 => k_is)
    (case k5 => k_is)
    (case a6 => k_is)
    (case l6 => k_is)
    (case c6 => k_is)
    (case k6 => k_is)
    (case a7 => k_is)
    (case l7 => k_is)
    (case c7 => k_is)
    (case k7 => k_is)
    (case a8 => k_is)
    (case l8 => k_is)
    (case c8 => k_is)
    (case k8 => k_is)
    (case a9 => k_is)
    (case l9 => k_is)
    (case c9 => k_is)
    (case k9 => k_is)
    (case a10 => k_is)
    (case l10 => k_is)
    (case c10 => k_is)
    (case k10 => k_is)
    (case a11 => k_is)
    (case l11 => k_is)
    (case c11 => k_is)
    (case k11 => k_is)
    (case a12 => k_is)
    (case l12 => k_is)
    (case c12 => k_is)
    (case k12 => k_is)
    (case a13 => k_is)
    (case l13 => k_is)
    (case c13 => k_is)
    (case k13 => k_is)
    (case a14 => k_is)
    (case l14 => k_is)
    (case c14 => k_is)
    (case k14 => k_is)
    (case a15 => k_is)
    (case l15 => k_is)
    (case c15 => k_is)
    (case k15 => k_is)
    (case a16 => k_is)
    (case l16 => k_is)
    (case c16 => k_is)
    (case k16 => k_is)
    (case a17 => k_is)
    (case l17 => k_is)
    (case c17 => k_is)
    (case k17 => k_is)
    (case a18 => k_is)
    (case l18 => k_is)
    (case c18 => k_is)
    (case k18 => k_is)
    (case a19 => k_is)
    (case l19 => k_is)
    (case c19 => k_is)
    (case k19 => k_is)
    (case a20 => k_is)
    (case l20 => k_is)
    (case c20 => k_is)
    (case k20 => k_is)
    (case a21 => k_is)
    (case l21 => k_is)
    (case c21 => k_is)
    (case k21 => k_is)
    (case a22 => k_is)
    (case l22 => k_is)
    (case c22 => k_is)
    (case k22 => k_is)
    (case a23 => k_is)
    (case l23 => k_is)
    (case c23 => k_is)
    (case k23 => k_is)
    (case a24 => k_is)
    (case l24 => k_is)
    (case c24 => k_is)
    (case k24 => k_is)
    (case a25 => k_is)
    (case l25 => k_is)
    (case c25 => k_is)
    (case k25 => k_is)
    (case a26 => k_is)
    (case l26 => k_is)
    (case c26 => k_is)
    (case k26 => k_is)
    (case a27 => k_is)
    (case l27 => k_is)
    (case c27 => k_is)
    (case k27 => k_is)
    (case a28 => k_is)
    (case l28 => k_is)
    (case c28 => k_is)
    (case k28 => k_is)
    (case a29 => k_is)
    (case l29 => k_is)
    (case c29 => k_is)
    (case k29 => k_is)
    (case a30 => k_is)
    (case l30 => k_is)
    (case c30 => k_is)
    (case k30 => k_is)
    (case a31 => k_is)
    (case l31 => k_is)
    (case c31 => k_is)
    (case k31 => k_is)
    (case a32 => k_is)
    (case l32 => k_is)
    (case c32 => k_is)
    (case k32 => k_is)
    (case a33 => k_is)
    (case l33 => k_is)
    (case c33 => k_is)
    (case k33 => k_is)
    (case a34 => k_is)
    (case l34 => k_is)
    (case c34 => k_is)
    (case k34 => k_is)
    (case a35 => k_is)
    (case l35 => k_is)
    (case c35 => k_is)
    (case k35 => k_is)
    (case a36 => k_is)
    (case l36 => k_is)
    (case c36 => k_is)
    (case k36 => k_is)
    (case a37 => k_is)
    (case l37 => k_is)
    (case c37 => k_is)
    (case k37 => k_is)
    (case a38 => k_is)
    (case l38 => k_is)
    (case c38 => k_is)
    (case k38 => k_is)
    (case a39 => k_is)
    (case l39 => k_is)
    (case c39 => k_is)
    (case k39 => k_is)
    (case a40 => k_is)
    (case l40 => k_is)
    (case c40 => k_is)
    (case k40 => k_is)
    (case a41 => k_is)
    (case l41 => k_is)
    (case c41 => k_is)
    (case k41 => k_is)
    (case a42 => k_is)
    (case l42 => k_is)
    (case c42 => k_is)
    (case k42 => k_is)
    (case a43 => k_is)
    (case l43 => k_is)
    (case c43 => k_is)
    (case k43 => k_is)
    (case a44 => k_is)
    (case l44 => k_is)
    (case c44 => k_is)
    (case k44 => k_is)
    (case a45 => k_is)
    (case l45 => k_is)
    (case c45 => k_is)
    (case k45 => k_is)
    (case a46 => k_is)
    (case l46 => k_is)
    (case c46 => k_is)
    (case k46 => k_is)
    (case a47 => k_is)
    (case l47 => k_is)
    (case c47 => k_is)
    (case k47 => k_is)
    (case a48 => k_is)
    (case l48 => k_is)
    (case c48 => k_is)
    (case k48 => k_is)
    (case a49 => k_is)
    (case l49 => k_is)
    (case c49 => k_is)
    (case k49 => k_is)
    (case a50 => k_is)
    (case l50 => k_is)
    (case c50 => k_is)
    (case k50 => k_is)
    (case z0 => k_is)
    (case z1 => k_is)
    (case z2 => k_is)
    (case z3 => k_is)
    (case z4 => k_is)
    (case z5 => k_is)
    (case z6 => k_is)
    (case z7 => k_is)
    (case z8 => k_is)
    (case z9 => k_is)
    (case z10 => k_is)
    (case z11 => k_is)
    (case z12 => k_is)
    (case z13 => k_is)
    (case ea0 => k_is)
    (case ea1 => k_is)
    (case ea2 => k_is)
    (case ea3 => k_is)
    (case ea4 => k_is)
    (case ea5 => k_is)
    (case ea6 => k_is)
    (case ea7 => k_is)
    (case ea8 => k_is)
    (case ea9 => k_is)
    (case ea10 => k_is)
    (case ea11 => k_is)
    (case ea12 => k_is)
    (case ea13 => k_is)
    (case ea14 => k_is)
    (case wo0_ => kernel_rfl)
    (case we0 => kernel_rfl)
    (case wk0_BadParticipant => kernel_rfl)
    (case wk0_BadTransaction => kernel_rfl)
    (case wk0_BadValue => kernel_rfl)
    (case wk0_DoesNotHold => kernel_rfl)
    (case wk0_Mistakes => kernel_rfl)
    (case wk0_NeedsJournal => kernel_rfl)
    (case wk0_NeedsModel => kernel_rfl)
    (case wk0_NotASum => kernel_rfl)
    (case wk0_NotRefuted => kernel_rfl)
    (case wk0_NothingToRedo => kernel_rfl)
    (case wk0_NothingToUndo => kernel_rfl)
    (case wk0_ProofError => kernel_rfl)
    (case wk0_ReadError => kernel_rfl)
    (case wk0_TooMany => kernel_rfl)
    (case wk0_UnknownClaim => kernel_rfl)
    (case wk0_ValueError => kernel_rfl)
    (case wm0_NotASum => kernel_rfl)
