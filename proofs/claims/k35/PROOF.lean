import PyProof.Rows.All
import Wide.All
import OpenK.AllK
import Wide.FinOn
import HandS.ForMost
import HandS.Walk
import HandS.TupAny
import HandS.Rev
import HandS.Strs
import HandS.Exc
import HandS.ExcInit
import HandS.ExcIs
import HandS.ExcField
import HandS.ExcOwn
import HandS.WordsExc
import HandS.HotCalls
import HandS.IsInst
import HandS.Conv
import HandS.Codes
import HandS.Zip
import HandS.Flow
import HandS.Deep
import PyProof.Rows.ListStrD
import HandS.Star
import HandS.TupMul
import PyProof.StrOps2
import KE.IntTextLaws
import HandS.DictComp
import KE.KRevSl
import PySem.Challenge.RW_ledgerproof_k35_made_ledgers
set_option Elab.async false
set_option linter.all false
set_option maxRecDepth 100000
namespace Fx
open PySem PySem.Spec PyProof.Rows L2
def Bare (o : Obj) : Prop := o.cls = .type "tuple" ∧ o.dict = none
/-- a new tuple of these items -/
def NewT (xs : List V) (H : Hp) (Q : VK) : Prop := ∀ (p : Addr) (o : Obj), H p = none → Bare o → Q (.ref p) (upd H p (.frz o (.tup xs)))
def tTupN (t : TA) : TE := fun σ H Q => t σ H fun xs H1 => xs.length ≤ sizeLine ∧ NewT xs H1 Q
theorem pe_tupN {X : Cx} {es : List Expr} {t : TA} {pos : Pos} {x1} (hes : PA X es t) : PE X (.Tuple es x1 pos) (tTupN t) := ⟨fun pins s σ H Q I hq =>
  wpAny_Tuple_spliced (thn (hes.run pos pins s σ H _ I hq) fun us s1 w => by
    obtain ⟨ys, H2, J, ry, hz, k⟩ := w
    refine ⟨ry.length ▸ hz, ?_⟩
    have hfree : H2 s1.heap.objs.size = none := J.hok.fresh (Nat.le_refl _)
    refine ⟨.ref s1.heap.objs.size, _, J.laid (t' := s1.toks) (o := .frz _ (.tup ys)) (fun c d e => Heap.get?_push_of_some _ e) (Nat.le_refl _) ⟨Heap.get?_push_size _ rfl, hz, us, ry, ⟨_, Heap.get?_push_size _ rfl, rfl, _, rfl⟩⟩, rfl, k _ _ hfree ⟨rfl, rfl⟩⟩)⟩
def rTupleN (K : PySem.W.Frag) : List V → Hp → VK → Prop := fun xs H Q => ∃ p ys, xs = [.ref p] ∧ ((SqL K H p ys ∧ NewT ys H Q) ∨ (SqT K H p ys ∧ Q (.ref p) H))
theorem call_tupleN {X : Cx} : CallR X (.type "tuple") (rTupleN X.K) := fun pins s σ H xs us Q I r ⟨p, ys, e, h⟩ => by
  subst e
  obtain ⟨u, rfl, ru⟩ := vals1 r
  cases ru
  rcases h with ⟨hl, k⟩ | ⟨ht, k⟩
  · obtain ⟨its, ri, isl, hz⟩ := I.list hl
    have len := ri.length
    refine call_tuple_list isl.isList (fun g kp => ?_) (by simp only [List.size_toArray] <;> omega)
    have J : Inv X pins σ H { s with heap := g } := I.kept (t' := s.toks) kp
    exact ⟨.ref g.objs.size, _, J.laid (t' := s.toks) (o := .frz { cls := .type "tuple", data := .seq its.toArray } (.tup ys)) (fun c d e => Heap.get?_push_of_some _ e) (Nat.le_refl _) ⟨Heap.get?_push_size _ rfl, hz, its, ri, IsTup.new _ _⟩, rfl, k _ _ (J.hok.fresh (Nat.le_refl _)) ⟨rfl, rfl⟩⟩
  · obtain ⟨its, ri, ist, hz⟩ := I.tuple ht
    exact call_tuple_same ist ⟨.ref p, H, I, rfl, k⟩
def rSlN (K : PySem.W.Frag) : V → Option Int → Option Int → Hp → VK → Prop := fun x lo hi H Q => ∃ a xs, x = .ref a ∧ SqT K H a xs ∧
  ((HT.sIx xs.length 0 lo = 0 ∧ HT.sIx xs.length xs.length hi = xs.length) → Q (.ref a) H) ∧ (¬ (HT.sIx xs.length 0 lo = 0 ∧ HT.sIx xs.length xs.length hi = xs.length) → NewT (cutV xs lo hi) H Q)
theorem sl_tupN {X : Cx} : SlR X (rSlN X.K) := fun pins s σ H x v vl vu lo hi sl Q I rx hs pl pu ⟨a, xs, e, hx, q1, q2⟩ => by
  subst e
  cases rx
  obtain ⟨its, ri, ist, hz⟩ := I.tuple hx
  have len : its.toArray.size = xs.length := by rw [List.size_toArray, ← ri.length]
  refine ⟨"tuple", _, PyProof.Rows.slot_tuple_getitem.lookup, ist.typeIs, ?_⟩
  by_cases hw : HT.sIx xs.length 0 lo = 0 ∧ HT.sIx xs.length xs.length hi = xs.length
  · exact getItem_tuple_whole ist hs pl pu (by rw [len]; exact hw) ⟨.ref a, H, I, rfl, q1 hw⟩
  · refine HT.getItem_tuple_cut ist hs pl pu (by rw [len]; exact hw) ?_ (by rw [len]; exact hz)
    rw [len]
    exact ⟨.ref s.heap.objs.size, _, I.laid (t' := s.toks) (o := .frz _ (.tup (cutV xs lo hi))) (fun c d e => Heap.get?_push_of_some _ e) (Nat.le_refl _) ⟨Heap.get?_push_size _ rfl, Nat.le_trans (cutV_length xs lo hi) hz, _, (ri.drop (HT.sIx xs.length 0 lo)).take (HT.sIx xs.length xs.length hi - HT.sIx xs.length 0 lo), IsTup.new _ _⟩, rfl, q2 hw _ _ (I.hok.fresh (Nat.le_refl _)) ⟨rfl, rfl⟩⟩
def rCatN (K : PySem.W.Frag) : R2 := fun x y H Q => ∃ a b xs ys, x = .ref a ∧ y = .ref b ∧ SqT K H a xs ∧ SqT K H b ys ∧ xs.length + ys.length ≤ sizeLine ∧
  (xs = [] → Q (.ref b) H) ∧ (xs ≠ [] → ys = [] → Q (.ref a) H) ∧ (xs ≠ [] → ys ≠ [] → NewT (xs ++ ys) H Q)
theorem op_catN {X : Cx} : OpR X (binaryOp .Add) (rCatN X.K) := fun pins s σ H x y v u Q I rx ry ⟨a, b, xs, ys, e1, e2, ha, hb, hz, q0, q1, q2⟩ => by
  subst e1 e2
  cases rx
  cases ry
  obtain ⟨its, r1, p1, _⟩ := I.tuple ha
  obtain ⟨its2, r2, p2, _⟩ := I.tuple hb
  by_cases hx : xs = []
  · subst hx
    cases r1
    exact cat_tup0 p1 p2 ⟨.ref b, H, I, rfl, q0 rfl⟩
  · have k2 : ∀ z : its2 ≠ [], ys ≠ [] := fun z w => z (r2.nil_iff.mpr w)
    refine HT.cat_tup p1 p2 (fun z => hx (r1.nil_iff.mp z)) (fun z => ⟨.ref a, H, I, rfl, q1 hx (r2.nil_iff.mp z)⟩) (fun z => ?_) (by rw [← r1.length, ← r2.length]; exact hz)
    exact ⟨.ref s.heap.objs.size, _, I.laid (t' := s.toks) (o := .frz _ (.tup (xs ++ ys))) (fun c d e => Heap.get?_push_of_some _ e) (Nat.le_refl _) ⟨Heap.get?_push_size _ rfl, by rw [List.length_append]; exact hz, _, r1.append r2, IsTup.new _ _⟩, rfl, q2 hx (k2 z) _ _ (I.hok.fresh (Nat.le_refl _)) ⟨rfl, rfl⟩⟩
def tTupRevN (K : PySem.W.Frag) (te : TE) : TE := fun σ H Q => te σ H fun v H1 => ∃ (a : Addr) (xs : List V), v = .ref a ∧ SqL K H1 a xs ∧ NewT xs.reverse H1 Q
theorem pe_tupRevN {X : Cx} {e : Expr} {te : TE} {p p2 pos pos2 : Pos} (hc : X.calm = true) (hg : Gl X "tuple") (hm : X.mg "tuple" = none) (hg2 : Gl X "reversed") (hm2 : X.mg "reversed" = none) (he : PE X e te)
    (hs : starEach [e] X.env = (false, eval e X.env) :: starEach [] X.env := by rfl)
    (hs2 : starEach [.Call (.Name "reversed" p2) [e] [] pos2] X.env = (false, eval (.Call (.Name "reversed" p2) [e] [] pos2) X.env) :: starEach [] X.env := by rfl) :
    PE X (.Call (.Name "tuple" p) [.Call (.Name "reversed" p2) [e] [] pos2] [] pos) (tTupRevN X.K te) := ⟨fun pins s σ H Q I h => by
  refine Call_ (ld_blt I hg hm boot_tuple (PyProof.Rows.callWith_type1 (args_cons (Call_ (ld_blt I hg2 hm2 PyProof.Rows.boot_reversed (PyProof.Rows.callWith_type1 (args_cons (thn (he.run pins s σ H _ I h) fun u s1 w => args_nil ?_) hs) hs rfl))) hs2) hs2 rfl))
  obtain ⟨v, H1, J, rv1, a, xs, ev, hl, k⟩ := w
  subst ev
  obtain rfl : u = Value.ref a := rv1
  obtain ⟨its, rv, isl, hz⟩ := J.list hl
  refine call_reversed_list isl.isList (args_nil ?_)
  obtain ⟨f0, f1, f2, f3, f4, f5⟩ := J.fpOk (H' := H1) (b := s1.heap.objs.size) (Nat.le_refl _) (J.hok.fresh (Nat.le_refl _))
  obtain ⟨ol, hol, _⟩ := id isl.isList
  have small : its.toArray.size ≤ sizeLine := by rw [List.size_toArray, ← rv.length]; exact hz
  refine RT.call_tuple_rev (s := { s1 with heap := s1.heap.push (revObj a ((its.toArray.size : Int) - 1)) }) (J.ok.hd hc) ⟨_, Heap.get?_push_size _ rfl, rfl, rfl⟩ (isl.isList.push _) (Nat.ne_of_lt (Heap.lt_size hol)) small fun g tk acc hk hi => ?_
  have J2 : Inv X pins σ H1 { s1 with heap := s1.heap.push (revObj a ((its.toArray.size : Int) - 1)) } := J.kept (t' := s1.toks) fun c d e => Heap.get?_push_of_some _ e
  have J3 : Inv X pins σ H1 { s1 with heap := g, toks := tk } := J2.turned (t' := tk) (fun c d hb e => hk c d hb e) f0 f1 f3 f4 f5
  refine ⟨.ref g.objs.size, _, J3.laid (t' := tk) (o := .frz _ (.tup xs.reverse)) (fun c d e => Heap.get?_push_of_some _ e) (Nat.le_refl _) ⟨Heap.get?_push_size _ rfl, by rw [List.length_reverse]; exact hz, acc.toList, RT.vals_rev rv hi, ?_⟩, rfl, k _ _ (J3.hok.fresh (Nat.le_refl _)) ⟨rfl, rfl⟩⟩
  rw [Array.toArray_toList]
  exact IsTup.new _ _⟩
end Fx
namespace Fx
open PySem PySem.Spec PyProof.Rows L2
inductive T where
  | non | bl (b : Bool) | int (i : Int) | str (x : Str) | obj (a : Addr) | ty (n : String)
  | tup (ts : List T) | lst (ts : List T) | kst (ts : List T) | ref (i : Nat) | wt (ts : List T)
  | exn (c : Str) (own : Bool) (ns : List Str) (ts : List T)
  | dct (ks : List Key) (ts : List T)
inductive O where
  | lst (ts : List T)
  | ins (C : Addr) (fs : List (Str × T))
  | dct (ks : List Key) (ts : List T)
abbrev Sto := List O
abbrev Env := List (Option T)
/-- an error of the program: its class's name, whether it has a dict, its fields -/
structure Exn where
  cls : Str
  own : Bool
  ns : List Str
  ts : List T
/-- where the store's things stand; what stands elsewhere and may change, too -/
structure Wd where
  at_ : List Addr
  out : List Addr
def Wd.av (ρ : Wd) : List Addr := ρ.at_ ++ ρ.out
def Wd.push (ρ : Wd) (p : Addr) : Wd := ⟨ρ.at_ ++ [p], ρ.out⟩
inductive R (α : Type) where
  | ok (a : α) (S : Sto) | err (x : Exn) (S : Sto) | bad
def R.bind {α β : Type} (r : R α) (f : α → Sto → R β) : R β := match r with
  | .ok a S => f a S
  | .err x S => .err x S
  | .bad => .bad
theorem R.bind_assoc {α β γ : Type} (r : R α) (f : α → Sto → R β) (g : β → Sto → R γ) : (r.bind f).bind g = r.bind fun a S => (f a S).bind g := by cases r <;> rfl
section
variable (K : PySem.W.Frag)
/-- a tuple, a list that never changes from here on -/
def FT (ρ : Wd) (H : Hp) (a : Addr) (xs : List V) : Prop := ((∃ o, H a = some (.frz o (.tup xs)) ∧ Bare o) ∧ a ∉ ρ.av) ∨ ∃ (o : Obj) (its : Array Value) (n : Nat), K.lookup a = some o ∧ Bare o ∧ o.data = .seq its n ∧ its.size ≤ sizeLine ∧ Vals xs its.toList
def FL (ρ : Wd) (H : Hp) (a : Addr) (xs : List V) : Prop := (Rd H a (.lst xs) ∧ a ∉ ρ.av) ∨ SqL K (fun _ => none) a xs
/-- the class that the program's top has by this name -/
def gaK (c : Str) : Option Addr := match PySem.W.nsIn K mainGlobals c with
  | some (some (.ref f)) => some f
  | _ => none
/-- at a: a caught error of the class at C, its dict at d -/
def exh (a C : Addr) (d : Option Addr) : HO := .ext fun h => ∃ (oe : Obj) (vs : Array Value), h.get? a = some oe ∧ Zc (.ref C) d oe ∧ oe.data = .fields vs
def XD (ρ : Wd) (H : Hp) (d : Option Addr) (own : Bool) (ns : List Str) (xs : List V) : Prop := match d with
  | none => own = false ∧ ns = [] ∧ xs = []
  | some dd => own = true ∧ H dd = some (.xd (ns.zip xs)) ∧ dd ∉ ρ.av ∧ ns.length = xs.length
mutual
inductive Rep (ρ : Wd) (H : Hp) : V → T → Prop
  | non : Rep ρ H .non .non
  | bl (b : Bool) : Rep ρ H (.bl b) (.bl b)
  | int (i : Int) : Rep ρ H (.int i) (.int i)
  | str (x : Str) : Rep ρ H (.str x) (.str x)
  | obj (a : Addr) : Rep ρ H (.ref a) (.obj a)
  | ty (n : String) : Rep ρ H (.ty n) (.ty n)
  | ref {i : Nat} {a : Addr} : ρ.at_[i]? = some a → Rep ρ H (.ref a) (.ref i)
  | tup {a : Addr} {xs : List V} {ts : List T} : FT K ρ H a xs → Reps ρ H xs ts → Rep ρ H (.ref a) (.tup ts)
  | wt {a : Addr} {xs : List V} {ts : List T} : Rd H a (.tup xs) → a ∉ ρ.av → Reps ρ H xs ts → Rep ρ H (.ref a) (.wt ts)
  | lst {a : Addr} {xs : List V} {ts : List T} : H a = some (.lst xs) → a ∉ ρ.av → Reps ρ H xs ts → Rep ρ H (.ref a) (.lst ts)
  | exn {a C : Addr} {d : Option Addr} {c : Str} {own : Bool} {ns : List Str} {xs : List V} {ts : List T} : gaK K c = some C → H a = some (exh a C d) → a ∉ ρ.av → XD ρ H d own ns xs → Reps ρ H xs ts → Rep ρ H (.ref a) (.exn c own ns ts)
  | dct {a : Addr} {kvs : List (Key × V)} {ks : List Key} {ts : List T} : H a = some (.dK kvs) → a ∉ ρ.av → kvs.map (·.1) = ks → Reps ρ H (kvs.map (·.2)) ts → Rep ρ H (.ref a) (.dct ks ts)
  | kst {a : Addr} {xs : List V} {ts : List T} : FL K ρ H a xs → Reps ρ H xs ts → Rep ρ H (.ref a) (.kst ts)
inductive Reps (ρ : Wd) (H : Hp) : List V → List T → Prop
  | nil : Reps ρ H [] []
  | cons {v : V} {t : T} {vs : List V} {ts : List T} : Rep ρ H v t → Reps ρ H vs ts → Reps ρ H (v :: vs) (t :: ts)
end
end
/-- from one state to a later one -/
structure Ext (ρ : Wd) (H : Hp) (ρ' : Wd) (H' : Hp) : Prop where
  pre : ∃ n, ρ'.at_ = ρ.at_ ++ n
  out : ∀ a ∈ ρ.out, a ∈ ρ'.out
  fresh : ∀ p ∈ ρ'.av, p ∉ ρ.av → H p = none
  keep : ∀ a o, H a = some o → a ∉ ρ.at_ → H' a = some o
  old : ∀ a ∈ ρ'.at_, a ∈ ρ.av → a ∈ ρ.at_
section
variable {K : PySem.W.Frag} {ρ ρ' ρ'' : Wd} {H H' H'' : Hp}
theorem Wd.at_av {ρ : Wd} {a : Addr} (h : a ∉ ρ.av) : a ∉ ρ.at_ := fun q => h (List.mem_append_left _ q)
theorem Ext.refl (ρ : Wd) (H : Hp) : Ext ρ H ρ H := ⟨⟨[], (List.append_nil _).symm⟩, fun _ h => h, fun p a b => absurd a b, fun _ _ h _ => h, fun _ h _ => h⟩
theorem Ext.here (k : ∀ a o, H a = some o → a ∉ ρ.at_ → H' a = some o) : Ext ρ H ρ H' := ⟨⟨[], (List.append_nil _).symm⟩, fun _ h => h, fun p a b => absurd a b, k, fun _ h _ => h⟩
theorem Ext.trans (a : Ext ρ H ρ' H') (b : Ext ρ' H' ρ'' H'') : Ext ρ H ρ'' H'' where
  pre := by
    obtain ⟨n, e⟩ := a.pre
    obtain ⟨m, e'⟩ := b.pre
    exact ⟨n ++ m, by rw [e', e, List.append_assoc]⟩
  out := fun x m => b.out x (a.out x m)
  fresh := fun p h1 h2 => by
    by_cases h3 : p ∈ ρ'.av
    · exact a.fresh p h3 h2
    · have h4 := b.fresh p h1 h3
      cases e : H p with
      | none => rfl
      | some o => rw [a.keep p o e (Wd.at_av h2)] at h4; cases h4
  keep := fun x o h1 h2 => by
    refine b.keep x o (a.keep x o h1 h2) fun h3 => ?_
    by_cases h4 : x ∈ ρ.av
    · exact h2 (a.old x h3 h4)
    · rw [a.fresh x (List.mem_append_left _ h3) h4] at h1
      cases h1
  old := fun x h1 h2 => by
    refine a.old x (b.old x h1 ?_) h2
    obtain ⟨n, e⟩ := a.pre
    rcases List.mem_append.mp h2 with h2 | h2
    · exact List.mem_append_left _ (by rw [e]; exact List.mem_append_left _ h2)
    · exact List.mem_append_right _ (a.out x h2)
theorem Ext.nin (a : Ext ρ H ρ' H') {x : Addr} {o : HO} (h : H x = some o) (h2 : x ∉ ρ.av) : x ∉ ρ'.av := fun h3 => by
  rw [a.fresh x h3 h2] at h
  cases h
theorem Ext.rd (e : Ext ρ H ρ' H') {a : Addr} {u : HO} (h : Rd H a u) (n : a ∉ ρ.av) : Rd H' a u ∧ a ∉ ρ'.av := by
  rcases h with h | ⟨o, h⟩
  · exact ⟨.inl (e.keep _ _ h (Wd.at_av n)), e.nin h n⟩
  · exact ⟨.inr ⟨o, e.keep _ _ h (Wd.at_av n)⟩, e.nin h n⟩
structure ExtW (ρ : Wd) (H : Hp) (ρ' : Wd) (H' : Hp) : Prop where
  pre : ∃ n, ρ'.at_ = ρ.at_ ++ n
  fresh : ∀ p ∈ ρ'.av, p ∉ ρ.av → H p = none
  keep : ∀ a o, H a = some o → a ∉ ρ.av → H' a = some o
theorem Ext.w (e : Ext ρ H ρ' H') : ExtW ρ H ρ' H' := ⟨e.pre, e.fresh, fun a o h n => e.keep a o h (Wd.at_av n)⟩
theorem ExtW.refl (ρ : Wd) (H : Hp) : ExtW ρ H ρ H := (Ext.refl ρ H).w
theorem ExtW.nin (a : ExtW ρ H ρ' H') {x : Addr} {o : HO} (h : H x = some o) (h2 : x ∉ ρ.av) : x ∉ ρ'.av := fun h3 => by
  rw [a.fresh x h3 h2] at h
  cases h
theorem ExtW.trans (a : ExtW ρ H ρ' H') (b : ExtW ρ' H' ρ'' H'') : ExtW ρ H ρ'' H'' where
  pre := by
    obtain ⟨n, e⟩ := a.pre
    obtain ⟨m, e'⟩ := b.pre
    exact ⟨n ++ m, by rw [e', e, List.append_assoc]⟩
  fresh := fun p h1 h2 => by
    by_cases h3 : p ∈ ρ'.av
    · exact a.fresh p h3 h2
    · have h4 := b.fresh p h1 h3
      cases h5 : H p with
      | none => rfl
      | some o =>
        rw [a.keep p o h5 h2] at h4
        cases h4
  keep := fun x o h n => b.keep x o (a.keep x o h n) (a.nin h n)
theorem ExtW.rd (e : ExtW ρ H ρ' H') {a : Addr} {u : HO} (h : Rd H a u) (n : a ∉ ρ.av) : Rd H' a u ∧ a ∉ ρ'.av := by
  rcases h with h | ⟨o, h⟩
  · exact ⟨.inl (e.keep _ _ h n), e.nin h n⟩
  · exact ⟨.inr ⟨o, e.keep _ _ h n⟩, e.nin h n⟩
theorem FT.extw {a : Addr} {xs : List V} (h : FT K ρ H a xs) (e : ExtW ρ H ρ' H') : FT K ρ' H' a xs := by
  rcases h with ⟨⟨o, h, b⟩, n⟩ | h
  · exact .inl ⟨⟨o, e.keep _ _ h n, b⟩, e.nin h n⟩
  · exact .inr h
theorem FL.extw {a : Addr} {xs : List V} (h : FL K ρ H a xs) (e : ExtW ρ H ρ' H') : FL K ρ' H' a xs := by
  rcases h with ⟨h, n⟩ | h
  · exact .inl (e.rd h n)
  · exact .inr h
theorem FT.ext {a : Addr} {xs : List V} (h : FT K ρ H a xs) (e : Ext ρ H ρ' H') : FT K ρ' H' a xs := h.extw e.w
theorem FL.ext {a : Addr} {xs : List V} (h : FL K ρ H a xs) (e : Ext ρ H ρ' H') : FL K ρ' H' a xs := by
  rcases h with ⟨h, n⟩ | h
  · exact .inl (e.rd h n)
  · exact .inr h
theorem FT.sq {a : Addr} {xs : List V} (h : FT K ρ H a xs) : SqT K H a xs := by
  rcases h with ⟨⟨o, h, _⟩, _⟩ | ⟨o, its, n, l, b, d, z, r⟩
  · exact .inl (.inr ⟨o, h⟩)
  · exact .inr ⟨o, its, n, l, b.1, d, z, r⟩
theorem FL.sq {a : Addr} {xs : List V} (h : FL K ρ H a xs) : SqL K H a xs := by
  rcases h with ⟨h, _⟩ | h
  · exact .inl h
  · rcases h with (h | ⟨_, h⟩) | h
    · cases h
    · cases h
    · exact .inr h
theorem getE_pre {ρ n : List Addr} {i : Nat} {a : Addr} (h : ρ[i]? = some a) : (ρ ++ n)[i]? = some a := by
  obtain ⟨hi, _⟩ := List.getElem?_eq_some_iff.mp h
  rw [List.getElem?_append_left hi]
  exact h
theorem Ext.get (e : Ext ρ H ρ' H') {i : Nat} {a : Addr} (h : ρ.at_[i]? = some a) : ρ'.at_[i]? = some a := by
  obtain ⟨n, q⟩ := e.pre
  rw [q]
  exact getE_pre h
theorem ExtW.get (e : ExtW ρ H ρ' H') {i : Nat} {a : Addr} (h : ρ.at_[i]? = some a) : ρ'.at_[i]? = some a := by
  obtain ⟨n, q⟩ := e.pre
  rw [q]
  exact getE_pre h
theorem XD.mono {d : Option Addr} {own : Bool} {ns : List Str} {xs : List V} (k : ∀ b o, H b = some o → b ∉ ρ.av → H' b = some o ∧ b ∉ ρ'.av) (h : XD ρ H d own ns xs) : XD ρ' H' d own ns xs := by
  cases d with
  | none => exact h
  | some dd => exact ⟨h.1, (k _ _ h.2.1 h.2.2.1).1, (k _ _ h.2.1 h.2.2.1).2, h.2.2.2⟩
mutual
theorem Rep.extw (e : ExtW ρ H ρ' H') : ∀ {v : V} {t : T}, Rep K ρ H v t → Rep K ρ' H' v t
  | _, _, .non => .non
  | _, _, .bl b => .bl b
  | _, _, .int i => .int i
  | _, _, .str x => .str x
  | _, _, .obj a => .obj a
  | _, _, .ty n => .ty n
  | _, _, .ref h => .ref (e.get h)
  | _, _, .tup h r => .tup (h.extw e) (Reps.extw e r)
  | _, _, .wt h n r => .wt (e.rd h n).1 (e.rd h n).2 (Reps.extw e r)
  | _, _, .exn g h n x r => .exn g (e.keep _ _ h n) (e.nin h n) (x.mono fun b o z m => ⟨e.keep _ _ z m, e.nin z m⟩) (Reps.extw e r)
  | _, _, .lst h n r => .lst (e.keep _ _ h n) (e.nin h n) (Reps.extw e r)
  | _, _, .dct h n k r => .dct (e.keep _ _ h n) (e.nin h n) k (Reps.extw e r)
  | _, _, .kst h r => .kst (h.extw e) (Reps.extw e r)
theorem Reps.extw (e : ExtW ρ H ρ' H') : ∀ {v : List V} {t : List T}, Reps K ρ H v t → Reps K ρ' H' v t
  | _, _, .nil => .nil
  | _, _, .cons h r => .cons (Rep.extw e h) (Reps.extw e r)
end
mutual
theorem Rep.ext (e : Ext ρ H ρ' H') : ∀ {v : V} {t : T}, Rep K ρ H v t → Rep K ρ' H' v t
  | _, _, .non => .non
  | _, _, .bl b => .bl b
  | _, _, .int i => .int i
  | _, _, .str x => .str x
  | _, _, .obj a => .obj a
  | _, _, .ty n => .ty n
  | _, _, .ref h => .ref (e.get h)
  | _, _, .tup h r => .tup (h.ext e) (Reps.ext e r)
  | _, _, .wt h n r => .wt (e.rd h n).1 (e.rd h n).2 (Reps.ext e r)
  | _, _, .exn g h n x r => .exn g (e.keep _ _ h (Wd.at_av n)) (e.nin h n) (x.mono fun b o z m => ⟨e.keep _ _ z (Wd.at_av m), e.nin z m⟩) (Reps.ext e r)
  | _, _, .lst h n r => .lst (e.keep _ _ h (Wd.at_av n)) (e.nin h n) (Reps.ext e r)
  | _, _, .dct h n k r => .dct (e.keep _ _ h (Wd.at_av n)) (e.nin h n) k (Reps.ext e r)
  | _, _, .kst h r => .kst (h.ext e) (Reps.ext e r)
theorem Reps.ext (e : Ext ρ H ρ' H') : ∀ {v : List V} {t : List T}, Reps K ρ H v t → Reps K ρ' H' v t
  | _, _, .nil => .nil
  | _, _, .cons h r => .cons (Rep.ext e h) (Reps.ext e r)
end
theorem Reps.length : ∀ {v : List V} {t : List T}, Reps K ρ H v t → v.length = t.length
  | _, _, .nil => rfl
  | _, _, .cons _ r => congrArg (· + 1) (Reps.length r)
theorem Reps.append : ∀ {v v' : List V} {t t' : List T}, Reps K ρ H v t → Reps K ρ H v' t' → Reps K ρ H (v ++ v') (t ++ t')
  | _, _, _, _, .nil, r => r
  | _, _, _, _, .cons h r, r' => .cons h (Reps.append r r')
theorem Reps.get : ∀ {v : List V} {t : List T} {i : Nat} {x : T}, Reps K ρ H v t → t[i]? = some x → ∃ y, v[i]? = some y ∧ Rep K ρ H y x
  | _, _, i, _, .nil, e => by simp at e
  | _, _, 0, _, .cons h r, e => by
    have e := Option.some.inj e
    subst e
    exact ⟨_, rfl, h⟩
  | _, _, i + 1, _, .cons h r, e => Reps.get (i := i) r (by simpa using e)
theorem Reps.set : ∀ {v : List V} {t : List T} (i : Nat) {y : V} {x : T}, Rep K ρ H y x → Reps K ρ H v t → Reps K ρ H (v.set i y) (t.set i x)
  | _, _, _, _, _, _, .nil => .nil
  | _, _, 0, _, _, q, .cons h r => .cons q r
  | _, _, i + 1, _, _, q, .cons h r => .cons h (Reps.set i q r)
theorem Reps.take : ∀ {v : List V} {t : List T} (n : Nat), Reps K ρ H v t → Reps K ρ H (v.take n) (t.take n)
  | _, _, 0, _ => by simpa using Reps.nil
  | _, _, n + 1, .nil => .nil
  | _, _, n + 1, .cons h r => .cons h (Reps.take n r)
theorem Reps.drop : ∀ {v : List V} {t : List T} (n : Nat), Reps K ρ H v t → Reps K ρ H (v.drop n) (t.drop n)
  | _, _, 0, r => r
  | _, _, n + 1, .nil => .nil
  | _, _, n + 1, .cons h r => Reps.drop n r
theorem Reps.eraseIdx : ∀ {v : List V} {t : List T} (n : Nat), Reps K ρ H v t → Reps K ρ H (v.eraseIdx n) (t.eraseIdx n)
  | _, _, 0, .nil => .nil
  | _, _, 0, .cons h r => r
  | _, _, n + 1, .nil => .nil
  | _, _, n + 1, .cons h r => .cons h (Reps.eraseIdx n r)
theorem Reps.reverse : ∀ {v : List V} {t : List T}, Reps K ρ H v t → Reps K ρ H v.reverse t.reverse
  | _, _, .nil => .nil
  | _, _, .cons h r => by
    rw [List.reverse_cons, List.reverse_cons]
    exact Reps.append (Reps.reverse r) (.cons h .nil)
end
section
variable {K : PySem.W.Frag} {ρ ρ' : Wd} {H : Hp}
mutual
/-- the same under another world that avoids no more -/
theorem Rep.to (hr : ∀ (i : Nat) (a : Addr), ρ.at_[i]? = some a → ρ'.at_[i]? = some a) (ha : ∀ a, a ∉ ρ.av → a ∉ ρ'.av) : ∀ {v : V} {t : T}, Rep K ρ H v t → Rep K ρ' H v t
  | _, _, .non => .non
  | _, _, .bl b => .bl b
  | _, _, .int i => .int i
  | _, _, .str x => .str x
  | _, _, .obj a => .obj a
  | _, _, .ty n => .ty n
  | _, _, .ref h => .ref (hr _ _ h)
  | _, _, .tup h r => .tup (h.imp (fun q => ⟨q.1, ha _ q.2⟩) id) (Reps.to hr ha r)
  | _, _, .wt h n r => .wt h (ha _ n) (Reps.to hr ha r)
  | _, _, .exn g h n x r => .exn g h (ha _ n) (x.mono fun b o z m => ⟨z, ha _ m⟩) (Reps.to hr ha r)
  | _, _, .lst h n r => .lst h (ha _ n) (Reps.to hr ha r)
  | _, _, .dct h n k r => .dct h (ha _ n) k (Reps.to hr ha r)
  | _, _, .kst h r => .kst (h.imp (fun q => ⟨q.1, ha _ q.2⟩) id) (Reps.to hr ha r)
theorem Reps.to (hr : ∀ (i : Nat) (a : Addr), ρ.at_[i]? = some a → ρ'.at_[i]? = some a) (ha : ∀ a, a ∉ ρ.av → a ∉ ρ'.av) : ∀ {v : List V} {t : List T}, Reps K ρ H v t → Reps K ρ' H v t
  | _, _, .nil => .nil
  | _, _, .cons h r => .cons (Rep.to hr ha h) (Reps.to hr ha r)
end
end
inductive RepF (K : PySem.W.Frag) (ρ : Wd) (H : Hp) : List (Str × V) → List (Str × T) → Prop
  | nil : RepF K ρ H [] []
  | cons {f : Str} {v : V} {t : T} {vs : List (Str × V)} {ts : List (Str × T)} : Rep K ρ H v t → RepF K ρ H vs ts → RepF K ρ H ((f, v) :: vs) ((f, t) :: ts)
def RepO (K : PySem.W.Frag) (ρ : Wd) (H : Hp) (a : Addr) : O → Prop
  | .lst ts => ∃ xs, H a = some (.lst xs) ∧ Reps K ρ H xs ts
  | .ins C fs => ∃ dx vs, H a = some (.ins C dx vs) ∧ RepF K ρ H vs fs
  | .dct ks ts => ∃ kvs, H a = some (.dK kvs) ∧ kvs.map (·.1) = ks ∧ Reps K ρ H (kvs.map (·.2)) ts
structure Sta (K : PySem.W.Frag) (ρ : Wd) (H : Hp) (S : Sto) : Prop where
  len : ρ.at_.length = S.length
  nd : ρ.av.Nodup
  al : ∀ a ∈ ρ.out, ∃ u, H a = some u
  at_ : ∀ (i : Nat) (a : Addr) (o : O), ρ.at_[i]? = some a → S[i]? = some o → RepO K ρ H a o
structure REnv (K : PySem.W.Frag) (ρ : Wd) (H : Hp) (σ : L2.St) (τ : Env) : Prop where
  len : σ.length = τ.length
  at_ : ∀ (i : Nat) (t : T), τ[i]? = some (some t) → ∃ v, σ[i]? = some (some v) ∧ Rep K ρ H v t
section
variable {K : PySem.W.Frag} {ρ ρ' ρ'' : Wd} {H H' H'' : Hp} {S S' : Sto} {σ : L2.St} {τ : Env}
theorem RepF.ext (e : Ext ρ H ρ' H') : ∀ {v : List (Str × V)} {t : List (Str × T)}, RepF K ρ H v t → RepF K ρ' H' v t
  | _, _, .nil => .nil
  | _, _, .cons h r => .cons (h.ext e) (RepF.ext e r)
theorem REnv.ext (h : REnv K ρ H σ τ) (e : Ext ρ H ρ' H') : REnv K ρ' H' σ τ := ⟨h.len, fun i t q => by
  obtain ⟨v, a, b⟩ := h.at_ i t q
  exact ⟨v, a, b.ext e⟩⟩
theorem REnv.set (h : REnv K ρ H σ τ) (i : Nat) {v : V} {t : T} (r : Rep K ρ H v t) : REnv K ρ H (σ.set i (some v)) (τ.set i (some t)) := ⟨by rw [List.length_set, List.length_set, h.len], fun j u q => by
  rw [List.getElem?_set] at q ⊢
  by_cases e : i = j
  · rw [if_pos e] at q ⊢
    by_cases l : i < τ.length
    · have l' : i < σ.length := by rw [h.len]; exact l
      rw [if_pos l] at q
      rw [if_pos l']
      have q := Option.some.inj (Option.some.inj q)
      subst q
      exact ⟨v, rfl, r⟩
    · rw [if_neg l] at q
      cases q
  · rw [if_neg e] at q ⊢
    exact h.at_ j u q⟩
theorem Sta.look (h : Sta K ρ H S) {i : Nat} {o : O} (q : S[i]? = some o) : ∃ a, ρ.at_[i]? = some a ∧ RepO K ρ H a o := by
  obtain ⟨hi, _⟩ := List.getElem?_eq_some_iff.mp q
  have hj : i < ρ.at_.length := by rw [h.len]; exact hi
  exact ⟨ρ.at_[i], List.getElem?_eq_getElem hj, h.at_ i _ o (List.getElem?_eq_getElem hj) q⟩
theorem RepO.is {a : Addr} : ∀ {o : O}, RepO K ρ H a o → ∃ u, H a = Option.some u
  | .lst _, ⟨_, h, _⟩ => ⟨_, h⟩
  | .ins _ _, ⟨_, _, h, _⟩ => ⟨_, h⟩
  | .dct _ _, ⟨_, h, _⟩ => ⟨_, h⟩
theorem RepO.ext {a : Addr} (e : Ext ρ H ρ' H') (k : H' a = H a) : ∀ {o : O}, RepO K ρ H a o → RepO K ρ' H' a o
  | .lst _, ⟨_, h, r⟩ => ⟨_, k.trans h, r.ext e⟩
  | .ins _ _, ⟨_, _, h, r⟩ => ⟨_, _, k.trans h, r.ext e⟩
  | .dct _ _, ⟨_, h, q, r⟩ => ⟨_, k.trans h, q, r.ext e⟩
theorem Sta.alive (h : Sta K ρ H S) {p : Addr} (m : p ∈ ρ.av) : ∃ u, H p = Option.some u := by
  rcases List.mem_append.mp m with m | m
  · obtain ⟨i, hi, e⟩ := List.getElem_of_mem m
    have hj : i < S.length := by rw [← h.len]; exact hi
    exact (h.at_ i p S[i] (by rw [List.getElem?_eq_getElem hi, e]) (List.getElem?_eq_getElem hj)).is
  · exact h.al p m
/-- what is new stands nowhere in the store -/
theorem Sta.new (h : Sta K ρ H S) {p : Addr} (n : H p = none) : p ∉ ρ.av := fun m => by
  obtain ⟨u, q⟩ := h.alive m
  rw [q] at n
  cases n
/-- what stands elsewhere stays -/
theorem Sta.off (h : Sta K ρ H S) {a : Addr} (m : a ∈ ρ.out) : a ∉ ρ.at_ := fun q => by
  have d := (List.nodup_append.mp h.nd).2.2
  exact d a q a m rfl
/-- a new frozen thing -/
theorem Ext.push {p : Addr} {o : HO} (n : H p = none) (hn : p ∉ ρ.av) : Ext ρ H ρ (upd H p o) := Ext.here fun a u h _ => by
  rw [upd_ne (ne_of_none h n)]
  exact h
theorem Sta.al' (h : Sta K ρ H S) (k : ∀ a o, H a = Option.some o → a ∉ ρ.at_ → H' a = Option.some o) : ∀ a ∈ ρ.out, ∃ u, H' a = Option.some u := fun a m => by
  obtain ⟨u, q⟩ := h.al a m
  exact ⟨u, k _ _ q (h.off m)⟩
theorem Sta.push (h : Sta K ρ H S) {p : Addr} {o : HO} (n : H p = none) : Sta K ρ (upd H p o) S := ⟨h.len, h.nd, h.al' (Ext.push n (h.new n)).keep, fun i a u e q => by
  have r := h.at_ i a u e q
  have ne : a ≠ p := fun z => by
    obtain ⟨w, hw⟩ := r.is
    rw [z, n] at hw
    cases hw
  exact r.ext (Ext.push n (h.new n)) (upd_ne ne)⟩
/-- a new thing of the store -/
theorem Ext.more {p : Addr} {o : HO} (n : H p = none) (hn : p ∉ ρ.av) : Ext ρ H (ρ.push p) (upd H p o) where
  pre := ⟨[p], rfl⟩
  out := fun _ h => h
  fresh := fun q a b => by
    rcases List.mem_append.mp a with a | a
    · rcases List.mem_append.mp a with a | a
      · exact absurd (List.mem_append_left _ a) b
      · rw [List.mem_singleton.mp a]; exact n
    · exact absurd (List.mem_append_right _ a) b
  keep := fun a u h _ => by
    rw [upd_ne (ne_of_none h n)]
    exact h
  old := fun a h1 h2 => by
    rcases List.mem_append.mp h1 with h1 | h1
    · exact h1
    · rw [List.mem_singleton.mp h1] at h2
      exact absurd h2 hn
theorem nd_push {ρ : Wd} {p : Addr} (h : ρ.av.Nodup) (hn : p ∉ ρ.av) : (ρ.push p).av.Nodup := by
  unfold Wd.push Wd.av at *
  rw [List.append_assoc]
  simp only [List.nodup_append, List.mem_append, List.singleton_append, List.nodup_cons, List.mem_cons, not_or] at h hn ⊢
  refine ⟨h.1, ⟨hn.2, h.2.1⟩, fun a ha b hb => ?_⟩
  rcases hb with hb | hb
  · rw [hb]
    exact fun e => hn.1 (e ▸ ha)
  · exact h.2.2 a ha b hb
theorem Sta.more (h : Sta K ρ H S) {p : Addr} {o : HO} {u : O} (n : H p = none) (r : RepO K (ρ.push p) (upd H p o) p u) : Sta K (ρ.push p) (upd H p o) (S ++ [u]) := by
  have hn := h.new n
  have x := Ext.more (o := o) n hn
  refine ⟨by simp [Wd.push, h.len], nd_push h.nd hn, h.al' x.keep, fun i a w e q => ?_⟩
  by_cases hi : i < S.length
  · rw [List.getElem?_append_left hi] at q
    have e : (ρ.at_ ++ [p])[i]? = Option.some a := e
    rw [List.getElem?_append_left (by rw [h.len]; exact hi)] at e
    have r := h.at_ i a w e q
    have ne : a ≠ p := fun z => by
      obtain ⟨w, hw⟩ := r.is
      rw [z, n] at hw
      cases hw
    exact r.ext x (upd_ne ne)
  · have hj : i = S.length := by
      obtain ⟨q1, _⟩ := List.getElem?_eq_some_iff.mp q
      rw [List.length_append, List.length_singleton] at q1
      omega
    subst hj
    rw [List.getElem?_append_right (Nat.le_refl _), Nat.sub_self] at q
    have e : (ρ.at_ ++ [p])[S.length]? = Option.some a := e
    rw [← h.len, List.getElem?_append_right (Nat.le_refl _), Nat.sub_self] at e
    have q := Option.some.inj q
    have e := Option.some.inj e
    subst q
    subst e
    exact r
/-- a thing of the store is changed -/
theorem Ext.put {a : Addr} {o : HO} (m : a ∈ ρ.at_) : Ext ρ H ρ (upd H a o) := Ext.here fun b u h n => by
  rw [upd_ne (show b ≠ a from fun z => n (by rw [z]; exact m))]
  exact h
theorem Sta.put (h : Sta K ρ H S) {i : Nat} {a : Addr} {o : HO} {u : O} (e : ρ.at_[i]? = Option.some a) (r : RepO K ρ (upd H a o) a u) : Sta K ρ (upd H a o) (S.set i u) := by
  have m : a ∈ ρ.at_ := List.mem_of_getElem? e
  refine ⟨by rw [List.length_set, h.len], h.nd, h.al' (Ext.put m).keep, fun j b w ej q => ?_⟩
  rw [List.getElem?_set] at q
  by_cases z : i = j
  · rw [if_pos z] at q
    split at q
    · have q := Option.some.inj q
      subst q
      subst z
      rw [e] at ej
      have ej := Option.some.inj ej
      subst ej
      exact r
    · cases q
  · rw [if_neg z] at q
    have ne : b ≠ a := fun y => z (by
      subst y
      obtain ⟨i1, e1⟩ := List.getElem?_eq_some_iff.mp e
      obtain ⟨j1, e2⟩ := List.getElem?_eq_some_iff.mp ej
      exact (List.getElem_inj (List.nodup_append.mp h.nd).1).mp (e1.trans e2.symm))
    exact (h.at_ j b w ej q).ext (Ext.put m) (upd_ne ne)
end
section
variable {K : PySem.W.Frag} {ρ ρ' : Wd} {H : Hp} {S : Sto}
theorem RepF.to (hr : ∀ (i : Nat) (a : Addr), ρ.at_[i]? = some a → ρ'.at_[i]? = some a) (ha : ∀ a, a ∉ ρ.av → a ∉ ρ'.av) : ∀ {v : List (Str × V)} {t : List (Str × T)}, RepF K ρ H v t → RepF K ρ' H v t
  | _, _, .nil => .nil
  | _, _, .cons h r => .cons (h.to hr ha) (RepF.to hr ha r)
theorem RepO.to (hr : ∀ (i : Nat) (a : Addr), ρ.at_[i]? = some a → ρ'.at_[i]? = some a) (ha : ∀ a, a ∉ ρ.av → a ∉ ρ'.av) {a : Addr} : ∀ {o : O}, RepO K ρ H a o → RepO K ρ' H a o
  | .lst _, ⟨_, h, r⟩ => ⟨_, h, r.to hr ha⟩
  | .ins _ _, ⟨_, _, h, r⟩ => ⟨_, _, h, r.to hr ha⟩
  | .dct _ _, ⟨_, h, q, r⟩ => ⟨_, h, q, r.to hr ha⟩
end
def Post (K : PySem.W.Frag) (E : XK) (ρ : Wd) (H : Hp) {α : Type} (r : R α) (Q : Wd → Hp → α → Sto → Prop) : Prop := match r with
  | .ok a S' => ∀ ρ' H', Ext ρ H ρ' H' → Sta K ρ' H' S' → Q ρ' H' a S'
  | .err x S' => ∀ ρ' H' C d vs, Ext ρ H ρ' H' → Sta K ρ' H' S' → gaK K x.cls = some C → XD ρ' H' d x.own x.ns vs → Reps K ρ' H' vs x.ts → E (.ref C) d H'
  | .bad => False
end Fx
namespace Fx
open PySem PySem.Spec PyProof.Rows L2
section
variable {K : PySem.W.Frag} {E : XK} {ρ ρ' ρ1 : Wd} {H H' H1 : Hp} {α β : Type}
theorem Post.imp {r : R α} {Q Q' : Wd → Hp → α → Sto → Prop} (h : Post K E ρ H r Q) (i : ∀ ρ1 H1 a S1, Ext ρ H ρ1 H1 → Sta K ρ1 H1 S1 → Q ρ1 H1 a S1 → Q' ρ1 H1 a S1) : Post K E ρ H r Q' := by
  cases r with
  | ok a S => exact fun ρ' H' e s => i _ _ _ _ e s (h ρ' H' e s)
  | err x S => exact h
  | bad => exact h
theorem Post.ext {r : R α} {Q : Wd → Hp → α → Sto → Prop} (h : Post K E ρ H r Q) (e : Ext ρ H ρ1 H1) : Post K E ρ1 H1 r Q := by
  cases r with
  | ok a S => exact fun ρ' H' e' s => h ρ' H' (e.trans e') s
  | err x S => exact fun ρ' H' C d vs e' s => h ρ' H' C d vs (e.trans e') s
  | bad => exact h
theorem Post.step {r : R α} {f : α → Sto → R β} {Q : Wd → Hp → β → Sto → Prop} {Q' : Wd → Hp → α → Sto → Prop} (h : Post K E ρ H (r.bind f) Q)
    (i : ∀ ρ1 H1 a S1, Ext ρ H ρ1 H1 → Sta K ρ1 H1 S1 → Post K E ρ1 H1 (f a S1) Q → Q' ρ1 H1 a S1) : Post K E ρ H r Q' := by
  cases r with
  | ok a S => exact fun ρ' H' e s => i _ _ _ _ e s (Post.ext (r := f a S) h e)
  | err x S => exact h
  | bad => exact h
theorem Post.ok {a : α} {S : Sto} {Q : Wd → Hp → α → Sto → Prop} (h : Post K E ρ H (.ok a S) Q) (s : Sta K ρ H S) : Q ρ H a S := h ρ H (Ext.refl ρ H) s
end
abbrev QE (K : PySem.W.Frag) (Q : VK) : Wd → Hp → T → Sto → Prop := fun ρ H t _ => ∀ v, Rep K ρ H v t → Q v H
def tM (K : PySem.W.Frag) (E : XK) (m : Env → Sto → R T) : TE := fun σ H Q => ∃ ρ τ S, Sta K ρ H S ∧ REnv K ρ H σ τ ∧ Post K E ρ H (m τ S) (QE K Q)
def tB (K : PySem.W.Frag) (E : XK) (m : Env → Sto → R Bool) : TT := fun σ H Q => ∃ ρ τ S, Sta K ρ H S ∧ REnv K ρ H σ τ ∧ Post K E ρ H (m τ S) (fun _ H' b _ => Q b H')
def tA (K : PySem.W.Frag) (E : XK) (m : Env → Sto → R (List T)) : TA := fun σ H Q => ∃ ρ τ S, Sta K ρ H S ∧ REnv K ρ H σ τ ∧ Post K E ρ H (m τ S) (fun ρ' H' ts _ => ∀ vs, Reps K ρ' H' vs ts → Q vs H')
inductive Fl where
  | nx (τ : Env) | rt (t : T) | bk (τ : Env) | ct (τ : Env)
def QS (K : PySem.W.Frag) (D : Ends) : Wd → Hp → Fl → Sto → Prop := fun ρ H f _ => match f with
  | .nx τ => ∀ σ, REnv K ρ H σ τ → D.nx σ H
  | .bk τ => ∀ σ, REnv K ρ H σ τ → D.bk σ H
  | .ct τ => ∀ σ, REnv K ρ H σ τ → D.ct σ H
  | .rt t => ∀ v, Rep K ρ H v t → D.rt v H
def tS (K : PySem.W.Frag) (E : XK) (m : Env → Sto → R Fl) : TS := fun D σ H => ∃ ρ τ S, Sta K ρ H S ∧ REnv K ρ H σ τ ∧ Post K E ρ H (m τ S) (QS K D)
section
variable {X : Cx}
theorem PE.of {e : Expr} {t t' : TE} (h : PE X e t) (i : ∀ σ H Q, t' σ H Q → t σ H Q) : PE X e t' := ⟨fun pins s σ H Q I hw => h.run pins s σ H Q I (i σ H Q hw)⟩
theorem PT.of {e : Expr} {t t' : TT} (h : PT X e t) (i : ∀ σ H Q, t' σ H Q → t σ H Q) : PT X e t' := ⟨fun pins s σ H Q I hw => h.run pins s σ H Q I (i σ H Q hw)⟩
theorem PW.of {e : Expr} {t t' : TT} (h : PW X e t) (i : ∀ σ H Q, t' σ H Q → t σ H Q) : PW X e t' := ⟨fun wh pins s σ H Q I hw => h.run wh pins s σ H Q I (i σ H Q hw)⟩
theorem PA.of {e : List Expr} {t t' : TA} (h : PA X e t) (i : ∀ σ H Q, t' σ H Q → t σ H Q) : PA X e t' := ⟨fun pos pins s σ H Q I hw => h.run pos pins s σ H Q I (i σ H Q hw)⟩
theorem PS.of {e : Stmt} {t t' : TS} (h : PS X e t) (i : ∀ D σ H, t' D σ H → t D σ H) : PS X e t' := ⟨fun pins s σ H D I hw => h.run pins s σ H D I (i D σ H hw)⟩
theorem PSs.of {e : List Stmt} {t t' : TS} (h : PSs X e t) (i : ∀ D σ H, t' D σ H → t D σ H) : PSs X e t' := ⟨fun pins s σ H D I hw => h.run pins s σ H D I (i D σ H hw)⟩
end
def mVar (i : Nat) : Env → Sto → R T := fun τ S => match τ[i]? with
  | some (some t) => .ok t S
  | _ => .bad
def mC (t : T) : Env → Sto → R T := fun _ S => .ok t S
def mBin (f : T → T → Sto → R T) (a b : Env → Sto → R T) : Env → Sto → R T := fun τ S => (a τ S).bind fun x S1 => (b τ S1).bind fun y S2 => f x y S2
def mUn (f : T → Sto → R T) (a : Env → Sto → R T) : Env → Sto → R T := fun τ S => (a τ S).bind fun x S1 => f x S1
def mNil : Env → Sto → R (List T) := fun _ S => .ok [] S
def mCons (a : Env → Sto → R T) (b : Env → Sto → R (List T)) : Env → Sto → R (List T) := fun τ S => (a τ S).bind fun x S1 => (b τ S1).bind fun y S2 => .ok (x :: y) S2
def mFn (f : List T → Sto → R T) (a : Env → Sto → R (List T)) : Env → Sto → R T := fun τ S => (a τ S).bind f
def mIte (c : Env → Sto → R Bool) (a b : Env → Sto → R T) : Env → Sto → R T := fun τ S => (c τ S).bind fun k S1 => if k = true then a τ S1 else b τ S1
def toB (t : T) (S : Sto) : R Bool := match t with
  | .bl b => .ok b S
  | _ => .bad
def mTst (a : Env → Sto → R T) : Env → Sto → R Bool := fun τ S => (a τ S).bind toB
def mAnd (a b : Env → Sto → R Bool) : Env → Sto → R Bool := fun τ S => (a τ S).bind fun k S1 => if k = true then b τ S1 else .ok false S1
def mOr (a b : Env → Sto → R Bool) : Env → Sto → R Bool := fun τ S => (a τ S).bind fun k S1 => if k = true then .ok true S1 else b τ S1
def mNot (a : Env → Sto → R Bool) : Env → Sto → R Bool := fun τ S => (a τ S).bind fun k S1 => .ok (!k) S1
def mAndV (a b : Env → Sto → R T) : Env → Sto → R T := fun τ S => (a τ S).bind fun x S1 => (toB x S1).bind fun k S2 => if k = true then b τ S2 else .ok (.bl false) S2
def mOrV (a b : Env → Sto → R T) : Env → Sto → R T := fun τ S => (a τ S).bind fun x S1 => (toB x S1).bind fun k S2 => if k = true then .ok (.bl true) S2 else b τ S2
def mNotV (a : Env → Sto → R T) : Env → Sto → R T := fun τ S => (a τ S).bind fun x S1 => (toB x S1).bind fun k S2 => .ok (.bl (!k)) S2
def mTup (a : Env → Sto → R (List T)) : Env → Sto → R T := fun τ S => (a τ S).bind fun ts S1 => if ts.length ≤ 100000 then .ok (.tup ts) S1 else .bad
/-- a new list: one that never changes from here on, or one of the store -/
def newL (fz : Bool) (ts : List T) (S : Sto) : R T := if fz = true then .ok (.lst ts) S else .ok (.ref S.length) (S ++ [.lst ts])
def mLst (fz : Bool) (a : Env → Sto → R (List T)) : Env → Sto → R T := fun τ S => (a τ S).bind fun ts S1 => if ts.length ≤ 100000 then newL fz ts S1 else .bad
def sNext : Env → Sto → R Fl := fun τ S => .ok (.nx τ) S
def sSeq (a b : Env → Sto → R Fl) : Env → Sto → R Fl := fun τ S => (a τ S).bind fun f S1 => match f with
  | .nx τ1 => b τ1 S1
  | .rt t => .ok (.rt t) S1
  | .bk τ1 => .ok (.bk τ1) S1
  | .ct τ1 => .ok (.ct τ1) S1
def sSet (i : Nat) (a : Env → Sto → R T) : Env → Sto → R Fl := fun τ S => (a τ S).bind fun x S1 => .ok (.nx (τ.set i (some x))) S1
def sDrop (a : Env → Sto → R T) : Env → Sto → R Fl := fun τ S => (a τ S).bind fun _ S1 => .ok (.nx τ) S1
def sRet (a : Env → Sto → R T) : Env → Sto → R Fl := fun τ S => (a τ S).bind fun x S1 => .ok (.rt x) S1
def sRetN : Env → Sto → R Fl := fun _ S => .ok (.rt .non) S
def sIf (c : Env → Sto → R Bool) (a b : Env → Sto → R Fl) : Env → Sto → R Fl := fun τ S => (c τ S).bind fun k S1 => if k = true then a τ S1 else b τ S1
inductive Pat where
  | nm (i : Nat) | tp (ps : List Pat)
mutual
def bindP : Pat → T → Env → Option Env
  | .nm i, t, τ => some (τ.set i (some t))
  | .tp ps, .tup ts, τ => bindPs ps ts τ
  | .tp ps, .wt ts, τ => bindPs ps ts τ
  | .tp _, _, _ => none
def bindPs : List Pat → List T → Env → Option Env
  | [], [], τ => some τ
  | p :: ps, t :: ts, τ => (bindP p t τ).bind fun τ1 => bindPs ps ts τ1
  | _, _, _ => none
end
/-- an operation on two values and its mirror -/
def Op2 (K : PySem.W.Frag) (E : XK) (r : R2) (f : T → T → Sto → R T) : Prop := ∀ (ρ : Wd) (H : Hp) (S : Sto) (v w : V) (x y : T) (Q : VK), Sta K ρ H S → Rep K ρ H v x → Rep K ρ H w y → Post K E ρ H (f x y S) (QE K Q) → r v w H Q
def Op1 (K : PySem.W.Frag) (E : XK) (r : V → Hp → VK → Prop) (f : T → Sto → R T) : Prop := ∀ (ρ : Wd) (H : Hp) (S : Sto) (v : V) (x : T) (Q : VK), Sta K ρ H S → Rep K ρ H v x → Post K E ρ H (f x S) (QE K Q) → r v H Q
def OpN (K : PySem.W.Frag) (E : XK) (r : List V → Hp → VK → Prop) (f : List T → Sto → R T) : Prop := ∀ (ρ : Wd) (H : Hp) (S : Sto) (vs : List V) (ts : List T) (Q : VK), Sta K ρ H S → Reps K ρ H vs ts → Post K E ρ H (f ts S) (QE K Q) → r vs H Q
section
variable {X : Cx} {E : XK} {a b c : Expr} {rest : List Expr} {ma mb : Env → Sto → R T} {mc md : Env → Sto → R Bool} {ms : Env → Sto → R (List T)} {pos : Pos}
theorem xv (i : Nat) {x : Str} {pos : Pos} (hN : X.N[i]? = some x := by rfl) (hv : Vis X.env.scope x := by first | exact Or.inl rfl | exact Or.inr (Or.inl rfl) | exact Or.inr (Or.inr rfl)) (hd : (x == ("__debug__" : Str)) = false := by decide)
    (hcd : (x == ("__classdict__" : Str)) = false := by decide) : PE X (.Name x pos) (tM X.K E (mVar i)) := PE.of (pe_var hN hv hd hcd) fun σ H Q ⟨ρ, τ, S, s, e, h⟩ => by
  unfold mVar at h
  split at h
  · rename_i t q
    obtain ⟨v, q1, r⟩ := e.at_ _ _ q
    exact ⟨v, q1, h.ok s v r⟩
  · exact h.elim
theorem x_con {t : T} {v : V} (r : ∀ ρ H, Rep X.K ρ H v t) (h : PE X a (tC v)) : PE X a (tM X.K E (mC t)) := PE.of h fun σ H Q ⟨ρ, τ, S, s, e, h⟩ => h.ok s v (r ρ H)
theorem x_int {i j pos} : PE X (.Constant (.int i) j pos) (tM X.K E (mC (.int i))) := x_con (fun _ _ => .int i) pe_int
theorem x_bl {i j pos} : PE X (.Constant (.bool i) j pos) (tM X.K E (mC (.bl i))) := x_con (fun _ _ => .bl i) pe_bl
theorem x_non {j pos} : PE X (.Constant .none j pos) (tM X.K E (mC .non)) := x_con (fun _ _ => .non) pe_non
theorem x_str {i j pos} : PE X (.Constant (.str i) j pos) (tM X.K E (mC (.str i))) := x_con (fun _ _ => .str i) pe_str
theorem x_bin {op : Operator} {r : R2} {f : T → T → Sto → R T} (ho : OpR X (binaryOp op) r) (hs : Op2 X.K E r f) (ha : PE X a (tM X.K E ma)) (hb : PE X b (tM X.K E mb)) : PE X (.BinOp a op b pos) (tM X.K E (mBin f ma mb)) :=
  PE.of (pe_op ho ha hb) fun σ H Q ⟨ρ, τ, S, s, e, h⟩ => ⟨ρ, τ, S, s, e, h.step fun ρ1 H1 x S1 e1 s1 h1 v rv => ⟨ρ1, τ, S1, s1, e.ext e1, h1.step fun ρ2 H2 y S2 e2 s2 h2 w rw => hs ρ2 H2 S2 v w x y Q s2 (rv.ext e2) rw h2⟩⟩
theorem x_un {op : UnaryOp} {r : V → Hp → VK → Prop} {f : T → Sto → R T} (ho : UnR X (unaryOp op) r) (hs : Op1 X.K E r f) (ha : PE X a (tM X.K E ma)) : PE X (.UnaryOp op a pos) (tM X.K E (mUn f ma)) :=
  PE.of (pe_un ho ha) fun σ H Q ⟨ρ, τ, S, s, e, h⟩ => ⟨ρ, τ, S, s, e, h.step fun ρ1 H1 x S1 e1 s1 h1 v rv => hs ρ1 H1 S1 v x Q s1 rv h1⟩
theorem x_cmp {op : CmpOp} {r : R2} {f : T → T → Sto → R T} (ho : OpR X (compareOp op) r) (hs : Op2 X.K E r f) (ha : PE X a (tM X.K E ma)) (hb : PE X b (tM X.K E mb)) (hm : behindInMarks op b = false := by first | exact nomark _ | rfl) : PE X (.Compare a [op] [b] pos) (tM X.K E (mBin f ma mb)) :=
  PE.of (pe_cmpR ho ha hb hm) fun σ H Q ⟨ρ, τ, S, s, e, h⟩ => ⟨ρ, τ, S, s, e, h.step fun ρ1 H1 x S1 e1 s1 h1 v rv => ⟨ρ1, τ, S1, s1, e.ext e1, h1.step fun ρ2 H2 y S2 e2 s2 h2 w rw => hs ρ2 H2 S2 v w x y Q s2 (rv.ext e2) rw h2⟩⟩
theorem rep_bl {K : PySem.W.Frag} {ρ : Wd} {H : Hp} {v : V} {b : Bool} (r : Rep K ρ H v (.bl b)) : v = .bl b := by cases r; rfl
theorem rep_int {K : PySem.W.Frag} {ρ : Wd} {H : Hp} {v : V} {b : Int} (r : Rep K ρ H v (.int b)) : v = .int b := by cases r; rfl
theorem rep_str {K : PySem.W.Frag} {ρ : Wd} {H : Hp} {v : V} {b : Str} (r : Rep K ρ H v (.str b)) : v = .str b := by cases r; rfl
theorem rep_non {K : PySem.W.Frag} {ρ : Wd} {H : Hp} {v : V} (r : Rep K ρ H v .non) : v = .non := by cases r; rfl
theorem rep_tup {K : PySem.W.Frag} {ρ : Wd} {H : Hp} {v : V} {ts : List T} (r : Rep K ρ H v (.tup ts)) : ∃ a xs, v = .ref a ∧ FT K ρ H a xs ∧ Reps K ρ H xs ts := by cases r with | tup h r => exact ⟨_, _, rfl, h, r⟩
/-- a test out of a value -/
theorem tst_of {σ : L2.St} {H : Hp} {Q : Bool → Hp → Prop} (h : tB X.K E (mTst ma) σ H Q) : tM X.K E ma σ H (fun x H' => ∃ k, x = .bl k ∧ Q k H') := by
  obtain ⟨ρ, τ, S, s, e, h⟩ := h
  refine ⟨ρ, τ, S, s, e, h.step fun ρ1 H1 x S1 e1 s1 h1 v rv => ?_⟩
  cases x with
  | bl k => exact ⟨k, rep_bl rv, h1.ok s1⟩
  | _ => exact h1.elim
theorem t_cmp {op : CmpOp} {r : R2} {f : T → T → Sto → R T} (ho : OpR X (compareOp op) r) (hs : Op2 X.K E r f) (ha : PE X a (tM X.K E ma)) (hb : PE X b (tM X.K E mb)) (hm : behindInMarks op b = false := by first | exact nomark _ | rfl) : PT X (.Compare a [op] [b] pos) (tB X.K E (mTst (mBin f ma mb))) :=
  PT.of (pt_cmpR ho ha hb hm) fun σ H Q h => by
  obtain ⟨ρ, τ, S, s, e, h⟩ := tst_of h
  exact ⟨ρ, τ, S, s, e, h.step fun ρ1 H1 x S1 e1 s1 h1 v rv => ⟨ρ1, τ, S1, s1, e.ext e1, h1.step fun ρ2 H2 y S2 e2 s2 h2 w rw => hs ρ2 H2 S2 v w x y _ s2 (rv.ext e2) rw h2⟩⟩
theorem t_and1 (h : PT X a (tB X.K E mc)) : PW X (.BoolOp .And [a] pos) (tB X.K E mc) := pw_and1 h
theorem t_or1 (h : PT X a (tB X.K E mc)) : PW X (.BoolOp .Or [a] pos) (tB X.K E mc) := pw_or1 h
theorem t_and (h1 : PT X a (tB X.K E mc)) (h2 : PW X (.BoolOp .And (b :: rest) pos) (tB X.K E md)) : PW X (.BoolOp .And (a :: b :: rest) pos) (tB X.K E (mAnd mc md)) :=
  PW.of (pw_and h1 h2) fun σ H Q ⟨ρ, τ, S, s, e, h⟩ => ⟨ρ, τ, S, s, e, h.step fun ρ1 H1 k S1 e1 s1 h1 => by
    cases k with
    | true => exact (if_pos rfl).symm ▸ ⟨ρ1, τ, S1, s1, e.ext e1, h1⟩
    | false => exact Post.ok (K := X.K) (E := E) (ρ := ρ1) (S := S1) h1 s1⟩
theorem t_or (h1 : PT X a (tB X.K E mc)) (h2 : PW X (.BoolOp .Or (b :: rest) pos) (tB X.K E md)) : PW X (.BoolOp .Or (a :: b :: rest) pos) (tB X.K E (mOr mc md)) :=
  PW.of (pw_or h1 h2) fun σ H Q ⟨ρ, τ, S, s, e, h⟩ => ⟨ρ, τ, S, s, e, h.step fun ρ1 H1 k S1 e1 s1 h1 => by
    cases k with
    | true => exact Post.ok (K := X.K) (E := E) (ρ := ρ1) (S := S1) h1 s1
    | false => exact ⟨ρ1, τ, S1, s1, e.ext e1, h1⟩⟩
theorem t_not (h1 : PT X a (tB X.K E mc)) : PT X (.UnaryOp .Not a pos) (tB X.K E (mNot mc)) :=
  PT.of (pt_not h1) fun σ H Q ⟨ρ, τ, S, s, e, h⟩ => ⟨ρ, τ, S, s, e, h.step fun ρ1 H1 k S1 e1 s1 h1 => h1.ok s1⟩
theorem x_ite (hc : PT X c (tB X.K E mc)) (ha : PE X a (tM X.K E ma)) (hb : PE X b (tM X.K E mb)) : PE X (.IfExp c a b pos) (tM X.K E (mIte mc ma mb)) :=
  PE.of (pe_ifExp hc ha hb) fun σ H Q ⟨ρ, τ, S, s, e, h⟩ => ⟨ρ, τ, S, s, e, h.step fun ρ1 H1 k S1 e1 s1 h1 => by
    cases k with
    | true => exact ⟨ρ1, τ, S1, s1, e.ext e1, h1⟩
    | false => exact ⟨ρ1, τ, S1, s1, e.ext e1, h1⟩⟩
theorem bl_step {ρ : Wd} {H : Hp} {x : T} {S : Sto} {β : Type} {f : Bool → Sto → R β} {Q : Wd → Hp → β → Sto → Prop} {v : V} (rv : Rep X.K ρ H v x) (h : Post X.K E ρ H ((toB x S).bind f) Q) : ∃ k, v = .bl k ∧ Post X.K E ρ H (f k S) Q := by
  cases x with
  | bl k => exact ⟨k, rep_bl rv, h⟩
  | _ => exact h.elim
theorem x_one {op} (h : PE X a (tM X.K E ma)) : PE X (.BoolOp op [a] pos) (tM X.K E ma) := pe_one h
theorem x_and (ha : PE X a (tM X.K E ma)) (hb : PE X (.BoolOp .And (b :: rest) pos) (tM X.K E mb)) : PE X (.BoolOp .And (a :: b :: rest) pos) (tM X.K E (mAndV ma mb)) :=
  PE.of (pe_and ha hb) fun σ H Q ⟨ρ, τ, S, s, e, h⟩ => ⟨ρ, τ, S, s, e, h.step fun ρ1 H1 x S1 e1 s1 h1 v rv => by
    obtain ⟨k, ev, h2⟩ := bl_step rv h1
    refine ⟨k, ev, ?_⟩
    cases k with
    | true => exact ⟨ρ1, τ, S1, s1, e.ext e1, h2⟩
    | false => exact Post.ok (K := X.K) (E := E) (ρ := ρ1) (S := S1) h2 s1 (.bl false) (.bl false)⟩
theorem x_or (ha : PE X a (tM X.K E ma)) (hb : PE X (.BoolOp .Or (b :: rest) pos) (tM X.K E mb)) : PE X (.BoolOp .Or (a :: b :: rest) pos) (tM X.K E (mOrV ma mb)) :=
  PE.of (pe_or ha hb) fun σ H Q ⟨ρ, τ, S, s, e, h⟩ => ⟨ρ, τ, S, s, e, h.step fun ρ1 H1 x S1 e1 s1 h1 v rv => by
    obtain ⟨k, ev, h2⟩ := bl_step rv h1
    refine ⟨k, ev, ?_⟩
    cases k with
    | true => exact Post.ok (K := X.K) (E := E) (ρ := ρ1) (S := S1) h2 s1 (.bl true) (.bl true)
    | false => exact ⟨ρ1, τ, S1, s1, e.ext e1, h2⟩⟩
theorem x_not (ha : PE X a (tM X.K E ma)) : PE X (.UnaryOp .Not a pos) (tM X.K E (mNotV ma)) :=
  PE.of (pe_not ha) fun σ H Q ⟨ρ, τ, S, s, e, h⟩ => ⟨ρ, τ, S, s, e, h.step fun ρ1 H1 x S1 e1 s1 h1 v rv => by
    obtain ⟨k, ev, h2⟩ := bl_step rv h1
    exact ⟨k, ev, h2.ok s1 _ (.bl _)⟩⟩
theorem a_nil : PA X [] (tA X.K E mNil) := PA.of pa_nil fun σ H Q ⟨ρ, τ, S, s, e, h⟩ => h.ok s [] .nil
theorem a_cons {es : List Expr} (ha : PE X a (tM X.K E ma)) (hr : PA X es (tA X.K E ms)) (hs : starEach (a :: es) X.env = (false, eval a X.env) :: starEach es X.env := by rfl) : PA X (a :: es) (tA X.K E (mCons ma ms)) :=
  PA.of (pa_cons ha hr hs) fun σ H Q ⟨ρ, τ, S, s, e, h⟩ => ⟨ρ, τ, S, s, e, h.step fun ρ1 H1 x S1 e1 s1 h1 v rv => ⟨ρ1, τ, S1, s1, e.ext e1, h1.step fun ρ2 H2 ts S2 e2 s2 h2 vs rs => h2.ok s2 _ (.cons (rv.ext e2) rs)⟩⟩
theorem sz5 {n : Nat} (h : n ≤ 100000) : n ≤ sizeLine := Nat.le_trans h (by decide)
theorem new_tup {K : PySem.W.Frag} {ρ : Wd} {H : Hp} {S : Sto} {ts : List T} {xs : List V} {Q : VK} (s : Sta K ρ H S) (r : Reps K ρ H xs ts) (h : Post K E ρ H (.ok (.tup ts) S) (QE K Q)) : NewT xs H Q := fun p o n b =>
  h ρ _ (Ext.push n (s.new n)) (s.push n) _ (.tup (.inl ⟨⟨o, upd_same, b⟩, s.new n⟩) (r.ext (Ext.push n (s.new n))))
theorem new_lst {K : PySem.W.Frag} {ρ : Wd} {H : Hp} {S : Sto} {ts : List T} {xs : List V} {Q : VK} {fz : Bool} (s : Sta K ρ H S) (r : Reps K ρ H xs ts) (h : Post K E ρ H (newL fz ts S) (QE K Q)) (p : Addr) (n : H p = none) : Q (.ref p) (upd H p (.lst xs)) := by
  cases fz with
  | true => exact h ρ _ (Ext.push n (s.new n)) (s.push n) _ (.lst upd_same (s.new n) (r.ext (Ext.push n (s.new n))))
  | false =>
    refine h (ρ.push p) _ (Ext.more n (s.new n)) (s.more n ⟨xs, upd_same, r.ext (Ext.more n (s.new n))⟩) _ (.ref ?_)
    show (ρ.at_ ++ [p])[S.length]? = some p
    rw [← s.len, List.getElem?_append_right (Nat.le_refl _), Nat.sub_self]
    rfl
theorem x_tup {es : List Expr} {x1} (h : PA X es (tA X.K E ms)) : PE X (.Tuple es x1 pos) (tM X.K E (mTup ms)) :=
  PE.of (pe_tupN h) fun σ H Q ⟨ρ, τ, S, s, e, h⟩ => ⟨ρ, τ, S, s, e, h.step fun ρ1 H1 ts S1 e1 s1 h1 vs rs => by
    by_cases hl : ts.length ≤ 100000
    · rw [if_pos hl] at h1
      exact ⟨sz5 (rs.length ▸ hl), new_tup s1 rs h1⟩
    · rw [if_neg hl] at h1
      exact h1.elim⟩
theorem x_lst (fz : Bool) {es : List Expr} (h : PA X es (tA X.K E ms)) : PE X (.List es pos) (tM X.K E (mLst fz ms)) :=
  PE.of (pe_lst h) fun σ H Q ⟨ρ, τ, S, s, e, h⟩ => ⟨ρ, τ, S, s, e, h.step fun ρ1 H1 ts S1 e1 s1 h1 vs rs => by
    by_cases hl : ts.length ≤ 100000
    · rw [if_pos hl] at h1
      exact ⟨sz5 (rs.length ▸ hl), new_lst s1 rs h1⟩
    · rw [if_neg hl] at h1
      exact h1.elim⟩
/-- a built-in function, a built-in type called -/
theorem x_callB {x : Str} {p : Pos} {e : Expr} {es : List Expr} {id : String} {r : List V → Hp → VK → Prop} {f : List T → Sto → R T} (hc : CallR X (.builtin id) r) (hs : OpN X.K E r f) (hg : Gl X x) (hm : X.mg x = none) (hv : bootBuiltins x = some (.builtin id)) (ha : PA X (e :: es) (tA X.K E ms)) (hn : x ≠ "__name__" := by decide) (hdb : (x == ("__debug__" : Str)) = false := by decide)
    (he : starEach (e :: es) X.env = (false, eval e X.env) :: starEach es X.env := by rfl) (hpl : (backTo pos (starEach es X.env)).any (·.1) = false := by rfl) : PE X (.Call (.Name x p) (e :: es) [] pos) (tM X.K E (mFn f ms)) :=
  PE.of (pe_callB hc hg hm hv ha hn hdb he hpl) fun σ H Q ⟨ρ, τ, S, s, e, h⟩ => ⟨ρ, τ, S, s, e, h.step fun ρ1 H1 ts S1 e1 s1 h1 vs rs => hs ρ1 H1 S1 vs ts Q s1 rs h1⟩
theorem x_callT {x : Str} {p : Pos} {e : Expr} {es : List Expr} {id : String} {r : List V → Hp → VK → Prop} {f : List T → Sto → R T} (hc : CallR X (.type id) r) (hs : OpN X.K E r f) (hg : Gl X x) (hm : X.mg x = none) (hv : bootBuiltins x = some (.type id)) (ha : PA X (e :: es) (tA X.K E ms)) (hn : x ≠ "__name__" := by decide) (hdb : (x == ("__debug__" : Str)) = false := by decide)
    (he : starEach (e :: es) X.env = (false, eval e X.env) :: starEach es X.env := by rfl) (hpl : (backTo pos (starEach es X.env)).any (·.1) = false := by rfl) : PE X (.Call (.Name x p) (e :: es) [] pos) (tM X.K E (mFn f ms)) :=
  PE.of (pe_callTy hc hg hm hv ha hn hdb he hpl) fun σ H Q ⟨ρ, τ, S, s, e, h⟩ => ⟨ρ, τ, S, s, e, h.step fun ρ1 H1 ts S1 e1 s1 h1 vs rs => hs ρ1 H1 S1 vs ts Q s1 rs h1⟩
theorem x_ix {r : R2} {f : T → T → Sto → R T} (hr : IxR X r) (hs : Op2 X.K E r f) (ha : PE X a (tM X.K E ma)) (hb : PE X b (tM X.K E mb)) (hp : PlainIx b := by exact fun _ _ => rfl) : PE X (.Subscript a b pos) (tM X.K E (mBin f ma mb)) :=
  PE.of (pe_ix hr ha hb hp) fun σ H Q ⟨ρ, τ, S, s, e, h⟩ => ⟨ρ, τ, S, s, e, h.step fun ρ1 H1 x S1 e1 s1 h1 v rv => ⟨ρ1, τ, S1, s1, e.ext e1, h1.step fun ρ2 H2 y S2 e2 s2 h2 w rw => hs ρ2 H2 S2 v w x y Q s2 (rv.ext e2) rw h2⟩⟩
end
section
variable {X : Cx} {E : XK} {st : Stmt} {rest sts : List Stmt} {e c : Expr} {m : Env → Sto → R T} {mb : Env → Sto → R Bool} {u w : Env → Sto → R Fl} {pos : Pos}
theorem s_nil : PSs X [] (tS X.K E sNext) := PSs.of pss_nil fun D σ H ⟨ρ, τ, S, s, e, h⟩ => h.ok s σ e
theorem qs_seq {ρ : Wd} {H : Hp} {f : Fl} {S : Sto} {D : Ends} (s : Sta X.K ρ H S) (h : Post X.K E ρ H (match f with
  | .nx τ1 => w τ1 S
  | .rt t => R.ok (.rt t) S
  | .bk τ1 => .ok (.bk τ1) S
  | .ct τ1 => .ok (.ct τ1) S) (QS X.K D)) : QS X.K { D with nx := tS X.K E w D } ρ H f S := by
  cases f with
  | nx τ => exact fun σ e => ⟨ρ, τ, S, s, e, h⟩
  | rt t => exact h.ok s
  | bk τ => exact h.ok s
  | ct τ => exact h.ok s
theorem s_cons (h1 : PS X st (tS X.K E u)) (h2 : PSs X rest (tS X.K E w)) : PSs X (st :: rest) (tS X.K E (sSeq u w)) :=
  PSs.of (pss_cons h1 h2) fun D σ H ⟨ρ, τ, S, s, e, h⟩ => ⟨ρ, τ, S, s, e, h.step fun ρ1 H1 f S1 e1 s1 h1 => qs_seq s1 h1⟩
theorem s_one (h1 : PS X st (tS X.K E u)) : PSs X [st] (tS X.K E u) := pss_one h1
theorem s_expr (he : PE X e (tM X.K E m)) (hs : swapsWith e none pos.line X.env = pure false := by rfl) : PS X (.Expr e pos) (tS X.K E (sDrop m)) :=
  PS.of (ps_expr he hs) fun D σ H ⟨ρ, τ, S, s, e, h⟩ => ⟨ρ, τ, S, s, e, h.step fun ρ1 H1 f S1 e1 s1 h1 v rv => h1.ok s1 σ (e.ext e1)⟩
theorem s_ret (he : PE X e (tM X.K E m)) : PS X (.Return (some e) pos) (tS X.K E (sRet m)) :=
  PS.of (ps_ret he) fun D σ H ⟨ρ, τ, S, s, e, h⟩ => ⟨ρ, τ, S, s, e, h.step fun ρ1 H1 f S1 e1 s1 h1 v rv => h1.ok s1 v rv⟩
theorem s_if {a b : List Stmt} (hc : PT X c (tB X.K E mb)) (ha : PSs X a (tS X.K E u)) (hb : PSs X b (tS X.K E w)) : PS X (.If c a b pos) (tS X.K E (sIf mb u w)) :=
  PS.of (ps_if hc ha hb) fun D σ H ⟨ρ, τ, S, s, e, h⟩ => ⟨ρ, τ, S, s, e, h.step fun ρ1 H1 k S1 e1 s1 h1 => by
    cases k with
    | true => exact ⟨ρ1, τ, S1, s1, e.ext e1, h1⟩
    | false => exact ⟨ρ1, τ, S1, s1, e.ext e1, h1⟩⟩
theorem s_set {i : Nat} {x : Str} {pos' : Pos} (hN : X.N.Nodup) (hi : X.N[i]? = some x) (hx : Loc X.env.scope x) (he : PE X e (tM X.K E m)) (hs : swapsWith e (some (.Name x pos')) pos.line X.env = pure false := by rfl) (hf : X.fn x = true ∨ X.env.scope.names.lookup x = some .local := by first | exact .inl rfl | exact .inr rfl | assumption) :
    PS X (.Assign [.Name x pos'] e pos) (tS X.K E (sSet i m)) :=
  PS.of (ps_set hN hi hx he hs hf) fun D σ H ⟨ρ, τ, S, s, e, h⟩ => ⟨ρ, τ, S, s, e, h.step fun ρ1 H1 f S1 e1 s1 h1 v rv => h1.ok s1 _ ((e.ext e1).set _ rv)⟩
/-- targets -/
def Near (vs : List Nat) (σ σ' : L2.St) : Prop := σ'.length = σ.length ∧ ∀ j, j ∉ vs → σ'[j]? = σ[j]?
mutual
def Pat.slots : Pat → List Nat
  | .nm i => [i]
  | .tp ps => Pat.slotss ps
def Pat.slotss : List Pat → List Nat
  | [] => []
  | p :: ps => p.slots ++ Pat.slotss ps
end
theorem Near.refl (vs : List Nat) (σ : L2.St) : Near vs σ σ := ⟨rfl, fun _ _ => rfl⟩
theorem Near.trans {v w : List Nat} {σ σ' σ'' : L2.St} (a : Near v σ σ') (b : Near w σ' σ'') : Near (v ++ w) σ σ'' := ⟨b.1.trans a.1, fun j n => by
  rw [List.mem_append, not_or] at n
  exact (b.2 j n.2).trans (a.2 j n.1)⟩
def tG (K : PySem.W.Frag) (p : Pat) : TG := fun v σ H Q => ∃ ρ τ t τ', REnv K ρ H σ τ ∧ Rep K ρ H v t ∧ bindP p t τ = some τ' ∧ ∀ σ', REnv K ρ H σ' τ' → Near p.slots σ σ' → Q σ' H
def tGs (K : PySem.W.Frag) (p : List Pat) : TGs := fun v σ H Q => ∃ ρ τ t τ', REnv K ρ H σ τ ∧ Reps K ρ H v t ∧ bindPs p t τ = some τ' ∧ ∀ σ', REnv K ρ H σ' τ' → Near (Pat.slotss p) σ σ' → Q σ' H
theorem PG.of {tg : Expr} {t t' : TG} (h : PG X tg t) (i : ∀ v σ H Q, t' v σ H Q → t v σ H Q) : PG X tg t' := ⟨fun pins s σ H v u Q I r hw => h.run pins s σ H v u Q I r (i v σ H Q hw)⟩
theorem PGs.of {tg : List Expr} {t t' : TGs} (h : PGs X tg t) (i : ∀ v σ H Q, t' v σ H Q → t v σ H Q) : PGs X tg t' := ⟨fun pins s σ H v u Q I r hw => h.run pins s σ H v u Q I r (i v σ H Q hw)⟩
theorem g_name' {i : Nat} {x : Str} {pos' : Pos} (h : PG X (.Name x pos') (gName i)) : PG X (.Name x pos') (tG X.K (.nm i)) := PG.of h fun v σ H Q ⟨ρ, τ, t, τ', e, r, b, q⟩ => by
  unfold bindP at b
  have b := Option.some.inj b
  subst b
  refine q _ (e.set i r) ⟨List.length_set .., fun j n => ?_⟩
  have n : ¬ j = i := fun e => n (by unfold Pat.slots; rw [e]; exact List.mem_singleton.mpr rfl)
  rw [List.getElem?_set_ne (Ne.symm n)]
theorem g_name {i : Nat} {x : Str} {pos : Pos} (hN : X.N.Nodup) (hi : X.N[i]? = some x) (hx : Loc X.env.scope x) (hf : X.fn x = true ∨ X.env.scope.names.lookup x = some .local := by first | exact .inl rfl | exact .inr rfl | assumption) : PG X (.Name x pos) (tG X.K (.nm i)) := g_name' (pg_name hN hi hx hf)
theorem gs_nil : PGs X [] (tGs X.K []) := PGs.of pgs_nil fun v σ H Q ⟨ρ, τ, t, τ', e, r, b, q⟩ => by
  cases r with
  | nil =>
    unfold bindPs at b
    have b := Option.some.inj b
    subst b
    exact ⟨rfl, q _ e (Near.refl _ _)⟩
  | cons _ _ => unfold bindPs at b; cases b
theorem gs_cons {t : Expr} {ts : List Expr} {p : Pat} {ps : List Pat} (h : PG X t (tG X.K p)) (hr : PGs X ts (tGs X.K ps)) (hs : (assignEach (t :: ts) X.env).map (·.2) = assign t X.env :: (assignEach ts X.env).map (·.2) := by rfl) : PGs X (t :: ts) (tGs X.K (p :: ps)) := PGs.of (pgs_cons h hr hs) fun v σ H Q ⟨ρ, τ, us, τ', e, r, b, q⟩ => by
  cases r with
  | nil => unfold bindPs at b; cases b
  | cons r rs =>
    rename_i v0 u0 vs0 us0 q0
    have b : (bindP p u0 τ).bind (fun τ1 => bindPs ps us0 τ1) = some τ' := by
      have b' := b
      unfold bindPs at b'
      exact b'
    obtain ⟨τ1, b1, b2⟩ := Option.bind_eq_some_iff.mp b
    exact ⟨v0, vs0, rfl, ρ, τ, u0, τ1, e, r, b1, fun σ' e' n' => ⟨ρ, τ1, us0, τ', e', rs, b2, fun σ'' e'' n'' => q σ'' e'' (by unfold Pat.slotss; exact n'.trans n'')⟩⟩
theorem bindPs_len : ∀ {ps : List Pat} {ts : List T} {τ τ' : Env}, bindPs ps ts τ = some τ' → ts.length = ps.length
  | [], [], _, _, _ => rfl
  | [], _ :: _, _, _, h => by unfold bindPs at h; cases h
  | _ :: _, [], _, _, h => by unfold bindPs at h; cases h
  | p :: ps, t :: ts, τ, τ', h => by
    unfold bindPs at h
    obtain ⟨τ1, b1, b2⟩ := Option.bind_eq_some_iff.mp h
    rw [List.length_cons, List.length_cons, bindPs_len b2]
theorem g_tup' {es : List Expr} {ps : List Pat} {n : Nat} {x1} {pos : Pos} (hn : ps.length = n) (h : PG X (.Tuple es x1 pos) (gTup X.K n (tGs X.K ps))) : PG X (.Tuple es x1 pos) (tG X.K (.tp ps)) := PG.of h fun v σ H Q ⟨ρ, τ, t, τ', e, r, b, q⟩ => by
  unfold bindP at b
  cases t with
  | tup ts =>
    obtain ⟨a, xs, ev, ft, rs⟩ := rep_tup r
    have b : bindPs ps ts τ = some τ' := b
    exact ⟨a, xs, ev, ft.sq, by rw [rs.length, bindPs_len b, hn], ρ, τ, ts, τ', e, rs, b, fun σ' e' n' => q σ' e' (by unfold Pat.slots; exact n')⟩
  | wt ts =>
    cases r with
    | wt ft na rs =>
      have b : bindPs ps ts τ = some τ' := b
      exact ⟨_, _, rfl, .inl ft, by rw [rs.length, bindPs_len b, hn], ρ, τ, ts, τ', e, rs, b, fun σ' e' n' => q σ' e' (by unfold Pat.slots; exact n')⟩
  | _ => cases b
theorem g_tup {es : List Expr} {k : Nat} {ps : List Pat} {pos : Pos} (hc : X.calm = true) (h : PGs X es (tGs X.K ps)) (hn : (assignEach es X.env).length = ps.length := by rfl) (hst : (assignEach es X.env).findIdx? (·.1) = none := by rfl) : PG X (.Tuple es k pos) (tG X.K (.tp ps)) := g_tup' rfl (pg_tup hc h hn hst)
end
end Fx
namespace Fx
open PySem PySem.Spec PyProof.Rows L2
def lstD (S : Sto) : T → Option (List T)
  | .lst ts => some ts
  | .ref i => match S[i]? with
    | some (.lst ts) => some ts
    | _ => none
  | _ => none
def lstOf (S : Sto) : T → Option (List T)
  | .kst ts => some ts
  | t => lstD S t
def seqOf (S : Sto) : T → Option (List T)
  | .tup ts => some ts
  | .kst ts => some ts
  | t => lstD S t
section
variable {K : PySem.W.Frag} {ρ : Wd} {H : Hp} {S : Sto} {v : V} {t : T} {ts : List T}
theorem lstD_at (s : Sta K ρ H S) (r : Rep K ρ H v t) (h : lstD S t = some ts) : ∃ a xs, v = .ref a ∧ H a = some (.lst xs) ∧ Reps K ρ H xs ts := by
  cases r with
  | lst e n rs => cases h; exact ⟨_, _, rfl, e, rs⟩
  | ref e =>
    rename_i i a
    have h : (match S[i]? with
      | some (.lst ts) => some ts
      | _ => none) = some ts := h
    split at h
    · rename_i ts' q
      cases h
      obtain ⟨b, e', ⟨xs, h1, h2⟩⟩ := s.look q
      rw [e] at e'
      cases e'
      exact ⟨_, _, rfl, h1, h2⟩
    · cases h
  | _ => cases h
theorem lstD_ref {i : Nat} (s : Sta K ρ H S) (r : Rep K ρ H v (.ref i)) (h : S[i]? = some (.lst ts)) : ∃ a xs, v = .ref a ∧ ρ.at_[i]? = some a ∧ H a = some (.lst xs) ∧ Reps K ρ H xs ts := by
  cases r with
  | ref e =>
    obtain ⟨b, e', ⟨xs, h1, h2⟩⟩ := s.look h
    rw [e] at e'
    cases e'
    exact ⟨_, _, rfl, e, h1, h2⟩
theorem lstOf_at (s : Sta K ρ H S) (r : Rep K ρ H v t) (h : lstOf S t = some ts) : ∃ a xs, v = .ref a ∧ SqL K H a xs ∧ Reps K ρ H xs ts := by
  by_cases c : ∃ us, t = .kst us
  · obtain ⟨us, rfl⟩ := c
    cases h
    cases r with
    | kst f rs => exact ⟨_, _, rfl, f.sq, rs⟩
  · have h' : lstD S t = some ts := by
      unfold lstOf at h
      split at h
      · exact absurd ⟨_, rfl⟩ c
      · exact h
    obtain ⟨a, xs, e, h1, h2⟩ := lstD_at s r h'
    exact ⟨a, xs, e, SqL.of h1, h2⟩
theorem seqOf_at (s : Sta K ρ H S) (r : Rep K ρ H v t) (h : seqOf S t = some ts) : ∃ a xs, v = .ref a ∧ (SqL K H a xs ∨ SqT K H a xs) ∧ Reps K ρ H xs ts := by
  by_cases c : ∃ us, t = .kst us
  · obtain ⟨us, rfl⟩ := c
    cases h
    cases r with
    | kst f rs => exact ⟨_, _, rfl, .inl f.sq, rs⟩
  · by_cases c2 : ∃ us, t = .tup us
    · obtain ⟨us, rfl⟩ := c2
      cases h
      cases r with
      | tup f rs => exact ⟨_, _, rfl, .inr f.sq, rs⟩
    · have h' : lstD S t = some ts := by
        unfold seqOf at h
        split at h
        · exact absurd ⟨_, rfl⟩ c2
        · exact absurd ⟨_, rfl⟩ c
        · exact h
      obtain ⟨a, xs, e, h1, h2⟩ := lstD_at s r h'
      exact ⟨a, xs, e, .inl (SqL.of h1), h2⟩
end
mutual
def toD : T → Option PyData
  | .non => some .none
  | .bl b => some (.bool b)
  | .int i => some (.int i)
  | .str x => some (.str x)
  | .tup ts => (toDs ts).map .tuple
  | .lst ts => (toDs ts).map .list
  | .kst ts => (toDs ts).map .list
  | .obj _ => none
  | .ty _ => none
  | .ref _ => none
  | .wt _ => none
  | .exn _ _ _ _ => none
  | .dct _ _ => none
def toDs : List T → Option (List PyData)
  | [] => some []
  | t :: ts => (toD t).bind fun d => (toDs ts).map fun ds => d :: ds
end
section
variable {K : PySem.W.Frag} {ρ : Wd} {H : Hp}
mutual
theorem dp_of : ∀ {v : V} {t : T} {d : PyData}, Rep K ρ H v t → toD t = some d → Dp K H v d
  | _, _, _, .non, h => by cases h; exact .non
  | _, _, _, .bl b, h => by cases h; exact .bl b
  | _, _, _, .int i, h => by cases h; exact .int i
  | _, _, _, .str x, h => by cases h; exact .str x
  | _, _, _, .obj a, h => by cases h
  | _, _, _, .ty n, h => by cases h
  | _, _, _, .ref e, h => by cases h
  | _, _, _, .wt _ _ _, h => by cases h
  | _, _, _, .exn _ _ _ _ _, h => by cases h
  | _, _, _, .dct _ _ _ _, h => by cases h
  | _, .tup ts, _, .tup f r, h => by
    obtain ⟨ds, e, h⟩ := Option.map_eq_some_iff.mp (show (toDs ts).map PyData.tuple = _ from h)
    cases h
    exact .tup f.sq (dps_of r e)
  | _, .lst ts, _, .lst f n r, h => by
    obtain ⟨ds, e, h⟩ := Option.map_eq_some_iff.mp (show (toDs ts).map PyData.list = _ from h)
    cases h
    exact .lst (SqL.of f) (dps_of r e)
  | _, .kst ts, _, .kst f r, h => by
    obtain ⟨ds, e, h⟩ := Option.map_eq_some_iff.mp (show (toDs ts).map PyData.list = _ from h)
    cases h
    exact .lst f.sq (dps_of r e)
theorem dps_of : ∀ {v : List V} {t : List T} {d : List PyData}, Reps K ρ H v t → toDs t = some d → DpAll K H v d
  | _, _, _, .nil, h => by cases h; exact .nil
  | _, t :: ts, _, .cons r rs, h => by
    obtain ⟨d, e, h⟩ := Option.bind_eq_some_iff.mp (show (toD t).bind (fun d => (toDs ts).map fun ds => d :: ds) = _ from h)
    obtain ⟨ds, e2, h⟩ := Option.map_eq_some_iff.mp h
    cases h
    exact .cons (dp_of r e) (dps_of rs e2)
end
end
def rOr (r r' : R2) : R2 := fun x y H Q => r x y H Q ∨ r' x y H Q
theorem OpR.or {X : Cx} {f : Value → Value → Sem Value} {r r' : R2} (h : OpR X f r) (h' : OpR X f r') : OpR X f (rOr r r') := fun pins s σ H x y v u Q I rx ry q => q.elim (fun q => h pins s σ H x y v u Q I rx ry q) fun q => h' pins s σ H x y v u Q I rx ry q
theorem IxR.or' {X : Cx} {r r' : R2} (h : IxR X r) (h' : IxR X r') : IxR X (rOr r r') := fun a b pins s σ H x y v u Q I rx ry q hs => q.elim (fun q => h a b pins s σ H x y v u Q I rx ry q hs) fun q => h' a b pins s σ H x y v u Q I rx ry q hs
def fAdd (x y : T) (S : Sto) : R T := match x, y with
  | .int i, .int j => .ok (.int (i + j)) S
  | .str a, .str b => if a.length + b.length ≤ 1000000 then .ok (.str (a ++ b)) S else .bad
  | .tup xs, .tup ys => if xs.length + ys.length ≤ 100000 then .ok (.tup (xs ++ ys)) S else .bad
  | _, _ => .bad
/-- the sum of two lists is a new list -/
def fCat (fz : Bool) (x y : T) (S : Sto) : R T := match lstD S x, lstD S y with
  | some xs, some ys => if xs.length + ys.length ≤ 100000 then newL fz (xs ++ ys) S else .bad
  | _, _ => .bad
def fI2 (g : Int → Int → T) (x y : T) (S : Sto) : R T := match x, y with
  | .int i, .int j => .ok (g i j) S
  | _, _ => .bad
def fI2c (C : Int → Int → Bool) (g : Int → Int → T) (x y : T) (S : Sto) : R T := match x, y with
  | .int i, .int j => if C i j = true then .ok (g i j) S else .bad
  | _, _ => .bad
section
variable {X : Cx} {E : XK}
def rAddA (K : PySem.W.Frag) : R2 := rOr (rI0 fun i j => .int (i + j)) (rOr (fun x y H Q => ∃ i j, x = .str i ∧ y = .str j ∧ i.length + j.length ≤ sizeLine ∧ Q (.str (i ++ j)) H) (rCatN K))
theorem o_add : OpR X (binaryOp .Add) (rAddA X.K) := op_add.or (op_add_str.or op_catN)
theorem sz6 {n : Nat} (h : n ≤ 1000000) : n ≤ sizeLine := Nat.le_trans h (by decide)
theorem f_add : Op2 X.K E (rAddA X.K) fAdd := by
  intro ρ H S v w x y Q s rv rw h
  unfold fAdd at h
  split at h
  · exact .inl ⟨_, _, rep_int rv, rep_int rw, h.ok s _ (.int _)⟩
  · split at h
    · rename_i a b hl
      exact .inr (.inl ⟨_, _, rep_str rv, rep_str rw, sz6 hl, h.ok s _ (.str _)⟩)
    · exact h.elim
  · split at h
    · rename_i xs ys hl
      obtain ⟨a, us, rfl, fa, ra⟩ := rep_tup rv
      obtain ⟨b, ws, rfl, fb, rb⟩ := rep_tup rw
      refine .inr (.inr ⟨a, b, us, ws, rfl, rfl, fa.sq, fb.sq, by rw [ra.length, rb.length]; exact sz5 hl, fun e => ?_, fun _ e => ?_, fun _ _ => new_tup s (ra.append rb) h⟩)
      · subst e
        cases ra
        exact h.ok s _ rw
      · subst e
        cases rb
        rw [List.append_nil] at h
        exact h.ok s _ rv
    · exact h.elim
  · exact h.elim
theorem f_cat (fz : Bool) : Op2 X.K E rCat (fCat fz) := by
  intro ρ H S v w x y Q s rv rw h
  unfold fCat at h
  split at h
  · rename_i xs ys ex ey
    split at h
    · rename_i hl
      obtain ⟨a, us, rfl, ha, ra⟩ := lstD_at s rv ex
      obtain ⟨b, ws, rfl, hb, rb⟩ := lstD_at s rw ey
      exact ⟨a, b, us, ws, rfl, rfl, ha, hb, by rw [ra.length, rb.length]; exact sz5 hl, fun p n => new_lst s (ra.append rb) h p n⟩
    · exact h.elim
  · exact h.elim
theorem f_i2 {g : Int → Int → V} {g' : Int → Int → T} (hg : ∀ ρ H i j, Rep X.K ρ H (g i j) (g' i j)) : Op2 X.K E (rI0 g) (fI2 g') := by
  intro ρ H S v w x y Q s rv rw h
  unfold fI2 at h
  split at h
  · exact ⟨_, _, rep_int rv, rep_int rw, h.ok s _ (hg _ _ _ _)⟩
  · exact h.elim
theorem f_i2c {C : Int → Int → Prop} {C' : Int → Int → Bool} {g : Int → Int → V} {g' : Int → Int → T} (hC : ∀ i j, C' i j = true → C i j) (hg : ∀ ρ H i j, Rep X.K ρ H (g i j) (g' i j)) : Op2 X.K E (rI C g) (fI2c C' g') := by
  intro ρ H S v w x y Q s rv rw h
  unfold fI2c at h
  split at h
  · split at h
    · rename_i hc
      exact ⟨_, _, rep_int rv, rep_int rw, hC _ _ hc, h.ok s _ (hg _ _ _ _)⟩
    · exact h.elim
  · exact h.elim
def fSub := fI2 fun i j => .int (i - j)
theorem f_sub : Op2 X.K E (rI0 fun i j => .int (i - j)) fSub := f_i2 fun _ _ _ _ => .int _
def cMul (i j : Int) : Bool := (decide (-(2 ^ 64) < i) && decide (i < 2 ^ 64)) || (decide (-(2 ^ 64) < j) && decide (j < 2 ^ 64))
def fMul := fI2c cMul fun i j => .int (i * j)
theorem f_mul : Op2 X.K E (rI CMul fun i j => .int (i * j)) fMul := f_i2c (fun i j h => by
  unfold cMul at h
  unfold CMul
  simpa [Bool.or_eq_true, Bool.and_eq_true, decide_eq_true_eq] using h) fun _ _ _ _ => .int _
def fDiv := fI2c (fun _ j => decide (0 < j) && decide (j < 1073741824)) fun i j => .int (i / j)
theorem f_div : Op2 X.K E (rI CDiv fun i j => .int (i / j)) fDiv := f_i2c (fun i j h => by
  unfold CDiv
  simpa [Bool.and_eq_true, decide_eq_true_eq] using h) fun _ _ _ _ => .int _
def fMod := fI2c (fun _ j => decide (0 < j)) fun i j => .int (i % j)
theorem f_mod : Op2 X.K E (rI (fun _ j => 0 < j) fun i j => .int (i % j)) fMod := f_i2c (fun i j h => by simpa [decide_eq_true_eq] using h) fun _ _ _ _ => .int _
def cPow (i j : Int) : Bool := decide (0 ≤ j) && (decide (j ≤ 1000000) && decide (i.natAbs < 2 ^ 64))
theorem cPow_of {i j : Int} (h : cPow i j = true) : CPow i j := by
  unfold cPow at h
  unfold CPow
  simpa [Bool.and_eq_true, decide_eq_true_eq] using h
def fPow := fI2c cPow fun i j => .int (i ^ j.toNat)
theorem f_pow : Op2 X.K E (rI CPow fun i j => .int (i ^ j.toNat)) fPow := f_i2c (fun _ _ h => cPow_of h) fun _ _ _ _ => .int _
def fShl := fI2c cPow fun i j => .int (i * 2 ^ j.toNat)
theorem f_shl : Op2 X.K E (rI CPow fun i j => .int (i * 2 ^ j.toNat)) fShl := f_i2c (fun _ _ h => cPow_of h) fun _ _ _ _ => .int _
def fShr := fI2c (fun _ j => decide (0 ≤ j)) fun i j => .int (i / 2 ^ j.toNat)
theorem f_shr : Op2 X.K E (rI (fun _ j => 0 ≤ j) fun i j => .int (i / 2 ^ j.toNat)) fShr := f_i2c (fun i j h => by simpa [decide_eq_true_eq] using h) fun _ _ _ _ => .int _
def fBand := fI2 fun i j => .int (Builtin.bitAnd i j)
theorem f_band : Op2 X.K E (rI0 fun i j => .int (Builtin.bitAnd i j)) fBand := f_i2 fun _ _ _ _ => .int _
def fLt := fI2 fun i j => .bl (decide (i < j))
theorem f_lt : Op2 X.K E (rI0 fun i j => .bl (decide (i < j))) fLt := f_i2 fun _ _ _ _ => .bl _
def fLe := fI2 fun i j => .bl (decide (i ≤ j))
def fGt := fI2 fun i j => .bl (decide (j < i))
theorem f_gt : Op2 X.K E (rI0 fun i j => .bl (decide (j < i))) fGt := f_i2 fun _ _ _ _ => .bl _
def fGe := fI2 fun i j => .bl (decide (j ≤ i))
theorem f_ge : Op2 X.K E (rI0 fun i j => .bl (decide (j ≤ i))) fGe := f_i2 fun _ _ _ _ => .bl _
def fNeg (x : T) (S : Sto) : R T := match x with
  | .int i => .ok (.int (-i)) S
  | _ => .bad
theorem f_neg : Op1 X.K E (rU fun i => .int (-i)) fNeg := by
  intro ρ H S v x Q s rv h
  unfold fNeg at h
  split at h
  · exact ⟨_, rep_int rv, h.ok s _ (.int _)⟩
  · exact h.elim
/-- == of data -/
def eqT (x y : T) : Option Bool := match x, y with
  | .int i, .int j => some (decide (i = j))
  | .str i, .str j => some (decide (i = j))
  | .bl i, .bl j => some (decide (i = j))
  | .non, .non => some true
  | .non, .int _ => some false
  | .int _, .non => some false
  | .non, .str _ => some false
  | .str _, .non => some false
  | .int _, .str _ => some false
  | .str _, .int _ => some false
  | x, y => match toD x, toD y with
    | some d, some e => if (SeqAt.shaped d && SeqAt.shaped e) = true then some (PyData.eqv d e) else none
    | _, _ => none
def fEq (x y : T) (S : Sto) : R T := match eqT x y with
  | some b => .ok (.bl b) S
  | none => .bad
def fNe (x y : T) (S : Sto) : R T := match eqT x y with
  | some b => .ok (.bl (!b)) S
  | none => .bad
theorem eqT_of {ρ : Wd} {H : Hp} {v w : V} {x y : T} {b : Bool} (rv : Rep X.K ρ H v x) (rw' : Rep X.K ρ H w y) (h : eqT x y = some b) : (scal v w = true ∧ decide (v = w) = b) ∨ ∃ d e, Dp X.K H v d ∧ Dp X.K H w e ∧ SeqAt.shaped d = true ∧ SeqAt.shaped e = true ∧ PyData.eqv d e = b := by
  unfold eqT at h
  split at h
  · rw [rep_int rv, rep_int rw']
    cases h
    exact .inl ⟨rfl, by rw [Bool.eq_iff_iff]; simp⟩
  · rw [rep_str rv, rep_str rw']
    cases h
    exact .inl ⟨rfl, by rw [Bool.eq_iff_iff]; simp⟩
  · rw [rep_bl rv, rep_bl rw']
    cases h
    exact .inl ⟨rfl, by rw [Bool.eq_iff_iff]; simp⟩
  · rw [rep_non rv, rep_non rw']
    cases h
    exact .inl ⟨rfl, by simp⟩
  · rw [rep_non rv, rep_int rw']
    cases h
    exact .inl ⟨rfl, by simp⟩
  · rw [rep_int rv, rep_non rw']
    cases h
    exact .inl ⟨rfl, by simp⟩
  · rw [rep_non rv, rep_str rw']
    cases h
    exact .inl ⟨rfl, by simp⟩
  · rw [rep_str rv, rep_non rw']
    cases h
    exact .inl ⟨rfl, by simp⟩
  · rw [rep_int rv, rep_str rw']
    cases h
    exact .inl ⟨rfl, by simp⟩
  · rw [rep_str rv, rep_int rw']
    cases h
    exact .inl ⟨rfl, by simp⟩
  · split at h
    · rename_i d e hd he
      split at h
      · rename_i hs
        cases h
        rw [Bool.and_eq_true] at hs
        exact .inr ⟨d, e, dp_of rv hd, dp_of rw' he, hs.1, hs.2, rfl⟩
      · cases h
    · cases h
def rEqA (K : PySem.W.Frag) : R2 := rOr rEq (rEqD K)
def rNeA (K : PySem.W.Frag) : R2 := rOr rNe (rNeD K)
theorem o_eq (hu : X.A.units + 64 < cLine) : OpR X (compareOp .Eq) (rEqA X.K) := op_eq.or (op_eqD hu)
theorem o_ne (hu : X.A.units + 64 < cLine) : OpR X (compareOp .NotEq) (rNeA X.K) := op_ne.or (op_neD hu)
theorem f_eq : Op2 X.K E (rEqA X.K) fEq := by
  intro ρ H S v w x y Q s rv rw' h
  unfold fEq at h
  split at h
  · rename_i b hb
    have q := h.ok s (.bl b) (.bl b)
    rcases eqT_of rv rw' hb with ⟨h1, h2⟩ | ⟨d, e, h1, h2, h3, h4, h5⟩
    · exact .inl ⟨h1, by rw [h2]; exact q⟩
    · exact .inr ⟨d, e, h1, h2, h3, h4, by rw [h5]; exact q⟩
  · exact h.elim
theorem f_ne : Op2 X.K E (rNeA X.K) fNe := by
  intro ρ H S v w x y Q s rv rw' h
  unfold fNe at h
  split at h
  · rename_i b hb
    have q := h.ok s (.bl (!b)) (.bl (!b))
    rcases eqT_of rv rw' hb with ⟨h1, h2⟩ | ⟨d, e, h1, h2, h3, h4, h5⟩
    · exact .inl ⟨h1, by rw [h2]; exact q⟩
    · exact .inr ⟨d, e, h1, h2, h3, h4, by rw [h5]; exact q⟩
  · exact h.elim
/-- is None -/
def isN (x : T) : Bool := match x with
  | .non => true
  | _ => false
def fIsN (neg : Bool) (x y : T) (S : Sto) : R T := match y with
  | .non => .ok (.bl (if neg = true then !isN x else isN x)) S
  | _ => .bad
theorem isN_of {ρ : Wd} {H : Hp} {v : V} {x : T} (rv : Rep X.K ρ H v x) : decide (v = .non) = isN x := by
  cases rv <;> simp [isN]
theorem f_isN : Op2 X.K E (fun x y H Q => y = .non ∧ Q (.bl (decide (x = .non))) H) (fIsN false) := by
  intro ρ H S v w x y Q s rv rw' h
  unfold fIsN at h
  split at h
  · exact ⟨rep_non rw', by rw [isN_of rv]; exact h.ok s _ (.bl _)⟩
  · exact h.elim
theorem f_notN : Op2 X.K E (fun x y H Q => y = .non ∧ Q (.bl (!decide (x = .non))) H) (fIsN true) := by
  intro ρ H S v w x y Q s rv rw' h
  unfold fIsN at h
  split at h
  · exact ⟨rep_non rw', by rw [isN_of rv]; exact h.ok s _ (.bl _)⟩
  · exact h.elim
def flatT : T → Bool
  | .non => true
  | .bl _ => true
  | .int _ => true
  | .str _ => true
  | _ => false
def eqF : T → T → Bool
  | .non, .non => true
  | .bl a, .bl b => a == b
  | .bl a, .int b => (if a then 1 else 0) == b
  | .int a, .bl b => a == (if b then 1 else 0)
  | .int a, .int b => a == b
  | .str a, .str b => a == b
  | _, _ => false
def inF (x : T) (ts : List T) : Bool := ts.any fun y => eqF y x
section
variable {K : PySem.W.Frag} {ρ : Wd} {H : Hp}
theorem flat_of {v : V} {t : T} (r : Rep K ρ H v t) (h : flatT t = true) : flatV v = true := by
  cases r <;> first | rfl | cases h
theorem flats_of : ∀ {v : List V} {t : List T}, Reps K ρ H v t → t.all flatT = true → v.all flatV = true
  | _, _, .nil, _ => rfl
  | _, _, .cons r rs, h => by
    rw [List.all_cons, Bool.and_eq_true] at h ⊢
    exact ⟨flat_of r h.1, flats_of rs h.2⟩
theorem eqF_of {v w : V} {t u : T} (r : Rep K ρ H v t) (r' : Rep K ρ H w u) (h : flatT t = true) (h' : flatT u = true) : eqV v w = eqF t u := by
  cases r <;> first | (cases h; done) | (cases r' <;> first | rfl | (cases h'; done))
theorem inF_of {w : V} {u : T} (r' : Rep K ρ H w u) (h' : flatT u = true) : ∀ {v : List V} {t : List T}, Reps K ρ H v t → t.all flatT = true → inV w v = inF u t
  | _, _, .nil, _ => rfl
  | _, _, .cons r rs, h => by
    rw [List.all_cons, Bool.and_eq_true] at h
    have ih := inF_of r' h' rs h.2
    unfold inV inF at ih ⊢
    rw [List.any_cons, List.any_cons, eqF_of r r' h.1 h', ih]
end
/-- x in a text: one sign, or more -/
def inS (a b : Str) : Bool := match a.cps.toList with
  | [c] => decide (c ∈ b.cps.toList)
  | _ => !(Builtin.Str.occurrences b a 0 b.length 1).isEmpty
def fIn (neg : Bool) (x y : T) (S : Sto) : R T := match x, y with
  | .str a, .str b => .ok (.bl (if neg = true then !inS a b else inS a b)) S
  | x, y => match seqOf S y with
    | some ts => if (flatT x && ts.all flatT) = true then .ok (.bl (if neg = true then !inF x ts else inF x ts)) S
      else match toD x, toD y with
        | some d, some (.list ds) => if (SeqAt.shaped d && SeqAt.shaped (.list ds)) = true then .ok (.bl (if neg = true then !(ds.any fun z => PyData.eqv z d) else ds.any fun z => PyData.eqv z d)) S else .bad
        | _, _ => .bad
    | none => .bad
def rInA (K : PySem.W.Frag) : R2 := rOr (rIn K false) (rOr (fun x y H Q => ∃ (c : Nat) (z : Str), x = .str ⟨#[c]⟩ ∧ y = .str z ∧ Q (.bl (decide (c ∈ z.cps.toList))) H) (rOr (fun x y H Q => ∃ i j, x = .str i ∧ y = .str j ∧ Q (.bl (!(Builtin.Str.occurrences j i 0 j.length 1).isEmpty)) H) (rInD K)))
def rNiA (K : PySem.W.Frag) : R2 := rOr (rIn K true) (rOr (fun x y H Q => ∃ (c : Nat) (z : Str), x = .str ⟨#[c]⟩ ∧ y = .str z ∧ Q (.bl (!decide (c ∈ z.cps.toList))) H) (rOr (fun x y H Q => ∃ i j, x = .str i ∧ y = .str j ∧ Q (.bl (!(!(Builtin.Str.occurrences j i 0 j.length 1).isEmpty))) H) (rNotInD K)))
theorem o_in (hu : X.A.units + 65 < cLine) : OpR X (compareOp .In) (rInA X.K) := op_in_seq.or (op_in_sign.or (op_in_str.or (op_inD hu)))
theorem o_ni (hu : X.A.units + 65 < cLine) : OpR X (compareOp .NotIn) (rNiA X.K) := op_notIn_seq.or (op_notIn_sign.or (op_notIn_str.or (op_notInD hu)))
theorem sign_of {a : Str} {c : Nat} (h : a.cps.toList = [c]) : a = ⟨#[c]⟩ := by
  cases a with
  | mk cps =>
    congr 1
    exact Array.ext' h
theorem inS_one {a b : Str} {n : Nat} (h : a.cps.toList = [n]) : inS a b = decide (n ∈ b.cps.toList) := by unfold inS; rw [h]
theorem inS_more {a b : Str} (h : ¬ ∃ n, a.cps.toList = [n]) : inS a b = !(Builtin.Str.occurrences b a 0 b.length 1).isEmpty := by
  unfold inS
  split
  · rename_i n e
    exact absurd ⟨n, e⟩ h
  · rfl
theorem f_in : Op2 X.K E (rInA X.K) (fIn false) := by
  intro ρ H S v w x y Q s rv rw' h
  unfold fIn at h
  split at h
  · rename_i a b
    have q := h.ok s _ (.bl _)
    rw [rep_str rv, rep_str rw']
    by_cases c : ∃ n, a.cps.toList = [n]
    · obtain ⟨n, c⟩ := c
      refine .inr (.inl ⟨n, b, by rw [sign_of c], rfl, ?_⟩)
      rw [inS_one c] at q
      exact q
    · refine .inr (.inr (.inl ⟨a, b, rfl, rfl, ?_⟩))
      rw [inS_more c] at q
      exact q
  · split at h
    · rename_i ts hs
      split at h
      · rename_i hf
        rw [Bool.and_eq_true] at hf
        obtain ⟨a, xs, rfl, hx, rs⟩ := seqOf_at s rw' hs
        have q := h.ok s _ (.bl _)
        refine .inl ⟨a, xs, rfl, hx, flat_of rv hf.1, flats_of rs hf.2, ?_⟩
        rw [inF_of rv hf.1 rs hf.2]
        exact q
      · split at h
        · rename_i d ds hd he
          split at h
          · rename_i hsh
            rw [Bool.and_eq_true] at hsh
            exact .inr (.inr (.inr ⟨d, ds, dp_of rv hd, dp_of rw' he, hsh.1, hsh.2, h.ok s _ (.bl _)⟩))
          · exact h.elim
        · exact h.elim
    · exact h.elim
theorem f_ni : Op2 X.K E (rNiA X.K) (fIn true) := by
  intro ρ H S v w x y Q s rv rw' h
  unfold fIn at h
  split at h
  · rename_i a b
    have q := h.ok s _ (.bl _)
    rw [rep_str rv, rep_str rw']
    by_cases c : ∃ n, a.cps.toList = [n]
    · obtain ⟨n, c⟩ := c
      refine .inr (.inl ⟨n, b, by rw [sign_of c], rfl, ?_⟩)
      rw [inS_one c] at q
      exact q
    · refine .inr (.inr (.inl ⟨a, b, rfl, rfl, ?_⟩))
      rw [inS_more c] at q
      exact q
  · split at h
    · rename_i ts hs
      split at h
      · rename_i hf
        rw [Bool.and_eq_true] at hf
        obtain ⟨a, xs, rfl, hx, rs⟩ := seqOf_at s rw' hs
        have q := h.ok s _ (.bl _)
        refine .inl ⟨a, xs, rfl, hx, flat_of rv hf.1, flats_of rs hf.2, ?_⟩
        rw [inF_of rv hf.1 rs hf.2]
        exact q
      · split at h
        · rename_i d ds hd he
          split at h
          · rename_i hsh
            rw [Bool.and_eq_true] at hsh
            exact .inr (.inr (.inr ⟨d, ds, dp_of rv hd, dp_of rw' he, hsh.1, hsh.2, h.ok s _ (.bl _)⟩))
          · exact h.elim
        · exact h.elim
    · exact h.elim
theorem Reps.atI {K : PySem.W.Frag} {ρ : Wd} {H : Hp} {v : List V} {t : List T} {i : Int} {x : T} (r : Reps K ρ H v t) (h : L2.atI t i = some x) : ∃ y, L2.atI v i = some y ∧ Rep K ρ H y x := by
  unfold L2.atI at h ⊢
  rw [r.length]
  obtain ⟨j, e, h⟩ := Option.bind_eq_some_iff.mp h
  obtain ⟨y, e2, r2⟩ := r.get h
  exact ⟨y, by rw [e]; exact e2, r2⟩
def fIx (x y : T) (S : Sto) : R T := match y with
  | .int i => match x with
    | .str z => match L2.atI z.cps.toList i with
      | some c => if z.length ≤ 1000000 then .ok (.str ⟨#[c]⟩) S else .bad
      | none => .bad
    | x => match seqOf S x with
      | some ts => match L2.atI ts i with
        | some t => .ok t S
        | none => .bad
      | none => .bad
  | _ => .bad
def rIxA (K : PySem.W.Frag) : R2 := rOr (rIxL K) (rOr (rIxT K) rIxS)
theorem o_ix : IxR X (rIxA X.K) := Fx.IxR.or' ix_list (Fx.IxR.or' ix_tup ix_str)
theorem f_ix : Op2 X.K E (rIxA X.K) fIx := by
  intro ρ H S v w x y Q s rv rw' h
  unfold fIx at h
  split at h
  · rename_i i
    rw [rep_int rw']
    split at h
    · rename_i z
      rw [rep_str rv]
      split at h
      · rename_i c hc
        split at h
        · rename_i hl
          exact .inr (.inr ⟨z, i, c, rfl, rfl, sz6 hl, hc, h.ok s _ (.str _)⟩)
        · exact h.elim
      · exact h.elim
    · split at h
      · rename_i ts hs
        split at h
        · rename_i t ht
          obtain ⟨a, xs, rfl, hx, rs⟩ := seqOf_at s rv hs
          obtain ⟨u, hu, ru⟩ := rs.atI ht
          have q := h.ok s u ru
          rcases hx with hx | hx
          · exact .inl ⟨a, xs, i, u, rfl, rfl, hx, hu, q⟩
          · exact .inr (.inl ⟨a, xs, i, u, rfl, rfl, hx, hu, q⟩)
        · exact h.elim
      · exact h.elim
  · exact h.elim
def fLen (xs : List T) (S : Sto) : R T := match xs with
  | [.str z] => if z.length ≤ 1000000 then .ok (.int z.length) S else .bad
  | [x] => match seqOf S x with
    | some ts => .ok (.int ts.length) S
    | none => .bad
  | _ => .bad
def rN1 (r r' : List V → Hp → VK → Prop) : List V → Hp → VK → Prop := fun xs H Q => r xs H Q ∨ r' xs H Q
theorem CallR.or {f : Value} {r r' : List V → Hp → VK → Prop} (h : CallR X f r) (h' : CallR X f r') : CallR X f (rN1 r r') := fun pins s σ H xs us Q I rx q => q.elim (fun q => h pins s σ H xs us Q I rx q) fun q => h' pins s σ H xs us Q I rx q
def rLenA (K : PySem.W.Frag) : List V → Hp → VK → Prop := fun xs H Q => ∃ x n, xs = [x] ∧ LenV K x H n ∧ Q (.int n) H
theorem o_len : CallR X (.builtin "len") (rLenA X.K) := call_len
theorem Reps.one {K : PySem.W.Frag} {ρ : Wd} {H : Hp} {v : List V} {x : T} (r : Reps K ρ H v [x]) : ∃ y, v = [y] ∧ Rep K ρ H y x := by
  cases r with
  | cons r rs => cases rs; exact ⟨_, rfl, r⟩
theorem Reps.two {K : PySem.W.Frag} {ρ : Wd} {H : Hp} {v : List V} {x y : T} (r : Reps K ρ H v [x, y]) : ∃ a b, v = [a, b] ∧ Rep K ρ H a x ∧ Rep K ρ H b y := by
  cases r with
  | cons r rs =>
    obtain ⟨b, rfl, rb⟩ := rs.one
    exact ⟨_, b, rfl, r, rb⟩
theorem Reps.none {K : PySem.W.Frag} {ρ : Wd} {H : Hp} {v : List V} (r : Reps K ρ H v []) : v = [] := by
  cases r
  rfl
theorem f_len : OpN X.K E (rLenA X.K) fLen := by
  intro ρ H S vs ts Q s rs h
  unfold fLen at h
  split at h
  · rename_i z
    obtain ⟨y, rfl, r⟩ := rs.one
    rw [rep_str r]
    split at h
    · rename_i hl
      exact ⟨_, _, rfl, ⟨sz6 hl, rfl⟩, h.ok s _ (.int _)⟩
    · exact h.elim
  · rename_i x _
    obtain ⟨y, rfl, r⟩ := rs.one
    split at h
    · rename_i us hs
      obtain ⟨a, xs, rfl, hx, rx⟩ := seqOf_at s r hs
      have q := h.ok s _ (.int _)
      rw [← rx.length] at q
      refine ⟨_, _, rfl, ?_, q⟩
      exact hx.elim (fun hx => .inl ⟨xs, hx, rfl⟩) fun hx => .inr ⟨xs, hx, rfl⟩
    · exact h.elim
  · exact h.elim
def fAbs (xs : List T) (S : Sto) : R T := match xs with
  | [.int i] => .ok (.int (if i < 0 then -i else i)) S
  | _ => .bad
def rAbs : List V → Hp → VK → Prop := fun xs H Q => ∃ i, xs = [.int i] ∧ Q (.int (if i < 0 then -i else i)) H
theorem o_abs : CallR X (.builtin "abs") rAbs := call_abs
theorem f_abs : OpN X.K E rAbs fAbs := by
  intro ρ H S vs ts Q s rs h
  unfold fAbs at h
  split at h
  · obtain ⟨y, rfl, r⟩ := rs.one
    exact ⟨_, by rw [rep_int r], h.ok s _ (.int _)⟩
  · exact h.elim
def fInt (xs : List T) (S : Sto) : R T := match xs with
  | [.int i] => .ok (.int i) S
  | [.bl k] => .ok (.int (if k then 1 else 0)) S
  | [.str a] => match PySem.intText? a with
    | some n => if a.length ≤ 640 then .ok (.int n) S else .bad
    | none => .bad
  | _ => .bad
def rIntA : List V → Hp → VK → Prop := rN1 (fun xs H Q => (∃ i, xs = [.int i] ∧ Q (.int i) H) ∨ ∃ k, xs = [.bl k] ∧ Q (.int (if k then 1 else 0)) H) (fun xs H Q => ∃ a n, xs = [.str a] ∧ PySem.intText? a = some n ∧ a.length ≤ 640 ∧ Q (.int n) H)
theorem o_int : CallR X (.type "int") rIntA := call_int1.or call_int_str
theorem f_int : OpN X.K E rIntA fInt := by
  intro ρ H S vs ts Q s rs h
  unfold fInt at h
  split at h
  · obtain ⟨y, rfl, r⟩ := rs.one
    exact .inl (.inl ⟨_, by rw [rep_int r], h.ok s _ (.int _)⟩)
  · obtain ⟨y, rfl, r⟩ := rs.one
    exact .inl (.inr ⟨_, by rw [rep_bl r], h.ok s _ (.int _)⟩)
  · obtain ⟨y, rfl, r⟩ := rs.one
    split at h
    · rename_i n hn
      split at h
      · rename_i hl
        exact .inr ⟨_, _, by rw [rep_str r], hn, hl, h.ok s _ (.int _)⟩
      · exact h.elim
    · exact h.elim
  · exact h.elim
def fMax2 (xs : List T) (S : Sto) : R T := match xs with
  | [.int i, .int j] => .ok (.int (if j > i then j else i)) S
  | _ => .bad
def rMax2 : List V → Hp → VK → Prop := fun xs H Q => ∃ i j, xs = [.int i, .int j] ∧ Q (.int (if j > i then j else i)) H
theorem o_max2 (hc : X.calm = true) : CallR X (.builtin "max") rMax2 := call_max2 hc
theorem f_max2 : OpN X.K E rMax2 fMax2 := by
  intro ρ H S vs ts Q s rs h
  unfold fMax2 at h
  split at h
  · obtain ⟨a, b, rfl, ra, rb⟩ := rs.two
    exact ⟨_, _, by rw [rep_int ra, rep_int rb], h.ok s _ (.int _)⟩
  · exact h.elim
def fMin2 (xs : List T) (S : Sto) : R T := match xs with
  | [.int i, .int j] => .ok (.int (if j < i then j else i)) S
  | _ => .bad
def rMin2 : List V → Hp → VK → Prop := fun xs H Q => ∃ i j, xs = [.int i, .int j] ∧ Q (.int (if j < i then j else i)) H
theorem o_min2 (hc : X.calm = true) : CallR X (.builtin "min") rMin2 := call_min2 hc
theorem f_min2 : OpN X.K E rMin2 fMin2 := by
  intro ρ H S vs ts Q s rs h
  unfold fMin2 at h
  split at h
  · obtain ⟨a, b, rfl, ra, rb⟩ := rs.two
    exact ⟨_, _, by rw [rep_int ra, rep_int rb], h.ok s _ (.int _)⟩
  · exact h.elim
def rListA (K : PySem.W.Frag) : List V → Hp → VK → Prop := fun xs H Q => ∃ p ys, xs = [.ref p] ∧ (SqL K H p ys ∨ SqT K H p ys) ∧ ∀ l, H l = none → Q (.ref l) (upd H l (.lst ys))
theorem o_list : CallR X (.type "list") (rListA X.K) := call_list_of
def fTuple (xs : List T) (S : Sto) : R T := match xs with
  | [.tup ts] => .ok (.tup ts) S
  | [x] => match lstOf S x with
    | some ts => .ok (.tup ts) S
    | none => .bad
  | _ => .bad
def rTupleA (K : PySem.W.Frag) : List V → Hp → VK → Prop := rTupleN K
theorem o_tuple : CallR X (.type "tuple") (rTupleA X.K) := call_tupleN
theorem f_tuple : OpN X.K E (rTupleA X.K) fTuple := by
  intro ρ H S vs ts Q s rs h
  unfold fTuple at h
  split at h
  · obtain ⟨y, rfl, r⟩ := rs.one
    obtain ⟨a, xs, rfl, hx, rx⟩ := rep_tup r
    exact ⟨a, xs, rfl, .inr ⟨hx.sq, h.ok s _ r⟩⟩
  · obtain ⟨y, rfl, r⟩ := rs.one
    split at h
    · rename_i us hs
      obtain ⟨a, xs, rfl, hx, rx⟩ := lstOf_at s r hs
      exact ⟨a, xs, rfl, .inl ⟨hx, new_tup s rx h⟩⟩
    · exact h.elim
  · exact h.elim
def tyN (S : Sto) : T → Option String
  | .non => some "NoneType"
  | .bl _ => some "bool"
  | .int _ => some "int"
  | .str _ => some "str"
  | .tup _ => some "tuple"
  | .lst _ => some "list"
  | .kst _ => some "list"
  | .ref i => match S[i]? with
    | some (.lst _) => some "list"
    | _ => none
  | _ => none
def fIsi (xs : List T) (S : Sto) : R T := match xs with
  | [x, .ty n] => match tyN S x with
    | some a => match kitB a n with
      | some b => .ok (.bl b) S
      | none => .bad
    | none => .bad
  | _ => .bad
theorem tyN_of {ρ : Wd} {H : Hp} {S : Sto} {v : V} {t : T} {a : String} (s : Sta X.K ρ H S) (r : Rep X.K ρ H v t) (h : tyN S t = some a) : TyX X.K H v (.type a) := by
  cases r with
  | non => cases h; exact .base .non
  | bl b => cases h; exact .base (.bl b)
  | int i => cases h; exact .base (.int i)
  | str x => cases h; exact .base (.str x)
  | obj a => cases h
  | ty n => cases h
  | tup f rs =>
    cases h
    rcases f with ⟨⟨o, f, _⟩, _⟩ | ⟨o, its, n, f, c, _⟩
    · exact .fTuple f
    · exact .kTuple f c.1
  | wt _ _ _ => cases h
  | exn _ _ _ _ _ => cases h
  | dct _ _ _ _ => cases h
  | lst f _ rs => cases h; exact .base (.lst f)
  | kst f rs =>
    cases h
    rcases f with ⟨f | ⟨o, f⟩, _⟩ | (f | ⟨_, f⟩) | ⟨o, its, n, f, c, _⟩
    · exact .base (.lst f)
    · exact .base (.frz f)
    · cases f
    · cases f
    · exact .kList f c
  | ref e =>
    rename_i i b
    have h : (match S[i]? with
      | some (.lst _) => some "list"
      | _ => none) = some a := h
    split at h
    · rename_i us q
      cases h
      obtain ⟨xs, h1, _⟩ := s.at_ _ _ _ e q
      exact .base (.lst h1)
    · cases h
theorem o_isi : CallR X (.builtin "isinstance") (rIsi X.K) := call_isi
theorem f_isi : OpN X.K E (rIsi X.K) fIsi := by
  intro ρ H S vs ts Q s rs h
  unfold fIsi at h
  split at h
  · rename_i x n
    obtain ⟨u, c, rfl, r, rc⟩ := rs.two
    cases rc
    split at h
    · rename_i a ha
      split at h
      · rename_i b hb
        exact ⟨u, .ty n, .type a, .type n, b, rfl, .ty n, tyN_of s r ha, kit_ty hb, h.ok s _ (.bl b)⟩
      · exact h.elim
    · exact h.elim
  · exact h.elim
theorem x_ty {n : String} {x : Str} {pos : Pos} (hg : Gl X x) (hm : X.mg x = none) (hv : bootBuiltins x = some (.type n)) (hn : x ≠ "__name__" := by decide) (hd : (x == ("__debug__" : Str)) = false := by decide) : PE X (.Name x pos) (tM X.K E (mC (.ty n))) :=
  x_con (fun _ _ => .ty n) (pe_bltn hg hm hv rfl hn hd)
end
end Fx
namespace Fx
open PySem PySem.Spec PyProof.Rows L2
open Classical in
noncomputable def ifP {α : Type} (p : Prop) (a b : α) : α := if p then a else b
theorem ifP_t {α : Type} {p : Prop} {a b : α} (h : p) : ifP p a b = a := if_pos h
theorem ifP_f {α : Type} {p : Prop} {a b : α} (h : ¬ p) : ifP p a b = b := if_neg h
def OpM (K : PySem.W.Frag) (E : XK) (r : V → List V → Hp → VK → Prop) (f : T → List T → Sto → R T) : Prop := ∀ (ρ : Wd) (H : Hp) (S : Sto) (v : V) (x : T) (vs : List V) (ts : List T) (Q : VK), Sta K ρ H S → Rep K ρ H v x → Reps K ρ H vs ts → Post K E ρ H (f x ts S) (QE K Q) → r v vs H Q
def isStr (x : T) (_ : Sto) : Bool := match x with
  | .str _ => true
  | _ => false
def isLst (x : T) (S : Sto) : Bool := (lstOf S x).isSome
def mMeth (c : T → Sto → Bool) (f : T → List T → Sto → R T) (o : Env → Sto → R T) (a : Env → Sto → R (List T)) : Env → Sto → R T := fun τ S => (o τ S).bind fun x S1 => if c x S1 = true then (a τ S1).bind fun ts S2 => f x ts S2 else .bad
def TyC (K : PySem.W.Frag) (n : String) (c : T → Sto → Bool) : Prop := ∀ ρ H S v x, Sta K ρ H S → Rep K ρ H v x → c x S = true → tyV K n v H
theorem ty_str {K : PySem.W.Frag} : TyC K "str" isStr := fun ρ H S v x s r h => by
  unfold isStr at h
  split at h
  · rw [rep_str r]; rfl
  · cases h
theorem ty_lst {K : PySem.W.Frag} : TyC K "list" isLst := fun ρ H S v x s r h => by
  unfold isLst at h
  obtain ⟨ts, e⟩ := Option.isSome_iff_exists.mp h
  obtain ⟨a, xs, rfl, hx, _⟩ := lstOf_at s r e
  exact .inl ⟨rfl, xs, hx⟩
section
variable {X : Cx} {E : XK} {o e : Expr} {es : List Expr} {mo : Env → Sto → R T} {ms : Env → Sto → R (List T)} {name : Str} {apos cpos : Pos} {n id : String} {r : V → List V → Hp → VK → Prop} {f : T → List T → Sto → R T} {c : T → Sto → Bool}
theorem x_meth (pa : PlainAttrs n) (slot : Slot n name id) (hty : typeOf (.builtin id) = pure (.type "method_descriptor")) (hm : MtR X id r) (hs : OpM X.K E r f) (hc : TyC X.K n c) (ho : PE X o (tM X.K E mo)) (ha : PA X (e :: es) (tA X.K E ms))
    (hbase : attributeBase o name X.env (eval o X.env) = eval o X.env := by rfl)
    (hfew : ((backTo cpos (starEach (e :: es) X.env)).all (fun x => !x.1) && (backToKw cpos (keywordEach [] X.env)).all (fun x => x.1.isSome) && decide ((e :: es).length + ([] : List Keyword).length + (if ([] : List Keyword).isEmpty then 0 else 1) < 30)) = true := by rfl)
    (hline : (apos.endLine == cpos.line) = true := by rfl) (he : starEach (e :: es) X.env = (false, eval e X.env) :: starEach es X.env := by rfl) (hpl : (backTo cpos (starEach es X.env)).any (·.1) = false := by rfl) :
    PE X (.Call (.Attribute o name apos) (e :: es) [] cpos) (tM X.K E (mMeth c f mo ms)) :=
  PE.of (pe_bm pa slot hty hm ho ha hbase hfew hline he hpl) fun σ H Q ⟨ρ, τ, S, s, e, h⟩ => ⟨ρ, τ, S, s, e, h.step fun ρ1 H1 x S1 e1 s1 h1 v rv => by
    by_cases hx : c x S1 = true
    · rw [if_pos hx] at h1
      exact ⟨hc ρ1 H1 S1 v x s1 rv hx, ρ1, τ, S1, s1, e.ext e1, h1.step fun ρ2 H2 ts S2 e2 s2 h2 vs rs => hs ρ2 H2 S2 v x vs ts Q s2 (rv.ext e2) rs h2⟩
    · rw [if_neg hx] at h1
      exact h1.elim⟩
def fAppend (x : T) (ts : List T) (S : Sto) : R T := match x, ts with
  | .ref i, [t] => match S[i]? with
    | some (.lst us) => if us.length < 100000 then .ok .non (S.set i (.lst (us ++ [t]))) else .bad
    | _ => .bad
  | _, _ => .bad
theorem sz_lt5 {n : Nat} (h : n < 100000) : n < sizeLine := Nat.lt_of_lt_of_le h (by decide)
/-- the list at a reference is another one now -/
theorem put_lst {K : PySem.W.Frag} {ρ : Wd} {H : Hp} {S : Sto} {i : Nat} {a : Addr} {xs : List V} {ts : List T} {t : T} {v : V} {Q : VK} (s : Sta K ρ H S) (e : ρ.at_[i]? = some a) (rs : Reps K ρ H xs ts) (rv : Rep K ρ H v t)
    (h : Post K E ρ H (.ok t (S.set i (.lst ts))) (QE K Q)) : Q v (upd H a (.lst xs)) :=
  have m : a ∈ ρ.at_ := List.mem_of_getElem? e
  h ρ _ (Ext.put m) (s.put e ⟨xs, upd_same, rs.ext (Ext.put m)⟩) v (rv.ext (Ext.put m))
theorem f_append : OpM X.K E rAppend fAppend := by
  intro ρ H S v x vs ts Q s rv rs h
  unfold fAppend at h
  split at h
  · rename_i i t
    obtain ⟨y, rfl, ry⟩ := rs.one
    split at h
    · rename_i us hu
      split at h
      · rename_i hl
        obtain ⟨a, xs, rfl, ha, hx, rx⟩ := lstD_ref s rv hu
        exact ⟨a, xs, y, rfl, rfl, hx, by rw [rx.length]; exact sz_lt5 hl, put_lst s ha (rx.append (.cons ry .nil)) .non h⟩
      · exact h.elim
    · exact h.elim
  · exact h.elim
def fExtend (x : T) (ts : List T) (S : Sto) : R T := match x, ts with
  | .ref i, [t] => match S[i]?, lstD S t with
    | some (.lst us), some ws => if us.length + ws.length ≤ 100000 then .ok .non (S.set i (.lst (us ++ ws))) else .bad
    | _, _ => .bad
  | _, _ => .bad
theorem f_extend : OpM X.K E rExtend fExtend := by
  intro ρ H S v x vs ts Q s rv rs h
  unfold fExtend at h
  split at h
  · rename_i i t
    obtain ⟨y, rfl, ry⟩ := rs.one
    split at h
    · rename_i us ws hu hw
      split at h
      · rename_i hl
        obtain ⟨a, xs, rfl, ha, hx, rx⟩ := lstD_ref s rv hu
        obtain ⟨b, zs, rfl, hz, rz⟩ := lstD_at s ry hw
        exact ⟨a, b, xs, zs, rfl, rfl, hx, hz, by rw [rx.length, rz.length]; exact sz5 hl, put_lst s ha (rx.append rz) .non h⟩
      · exact h.elim
    · exact h.elim
  · exact h.elim
def fPopAt (x : T) (ts : List T) (S : Sto) : R T := match x, ts with
  | .ref i, [.int k] => match S[i]? with
    | some (.lst us) => match ixN us.length k with
      | some j => match us[j]? with
        | some t => if us.length ≤ 100000 then .ok t (S.set i (.lst (us.eraseIdx j))) else .bad
        | none => .bad
      | none => .bad
    | _ => .bad
  | _, _ => .bad
theorem f_popAt : OpM X.K E rPopAt fPopAt := by
  intro ρ H S v x vs ts Q s rv rs h
  unfold fPopAt at h
  split at h
  · rename_i i k
    obtain ⟨y, rfl, ry⟩ := rs.one
    have e := rep_int ry
    subst e
    split at h
    · rename_i us hu
      split at h
      · rename_i j hj
        split at h
        · rename_i t ht
          split at h
          · rename_i hl
            obtain ⟨a, xs, rfl, ha, hx, rx⟩ := lstD_ref s rv hu
            obtain ⟨z, hz, rz⟩ := rx.get ht
            obtain ⟨q1, q2, q3, q4⟩ := ixN_seq hj
            exact ⟨a, xs, k, j, z, rfl, rfl, hx, by omega, by omega, by rw [rx.length]; exact q1, hz, put_lst s ha (rx.eraseIdx j) rz h⟩
          · exact h.elim
        · exact h.elim
      · exact h.elim
    · exact h.elim
  · exact h.elim
def strsOf : List T → Option (List Str)
  | [] => some []
  | .str i :: ts => (strsOf ts).map fun l => i :: l
  | _ => none
theorem strs_of {K : PySem.W.Frag} {ρ : Wd} {H : Hp} : ∀ {v : List V} {t : List T} {ns : List Str}, Reps K ρ H v t → strsOf t = some ns → v = ns.map V.str
  | _, _, _, .nil, h => by cases h; rfl
  | _, t :: ts, ns, .cons r rs, h => by
    cases t with
    | str i =>
      obtain ⟨l, e, h⟩ := Option.map_eq_some_iff.mp (show (strsOf ts).map (fun l => i :: l) = _ from h)
      subst h
      rw [rep_str r, strs_of rs e]
      rfl
    | _ => cases h
theorem reps_strs {K : PySem.W.Frag} {ρ : Wd} {H : Hp} : ∀ ys : List Str, Reps K ρ H (ys.map V.str) (ys.map T.str)
  | [] => .nil
  | y :: ys => .cons (.str y) (reps_strs ys)
def fSplit (fz : Bool) (x : T) (ts : List T) (S : Sto) : R T := match x, ts with
  | .str a, [.str b] => if (b.length == 0) = false ∧ a.length ≤ 1000000 then newL fz ((Txt.split a b).map T.str) S else .bad
  | _, _ => .bad
def rSplitA : V → List V → Hp → VK → Prop := fun x xs H Q => ∃ a b, x = .str a ∧ xs = [.str b] ∧ (b.length == 0) = false ∧ a.length + 2 ≤ sizeLine ∧ rNewStrs (Txt.split a b) H Q
theorem f_split (fz : Bool) : OpM X.K E rSplitA (fSplit fz) := by
  intro ρ H S v x vs ts Q s rv rs h
  unfold fSplit at h
  split at h
  · rename_i a b
    obtain ⟨y, rfl, ry⟩ := rs.one
    split at h
    · rename_i hl
      refine ⟨a, b, rep_str rv, by rw [rep_str ry], hl.1, Nat.le_trans (Nat.add_le_add_right hl.2 2) (by decide), fun p n => ?_⟩
      exact new_lst s (reps_strs _) h p n
    · exact h.elim
  · exact h.elim
def fJoin (x : T) (ts : List T) (S : Sto) : R T := match x, ts with
  | .str a, [t] => match seqOf S t with
    | some us => match strsOf us with
      | some ys => if (ys.map (·.length)).sum + ys.length * a.length ≤ 1000000 then .ok (.str (Txt.join a ys)) S else .bad
      | none => .bad
    | none => .bad
  | _, _ => .bad
def rJoinA (K : PySem.W.Frag) : V → List V → Hp → VK → Prop := fun x xs H Q => ∃ a p, ∃ ys : List Str, x = .str a ∧ xs = [.ref p] ∧ (SqL K H p (ys.map V.str) ∨ SqT K H p (ys.map V.str)) ∧ (ys.map (·.length)).sum + ys.length * a.length ≤ 16777216 ∧ Q (.str (Txt.join a ys)) H
theorem f_join : OpM X.K E (rJoinA X.K) fJoin := by
  intro ρ H S v x vs ts Q s rv rs h
  unfold fJoin at h
  split at h
  · rename_i a t
    obtain ⟨y, rfl, ry⟩ := rs.one
    split at h
    · rename_i us hu
      split at h
      · rename_i ys hy
        split at h
        · rename_i hl
          obtain ⟨p, xs, rfl, hx, rx⟩ := seqOf_at s ry hu
          have e := strs_of rx hy
          subst e
          exact ⟨a, p, ys, rep_str rv, rfl, hx, Nat.le_trans hl (by decide), h.ok s _ (.str _)⟩
        · exact h.elim
      · exact h.elim
    · exact h.elim
  · exact h.elim
/-- the first place of an equal item -/
def ixF (x : T) (ts : List T) : Option Nat := ts.findIdx? fun y => eqF y x
def fIndex (x : T) (ts : List T) (S : Sto) : R T := match ts with
  | [t] => match lstOf S x with
    | some us => if (flatT t && us.all flatT) = true then match ixF t us with
      | some j => .ok (.int j) S
      | none => .bad else .bad
    | none => .bad
  | _ => .bad
theorem f_index : OpM X.K E (rIndex X.K) fIndex := by
  intro ρ H S v x vs ts Q s rv rs h
  unfold fIndex at h
  split at h
  · rename_i t
    obtain ⟨y, rfl, ry⟩ := rs.one
    split at h
    · rename_i us hu
      split at h
      · rename_i hf
        rw [Bool.and_eq_true] at hf
        split at h
        · rename_i j hj
          obtain ⟨p, xs, rfl, hx, rx⟩ := lstOf_at s rv hu
          unfold ixF at hj
          obtain ⟨hj1, hj2, hj3⟩ := List.findIdx?_eq_some_iff_getElem.mp hj
          obtain ⟨z, hz, rz⟩ := rx.get (List.getElem?_eq_getElem hj1)
          have fl : ∀ m (hm : m < us.length), flatT us[m] = true := fun m hm => List.all_eq_true.mp hf.2 _ (List.getElem_mem hm)
          refine ⟨p, xs, y, j, z, rfl, rfl, hx, flat_of ry hf.1, flats_of rx hf.2, hz, ?_, fun m z' hm hz' => ?_, h.ok s _ (.int _)⟩
          · rw [eqF_of rz ry (fl j hj1) hf.1]
            exact hj2
          · have hml : m < us.length := Nat.lt_trans hm hj1
            obtain ⟨z2, hz2, rz2⟩ := rx.get (List.getElem?_eq_getElem hml)
            rw [hz'] at hz2
            cases hz2
            rw [eqF_of rz2 ry (fl m hml) hf.1]
            simpa using hj3 m hm
        · exact h.elim
      · exact h.elim
    · exact h.elim
  · exact h.elim
def cutT (xs : List T) (lo hi : Option Int) : List T := (xs.drop (HT.sIx xs.length 0 lo)).take (HT.sIx xs.length xs.length hi - HT.sIx xs.length 0 lo)
theorem Reps.cut {K : PySem.W.Frag} {ρ : Wd} {H : Hp} {v : List V} {t : List T} (r : Reps K ρ H v t) (lo hi : Option Int) : Reps K ρ H (cutV v lo hi) (cutT t lo hi) := by
  unfold cutV cutT
  rw [r.length]
  exact (r.drop _).take _
def tO (K : PySem.W.Frag) (E : XK) (m : Env → Sto → R (Option Int)) : TO := fun σ H Q => ∃ ρ τ S, Sta K ρ H S ∧ REnv K ρ H σ τ ∧ Post K E ρ H (m τ S) (fun _ H' o _ => Q o H')
def mO0 : Env → Sto → R (Option Int) := fun _ S => .ok none S
def mO1 (a : Env → Sto → R T) : Env → Sto → R (Option Int) := fun τ S => (a τ S).bind fun x S1 => match x with
  | .int i => .ok (some i) S1
  | _ => .bad
def mSl (f : T → Option Int → Option Int → Sto → R T) (a : Env → Sto → R T) (l u : Env → Sto → R (Option Int)) : Env → Sto → R T := fun τ S => (a τ S).bind fun x S1 => (l τ S1).bind fun lo S2 => (u τ S2).bind fun hi S3 => f x lo hi S3
def OpS (K : PySem.W.Frag) (E : XK) (r : V → Option Int → Option Int → Hp → VK → Prop) (f : T → Option Int → Option Int → Sto → R T) : Prop := ∀ (ρ : Wd) (H : Hp) (S : Sto) (v : V) (x : T) (lo hi : Option Int) (Q : VK), Sta K ρ H S → Rep K ρ H v x → Post K E ρ H (f x lo hi S) (QE K Q) → r v lo hi H Q
theorem PO.of {e : Option Expr} {t t' : TO} (h : PO X e t) (i : ∀ σ H Q, t' σ H Q → t σ H Q) : PO X e t' := ⟨fun pins s σ H Q I hw => h.run pins s σ H Q I (i σ H Q hw)⟩
theorem o0 : PO X none (tO X.K E mO0) := PO.of po_none fun σ H Q ⟨ρ, τ, S, s, e, h⟩ => h.ok s
theorem o1 {a : Expr} {m : Env → Sto → R T} (ha : PE X a (tM X.K E m)) : PO X (some a) (tO X.K E (mO1 m)) := PO.of (po_some ha) fun σ H Q ⟨ρ, τ, S, s, e, h⟩ => ⟨ρ, τ, S, s, e, h.step fun ρ1 H1 x S1 e1 s1 h1 v rv => by
  cases x with
  | int i => exact ⟨i, rep_int rv, h1.ok s1⟩
  | _ => exact h1.elim⟩
theorem x_sl {a : Expr} {lo hi : Option Expr} {p1 p2} {ma : Env → Sto → R T} {ml mh : Env → Sto → R (Option Int)} {r : V → Option Int → Option Int → Hp → VK → Prop} {f : T → Option Int → Option Int → Sto → R T} (hr : SlR X r) (hs : OpS X.K E r f) (ha : PE X a (tM X.K E ma)) (hl : PO X lo (tO X.K E ml)) (hh : PO X hi (tO X.K E mh)) :
    PE X (.Subscript a (.Slice lo hi none p2) p1) (tM X.K E (mSl f ma ml mh)) :=
  PE.of (pe_slice hr ha hl hh) fun σ H Q ⟨ρ, τ, S, s, e, h⟩ => ⟨ρ, τ, S, s, e, h.step fun ρ1 H1 x S1 e1 s1 h1 v rv => ⟨ρ1, τ, S1, s1, e.ext e1, h1.step fun ρ2 H2 lo S2 e2 s2 h2 => ⟨ρ2, τ, S2, s2, (e.ext e1).ext e2, h2.step fun ρ3 H3 hi S3 e3 s3 h3 => hs ρ3 H3 S3 v x lo hi Q s3 ((rv.ext e2).ext e3) h3⟩⟩⟩
def fSl (x : T) (lo hi : Option Int) (S : Sto) : R T := match x with
  | .tup ts => .ok (.tup (cutT ts lo hi)) S
  | .str z => if z.length ≤ 1000000 then .ok (.str (Txt.slice z lo hi)) S else .bad
  | _ => .bad
/-- a list's slice is a new list -/
def fSlL (fz : Bool) (x : T) (lo hi : Option Int) (S : Sto) : R T := match lstOf S x with
  | some ts => newL fz (cutT ts lo hi) S
  | none => .bad
def sOr (r r' : V → Option Int → Option Int → Hp → VK → Prop) : V → Option Int → Option Int → Hp → VK → Prop := fun x lo hi H Q => r x lo hi H Q ∨ r' x lo hi H Q
def rSlTX (K : PySem.W.Frag) : V → Option Int → Option Int → Hp → VK → Prop := sOr (rSlN K) C8.rSlX
theorem o_sl : SlR X (rSlTX X.K) := L2.SlR.or sl_tupN C8.sl_txt
theorem cut_all (xs : List T) {lo hi : Option Int} (h : HT.sIx xs.length 0 lo = 0 ∧ HT.sIx xs.length xs.length hi = xs.length) : cutT xs lo hi = xs := by
  unfold cutT
  rw [h.1, h.2]
  simp
theorem f_sl : OpS X.K E (rSlTX X.K) fSl := by
  intro ρ H S v x lo hi Q s rv h
  unfold fSl at h
  split at h
  · rename_i ts
    obtain ⟨a, xs, rfl, fa, ra⟩ := rep_tup rv
    refine .inl ⟨a, xs, rfl, fa.sq, fun q => ?_, fun _ => new_tup s (ra.cut lo hi) h⟩
    rw [ra.length] at q
    rw [cut_all ts q] at h
    exact h.ok s _ rv
  · split at h
    · rename_i z hl
      exact .inr ⟨z, rep_str rv, sz6 hl, h.ok s _ (.str _)⟩
    · exact h.elim
  · exact h.elim
theorem f_slL (fz : Bool) : OpS X.K E (rSlL X.K) (fSlL fz) := by
  intro ρ H S v x lo hi Q s rv h
  unfold fSlL at h
  split at h
  · rename_i ts ht
    obtain ⟨a, xs, rfl, hx, rx⟩ := lstOf_at s rv ht
    exact ⟨a, xs, rfl, hx, fun p n => new_lst s (rx.cut lo hi) h p n⟩
  · exact h.elim
def sPut (o i a : Env → Sto → R T) : Env → Sto → R Fl := fun τ S => (a τ S).bind fun t S1 => (o τ S1).bind fun x S2 => (i τ S2).bind fun y S3 => match x, y with
  | .ref k, .int n => match S3[k]? with
    | some (.lst us) => match ixN us.length n with
      | some j => .ok (.nx τ) (S3.set k (.lst (us.set j t)))
      | none => .bad
    | _ => .bad
  | _, _ => .bad
theorem s_put {o i a : Expr} {p1 pos : Pos} {mo mi ma : Env → Sto → R T} (ha : PE X a (tM X.K E ma)) (ho : PE X o (tM X.K E mo)) (hi : PE X i (tM X.K E mi)) (hg : PG X (.Subscript o i p1) (gSub (tM X.K E mo) (tM X.K E mi) rSetL))
    (hs : swapsWithSole [(.Subscript o i p1)] a pos.line X.env = pure false := by rfl) (hw : swappedStores [(.Subscript o i p1)] a X.env = pure none := by rfl)
    (h1 : (assignEach [(.Subscript o i p1)] X.env).map (·.2) = [assign (.Subscript o i p1) X.env] := by rfl) : PS X (.Assign [.Subscript o i p1] a pos) (tS X.K E (sPut mo mi ma)) :=
  PS.of (ps_asg ha hg hs hw h1) fun D σ H ⟨ρ, τ, S, s, e, h⟩ => ⟨ρ, τ, S, s, e, h.step fun ρ1 H1 t S1 e1 s1 h1 v rv => ⟨ρ1, τ, S1, s1, e.ext e1, h1.step fun ρ2 H2 x S2 e2 s2 h2 w rw' => ⟨ρ2, τ, S2, s2, (e.ext e1).ext e2, h2.step fun ρ3 H3 y S3 e3 s3 h3 z rz => by
    split at h3
    · rename_i k n
      split at h3
      · rename_i us hu
        split at h3
        · rename_i j hj
          have ez := rep_int rz
          subst ez
          obtain ⟨b, xs, ew, hb, hx, rx⟩ := lstD_ref s3 (rw'.ext e3) hu
          subst ew
          have m : b ∈ ρ3.at_ := List.mem_of_getElem? hb
          exact ⟨b, xs, n, j, rfl, rfl, hx, by rw [rx.length]; exact hj, h3 ρ3 _ (Ext.put m) (s3.put hb ⟨_, upd_same, (rx.set j ((rv.ext e2).ext e3)).ext (Ext.put m)⟩) σ ((((e.ext e1).ext e2).ext e3).ext (Ext.put m))⟩
        · exact h3.elim
      · exact h3.elim
    · exact h3.elim⟩⟩⟩
end
end Fx
namespace Fx
open PySem PySem.Spec PyProof.Rows L2
structure Its where
  ts : List T
  src : List (Nat × List T)
def Its.chk (it : Its) (S : Sto) : Prop := ∀ p ∈ it.src, S[p.1]? = some (.lst p.2)
theorem chk_nil (ts : List T) (S : Sto) : Its.chk ⟨ts, []⟩ S := fun _ h => nomatch h
section
variable {K : PySem.W.Frag} {E : XK} {ρ ρ' ρ1 ρ2 : Wd} {H H' H1 H2 : Hp} {α β : Type}
/-- a step later on, what is wanted kept as it was said at the start -/
theorem Post.at {r : R α} {f : α → Sto → R β} {Q : Wd → Hp → β → Sto → Prop} {Q' : Wd → Hp → α → Sto → Prop} (h : Post K E ρ H (r.bind f) Q) (e : Ext ρ H ρ' H')
    (i : ∀ ρ2 H2 a S2, Ext ρ' H' ρ2 H2 → Sta K ρ2 H2 S2 → Post K E ρ H (f a S2) Q → Q' ρ2 H2 a S2) : Post K E ρ' H' r Q' := by
  cases r with
  | ok a S => exact fun ρ2 H2 e2 s => i _ _ _ _ e2 s h
  | err x S => exact fun ρ2 H2 C d vs e2 s => h ρ2 H2 C d vs (e.trans e2) s
  | bad => exact h
def noErr (r : R α) : R α := match r with
  | .ok a S => .ok a S
  | _ => .bad
/-- the same where nothing may be raised -/
theorem Post.at0 {E0' : XK} {r : R α} {f : α → Sto → R β} {Q : Wd → Hp → β → Sto → Prop} {Q' : Wd → Hp → α → Sto → Prop} (h : Post K E ρ H ((noErr r).bind f) Q) (e : Ext ρ H ρ' H')
    (i : ∀ ρ2 H2 a S2, Ext ρ' H' ρ2 H2 → Sta K ρ2 H2 S2 → Post K E ρ H (f a S2) Q → Q' ρ2 H2 a S2) : Post K E0' ρ' H' r Q' := by
  cases r with
  | ok a S => exact fun ρ2 H2 e2 s => i _ _ _ _ e2 s h
  | err x S => exact h.elim
  | bad => exact h
theorem Post.ifP {p : Prop} {a : R α} {Q : Wd → Hp → α → Sto → Prop} (h : Post K E ρ H (ifP p a .bad) Q) : p ∧ Post K E ρ H a Q := by
  by_cases c : p
  · rw [ifP_t c] at h
    exact ⟨c, h⟩
  · rw [ifP_f c] at h
    exact h.elim
end
def WalkM (K : PySem.W.Frag) (J : It) (ρ1 : Wd) (H1 : Hp) (it : Its) : Prop :=
  ∀ ρ H S, ExtW ρ1 H1 ρ H → Sta K ρ H S → it.chk S → J.stop it.ts.length H ∧ ∀ i t, it.ts[i]? = some t → J.go i H ∧ ∀ x H', J.yld i H x H' → Ext ρ H ρ H' ∧ Sta K ρ H' S ∧ Rep K ρ H' x t
def tI (K : PySem.W.Frag) (E : XK) (m : Env → Sto → R Its) : TI := fun σ H R => ∃ ρ τ S, Sta K ρ H S ∧ REnv K ρ H σ τ ∧ Post K E ρ H (m τ S) (fun ρ1 H1 it _ => ∀ J, WalkM K J ρ1 H1 it → R J H1)
def stepFl (go : Env → Sto → R Fl) (f : Fl) (S : Sto) : R Fl := match f with
  | .nx τ => go τ S
  | .ct τ => go τ S
  | .bk τ => .ok (.nx τ) S
  | .rt t => .ok (.rt t) S
def bound {α : Type} (p : Pat) (t : T) (τ : Env) (k : Env → R α) : R α := match bindP p t τ with
  | some τ1 => k τ1
  | none => .bad
noncomputable def sForGo (it : Its) (p : Pat) (b : Env → Sto → R Fl) : List T → Env → Sto → R Fl
  | [], τ, S => ifP (it.chk S) (.ok (.nx τ) S) .bad
  | t :: ts, τ, S => ifP (it.chk S) (bound p t τ fun τ1 => (b τ1 S).bind (stepFl (sForGo it p b ts))) .bad
noncomputable def sFor (m : Env → Sto → R Its) (p : Pat) (b : Env → Sto → R Fl) : Env → Sto → R Fl := fun τ S => (m τ S).bind fun it S1 => sForGo it p b it.ts τ S1
theorem Post.bound {K : PySem.W.Frag} {E : XK} {ρ : Wd} {H : Hp} {α : Type} {p : Pat} {t : T} {τ : Env} {k : Env → R α} {Q : Wd → Hp → α → Sto → Prop} (h : Post K E ρ H (bound p t τ k) Q) : ∃ τ1, bindP p t τ = some τ1 ∧ Post K E ρ H (k τ1) Q := by
  unfold Fx.bound at h
  split at h
  · rename_i τ1 e
    exact ⟨τ1, e, h⟩
  · exact h.elim
section
variable {X : Cx} {E : XK}
theorem s_for {tg iter : Expr} {body : List Stmt} {pos : Pos} {m : Env → Sto → R Its} {p : Pat} {b : Env → Sto → R Fl} (hp : PassesOwn (model X.prog X.w) X.A X.env X.xe) (hc : X.calm = true) (hi : PI X tg iter (tI X.K E m)) (hg : PG X tg (tG X.K p)) (hb : PSs X body (tS X.K E b))
    (hs : ∀ x, foldedSetIterable iter X.env x = pure x := by intro _; rfl) : PS X (.For tg iter body [] pos) (tS X.K E (sFor m p b)) :=
  PS.of (ps_for hp hc hi hg hb hs) fun D σ H ⟨ρ, τ, S, s, e, h⟩ => ⟨ρ, τ, S, s, e, h.step fun ρ1 H1 it S1 e1 s1 h1 J wm => by
    refine ⟨fun i n σ' H' => ∃ ρ' τ' S' rest, Ext ρ1 H1 ρ' H' ∧ Sta X.K ρ' H' S' ∧ REnv X.K ρ' H' σ' τ' ∧ i ≤ it.ts.length ∧ it.ts.drop i = rest ∧ n = rest.length ∧ Post X.K E ρ1 H1 (sForGo it p b rest τ' S') (QS X.K D), ⟨_, ρ1, τ, S1, _, Ext.refl _ _, s1, e.ext e1, Nat.zero_le _, rfl, rfl, h1⟩, fun i n σ' H' hW => ?_⟩
    obtain ⟨ρ', τ', S', rest, x1, s', e', hil, hr, hn, q⟩ := hW
    cases rest with
    | nil =>
      unfold sForGo at q
      obtain ⟨c, q⟩ := q.ifP
      obtain ⟨w1, _⟩ := wm ρ' H' S' x1.w s' c
      have ei : i = it.ts.length := Nat.le_antisymm hil (List.drop_eq_nil_iff.mp hr)
      rw [ei]
      exact .inl ⟨w1, q ρ' H' x1 s' σ' e'⟩
    | cons t ts =>
      unfold sForGo at q
      obtain ⟨c, q⟩ := q.ifP
      obtain ⟨_, w2⟩ := wm ρ' H' S' x1.w s' c
      have hlt : i < it.ts.length := by
        refine Nat.lt_of_not_le fun z => ?_
        rw [List.drop_eq_nil_of_le z] at hr
        cases hr
      have hcons := List.drop_eq_getElem_cons hlt
      rw [hr] at hcons
      injection hcons with ht hts
      obtain ⟨go, yld⟩ := w2 i t (by rw [List.getElem?_eq_getElem hlt, ht])
      obtain ⟨τ1, hb1, q⟩ := q.bound
      refine .inr ⟨go, fun σ2 H2 => ∃ ρ' τ' S', Ext ρ1 H1 ρ' H2 ∧ Sta X.K ρ' H2 S' ∧ REnv X.K ρ' H2 σ2 τ' ∧ Post X.K E ρ1 H1 (sForGo it p b ts τ' S') (QS X.K D), fun σ2 H2 hN => ?_, fun v H2 hy => ?_⟩
      · obtain ⟨ρ2, τ2, S2, a1, a2, a3, a4⟩ := hN
        exact ⟨ts.length, by rw [hn]; exact Nat.lt_succ_self _, ρ2, τ2, S2, ts, a1, a2, a3, hlt, hts.symm, rfl, a4⟩
      · obtain ⟨y1, y2, y3⟩ := yld v H2 hy
        refine ⟨ρ', τ', t, τ1, e'.ext y1, y3, hb1, fun σ3 e3 _ => ⟨ρ', τ1, S', y2, e3, q.at (x1.trans y1) fun ρ4 H4 f S4 x4 s4 q4 => ?_⟩⟩
        have xx := (x1.trans y1).trans x4
        cases f with
        | nx τ5 => exact fun σ5 e5 => ⟨ρ4, τ5, S4, xx, s4, e5, q4⟩
        | ct τ5 => exact fun σ5 e5 => ⟨ρ4, τ5, S4, xx, s4, e5, q4⟩
        | bk τ5 => exact fun σ5 e5 => q4 ρ4 H4 xx s4 σ5 e5
        | rt t5 => exact fun v5 r5 => q4 ρ4 H4 xx s4 v5 r5⟩
end
def wipeT (τ : Env) : List Nat → Env
  | [] => τ
  | v :: vs => (wipeT τ vs).set v none
noncomputable def mLcGo (it : Its) (p : Pat) (c : Env → Sto → R Bool) (b : Env → Sto → R T) (τ : Env) : List T → List T → Sto → R (List T)
  | [], acc, S => ifP (it.chk S) (.ok acc S) .bad
  | t :: ts, acc, S => ifP (it.chk S) (bound p t τ fun τ1 => (noErr (c τ1 S)).bind fun k S1 => if k = true then (noErr (b τ1 S1)).bind fun y S2 => if acc.length < 100000 then mLcGo it p c b τ ts (acc ++ [y]) S2 else .bad else mLcGo it p c b τ ts acc S1) .bad
noncomputable def mLc (fz : Bool) (vs : List Nat) (m : Env → Sto → R Its) (p : Pat) (c : Env → Sto → R Bool) (b : Env → Sto → R T) : Env → Sto → R T := fun τ S => (m τ S).bind fun it S1 => (mLcGo it p c b (wipeT τ vs) it.ts [] S1).bind fun acc S2 => newL fz acc S2
def mTrue : Env → Sto → R Bool := fun _ S => .ok true S
section
variable {K : PySem.W.Frag} {ρ : Wd} {H : Hp}
theorem REnv.unset {σ : L2.St} {τ : Env} (h : REnv K ρ H σ τ) (i : Nat) : REnv K ρ H (σ.set i none) (τ.set i none) := ⟨by rw [List.length_set, List.length_set, h.len], fun j u q => by
  rw [List.getElem?_set] at q ⊢
  by_cases e : i = j
  · rw [if_pos e] at q
    split at q
    · cases q
    · cases q
  · rw [if_neg e] at q ⊢
    exact h.at_ j u q⟩
theorem REnv.wipe {σ : L2.St} {τ : Env} (h : REnv K ρ H σ τ) : ∀ vs : List Nat, REnv K ρ H (L2.wipe σ vs) (wipeT τ vs)
  | [] => h
  | v :: vs => by
    unfold L2.wipe wipeT
    exact (REnv.wipe h vs).unset v
theorem wipe_at (σ : L2.St) : ∀ (vs : List Nat) (j : Nat), (L2.wipe σ vs)[j]? = if j ∈ vs then (if j < σ.length then some none else none) else σ[j]?
  | [], j => by simp [L2.wipe]
  | v :: vs, j => by
    unfold L2.wipe
    rw [List.getElem?_set, wipe_at σ vs j, L2.wipe_length]
    by_cases e : v = j
    · subst e
      simp
    · rw [if_neg e]
      have : (j ∈ v :: vs) ↔ j ∈ vs := by simp [List.mem_cons, Ne.symm e]
      by_cases m : j ∈ vs
      · rw [if_pos m, if_pos (this.mpr m)]
      · rw [if_neg m, if_neg (fun q => m (this.mp q))]
theorem near_wipe {ws vs : List Nat} {σ σ' : L2.St} (h : Near ws (L2.wipe σ vs) σ') (hs : ws.all (fun j => vs.contains j) = true) : L2.wipe σ' vs = L2.wipe σ vs := by
  apply List.ext_getElem?
  intro j
  have hl : σ'.length = σ.length := h.1.trans (L2.wipe_length σ vs)
  rw [wipe_at, wipe_at, hl]
  by_cases m : j ∈ vs
  · rw [if_pos m, if_pos m]
  · rw [if_neg m, if_neg m]
    have n : j ∉ ws := fun q => m (by
      have := List.all_eq_true.mp hs j q
      simpa using this)
    rw [h.2 j n, wipe_at, if_neg m]
end
/-- without the address that a made list has -/
def Wd.less (ρ : Wd) (D : Addr) : Wd := ⟨ρ.at_, ρ.out.erase D⟩
def Wd.plus (ρ : Wd) (D : Addr) : Wd := ⟨ρ.at_, D :: ρ.out⟩
def Wd.move (ρ : Wd) (D : Addr) : Wd := ⟨ρ.at_ ++ [D], ρ.out.erase D⟩
section
variable {K : PySem.W.Frag} {E : XK} {ρ ρ1 : Wd} {H H1 : Hp} {S : Sto} {D : Addr}
theorem less_av {a : Addr} (h : a ∉ ρ.av) : a ∉ (ρ.less D).av := fun q => by
  rcases List.mem_append.mp q with q | q
  · exact h (List.mem_append_left _ q)
  · exact h (List.mem_append_right _ (List.mem_of_mem_erase q))
theorem move_av (hD : D ∈ ρ.out) {a : Addr} (h : a ∉ ρ.av) : a ∉ (ρ.move D).av := fun q => by
  rcases List.mem_append.mp q with q | q
  · rcases List.mem_append.mp q with q | q
    · exact h (List.mem_append_left _ q)
    · rw [List.mem_singleton.mp q] at h
      exact h (List.mem_append_right _ hD)
  · exact h (List.mem_append_right _ (List.mem_of_mem_erase q))
theorem Ext.less (e : Ext ρ1 H1 ρ H) (hD : H1 D = none) (hn : D ∉ ρ1.av) : Ext ρ1 H1 (ρ.less D) H where
  pre := e.pre
  out := fun a m => (List.mem_erase_of_ne (fun z => hn (by rw [← z]; exact List.mem_append_right _ m))).mpr (e.out a m)
  fresh := fun p h1 h2 => e.fresh p (by
    rcases List.mem_append.mp h1 with q | q
    · exact List.mem_append_left _ q
    · exact List.mem_append_right _ (List.mem_of_mem_erase q)) h2
  keep := e.keep
  old := e.old
theorem Ext.move (e : Ext ρ1 H1 ρ H) (hD : H1 D = none) (hn : D ∉ ρ1.av) : Ext ρ1 H1 (ρ.move D) H where
  pre := by
    obtain ⟨n, q⟩ := e.pre
    exact ⟨n ++ [D], by show ρ.at_ ++ [D] = _; rw [q, List.append_assoc]⟩
  out := (e.less hD hn).out
  fresh := fun p h1 h2 => by
    rcases List.mem_append.mp h1 with q | q
    · rcases List.mem_append.mp q with q | q
      · exact e.fresh p (List.mem_append_left _ q) h2
      · rw [List.mem_singleton.mp q]; exact hD
    · exact e.fresh p (List.mem_append_right _ (List.mem_of_mem_erase q)) h2
  keep := e.keep
  old := fun a h1 h2 => by
    rcases List.mem_append.mp h1 with q | q
    · exact e.old a q h2
    · rw [List.mem_singleton.mp q] at h2
      exact absurd h2 hn
theorem Sta.less (s : Sta K ρ H S) : Sta K (ρ.less D) H S where
  len := s.len
  nd := by
    obtain ⟨h1, h2, h3⟩ := List.nodup_append.mp s.nd
    exact List.nodup_append.mpr ⟨h1, h2.erase D, fun a ha b hb => h3 a ha b (List.mem_of_mem_erase hb)⟩
  al := fun a m => s.al a (List.mem_of_mem_erase m)
  at_ := fun i a o h1 h2 => RepO.to (ρ := ρ) (ρ' := ρ.less D) (fun _ _ h => h) (fun _ h => less_av h) (s.at_ i a o h1 h2)
theorem Ext.plus {o : HO} (n : H D = none) (hn : D ∉ ρ.av) : Ext ρ H (ρ.plus D) (upd H D o) where
  pre := ⟨[], (List.append_nil _).symm⟩
  out := fun a h => List.mem_cons_of_mem _ h
  fresh := fun p h1 h2 => by
    rcases List.mem_append.mp h1 with q | q
    · exact absurd (List.mem_append_left _ q) h2
    · rcases List.mem_cons.mp q with q | q
      · rw [q]; exact n
      · exact absurd (List.mem_append_right _ q) h2
  keep := (Ext.push n hn).keep
  old := fun _ h _ => h
theorem Sta.plus {o : HO} (s : Sta K ρ H S) (n : H D = none) : Sta K (ρ.plus D) (upd H D o) S where
  len := s.len
  nd := by
    have hn := s.new n
    unfold Wd.plus Wd.av
    obtain ⟨h1, h2, h3⟩ := List.nodup_append.mp s.nd
    refine List.nodup_append.mpr ⟨h1, List.nodup_cons.mpr ⟨fun q => hn (List.mem_append_right _ q), h2⟩, fun a ha b hb => ?_⟩
    rcases List.mem_cons.mp hb with hb | hb
    · rw [hb]; exact fun z => hn (List.mem_append_left _ (z ▸ ha))
    · exact h3 a ha b hb
  al := fun a m => by
    rcases List.mem_cons.mp m with m | m
    · rw [m]; exact ⟨_, upd_same⟩
    · exact (s.push n).al a m
  at_ := fun i a o h1 h2 => by
    have r := s.at_ i a o h1 h2
    have ne : a ≠ D := fun z => by
      obtain ⟨w, hw⟩ := r.is
      rw [z, n] at hw
      cases hw
    exact r.ext (Ext.plus n (s.new n)) (upd_ne ne)
/-- the list that is being made grows -/
theorem Ext.grow {o : HO} (e : Ext ρ1 H1 ρ H) (hD : H1 D = none) : Ext ρ1 H1 ρ (upd H D o) where
  pre := e.pre
  out := e.out
  fresh := e.fresh
  keep := fun a u h m => by
    rw [upd_ne (ne_of_none h hD)]
    exact e.keep a u h m
  old := e.old
theorem fro_ne {a : Addr} (hD : D ∈ ρ.out) (h : a ∉ ρ.av) : a ≠ D := fun z => h (by rw [z]; exact List.mem_append_right _ hD)
theorem Ext.mine {o : HO} (hD : D ∈ ρ.out) : ∀ a u, H a = some u → a ∉ ρ.av → upd H D o a = some u := fun a u h n => by
  rw [upd_ne (fro_ne hD n)]
  exact h
mutual
theorem Rep.grow {o : HO} (hD : D ∈ ρ.out) : ∀ {v : V} {t : T}, Rep K ρ H v t → Rep K ρ (upd H D o) v t
  | _, _, .non => .non
  | _, _, .bl b => .bl b
  | _, _, .int i => .int i
  | _, _, .str x => .str x
  | _, _, .obj a => .obj a
  | _, _, .ty n => .ty n
  | _, _, .ref h => .ref h
  | _, _, .tup h r => .tup (h.imp (fun ⟨⟨o, z, b⟩, q⟩ => ⟨⟨o, Ext.mine hD _ _ z q, b⟩, q⟩) id) (Reps.grow hD r)
  | _, _, .wt h n r => .wt (h.imp (fun z => Ext.mine hD _ _ z n) (fun ⟨u, z⟩ => ⟨u, Ext.mine hD _ _ z n⟩)) n (Reps.grow hD r)
  | _, _, .exn g h n x r => .exn g (Ext.mine hD _ _ h n) n (x.mono fun b u z m => ⟨Ext.mine hD _ _ z m, m⟩) (Reps.grow hD r)
  | _, _, .lst h n r => .lst (Ext.mine hD _ _ h n) n (Reps.grow hD r)
  | _, _, .dct h n k r => .dct (Ext.mine hD _ _ h n) n k (Reps.grow hD r)
  | _, _, .kst h r => .kst (h.imp (fun q => ⟨q.1.imp (fun z => Ext.mine hD _ _ z q.2) (fun ⟨u, z⟩ => ⟨u, Ext.mine hD _ _ z q.2⟩), q.2⟩) id) (Reps.grow hD r)
theorem Reps.grow {o : HO} (hD : D ∈ ρ.out) : ∀ {v : List V} {t : List T}, Reps K ρ H v t → Reps K ρ (upd H D o) v t
  | _, _, .nil => .nil
  | _, _, .cons h r => .cons (Rep.grow hD h) (Reps.grow hD r)
end
theorem RepF.grow {o : HO} (hD : D ∈ ρ.out) : ∀ {v : List (Str × V)} {t : List (Str × T)}, RepF K ρ H v t → RepF K ρ (upd H D o) v t
  | _, _, .nil => .nil
  | _, _, .cons h r => .cons (h.grow hD) (RepF.grow hD r)
theorem Sta.grow {o : HO} (s : Sta K ρ H S) (hD : D ∈ ρ.out) : Sta K ρ (upd H D o) S where
  len := s.len
  nd := s.nd
  al := fun a m => by
    by_cases z : a = D
    · rw [z]; exact ⟨_, upd_same⟩
    · rw [upd_ne z]; exact s.al a m
  at_ := fun i a o h1 h2 => by
    have r := s.at_ i a o h1 h2
    have ne : a ≠ D := fun z => s.off hD (by rw [← z]; exact List.mem_of_getElem? h1)
    cases o with
    | lst ts => obtain ⟨ys, q1, q2⟩ := r; exact ⟨ys, by rw [upd_ne ne]; exact q1, q2.grow hD⟩
    | ins C fs => obtain ⟨dx, vs, q1, q2⟩ := r; exact ⟨dx, vs, by rw [upd_ne ne]; exact q1, q2.grow hD⟩
    | dct ks ts => obtain ⟨kvs, q1, q2, q3⟩ := r; exact ⟨kvs, by rw [upd_ne ne]; exact q1, q2, q3.grow hD⟩
theorem Sta.move {us : List T} {xs : List V} (s : Sta K ρ H S) (hD : D ∈ ρ.out) (hx : H D = some (.lst xs)) (rs : Reps K ρ H xs us) : Sta K (ρ.move D) H (S ++ [.lst us]) where
  len := by simp [Wd.move, s.len]
  nd := by
    obtain ⟨h1, h2, h3⟩ := List.nodup_append.mp s.nd
    unfold Wd.move Wd.av
    rw [List.append_assoc]
    refine List.nodup_append.mpr ⟨h1, List.nodup_cons.mpr ⟨fun q => (List.Nodup.not_mem_erase h2) q, h2.erase D⟩, fun a ha b hb => ?_⟩
    rcases List.mem_cons.mp hb with hb | hb
    · rw [hb]; exact h3 a ha D hD
    · exact h3 a ha b (List.mem_of_mem_erase hb)
  al := fun a m => s.al a (List.mem_of_mem_erase m)
  at_ := fun i a o h1 h2 => by
    have up : ∀ (i : Nat) (a : Addr), ρ.at_[i]? = some a → (ρ.move D).at_[i]? = some a := fun i a h => getE_pre h
    have h1 : (ρ.at_ ++ [D])[i]? = some a := h1
    by_cases hi : i < S.length
    · rw [List.getElem?_append_left hi] at h2
      rw [List.getElem?_append_left (by rw [s.len]; exact hi)] at h1
      exact (s.at_ i a o h1 h2).to up fun _ h => move_av hD h
    · have hj : i = S.length := by
        obtain ⟨q1, _⟩ := List.getElem?_eq_some_iff.mp h2
        rw [List.length_append, List.length_singleton] at q1
        omega
      subst hj
      rw [List.getElem?_append_right (Nat.le_refl _), Nat.sub_self] at h2
      rw [← s.len, List.getElem?_append_right (Nat.le_refl _), Nat.sub_self] at h1
      have q := Option.some.inj h2
      have e := Option.some.inj h1
      subst q
      subst e
      exact ⟨xs, hx, rs.to up fun _ h => move_av hD h⟩
/-- the made list is handed out -/
theorem give_lst {ts : List T} {xs : List V} {Q : VK} {fz : Bool} (hD : H1 D = none) (hn1 : D ∉ ρ1.av) (hx : H D = some (.lst xs)) (e : Ext ρ1 H1 ρ H) (s : Sta K ρ H S) (hm : D ∈ ρ.out) (r : Reps K ρ H xs ts) (h : Post K E ρ1 H1 (newL fz ts S) (QE K Q)) : Q (.ref D) H := by
  cases fz with
  | true =>
    refine h (ρ.less D) H (e.less hD hn1) s.less _ (.lst hx (fun q => ?_) (Reps.to (ρ := ρ) (ρ' := ρ.less D) (fun _ _ h => h) (fun _ h => less_av h) r))
    rcases List.mem_append.mp q with q | q
    · exact s.off hm q
    · exact (List.Nodup.not_mem_erase (List.nodup_append.mp s.nd).2.1) q
  | false =>
    refine h (ρ.move D) H (e.move hD hn1) (s.move hm hx r) _ (.ref ?_)
    show (ρ.at_ ++ [D])[S.length]? = some D
    rw [← s.len, List.getElem?_append_right (Nat.le_refl _), Nat.sub_self]
    rfl
end
theorem lc_fn {K : PySem.W.Frag} {E : XK} {fz : Bool} {σ : L2.St} {ρ1 : Wd} {H1 : Hp} {S1 : Sto} {τ : Env} {it : Its} {J : It} {D : Addr} {Q : VK} {p : Pat} {c : Env → Sto → R Bool} {b : Env → Sto → R T} (own : List (Str × Nat)) (hsl : p.slots.all (fun j => (own.map (·.2)).contains j) = true) (hD : H1 D = none) (s1 : Sta K ρ1 H1 S1) (e1 : REnv K ρ1 H1 σ τ)
    (h : Post K E ρ1 H1 ((mLcGo it p c b (wipeT τ (own.map (·.2))) it.ts [] S1).bind fun acc S2 => newL fz acc S2) (QE K Q)) (wm : WalkM K J ρ1 H1 it) :
    ∃ W : Nat → Nat → Hp → Prop, (∃ m, W 0 m (upd H1 D (.lst []))) ∧ ∀ i m H, W i m H →
      (J.stop i H ∧ Q (.ref D) H) ∨ (J.go i H ∧ ∃ Nx : Hp → Prop, (∀ H', Nx H' → ∃ m', m' < m ∧ W (i + 1) m' H') ∧ ∀ x H', J.yld i H x H' → tG K p x (L2.wipe σ (own.map (·.2))) H' fun σ2 H2 => L2.wipe σ2 (own.map (·.2)) = L2.wipe σ (own.map (·.2)) ∧ tB K E0 c σ2 H2 fun k H3 =>
        if k = true then tM K E0 b σ2 H3 fun y H4 => ∃ acc, H4 D = some (.lst acc) ∧ acc.length < sizeLine ∧ Nx (upd H4 D (.lst (acc ++ [y]))) else Nx H3) := by
  generalize hvs : own.map (·.2) = vs at *
  have hn1 := s1.new hD
  refine ⟨fun i n H => ∃ ρ S rest acc us, Ext ρ1 H1 ρ H ∧ Sta K ρ H S ∧ D ∈ ρ.out ∧ H D = some (.lst us) ∧ Reps K ρ H us acc ∧ i ≤ it.ts.length ∧ it.ts.drop i = rest ∧ n = rest.length ∧ Post K E ρ1 H1 ((mLcGo it p c b (wipeT τ vs) rest acc S).bind fun acc S2 => newL fz acc S2) (QE K Q),
    ⟨_, ρ1.plus D, S1, _, [], [], Ext.plus hD hn1, s1.plus hD, List.mem_cons_self, upd_same, .nil, Nat.zero_le _, rfl, rfl, h⟩, fun i n H hW => ?_⟩
  obtain ⟨ρ, S, rest, acc, us, x1, s, hm, hd, ra, hil, hr, hn, q⟩ := hW
  cases rest with
  | nil =>
    unfold mLcGo at q
    have q' : it.chk S ∧ Post K E ρ1 H1 (newL fz acc S) (QE K Q) := by
      by_cases ck : it.chk S
      · rw [ifP_t ck] at q; exact ⟨ck, q⟩
      · rw [ifP_f ck] at q; exact q.elim
    obtain ⟨w1, _⟩ := wm ρ H S x1.w s q'.1
    have ei : i = it.ts.length := Nat.le_antisymm hil (List.drop_eq_nil_iff.mp hr)
    rw [ei]
    exact .inl ⟨w1, give_lst hD hn1 hd x1 s hm ra q'.2⟩
  | cons t ts =>
    unfold mLcGo at q
    by_cases ck : it.chk S
    case neg => rw [ifP_f ck] at q; exact q.elim
    rw [ifP_t ck] at q
    obtain ⟨_, w2⟩ := wm ρ H S x1.w s ck
    have hlt : i < it.ts.length := by
      refine Nat.lt_of_not_le fun z => ?_
      rw [List.drop_eq_nil_of_le z] at hr
      cases hr
    have hcons := List.drop_eq_getElem_cons hlt
    rw [hr] at hcons
    injection hcons with ht hts
    obtain ⟨go, yld⟩ := w2 i t (by rw [List.getElem?_eq_getElem hlt, ht])
    unfold Fx.bound at q
    split at q
    case h_2 => exact q.elim
    rename_i τ1 hb1
    refine .inr ⟨go, fun H' => ∃ ρ S acc us, Ext ρ1 H1 ρ H' ∧ Sta K ρ H' S ∧ D ∈ ρ.out ∧ H' D = some (.lst us) ∧ Reps K ρ H' us acc ∧ Post K E ρ1 H1 ((mLcGo it p c b (wipeT τ vs) ts acc S).bind fun acc S2 => newL fz acc S2) (QE K Q), fun H' hN => ?_, fun v H2 hy => ?_⟩
    · obtain ⟨ρ', S', acc', us', a1, a2, a3, a4, a5, a6⟩ := hN
      exact ⟨ts.length, by rw [hn]; exact Nat.lt_succ_self _, ρ', S', ts, acc', us', a1, a2, a3, a4, a5, hlt, hts.symm, rfl, a6⟩
    · obtain ⟨y1, y2, y3⟩ := yld v H2 hy
      have hoff : ∀ {ρ : Wd} {H : Hp} {S : Sto}, Sta K ρ H S → D ∈ ρ.out → D ∉ ρ.at_ := fun s m => s.off m
      have ew : REnv K ρ H2 (L2.wipe σ vs) (wipeT τ vs) := ((e1.ext x1).ext y1).wipe vs
      refine ⟨ρ, wipeT τ vs, t, τ1, ew, y3, hb1, fun σ3 e3 nr => ⟨near_wipe nr hsl, ρ, τ1, S, y2, e3, ?_⟩⟩
      refine Post.at0 (K := K) (E := E) (ρ := ρ1) (H := H1) (f := fun k S1 => (if k = true then (noErr (b τ1 S1)).bind fun y S2 => if acc.length < 100000 then mLcGo it p c b (wipeT τ vs) ts (acc ++ [y]) S2 else .bad else mLcGo it p c b (wipeT τ vs) ts acc S1).bind fun acc S2 => newL fz acc S2) (Q := QE K Q) ?_ (x1.trans y1) fun ρ4 H4 k S4 x4 s4 q4 => ?_
      · rw [← R.bind_assoc]; exact q
      · have d4 : H4 D = some (.lst us) := x4.keep _ _ (y1.keep _ _ hd (s.off hm)) (y2.off hm)
        have m4 : D ∈ ρ4.out := x4.out _ hm
        have xx := (x1.trans y1).trans x4
        cases k with
        | false => exact ⟨ρ4, S4, acc, us, xx, s4, m4, d4, (ra.ext y1).ext x4, q4⟩
        | true =>
          refine ⟨ρ4, τ1, S4, s4, e3.ext x4, ?_⟩
          refine Post.at0 (K := K) (E := E) (ρ := ρ1) (H := H1) (f := fun y S2 => (if acc.length < 100000 then mLcGo it p c b (wipeT τ vs) ts (acc ++ [y]) S2 else .bad).bind fun acc S2 => newL fz acc S2) (Q := QE K Q) ?_ xx fun ρ5 H5 y S5 x5 s5 q5 w rw' => ?_
          · rw [← R.bind_assoc]; exact q4
          · have d5 : H5 D = some (.lst us) := x5.keep _ _ d4 (s4.off m4)
            have m5 : D ∈ ρ5.out := x5.out _ m4
            have r5 := ((ra.ext y1).ext x4).ext x5
            by_cases hl : acc.length < 100000
            · rw [if_pos hl] at q5
              exact ⟨us, d5, by rw [ra.length]; exact sz_lt5 hl, ρ5, S5, acc ++ [y], us ++ [w], (xx.trans x5).grow hD, s5.grow m5, m5, upd_same, (r5.append (.cons rw' .nil)).grow m5, q5⟩
            · rw [if_neg hl] at q5
              exact q5.elim
section
variable {X : Cx} {E : XK}
theorem x_lc (fz : Bool) {elt tg iter : Expr} {ifs : List Expr} {scope : Scope} {own : List (Str × Nat)} {pos : Pos} {m : Env → Sto → R Its} {p : Pat} {c : Env → Sto → R Bool} {b : Env → Sto → R T} (hc : X.calm = true) (hN : X.N.Nodup) (hi : PI X tg iter (tI X.K E m)) (ok : BlkOk X.N X.env.scope scope own)
    (hsl : p.slots.all (fun j => (own.map (·.2)).contains j) = true)
    (hg : ∀ (s : Shared) (H : Hp) (C : Addr) (cl : List (Str × Addr)) (fp : List Addr), PG (X.blk s H scope (compEnvC scope cl C X.env) fp) tg (tG X.K p)) (ht : ∀ (s : Shared) (H : Hp) (C : Addr) (cl : List (Str × Addr)) (fp : List Addr), PTs (X.blk s H scope (compEnvC scope cl C X.env) fp) ifs (tB X.K E0 c))
    (he : ∀ (s : Shared) (H : Hp) (C : Addr) (cl : List (Str × Addr)) (fp : List Addr), PE (X.blk s H scope (compEnvC scope cl C X.env) fp) elt (tM X.K E0 b)) (hs : ∀ x, foldedSetIterable iter X.env x = pure x := by intro _; rfl) :
    PE X (.ListComp elt [⟨tg, iter, ifs, 0⟩] scope pos) (tM X.K E (mLc fz (own.map (·.2)) m p c b)) :=
  PE.of (pe_lc hc hN hi ok hg ht he hs) fun σ H Q ⟨ρ, τ, S, s, e, h⟩ => ⟨ρ, τ, S, s, e, h.step fun ρ1 H1 it S1 e1 s1 h1 J wm D hD => lc_fn own hsl hD s1 (e.ext e1) h1 wm⟩
end
end Fx
namespace Fx
open PySem PySem.Spec PyProof.Rows L2
section
variable {K : PySem.W.Frag} {E : XK} {ρ ρ1 : Wd} {H H1 : Hp} {S S1 : Sto} {it : Its} {a : Addr}
theorem walk_l (g : ∀ ρ H S, ExtW ρ1 H1 ρ H → Sta K ρ H S → it.chk S → ∃ xs, SqL K H a xs ∧ Reps K ρ H xs it.ts) : WalkM K (Itl K a) ρ1 H1 it := fun ρ H S e s c => by
  obtain ⟨xs, hx, rs⟩ := g ρ H S e s c
  refine ⟨⟨xs, hx, by rw [rs.length]; exact Nat.le_refl _⟩, fun i t ht => ?_⟩
  obtain ⟨y, hy, ry⟩ := rs.get ht
  refine ⟨⟨xs, y, hx, hy⟩, fun x H' q => ?_⟩
  obtain ⟨rfl, q⟩ := q
  have z := q xs hx
  rw [hy] at z
  cases z
  exact ⟨Ext.refl _ _, s, ry⟩
theorem walk_t (g : ∀ ρ H S, ExtW ρ1 H1 ρ H → Sta K ρ H S → it.chk S → ∃ xs, SqT K H a xs ∧ Reps K ρ H xs it.ts) : WalkM K (Itt K a) ρ1 H1 it := fun ρ H S e s c => by
  obtain ⟨xs, hx, rs⟩ := g ρ H S e s c
  refine ⟨⟨xs, hx, by rw [rs.length]; exact Nat.le_refl _⟩, fun i t ht => ?_⟩
  obtain ⟨y, hy, ry⟩ := rs.get ht
  refine ⟨⟨xs, y, hx, hy⟩, fun x H' q => ?_⟩
  obtain ⟨rfl, q⟩ := q
  have z := q xs hx
  rw [hy] at z
  cases z
  exact ⟨Ext.refl _ _, s, ry⟩
/-- a list's items stay where they are said to -/
theorem keep_l {v : V} {t : T} {ts : List T} {src : List (Nat × List T)} (s : Sta K ρ1 H1 S1) (r : Rep K ρ1 H1 v t) (h : lstOf S1 t = some ts) (hs : ∀ k, t = .ref k → (k, ts) ∈ src) : ∃ a, v = .ref a ∧ ∃ xs0, SqL K H1 a xs0 ∧ xs0.length = ts.length ∧ ∀ ρ H S, ExtW ρ1 H1 ρ H → Sta K ρ H S → Its.chk ⟨ts, src⟩ S → ∃ xs, SqL K H a xs ∧ Reps K ρ H xs ts := by
  obtain ⟨a, xs0, rfl, h0, r0⟩ := lstOf_at s r h
  refine ⟨a, rfl, xs0, h0, r0.length, fun ρ H S e s' c => ?_⟩
  cases t with
  | ref k =>
    have hk := c (k, ts) (hs k rfl)
    obtain ⟨b, xs, eb, h1, h2⟩ := lstOf_at s' (r.extw e) (ts := ts) (by show (match S[k]? with | some (.lst ts) => some ts | _ => none) = _; rw [hk])
    cases eb
    exact ⟨xs, h1, h2⟩
  | lst us =>
    obtain ⟨b, xs, eb, h1, h2⟩ := lstOf_at s' (r.extw e) (ts := ts) h
    cases eb
    exact ⟨xs, h1, h2⟩
  | kst us =>
    obtain ⟨b, xs, eb, h1, h2⟩ := lstOf_at s' (r.extw e) (ts := ts) h
    cases eb
    exact ⟨xs, h1, h2⟩
  | _ => cases h
end
def srcOf (S : Sto) : T → List (Nat × List T)
  | .ref k => match S[k]? with
    | some (.lst ts) => [(k, ts)]
    | _ => []
  | _ => []
theorem srcOf_mem {S : Sto} {t : T} {ts : List T} (h : lstOf S t = some ts) : ∀ k, t = .ref k → (k, ts) ∈ srcOf S t := fun k e => by
  subst e
  have h : (match S[k]? with | some (.lst ts) => some ts | _ => none) = some ts := h
  unfold srcOf
  split at h
  · rename_i us q
    cases h
    show (k, ts) ∈ (match S[k]? with
      | some (.lst ts) => [(k, ts)]
      | _ => [])
    rw [q]
    exact List.mem_singleton.mpr rfl
  · cases h
def strT (z : Str) : List T := z.cps.toList.map fun c => .str ⟨#[c]⟩
def itOf (t : T) (S : Sto) : R Its := match t with
  | .tup ts => .ok ⟨ts, []⟩ S
  | .str z => .ok ⟨strT z, []⟩ S
  | t => match lstOf S t with
    | some ts => .ok ⟨ts, srcOf S t⟩ S
    | none => .bad
def mIt (m : Env → Sto → R T) : Env → Sto → R Its := fun τ S => (m τ S).bind itOf
section
variable {X : Cx} {E : XK}
theorem PI.or3 {tg iter : Expr} {w w1 w2 w3 : TI} (h1 : PI X tg iter w1) (h2 : PI X tg iter w2) (h3 : PI X tg iter w3) (i : ∀ σ H R, w σ H R → w1 σ H R ∨ w2 σ H R ∨ w3 σ H R) : PI X tg iter w := ⟨fun pins s σ H R I hw => by
  rcases i σ H R hw with q | q | q
  · exact h1.run pins s σ H R I q
  · exact h2.run pins s σ H R I q
  · exact h3.run pins s σ H R I q⟩
theorem PI.of {tg iter : Expr} {w w1 : TI} (h1 : PI X tg iter w1) (i : ∀ σ H R, w σ H R → w1 σ H R) : PI X tg iter w := ⟨fun pins s σ H R I hw => h1.run pins s σ H R I (i σ H R hw)⟩
theorem walk_s {ρ1 : Wd} {H1 : Hp} {z : Str} : WalkM X.K (L2.Its z) ρ1 H1 ⟨strT z, []⟩ := fun ρ H S e s c => by
  refine ⟨by show z.cps.size ≤ (strT z).length; simp [strT], fun i t ht => ?_⟩
  have ht : (z.cps.toList.map fun c => T.str ⟨#[c]⟩)[i]? = some t := ht
  rw [List.getElem?_map] at ht
  obtain ⟨c, hc, rfl⟩ := Option.map_eq_some_iff.mp ht
  have hi : i < z.cps.size := by
    obtain ⟨q, _⟩ := List.getElem?_eq_some_iff.mp hc
    simpa using q
  refine ⟨hi, fun x H' q => ?_⟩
  obtain ⟨rfl, c', hc', rfl⟩ := q
  have e2 : c' = c := by
    rw [← Array.getElem?_toList] at hc'
    rw [hc] at hc'
    exact (Option.some.inj hc').symm
  rw [e2]
  exact ⟨Ext.refl _ _, s, .str _⟩
theorem i_seq {tg e : Expr} {m : Env → Sto → R T} (h : PE X e (tM X.K E m)) : PI X tg e (tI X.K E (mIt m)) :=
  PI.or3 (pi_list h) (pi_tup h) (pi_str h) fun σ H R ⟨ρ, τ, S, s, en, q⟩ => by
    unfold mIt at q
    cases hm : m τ S with
    | bad => rw [hm] at q; exact q.elim
    | err x S' =>
      rw [hm] at q
      exact .inl ⟨ρ, τ, S, s, en, by rw [hm]; exact q⟩
    | ok t S' =>
      have q0 := q
      rw [hm] at q
      have q : Post X.K E ρ H (itOf t S') (fun ρ1 H1 it _ => ∀ J, WalkM X.K J ρ1 H1 it → R J H1) := q
      cases t with
      | tup ts =>
        refine .inr (.inl ⟨ρ, τ, S, s, en, ?_⟩)
        rw [hm]
        intro ρ1 H1 e1 s1 v rv
        obtain ⟨a, xs, rfl, fa, ra⟩ := rep_tup rv
        exact ⟨a, rfl, ⟨xs, fa.sq⟩, q ρ1 H1 e1 s1 _ (walk_t fun ρ2 H2 S2 e2 s2 _ => ⟨xs, (fa.extw e2).sq, ra.extw e2⟩)⟩
      | str z =>
        refine .inr (.inr ⟨ρ, τ, S, s, en, ?_⟩)
        rw [hm]
        intro ρ1 H1 e1 s1 v rv
        exact ⟨z, rep_str rv, q ρ1 H1 e1 s1 _ walk_s⟩
      | lst ts =>
        refine .inl ⟨ρ, τ, S, s, en, ?_⟩
        rw [hm]
        intro ρ1 H1 e1 s1 v rv
        obtain ⟨a, rfl, xs, h0, _, hk⟩ := keep_l (src := []) s1 rv (ts := ts) rfl (fun k z => nomatch z)
        exact ⟨a, rfl, ⟨xs, h0⟩, q ρ1 H1 e1 s1 _ (walk_l hk)⟩
      | kst ts =>
        refine .inl ⟨ρ, τ, S, s, en, ?_⟩
        rw [hm]
        intro ρ1 H1 e1 s1 v rv
        obtain ⟨a, rfl, xs, h0, _, hk⟩ := keep_l (src := []) s1 rv (ts := ts) rfl (fun k z => nomatch z)
        exact ⟨a, rfl, ⟨xs, h0⟩, q ρ1 H1 e1 s1 _ (walk_l hk)⟩
      | ref k =>
        refine .inl ⟨ρ, τ, S, s, en, ?_⟩
        rw [hm]
        intro ρ1 H1 e1 s1 v rv
        cases hl : lstOf S' (.ref k) with
        | none =>
          have q : Post X.K E ρ H (match lstOf S' (.ref k) with | some ts => .ok ⟨ts, srcOf S' (.ref k)⟩ S' | none => .bad) (fun ρ1 H1 it _ => ∀ J, WalkM X.K J ρ1 H1 it → R J H1) := q
          rw [hl] at q
          exact q.elim
        | some ts =>
          have q : Post X.K E ρ H (match lstOf S' (.ref k) with | some ts => .ok ⟨ts, srcOf S' (.ref k)⟩ S' | none => .bad) (fun ρ1 H1 it _ => ∀ J, WalkM X.K J ρ1 H1 it → R J H1) := q
          rw [hl] at q
          obtain ⟨a, rfl, xs, h0, _, hk⟩ := keep_l (src := srcOf S' (.ref k)) s1 rv hl (srcOf_mem hl)
          exact ⟨a, rfl, ⟨xs, h0⟩, q ρ1 H1 e1 s1 _ (walk_l hk)⟩
      | _ => exact q.elim
def rangeT (lo : Int) (n : Nat) : List T := (List.range n).map fun i : Nat => .int (lo + (i : Int))
def fRange1 (ts : List T) (S : Sto) : R Its := match ts with
  | [.int j] => if (decide (-(2 ^ 62) ≤ j) && decide (j < 2 ^ 62)) = true then .ok ⟨rangeT 0 j.toNat, []⟩ S else .bad
  | _ => .bad
def mItN (f : List T → Sto → R Its) (a : Env → Sto → R (List T)) : Env → Sto → R Its := fun τ S => (a τ S).bind f
theorem walk_r {ρ1 : Wd} {H1 : Hp} {lo : Int} {n : Nat} : WalkM X.K (Itr lo n) ρ1 H1 ⟨rangeT lo n, []⟩ := fun ρ H S e s c => by
  refine ⟨by show n ≤ (rangeT lo n).length; simp [rangeT], fun i t ht => ?_⟩
  have ht : ((List.range n).map fun i : Nat => T.int (lo + (i : Int)))[i]? = some t := ht
  rw [List.getElem?_map] at ht
  obtain ⟨c, hc, rfl⟩ := Option.map_eq_some_iff.mp ht
  obtain ⟨hi, hci⟩ := List.getElem?_eq_some_iff.mp hc
  rw [List.getElem_range] at hci
  rw [List.length_range] at hi
  subst hci
  refine ⟨hi, fun x H' q => ?_⟩
  obtain ⟨rfl, rfl⟩ := q
  exact ⟨Ext.refl _ _, s, .int _⟩
theorem i_range1 {tg a : Expr} {ms : Env → Sto → R (List T)} {p pos : Pos} (hg : Gl X "range") (hm : X.mg "range" = none) (ha : PA X [a] (tA X.K E ms)) (hs : starEach [a] X.env = [(false, eval a X.env)] := by rfl) : PI X tg (.Call (.Name "range" p) [a] [] pos) (tI X.K E (mItN fRange1 ms)) :=
  PI.of (pi_range1 hg hm ha hs) fun σ H R ⟨ρ, τ, S, s, en, q⟩ => ⟨ρ, τ, S, s, en, q.step fun ρ1 H1 ts S1 e1 s1 h1 vs rs => by
    unfold fRange1 at h1
    split at h1
    · rename_i j
      split at h1
      · rename_i hb
        rw [Bool.and_eq_true, decide_eq_true_eq, decide_eq_true_eq] at hb
        obtain ⟨y, rfl, ry⟩ := rs.one
        exact ⟨j, by rw [rep_int ry], hb.1, hb.2, h1.ok s1 _ walk_r⟩
      · exact h1.elim
    · exact h1.elim⟩
def zipT : List T → List T → List T
  | x :: xs, y :: ys => .wt [x, y] :: zipT xs ys
  | _, _ => []
theorem zipT_length : ∀ xs ys : List T, (zipT xs ys).length = min xs.length ys.length
  | [], _ => by simp [zipT]
  | _ :: _, [] => by simp [zipT]
  | x :: xs, y :: ys => by simp only [zipT, List.length_cons, zipT_length xs ys]; omega
theorem zipT_at : ∀ {xs ys : List T} {i : Nat} {t : T}, (zipT xs ys)[i]? = some t → ∃ x y, xs[i]? = some x ∧ ys[i]? = some y ∧ t = .wt [x, y]
  | [], _, _, _, h => by simp [zipT] at h
  | _ :: _, [], _, _, h => by simp [zipT] at h
  | x :: xs, y :: ys, 0, t, h => by
    have h : some (T.wt [x, y]) = some t := h
    exact ⟨x, y, rfl, rfl, (Option.some.inj h).symm⟩
  | x :: xs, y :: ys, i + 1, t, h => zipT_at (xs := xs) (ys := ys) (i := i) (by simpa [zipT] using h)
def fZip (ts : List T) (S : Sto) : R Its := match ts with
  | [.tup xs, .tup ys] => .ok ⟨zipT xs ys, []⟩ S
  | [x, y] => match lstOf S x, lstOf S y with
    | some xs, some ys => .ok ⟨zipT xs ys, srcOf S x ++ srcOf S y⟩ S
    | _, _ => .bad
  | _ => .bad
theorem pair_new {K : PySem.W.Frag} {ρ : Wd} {H : Hp} {S : Sto} {a : Addr} {x y : V} {t u : T} (s : Sta K ρ H S) (n : H a = none) (rx : Rep K ρ H x t) (ry : Rep K ρ H y u) : Ext ρ H ρ (upd H a (.tup [x, y])) ∧ Sta K ρ (upd H a (.tup [x, y])) S ∧ Rep K ρ (upd H a (.tup [x, y])) (.ref a) (.wt [t, u]) :=
  have e := Ext.push n (s.new n)
  ⟨e, s.push n, .wt (.inl upd_same) (s.new n) (.cons (rx.ext e) (.cons (ry.ext e) .nil))⟩
theorem i_zip {es : List Expr} {kk : Nat} {tpos : Pos} {e e2 : Expr} {ms : Env → Sto → R (List T)} {p pos : Pos} (hg : Gl X "zip") (hm : X.mg "zip" = none) (ha : PA X [e, e2] (tA X.K E ms)) (hs : starEach [e, e2] X.env = (false, eval e X.env) :: starEach [e2] X.env := by rfl) (hpl : (backTo pos (starEach [e2] X.env)).any (·.1) = false := by rfl) :
    PI X (.Tuple es kk tpos) (.Call (.Name "zip" p) [e, e2] [] pos) (tI X.K E (mItN fZip ms)) :=
  PI.of (RZ.pi_zipA hg hm ha hs hpl) fun σ H R ⟨ρ, τ, S, s, en, q⟩ => ⟨ρ, τ, S, s, en, q.step fun ρ1 H1 ts S1 e1 s1 h1 vs rs => by
    unfold fZip at h1
    split at h1
    · rename_i xs ys
      obtain ⟨v, w, rfl, rv, rw'⟩ := rs.two
      obtain ⟨a, us, rfl, fa, ra⟩ := rep_tup rv
      obtain ⟨b, ws, rfl, fb, rb⟩ := rep_tup rw'
      refine ⟨a, b, us, ws, rfl, .inr ⟨fa.sq, fb.sq, h1.ok s1 _ fun ρ2 H2 S2 e2 s2 _ => ?_⟩⟩
      have r1 := ra.extw e2
      have r2 := rb.extw e2
      have q1 := (fa.extw e2).sq
      have q2 := (fb.extw e2).sq
      refine ⟨⟨us, ws, q1, q2, ?_⟩, fun i t ht => ?_⟩
      · have z := zipT_length xs ys
        rw [r1.length, r2.length]
        show xs.length ≤ (zipT xs ys).length ∨ ys.length ≤ (zipT xs ys).length
        omega
      · obtain ⟨x, y, hx, hy, rfl⟩ := zipT_at ht
        obtain ⟨x', hx', rx⟩ := r1.get hx
        obtain ⟨y', hy', ry⟩ := r2.get hy
        refine ⟨⟨us, ws, x', y', q1, q2, hx', hy'⟩, fun v H3 q => ?_⟩
        obtain ⟨p, x2, y2, rfl, n, rfl, z1, z2⟩ := q
        have z1 := z1 us q1
        have z2 := z2 ws q2
        rw [hx'] at z1
        rw [hy'] at z2
        cases z1
        cases z2
        exact pair_new s2 n rx ry
    · rename_i x y _
      split at h1
      · rename_i xs ys hx hy
        obtain ⟨v, w, rfl, rv, rw'⟩ := rs.two
        obtain ⟨a, rfl, us0, a0, _, ka⟩ := keep_l (src := srcOf S1 x ++ srcOf S1 y) s1 rv hx (fun k z => List.mem_append_left _ (srcOf_mem hx k z))
        obtain ⟨b, rfl, ws0, b0, _, kb⟩ := keep_l (src := srcOf S1 x ++ srcOf S1 y) s1 rw' hy (fun k z => List.mem_append_right _ (srcOf_mem hy k z))
        refine ⟨a, b, us0, ws0, rfl, .inl ⟨a0, b0, h1.ok s1 _ fun ρ2 H2 S2 e2 s2 c2 => ?_⟩⟩
        obtain ⟨us, q1, r1⟩ := ka ρ2 H2 S2 e2 s2 c2
        obtain ⟨ws, q2, r2⟩ := kb ρ2 H2 S2 e2 s2 c2
        refine ⟨⟨us, ws, q1, q2, ?_⟩, fun i t ht => ?_⟩
        · have z := zipT_length xs ys
          rw [r1.length, r2.length]
          show xs.length ≤ (zipT xs ys).length ∨ ys.length ≤ (zipT xs ys).length
          omega
        · obtain ⟨x, y, hx, hy, rfl⟩ := zipT_at ht
          obtain ⟨x', hx', rx⟩ := r1.get hx
          obtain ⟨y', hy', ry⟩ := r2.get hy
          refine ⟨⟨us, ws, x', y', q1, q2, hx', hy'⟩, fun v H3 q => ?_⟩
          obtain ⟨p, x2, y2, rfl, n, rfl, z1, z2⟩ := q
          have z1 := z1 us q1
          have z2 := z2 ws q2
          rw [hx'] at z1
          rw [hy'] at z2
          cases z1
          cases z2
          exact pair_new s2 n rx ry
      · exact h1.elim
    · exact h1.elim⟩
end
end Fx
namespace Fx
open PySem PySem.Spec PyProof.Rows L2
mutual
def cl (n : Nat) : T → Bool
  | .tup ts => cls n ts
  | .lst ts => cls n ts
  | .kst ts => cls n ts
  | .ref i => decide (i < n)
  | .wt _ => false
  | .exn _ _ _ ts => cls n ts
  | .dct _ ts => cls n ts
  | _ => true
def cls (n : Nat) : List T → Bool
  | [] => true
  | t :: ts => cl n t && cls n ts
end
def clO (n : Nat) : O → Bool
  | .lst ts => cls n ts
  | .ins _ fs => fs.all fun f => cl n f.2
  | .dct _ ts => cls n ts
section
variable {K : PySem.W.Frag} {ρ ρ' : Wd} {H : Hp} {n : Nat}
mutual
theorem Rep.toC (hr : ∀ (i : Nat) (a : Addr), i < n → ρ.at_[i]? = some a → ρ'.at_[i]? = some a) (ha : ∀ a, a ∉ ρ.av → a ∉ ρ'.av) : ∀ {v : V} {t : T}, cl n t = true → Rep K ρ H v t → Rep K ρ' H v t
  | _, _, _, .non => .non
  | _, _, _, .bl b => .bl b
  | _, _, _, .int i => .int i
  | _, _, _, .str x => .str x
  | _, _, _, .obj a => .obj a
  | _, _, _, .ty m => .ty m
  | _, .ref i, c, .ref h => .ref (hr _ _ (of_decide_eq_true (show decide (i < n) = true by unfold cl at c; exact c)) h)
  | _, .tup ts, c, .tup h r => .tup (h.imp (fun q => ⟨q.1, ha _ q.2⟩) id) (Reps.toC hr ha (show cls n ts = true by unfold cl at c; exact c) r)
  | _, .lst ts, c, .lst h m r => .lst h (ha _ m) (Reps.toC hr ha (show cls n ts = true by unfold cl at c; exact c) r)
  | _, .wt ts, c, .wt h m r => absurd (show false = true by unfold cl at c; exact c) Bool.false_ne_true
  | _, .exn _ _ _ ts, c, .exn g h m x r => .exn g h (ha _ m) (x.mono fun b o z q => ⟨z, ha _ q⟩) (Reps.toC hr ha (show cls n ts = true by unfold cl at c; exact c) r)
  | _, .dct _ ts, c, .dct h m k r => .dct h (ha _ m) k (Reps.toC hr ha (show cls n ts = true by unfold cl at c; exact c) r)
  | _, .kst ts, c, .kst h r => .kst (h.imp (fun q => ⟨q.1, ha _ q.2⟩) id) (Reps.toC hr ha (show cls n ts = true by unfold cl at c; exact c) r)
theorem Reps.toC (hr : ∀ (i : Nat) (a : Addr), i < n → ρ.at_[i]? = some a → ρ'.at_[i]? = some a) (ha : ∀ a, a ∉ ρ.av → a ∉ ρ'.av) : ∀ {v : List V} {t : List T}, cls n t = true → Reps K ρ H v t → Reps K ρ' H v t
  | _, _, _, .nil => .nil
  | _, t :: ts, c, .cons h r => by
    have c : (cl n t && cls n ts) = true := by unfold cls at c; exact c
    rw [Bool.and_eq_true] at c
    exact .cons (Rep.toC hr ha c.1 h) (Reps.toC hr ha c.2 r)
end
theorem RepF.toC (hr : ∀ (i : Nat) (a : Addr), i < n → ρ.at_[i]? = some a → ρ'.at_[i]? = some a) (ha : ∀ a, a ∉ ρ.av → a ∉ ρ'.av) : ∀ {v : List (Str × V)} {t : List (Str × T)}, (t.all fun f => cl n f.2) = true → RepF K ρ H v t → RepF K ρ' H v t
  | _, _, _, .nil => .nil
  | _, _, c, .cons h r => by
    rw [List.all_cons, Bool.and_eq_true] at c
    exact .cons (h.toC hr ha c.1) (RepF.toC hr ha c.2 r)
theorem RepO.toC (hr : ∀ (i : Nat) (a : Addr), i < n → ρ.at_[i]? = some a → ρ'.at_[i]? = some a) (ha : ∀ a, a ∉ ρ.av → a ∉ ρ'.av) {a : Addr} : ∀ {o : O}, clO n o = true → RepO K ρ H a o → RepO K ρ' H a o
  | .lst _, c, ⟨_, h, r⟩ => ⟨_, h, r.toC hr ha c⟩
  | .ins _ _, c, ⟨_, _, h, r⟩ => ⟨_, _, h, r.toC hr ha c⟩
  | .dct _ _, c, ⟨_, h, q, r⟩ => ⟨_, h, q, r.toC hr ha c⟩
end
def runF (N : Nat) (b : Env → Sto → R Fl) (ts : List T) (S : Sto) : R T := (noErr (b (ts.map some ++ List.replicate (N - ts.length) none) S)).bind fun f S1 => match f with
  | .nx _ => .ok .non S1
  | .rt t => .ok t S1
  | _ => .bad
/-- what a def promises: what its mirror gives -/
def spM (K : PySem.W.Frag) (n : Nat) (F : List T → Sto → R T) : Sp := fun vs H Q E => ∃ ρ S ts, ts.length = n ∧ Sta K ρ H S ∧ Reps K ρ H vs ts ∧ Post K E ρ H (F ts S) (QE K Q)
theorem reps_env {K : PySem.W.Frag} {ρ : Wd} {H : Hp} {N : List Str} {vs : List V} {ts : List T} (r : Reps K ρ H vs ts) : REnv K ρ H (L2.start N vs) (ts.map some ++ List.replicate (N.length - ts.length) none) := by
  have l := r.length
  unfold L2.start
  rw [l]
  refine ⟨by simp [l], fun i t h => ?_⟩
  by_cases hi : i < ts.length
  · rw [List.getElem?_append_left (by simpa using hi), List.getElem?_map] at h
    obtain ⟨u, hu, e⟩ := Option.map_eq_some_iff.mp h
    cases e
    obtain ⟨y, hy, ry⟩ := r.get hu
    refine ⟨y, ?_, ry⟩
    rw [List.getElem?_append_left (by simpa [l] using hi), List.getElem?_map, hy]
    rfl
  · rw [List.getElem?_append_right (by simpa using hi)] at h
    rw [List.getElem?_replicate] at h
    split at h <;> cases h
section
variable {P : Program} {w : World} {K : PySem.W.Frag} {mg : Str → Option Value} {base : Heap}
theorem fn_ok {x qual : Str} {st : Stmt} {f : Addr} {fd : FuncData} {N ps : List Str} {k : Nat} {b : Env → Sto → R Fl} (F : L2.Fun K x qual st f fd) (S : FnScope N ps (defScope st))
    (hb : ∀ (cdv : Value) (A : Around) (outer : List PySem.Env) (s : Shared) (H : Hp) (E : XK), Room k (A.deeper (envOfC qual (defScope st) s.heap.objs.size f cdv)) → PSs (cxOf CX0 P w K mg base N qual (defScope st) f cdv A outer s H E).nox (defBody st) (tS K E0 b)) :
    FnOk P w K mg base CX0 (k + 1) f fd ps (spM K ps.length (runF N.length b)) :=
  F.ok S (fun vs H Q E ⟨ρ, S, ts, l, s, r, h⟩ => by rw [r.length, l]) fun cdv A outer s H vs Q E hr ⟨ρ, S, ts, l, st, r, h⟩ => ⟨_, hb cdv A outer s H E hr, ρ, _, S, st, reps_env r, by
    unfold runF at h
    refine h.at0 (Ext.refl _ _) fun ρ2 H2 f S2 x2 s2 q => ?_
    cases f with
    | nx τ => exact fun σ e => q ρ2 H2 x2 s2 _ .non
    | rt t => exact fun v rv => q ρ2 H2 x2 s2 v rv
    | bk τ => exact q.elim
    | ct τ => exact q.elim⟩
end
section
variable {X : Cx} {E : XK} {k n : Nat} {f : Addr} {fd : FuncData} {ps : List Str} {F : List T → Sto → R T} {x : Str} {p pos : Pos} {e : Expr} {es : List Expr} {ms : Env → Sto → R (List T)}
theorem passA {X : Cx} {E : XK} : Passes CX0 X E := fun _ _ _ _ _ _ _ h => h.elim
theorem x_call (G : FnOk X.prog X.w X.K X.mg X.base CX0 k f fd ps (spM X.K n F)) (hr : Room k X.A) (hg : Gl X x) (hm : X.mg x = some (.ref f)) (hk : PySem.W.keepIn X.K (.ref f) = true) (hb : Binds X.K fd ps [])
    (ha : PA X (e :: es) (tA X.K E ms)) (hn : (e :: es).length = n := by rfl) (hdb : (x == ("__debug__" : Str)) = false := by decide) (he : starEach (e :: es) X.env = (false, eval e X.env) :: starEach es X.env := by rfl) (hpl : (backTo pos (starEach es X.env)).any (·.1) = false := by rfl) :
    PE X (.Call (.Name x p) (e :: es) [] pos) (tM X.K E (mFn (fun ts S => if ts.length = n then F ts S else .bad) ms)) :=
  PE.of (pe_call G hr hg hm hk hb .nil (passA (E := E)) ha hdb he hpl) fun σ H Q ⟨ρ, τ, S, s, e, h⟩ => ⟨ρ, τ, S, s, e, h.step fun ρ1 H1 ts S1 e1 s1 h1 vs rs => by
    split at h1
    · rename_i hl
      exact ⟨ρ1, S1, ts, hl, s1, by rw [List.append_nil]; exact rs, h1⟩
    · exact h1.elim⟩
theorem x_call0 (G : FnOk X.prog X.w X.K X.mg X.base CX0 k f fd ps (spM X.K 0 F)) (hr : Room k X.A) (hg : Gl X x) (hm : X.mg x = some (.ref f)) (hk : PySem.W.keepIn X.K (.ref f) = true) (hb : Binds X.K fd ps []) (hdb : (x == ("__debug__" : Str)) = false := by decide) :
    PE X (.Call (.Name x p) [] [] pos) (tM X.K E (mFn F mNil)) :=
  PE.of (pe_call0 G hr hg hm hk hb .nil (passA (E := E)) hdb) fun σ H Q ⟨ρ, τ, S, s, e, h⟩ => ⟨ρ, S, [], rfl, s, .nil, h⟩
end
def thaw (n : Nat) (fz : Bool) (t : T) (S : Sto) : T := if fz = true then match t with
    | .ref i => match S[i]? with
      | some (.lst us) => if n ≤ i then .lst us else .ref i
      | _ => .ref i
    | t => t else t
noncomputable def frame (n : Nat) (fz : Bool) (F : List T → Sto → R T) (ts : List T) (S : Sto) : R T :=
  ifP (n ≤ S.length ∧ cls n ts = true ∧ (S.take n).all (clO n) = true) (match F ts (S.take n) with
    | .ok t S1 => ifP (n ≤ S1.length ∧ (S1.take n).all (clO n) = true ∧ cl n (thaw n fz t S1) = true) (.ok (thaw n fz t S1) (S1.take n ++ S.drop n)) .bad
    | _ => .bad) .bad
def Wd.part (ρ : Wd) (n : Nat) : Wd := ⟨ρ.at_.take n, ρ.at_.drop n ++ ρ.out⟩
theorem part_av (ρ : Wd) (n : Nat) : (ρ.part n).av = ρ.av := by
  unfold Wd.part Wd.av
  show ρ.at_.take n ++ (ρ.at_.drop n ++ ρ.out) = ρ.at_ ++ ρ.out
  rw [← List.append_assoc, List.take_append_drop]
section
variable {K : PySem.W.Frag} {ρ ρ' : Wd} {H H' : Hp} {S S1 : Sto} {n : Nat}
theorem take_at {α : Type} {xs : List α} {i : Nat} {a : α} (h : (xs.take n)[i]? = some a) : i < n ∧ xs[i]? = some a := by
  rw [List.getElem?_take] at h
  split at h
  · rename_i hi; exact ⟨hi, h⟩
  · cases h
theorem Sta.part (s : Sta K ρ H S) (hn : n ≤ S.length) (hc : (S.take n).all (clO n) = true) : Sta K (ρ.part n) H (S.take n) where
  len := by
    show (ρ.at_.take n).length = (S.take n).length
    rw [List.length_take, List.length_take, s.len]
  nd := by rw [part_av]; exact s.nd
  al := fun a m => by
    rcases List.mem_append.mp m with m | m
    · have m := List.mem_of_mem_drop m
      obtain ⟨i, hi, e⟩ := List.getElem_of_mem m
      have hj : i < S.length := by rw [← s.len]; exact hi
      have r := s.at_ i a S[i] (by rw [List.getElem?_eq_getElem hi, e]) (List.getElem?_eq_getElem hj)
      revert r
      cases S[i] with
      | lst ts => exact fun ⟨xs, h, _⟩ => ⟨_, h⟩
      | ins C fs => exact fun ⟨dx, vs, h, _⟩ => ⟨_, h⟩
      | dct ks ts => exact fun ⟨kvs, h, _⟩ => ⟨_, h⟩
    · exact s.al a m
  at_ := fun i a o h1 h2 => by
    obtain ⟨hi, h1⟩ := take_at h1
    obtain ⟨_, h3⟩ := take_at h2
    have c := List.all_eq_true.mp hc o (List.mem_of_getElem? h2)
    refine (s.at_ i a o h1 h3).toC (fun j b hj q => ?_) (fun b q => by rw [part_av]; exact q) c
    show (ρ.at_.take n)[j]? = some b
    rw [List.getElem?_take, if_pos hj]
    exact q
theorem nd_at {α : Type} {l : List α} (h : l.Nodup) {i j : Nat} {a : α} (e1 : l[i]? = some a) (e2 : l[j]? = some a) : i = j := by
  obtain ⟨i1, q1⟩ := List.getElem?_eq_some_iff.mp e1
  obtain ⟨j1, q2⟩ := List.getElem?_eq_some_iff.mp e2
  exact (List.getElem_inj h).mp (q1.trans q2.symm)
theorem part_back (s : Sta K ρ H S) (hn : n ≤ S.length) (e : Ext (ρ.part n) H ρ' H') (s' : Sta K ρ' H' S1) (hn1 : n ≤ S1.length) (hc : (S1.take n).all (clO n) = true) :
    (∀ (i : Nat) (a : Addr), i < n → ρ'.at_[i]? = some a → ρ.at_[i]? = some a) ∧ (∀ a, a ∉ ρ'.av → a ∉ ρ.av) ∧ Ext ρ H ρ H' ∧ Sta K ρ H' (S1.take n ++ S.drop n) := by
  have hl : (ρ.part n).at_.length = n := by
    show (ρ.at_.take n).length = n
    rw [List.length_take, s.len]
    exact Nat.min_eq_left hn
  have A : ∀ (i : Nat) (a : Addr), i < n → ρ'.at_[i]? = some a → ρ.at_[i]? = some a := fun i a hi q => by
    obtain ⟨m, z⟩ := e.pre
    rw [z, List.getElem?_append_left (by rw [hl]; exact hi)] at q
    exact (take_at q).2
  have A' : ∀ (i : Nat) (a : Addr), i < n → ρ.at_[i]? = some a → ρ'.at_[i]? = some a := fun i a hi q => e.get (by
    show (ρ.at_.take n)[i]? = some a
    rw [List.getElem?_take, if_pos hi]
    exact q)
  have B : ∀ a, a ∉ ρ'.av → a ∉ ρ.av := fun a h q => h (by
    rw [← part_av ρ n] at q
    rcases List.mem_append.mp q with q | q
    · obtain ⟨m, z⟩ := e.pre
      exact List.mem_append_left _ (by rw [z]; exact List.mem_append_left _ q)
    · exact List.mem_append_right _ (e.out a q))
  have C : Ext ρ H ρ H' := Ext.here fun a o h m => e.keep a o h fun q => m (List.mem_of_mem_take q)
  refine ⟨A, B, C, ?_, s.nd, fun a m => s'.al a (e.out a (List.mem_append_right _ m)), fun i a o h1 h2 => ?_⟩
  · rw [List.length_append, List.length_take, List.length_drop, Nat.min_eq_left hn1, s.len]
    omega
  · by_cases hi : i < n
    · have h2 : (S1.take n)[i]? = some o := by
        rw [List.getElem?_append_left (by rw [List.length_take, Nat.min_eq_left hn1]; exact hi)] at h2
        exact h2
      have c := List.all_eq_true.mp hc o (List.mem_of_getElem? h2)
      exact (s'.at_ i a o (A' i a hi h1) (take_at h2).2).toC A B c
    · have h2 : S[i]? = some o := by
        rw [List.getElem?_append_right (by rw [List.length_take, Nat.min_eq_left hn1]; omega), List.length_take, Nat.min_eq_left hn1, List.getElem?_drop] at h2
        rw [show n + (i - n) = i by omega] at h2
        exact h2
      have r := s.at_ i a o h1 h2
      obtain ⟨u, hu⟩ := r.is
      have k : H' a = H a := by
        rw [hu]
        refine e.keep a u hu fun q => ?_
        obtain ⟨j, hj⟩ := List.mem_iff_getElem?.mp q
        obtain ⟨hjn, hj⟩ := take_at hj
        have := nd_at (List.nodup_append.mp s.nd).1 hj h1
        omega
      exact r.ext C k
theorem thaw_rep {fz : Bool} {v : V} {t : T} (s : Sta K ρ H S) (e : Ext (ρ.part n) H ρ' H') (hn : n ≤ S.length) (s' : Sta K ρ' H' S1) (B : ∀ a, a ∉ ρ'.av → a ∉ ρ.av) (A : ∀ (i : Nat) (a : Addr), i < n → ρ'.at_[i]? = some a → ρ.at_[i]? = some a) (c : cl n (thaw n fz t S1) = true) (r : Rep K ρ' H' v t) : Rep K ρ H' v (thaw n fz t S1) := by
  unfold thaw at c ⊢
  cases fz with
  | false => exact r.toC A B c
  | true =>
    rw [if_pos rfl] at c ⊢
    split at c
    · rename_i i
      split at c
      · rename_i us hu
        show Rep K ρ H' v (if n ≤ i then .lst us else .ref i)
        by_cases hi : n ≤ i
        · rw [if_pos hi] at c ⊢
          obtain ⟨a, xs, rfl, ha, hx, rx⟩ := lstD_ref s' r hu
          have c : cls n us = true := by unfold cl at c; exact c
          refine .lst hx (fun q => ?_) (rx.toC A B c)
          have hm : a ∈ ρ'.at_ := List.mem_of_getElem? ha
          have q := e.old a hm (by rw [part_av]; exact q)
          obtain ⟨j, hj⟩ := List.mem_iff_getElem?.mp q
          obtain ⟨hjn, _⟩ := take_at (show (ρ.at_.take n)[j]? = some a from hj)
          have := nd_at (List.nodup_append.mp s'.nd).1 (e.get hj) ha
          omega
        · rw [if_neg hi] at c ⊢
          exact r.toC A B c
      · rename_i hno
        exact r.toC A B c
    · exact r.toC A B c
theorem frame_sp {m : Nat} {fz : Bool} {F : List T → Sto → R T} {vs : List V} {Q : VK} {E : XK} (h : spM K m (frame n fz F) vs H Q E) : spM K m F vs H Q E := by
  obtain ⟨ρ, S, ts, l, s, r, h⟩ := h
  unfold frame at h
  obtain ⟨⟨h1, h2, h3⟩, h⟩ := h.ifP
  refine ⟨ρ.part n, S.take n, ts, l, s.part h1 h3, r.toC (fun i a hi q => ?_) (fun b q => by rw [part_av]; exact q) h2, ?_⟩
  · show (ρ.at_.take n)[i]? = some a
    rw [List.getElem?_take, if_pos hi]
    exact q
  · cases hF : F ts (S.take n) with
    | bad => rw [hF] at h; exact h.elim
    | err x S1 => rw [hF] at h; exact h.elim
    | ok t S1 =>
      rw [hF] at h
      obtain ⟨⟨q1, q2, q3⟩, h⟩ := Post.ifP h
      intro ρ' H' e s' v rv
      obtain ⟨A, B, C, s2⟩ := part_back s h1 e s' q1 q2
      exact h ρ H' C s2 v (thaw_rep s e h1 s' B A q3 rv)
end
theorem FnOk.framed {P : Program} {w : World} {K : PySem.W.Frag} {mg : Str → Option Value} {base : Heap} {k : Nat} {f : Addr} {fd : FuncData} {ps : List Str} {m : Nat} {F : List T → Sto → R T} (G : FnOk P w K mg base CX0 k f fd ps (spM K m F)) (n : Nat) (fz : Bool) : FnOk P w K mg base CX0 k f fd ps (spM K m (frame n fz F)) :=
  G.imp fun _ _ _ _ h => frame_sp h
end Fx
namespace FxE
open PySem PySem.Spec PyProof.Rows L2
open PySem.Sem (wp)
open AutoSeq1 (wpAny_loadPart')
section
variable {prog : Program} {w : World} {A : Around} {E : Value → Shared → Prop} {s : Shared}
set_option maxHeartbeats 1000000 in
theorem new_meets (t : Addr) (o : Obj) (xs : Array Value) (ho : o.cls = .type "tuple") (hd : ∃ n, o.data = .seq xs n) :
    Meets (Builtin.«enumerate.__new__» ⟨[.type "enumerate", .ref t], []⟩) (fun _ R z => z.heap.get? t = some o ∧
      R (.ok (.ret (.ref (z.heap.push { cls := .type "tuple_iterator", data := .fields #[.ref t, .int 0 0] }).objs.size)))
        { z with heap := (z.heap.push { cls := .type "tuple_iterator", data := .fields #[.ref t, .int 0 0] }).push { cls := .type "enumerate", data := .fields #[.none, .bool false, .ref z.heap.objs.size, rawInt 0, .none, .none] } }) :=
  .of_wp fun prog w A R z q => by
    obtain ⟨h0, g0, d0, t0, os0⟩ := z; obtain ⟨ht, q⟩ := q
    have sub0 := sub_enumerate
    have isT : Heap.IsTuple (Shared.heap ⟨h0, g0, d0, t0, os0⟩) t xs := ⟨o, ht, ho, hd⟩
    wp_walk using wpAny_pyIter_tuple isT
    refine wpAny_stack_any fun st0 => wpAny_pure ?_
    split
    · rename_i c0 _ _ _ _ _
      cases (c0 == Value.type "enumerate") <;> (wp_walk using wpAny_pyIter_tuple isT; exact ⟨_, rfl, q⟩)
    · wp_walk using wpAny_pyIter_tuple isT; exact ⟨_, rfl, q⟩
theorem call_enum_tup {t : Addr} {xs : Array Value} {Q : Value → Shared → Prop} (hT : s.heap.IsTuple t xs)
    (k : ∀ h', IsEnum h' (s.heap.objs.size + 1) s.heap.objs.size 0 .none → h'.IsTupleIter s.heap.objs.size t 0 → (∀ b o, s.heap.get? b = some o → h'.get? b = some o) → Q (.ref (s.heap.objs.size + 1)) { s with heap := h' }) :
    wpAny (model prog w) A (call (.type "enumerate") [.ref t]) Q E s := by
  obtain ⟨o, ho, hc, hd⟩ := hT
  refine callType_new F.called_enumerate (by decide) (F.typeCall_enumerate_1 _) (F.newCall_enumerate_1 _) (fun obj => F.args_object_init_2 obj _) F.entry_enumerate_new (new_meets t o xs hc hd) ⟨ho, ?_⟩
  have z1 : (s.heap.push { cls := .type "tuple_iterator", data := .fields #[.ref t, .int 0 0] }).objs.size = s.heap.objs.size + 1 := Heap.size_push ..
  have z2 := Heap.get?_push_size (s.heap.push { cls := .type "tuple_iterator", data := .fields #[.ref t, .int 0 0] }) (o := { cls := .type "enumerate", data := .fields #[.none, .bool false, .ref s.heap.objs.size, rawInt 0, .none, .none] }) rfl
  show _ ∧ _
  rw [z1] at z2 ⊢
  exact ⟨⟨_, z2, rfl⟩, k _ z2 ⟨_, Heap.get?_push_of_some _ (Heap.get?_push_size _ rfl), rfl, rfl⟩ fun b u x => Heap.get?_push_of_some _ (Heap.get?_push_of_some _ x)⟩
theorem next_tup {e it l : Addr} {i : Nat} {xs : Array Value} {x old : Value} {Q : Value → Shared → Prop}
    (he : IsEnum s.heap e it i old) (hit : s.heap.IsTupleIter it l i) (hl : s.heap.IsTuple l xs) (hx : xs[i]? = some x) (hne : e ≠ it)
    (k : ∀ h', IsEnumOut h' e it ((i : Int) + 1) x s.heap.objs.size → h'.IsTupleIter it l (i + 1) → h'.get? s.heap.objs.size = some { cls := .type "tuple", data := .seq #[.int i s.toks, x] } → h'.objs.size = s.heap.objs.size + 1 →
      (∀ b o, b ≠ e → b ≠ it → s.heap.get? b = some o → h'.get? b = some o) → Q (.ref s.heap.objs.size) { s with heap := h', toks := s.toks + 1 }) :
    wpAny (model prog w) A (Builtin.«enumerate.__next__» ⟨[.ref e], []⟩) (fun fin s' => ∃ v, fin = .done (.ret v) ∧ Q v s') E s := by
  obtain ⟨h0, g0, d0, t0, os0⟩ := s
  show wpAny _ _ (field (.ref e) 2 >>= _) _ _ _; refine wpAny_bind (wpAny_field he rfl (x := .ref it) rfl ?_)
  refine wpAny_bind (RZ.nextOf_tuple_item hit hl hx fun h1 i1 b1 => ?_); replace b1 : Heap.SameBut it h0 h1 := b1
  have e1 : IsEnum h1 e it i old := (b1.2 e hne).trans he
  show wpAny _ _ (field (.ref e) 3 >>= _) _ _ ⟨h1, g0, d0, t0, os0⟩; refine wpAny_bind (wpAny_field e1 rfl (x := rawInt i) rfl ?_)
  show wpAny _ _ (field (.ref e) 4 >>= _) _ _ ⟨h1, g0, d0, t0, os0⟩; refine wpAny_bind (wpAny_field e1 rfl (x := .none) rfl ?_)
  show wpAny _ _ (mkInt i >>= _) _ _ ⟨h1, g0, d0, t0, os0⟩; refine wpAny_bind (wpAny_mkInt ?_)
  show wpAny _ _ (setField (.ref e) 3 (rawInt ((i : Int) + 1)) >>= _) _ _ ⟨h1, g0, d0, t0 + 1, os0⟩
  refine wpAny_bind (wpAny_setField_rec e1 (by simp) fun h2 e2 b2 => ?_); replace b2 : Heap.SameBut e h1 h2 := b2; replace e2 : IsEnum h2 e it ((i : Int) + 1) old := e2
  show wpAny _ _ (setField (.ref e) 4 .none >>= _) _ _ ⟨h2, g0, d0, t0 + 1, os0⟩
  refine wpAny_bind (wpAny_setField_rec e2 (by simp) fun h3 e3 b3 => ?_); replace b3 : Heap.SameBut e h2 h3 := b3; replace e3 : IsEnum h3 e it ((i : Int) + 1) old := e3
  show wpAny _ _ (newTuple [.int i t0, x] >>= _) _ _ ⟨h3, g0, d0, t0 + 1, os0⟩; refine wpAny_bind (wpAny_newTuple ?_)
  have e4 : IsEnum (h3.push { cls := .type "tuple", data := .seq #[.int i t0, x] }) e it ((i : Int) + 1) old := Heap.get?_push_of_some _ e3
  generalize hh4 : h3.push { cls := .type "tuple", data := .seq #[.int i t0, x] } = h4 at e4
  have sz : h3.objs.size = h0.objs.size := by rw [b3.1, b2.1, b1.1]
  have lt : e < h0.objs.size := Heap.lt_size he
  have t4 : h4.get? h0.objs.size = some { cls := .type "tuple", data := .seq #[.int i t0, x] } := by rw [← hh4, ← sz]; exact Heap.get?_push_size _ rfl
  have s4 : h4.objs.size = h0.objs.size + 1 := by rw [← hh4, Heap.size_push, sz]
  have k4 : ∀ b o, b ≠ e → b ≠ it → h0.get? b = some o → h4.get? b = some o := fun b o q1 q2 q3 => by
    rw [← hh4]; exact Heap.get?_push_of_some _ (b3.extBut b o q1 (b2.extBut b o q1 (b1.extBut b o q2 q3)))
  have i4 : h4.IsTupleIter it l (i + 1) := by
    rw [← hh4]; obtain ⟨o, ho, r⟩ := (i1.extBut b2.extBut (Ne.symm hne)).extBut b3.extBut (Ne.symm hne); exact ⟨o, Heap.get?_push_of_some _ ho, r⟩
  show wpAny _ _ (Builtin.SmallTypes.ownedTupleIsFree (.ref e) >>= _) _ _ ⟨h4, g0, d0, t0 + 1, os0⟩; rw [sz]
  clear hh4 e3 b3 e2 b2 e1 b1 i1 sz h3 h2 h1
  refine wpAny_bind ?_; unfold Builtin.SmallTypes.ownedTupleIsFree
  refine wpAny_bind (wpAny_field e4 rfl (x := .none) rfl (wpAny_pure ?_)); simp only [if_true]
  refine wpAny_bind (wpAny_rule ?_); refine wpAny_bind (wpAny_field e4 rfl (x := old) rfl ?_)
  refine wpAny_bind (wpAny_setField_rec e4 (by simp) fun h5 e5 b5 => ?_); replace b5 : Heap.SameBut e h4 h5 := b5; replace e5 : IsEnum h5 e it ((i : Int) + 1) x := e5
  show wpAny _ _ (Builtin.SmallTypes.ownedTupleHandOut (.ref e) (.ref h0.objs.size) >>= _) _ _ ⟨h5, g0, d0, t0 + 1, os0⟩
  refine wpAny_bind ?_; unfold Builtin.SmallTypes.ownedTupleHandOut
  refine wpAny_bind (wpAny_setField_rec e5 (by simp) fun h6 e6 b6 => ?_); replace b6 : Heap.SameBut e h5 h6 := b6; replace e6 : IsEnumOut h6 e it ((i : Int) + 1) x h0.objs.size := e6
  refine wpAny_setField_rec e6 (by simp) fun h7 e7 b7 => ?_; replace b7 : Heap.SameBut e h6 h7 := b7; replace e7 : IsEnumOut h7 e it ((i : Int) + 1) x h0.objs.size := e7
  refine wpAny_bind (wpAny_letGo (wpAny_pure ⟨_, rfl, k h7 e7 (((i4.extBut b5.extBut (Ne.symm hne)).extBut b6.extBut (Ne.symm hne)).extBut b7.extBut (Ne.symm hne)) ?_ (by rw [b7.1, b6.1, b5.1, s4]) fun b o q1 q2 q3 => b7.extBut b o q1 (b6.extBut b o q1 (b5.extBut b o q1 (k4 b o q1 q2 q3)))⟩))
  exact b7.extBut _ _ (Nat.ne_of_gt lt) (b6.extBut _ _ (Nat.ne_of_gt lt) (b5.extBut _ _ (Nat.ne_of_gt lt) t4))
theorem pyNext_item {e it l : Addr} {i : Nat} {xs : Array Value} {x old : Value} {Q : Option Value → Shared → Prop}
    (he : IsEnum s.heap e it i old) (hit : s.heap.IsTupleIter it l i) (hl : s.heap.IsTuple l xs) (hx : xs[i]? = some x) (hne : e ≠ it)
    (k : ∀ h', IsEnumOut h' e it ((i : Int) + 1) x s.heap.objs.size → h'.IsTupleIter it l (i + 1) → h'.get? s.heap.objs.size = some { cls := .type "tuple", data := .seq #[.int i s.toks, x] } → h'.objs.size = s.heap.objs.size + 1 →
      (∀ b o, b ≠ e → b ≠ it → s.heap.get? b = some o → h'.get? b = some o) → Q (some (.ref s.heap.objs.size)) { s with heap := h', toks := s.toks + 1 }) :
    wpAny (model prog w) A (pyNext (.ref e)) Q E s := by
  have ty : s.TypeIs (.ref e) "enumerate" := ⟨_, he, rfl⟩
  unfold pyNext
  exact wpAny_bind (wpAny_attempt (wpAny_callSpecial?_slot (name := Str.ofString "__next__") ty F.slot_enumerate_next (wpAny_call_entry F.slot_enumerate_next ty F.entry_enumerate_next (next_tup he hit hl hx hne fun h' a b c d m => wpAny_pure (k h' a b c d m)) (F.args_enumerate_next_1 _))))
theorem pyNext_end {e it l : Addr} {i : Nat} {xs : Array Value} {old : Value} {Q : Option Value → Shared → Prop} (hh : A.handled = none)
    (he : IsEnum s.heap e it i old) (hit : s.heap.IsTupleIter it l i) (hl : s.heap.IsTuple l xs) (hx : xs[i]? = none) (k : ∀ h', Heap.ExtBut it s.heap h' → Q none { s with heap := h' }) : wpAny (model prog w) A (pyNext (.ref e)) Q E s := by
  have ty : s.TypeIs (.ref e) "enumerate" := ⟨_, he, rfl⟩
  unfold pyNext
  refine wpAny_bind (wpAny_attempt (wpAny_callSpecial?_slot (name := Str.ofString "__next__") ty F.slot_enumerate_next (wpAny_call_entry F.slot_enumerate_next ty F.entry_enumerate_next ?_ (F.args_enumerate_next_1 _))))
  show wpAny _ _ (field (.ref e) 2 >>= _) _ _ _; refine wpAny_bind (wpAny_field he rfl (x := .ref it) rfl ?_)
  refine wpAny_bind (RZ.nextOf_tuple_end hh hit hl hx fun h' x q1 q2 => ?_); obtain ⟨o, ho, hc⟩ := q2
  exact wpAny_bind (wpAny_isInstance (T := "StopIteration") (b := true) ⟨o, ho, hc⟩ isSubtype_stop (wpAny_pure (k _ q1)))
end
/-- the tuple's items, each in a new pair -/
def ItT (K : PySem.W.Frag) (a : Addr) : It :=
  ⟨fun i H => ∃ (xs : List V) (x : V), SqT K H a xs ∧ xs[i]? = some x, fun i H v H' => ∃ p x, v = .ref p ∧ H p = none ∧ H' = upd H p (.tup [.int (i : Nat), x]) ∧ ∀ xs, SqT K H a xs → xs[i]? = some x, fun i H => ∃ xs : List V, SqT K H a xs ∧ xs.length ≤ i⟩
theorem turn_tup {P : Program} {w : World} {K : PySem.W.Frag} {elts : List Expr} {kk : Nat} {tpos : Pos} (a e it : Addr) :
    Turn P w K (.Tuple elts kk tpos) (ItT K a) [e, it] e (fun i h => (∃ old, IsEnum h e it ((i : Nat) : Int) old) ∧ h.IsTupleIter it a i ∧ e ≠ it) where
  mem := List.mem_cons_self
  obj := fun i h st b hb => by
    obtain ⟨⟨old, he⟩, ⟨o, ho, hc, hd⟩, _⟩ := st
    rcases List.mem_cons.mp hb with z | z
    · exact z ▸ ⟨_, he, fun v q => nomatch q⟩
    · exact List.mem_singleton.mp z ▸ ⟨o, ho, fun v q => by rw [hd] at q; cases q⟩
  keep := fun i h h' st k => ⟨st.1.imp fun _ q => k e List.mem_cons_self _ q, st.2.1.at fun o q => k it (List.mem_cons_of_mem _ List.mem_cons_self) o q, st.2.2⟩
  item := by
    intro X hP hw hK hc i pins s σ H E I hf st hg
    cases hP; cases hw; cases hK
    obtain ⟨⟨old, he⟩, hit, hne⟩ := st
    obtain ⟨xs, x, hq, hx⟩ := hg
    obtain ⟨us, rv, p, hz⟩ := I.tuple hq
    obtain ⟨u, hu, ru⟩ := rv.get hx
    have l1 : e < s.heap.objs.size := Heap.lt_size he
    have l2 : it < s.heap.objs.size := hit.elim fun _ q => Heap.lt_size q.1
    refine pyNext_item he hit p (x := u) (by simpa using hu) hne fun h' ho i' hT hs hk => ⟨_, rfl, wpAny_letOwnedTupleGo_enum (s := { s with heap := h', toks := s.toks + 1 }) ho fun h2 e2 sb => ?_⟩
    have t2 : h2.get? s.heap.objs.size = some { cls := .type "tuple", data := .seq #[.int i s.toks, u] } := (sb.2 _ (Nat.ne_of_gt l1)).trans hT
    have nw : ObjOk X.prog X.w (upd H s.heap.objs.size (.tup [.int (i : Nat), x])) h2 s.heap.objs.size (.tup [.int (i : Nat), x]) := ⟨by show 2 ≤ sizeLine; decide, [.int i s.toks, u], .cons ⟨_, rfl⟩ (.cons ru .nil), ⟨_, t2, rfl, _, rfl⟩⟩
    have I1 : Inv X pins σ (upd H s.heap.objs.size (.tup [.int (i : Nat), x])) { s with heap := h2, toks := s.toks + 1 } :=
      I.turnedNew (ch := [e, it]) (fun b o hb q => (sb.2 b (fun z => hb (by simp [z]))).trans (hk b o (fun z => hb (by simp [z])) (fun z => hb (by simp [z])) q)) hf (Nat.le_refl _) nw
    refine ⟨.ref s.heap.objs.size, _, I1, rfl, ⟨_, x, rfl, I.hok.fresh (Nat.le_refl _), rfl, fun ys hy => by rw [I.tuple_inj hy hq]; exact hx⟩, ⟨⟨u, ?_⟩, i'.at fun o q => (sb.2 it (Ne.symm hne)).trans q, hne⟩, fun b hb => ?_⟩
    · rw [show ((i + 1 : Nat) : Int) = (i : Int) + 1 by omega]; exact e2
    · rw [upd_ne (Nat.ne_of_lt ((List.mem_cons.mp hb).elim (fun z => z ▸ l1) fun z => List.mem_singleton.mp z ▸ l2))]
      exact (hf b hb).1
  done := by
    intro X hP hw hK hc i pins s σ H E I hf st hg
    cases hP; cases hw; cases hK
    obtain ⟨⟨old, he⟩, hit, hne⟩ := st
    obtain ⟨xs, hq, hx⟩ := hg
    obtain ⟨us, rv, p, hz⟩ := I.tuple hq
    obtain ⟨f0, f1, f2, f3, f4, f5⟩ := hf it (List.mem_cons_of_mem _ List.mem_cons_self)
    have ll := rv.length
    exact pyNext_end (I.ok.hd hc) he hit p (by simp; omega) fun h' eb => ⟨rfl, I.turned (t' := s.toks) (fun b o hb q => eb b o hb q) f0 f1 f3 f4 f5⟩
  self := fun A i s Q E st h => wpAny_pyIter_enum st.1.choose_spec h
def iEnumA (K : PySem.W.Frag) (ta : TA) : TI := fun σ H R => ta σ H fun vs H1 => ∃ a, vs = [.ref a] ∧ ((∃ xs, SqL K H1 a xs ∧ R (Ite K a) H1) ∨ ∃ xs, SqT K H1 a xs ∧ R (ItT K a) H1)
theorem pi_enumA {X : Cx} {e : Expr} {ta : TA} {p pos tpos : Pos} {elts : List Expr} {kk : Nat} (hg : Gl X "enumerate") (hm : X.mg "enumerate" = none) (ha : PA X [e] ta) (hs : starEach [e] X.env = [(false, eval e X.env)] := by rfl) :
    PI X (.Tuple elts kk tpos) (.Call (.Name "enumerate" p) [e] [] pos) (iEnumA X.K ta) := by
  refine ⟨fun pins s σ H R I h => Call_ (ld_blt I hg hm boot_enumerate (PyProof.Rows.callWith_type1 (thn (ha.run pos pins s σ H _ I h) fun us s1 ⟨vs, H1, I1, r1, q1⟩ => ?_) hs rfl))⟩
  obtain ⟨a, ex, q1⟩ := q1
  cases ex
  cases r1 with
  | cons r rr =>
    cases rr; cases r
    have fp : ∀ b ∈ [s1.heap.objs.size + 1, s1.heap.objs.size], FpOk X pins H1 b := fun b hb => by
      have le : s1.heap.objs.size ≤ b := (List.mem_cons.mp hb).elim (fun z => z ▸ Nat.le_succ _) fun z => List.mem_singleton.mp z ▸ Nat.le_refl _
      exact I1.fpOk le (I1.hok.fresh le)
    rcases q1 with ⟨xs, hq, q⟩ | ⟨xs, hq, q⟩
    · obtain ⟨us, rv, pl, hz⟩ := I1.list hq
      exact call_enumerate_list pl.isList fun h' he hit hsz hk => wpAny_pyIter_enum he ⟨s1.heap.objs.size + 1, [s1.heap.objs.size + 1, s1.heap.objs.size], _, _, H1, rfl, I1.kept (t' := s1.toks) hk, turn_enum a (s1.heap.objs.size + 1) s1.heap.objs.size, ⟨⟨.none, he⟩, hit, Nat.succ_ne_self _⟩, fp, q⟩
    · obtain ⟨us, rv, pl, hz⟩ := I1.tuple hq
      exact call_enum_tup pl fun h' he hit hk => wpAny_pyIter_enum he ⟨s1.heap.objs.size + 1, [s1.heap.objs.size + 1, s1.heap.objs.size], _, _, H1, rfl, I1.kept (t' := s1.toks) hk, turn_tup a (s1.heap.objs.size + 1) s1.heap.objs.size, ⟨⟨.none, he⟩, hit, Nat.succ_ne_self _⟩, fp, q⟩
end FxE
namespace Fx
open PySem PySem.Spec PyProof.Rows L2
def enumT : Nat → List T → List T
  | _, [] => []
  | n, t :: ts => .wt [.int (n : Int), t] :: enumT (n + 1) ts
theorem enumT_length : ∀ (n : Nat) (ts : List T), (enumT n ts).length = ts.length
  | _, [] => rfl
  | n, _ :: ts => congrArg (· + 1) (enumT_length (n + 1) ts)
theorem enumT_at : ∀ {n : Nat} {ts : List T} {i : Nat} {t : T}, (enumT n ts)[i]? = some t → ∃ x, ts[i]? = some x ∧ t = .wt [.int ((n + i : Nat) : Int), x]
  | _, [], _, _, h => by simp [enumT] at h
  | n, x :: ts, 0, t, h => ⟨x, rfl, (Option.some.inj (show some (T.wt [.int (n : Int), x]) = some t from h)).symm⟩
  | n, x :: ts, i + 1, t, h => by
    obtain ⟨y, h1, h2⟩ := enumT_at (n := n + 1) (ts := ts) (i := i) (t := t) (by simpa [enumT] using h)
    exact ⟨y, by simpa using h1, by rw [h2, show n + 1 + i = n + (i + 1) by omega]⟩
def fEnum (ts : List T) (S : Sto) : R Its := match ts with
  | [.tup xs] => .ok ⟨enumT 0 xs, []⟩ S
  | [x] => match lstOf S x with
    | some xs => .ok ⟨enumT 0 xs, srcOf S x⟩ S
    | none => .bad
  | _ => .bad
section
variable {X : Cx} {E : XK}
theorem i_enum {es : List Expr} {kk : Nat} {tpos : Pos} {e : Expr} {ms : Env → Sto → R (List T)} {p pos : Pos} (hg : Gl X "enumerate") (hm : X.mg "enumerate" = none) (ha : PA X [e] (tA X.K E ms)) (hs : starEach [e] X.env = [(false, eval e X.env)] := by rfl) :
    PI X (.Tuple es kk tpos) (.Call (.Name "enumerate" p) [e] [] pos) (tI X.K E (mItN fEnum ms)) :=
  PI.of (FxE.pi_enumA hg hm ha hs) fun σ H R ⟨ρ, τ, S, s, en, q⟩ => ⟨ρ, τ, S, s, en, q.step fun ρ1 H1 ts S1 e1 s1 h1 vs rs => by
    unfold fEnum at h1
    split at h1
    · rename_i xs
      obtain ⟨v, rfl, rv⟩ := rs.one
      obtain ⟨a, us, rfl, fa, ra⟩ := rep_tup rv
      refine ⟨a, rfl, .inr ⟨us, fa.sq, h1.ok s1 _ fun ρ2 H2 S2 e2 s2 _ => ?_⟩⟩
      have r1 := ra.extw e2
      have q1 := (fa.extw e2).sq
      refine ⟨⟨us, q1, ?_⟩, fun i t ht => ?_⟩
      · show us.length ≤ (enumT 0 xs).length
        rw [enumT_length, r1.length]
        exact Nat.le_refl _
      · obtain ⟨x, hx, rfl⟩ := enumT_at ht
        obtain ⟨x', hx', rx⟩ := r1.get hx
        refine ⟨⟨us, x', q1, hx'⟩, fun v H3 q => ?_⟩
        obtain ⟨p, x2, rfl, n, rfl, z⟩ := q
        have z := z us q1
        rw [hx'] at z
        cases z
        rw [Nat.zero_add]
        exact pair_new s2 n (.int _) rx
    · rename_i x _
      split at h1
      · rename_i xs hx
        obtain ⟨v, rfl, rv⟩ := rs.one
        obtain ⟨a, rfl, us0, a0, _, ka⟩ := keep_l (src := srcOf S1 x) s1 rv hx (srcOf_mem hx)
        refine ⟨a, rfl, .inl ⟨us0, a0, h1.ok s1 _ fun ρ2 H2 S2 e2 s2 c2 => ?_⟩⟩
        obtain ⟨us, q1, r1⟩ := ka ρ2 H2 S2 e2 s2 c2
        refine ⟨⟨us, q1, ?_⟩, fun i t ht => ?_⟩
        · show us.length ≤ (enumT 0 xs).length
          rw [enumT_length, r1.length]
          exact Nat.le_refl _
        · obtain ⟨x, hx, rfl⟩ := enumT_at ht
          obtain ⟨x', hx', rx⟩ := r1.get hx
          refine ⟨⟨us, x', q1, hx'⟩, fun v H3 q => ?_⟩
          obtain ⟨p, x2, rfl, n, rfl, z⟩ := q
          have z := z us q1
          rw [hx'] at z
          cases z
          rw [Nat.zero_add]
          exact pair_new s2 n (.int _) rx
      · exact h1.elim
    · exact h1.elim⟩
def truT (S : Sto) : T → Option Bool
  | .non => some false
  | .bl b => some b
  | .int i => some (i != 0)
  | .str z => if z.length ≤ 1000000 then some ((z.length : Int) != 0) else none
  | .tup ts => some (!ts.isEmpty)
  | t => (lstOf S t).map fun ts => !ts.isEmpty
def fTru (t : T) (S : Sto) : R Bool := match truT S t with
  | some b => .ok b S
  | none => .bad
def mTru (m : Env → Sto → R T) : Env → Sto → R Bool := fun τ S => (m τ S).bind fTru
theorem reps_empty {K : PySem.W.Frag} {ρ : Wd} {H : Hp} {xs : List V} {ts : List T} (r : Reps K ρ H xs ts) : xs.isEmpty = ts.isEmpty := by cases r <;> rfl
theorem tru_of {ρ : Wd} {H : Hp} {S : Sto} {v : V} {t : T} {b : Bool} (s : Sta X.K ρ H S) (r : Rep X.K ρ H v t) (h : truT S t = some b) : TruV X.K v H b := by
  cases t with
  | non => cases h; rw [rep_non r]; rfl
  | bl k => cases h; rw [rep_bl r]; rfl
  | int i => cases h; rw [rep_int r]; rfl
  | str z =>
    rw [rep_str r]
    have h : (if z.length ≤ 1000000 then some ((z.length : Int) != 0) else none) = some b := h
    split at h
    · rename_i hl
      cases h
      exact ⟨sz6 hl, rfl⟩
    · cases h
  | tup ts =>
    cases h
    obtain ⟨a, xs, rfl, fa, ra⟩ := rep_tup r
    exact .inr (.inl ⟨xs, fa.sq, by rw [reps_empty ra]⟩)
  | lst ts =>
    cases h
    obtain ⟨a, xs, rfl, hx, rx⟩ := lstOf_at s r (ts := ts) rfl
    exact .inl ⟨xs, hx, by rw [reps_empty rx]⟩
  | kst ts =>
    cases h
    obtain ⟨a, xs, rfl, hx, rx⟩ := lstOf_at s r (ts := ts) rfl
    exact .inl ⟨xs, hx, by rw [reps_empty rx]⟩
  | ref k =>
    obtain ⟨ts, ht, h⟩ := Option.map_eq_some_iff.mp (show (lstOf S (.ref k)).map (fun ts => !ts.isEmpty) = some b from h)
    cases h
    obtain ⟨a, xs, rfl, hx, rx⟩ := lstOf_at s r ht
    exact .inl ⟨xs, hx, by rw [reps_empty rx]⟩
  | _ => cases h
theorem t_tru {a : Expr} {m : Env → Sto → R T} (ha : PE X a (tM X.K E m)) (he : ∀ whole, isTrue a X.env whole = (do let v ← whole; standAt a.pos; holding [v] (truthy v)) := by intro _; rfl) : PT X a (tB X.K E (mTru m)) :=
  PT.of (pt_truth ha he) fun σ H Q ⟨ρ, τ, S, s, en, q⟩ => ⟨ρ, τ, S, s, en, q.step fun ρ1 H1 t S1 e1 s1 h1 v rv => by
    unfold fTru at h1
    split at h1
    · rename_i b hb
      exact ⟨b, tru_of s1 rv hb, h1.ok s1⟩
    · exact h1.elim⟩
theorem ts_nil : PTs X [] (tB X.K E mTrue) := ⟨fun pins s σ H Q I ⟨ρ, τ, S, st, en, q⟩ => (pts_nil (X := X)).run pins s σ H Q I (q.ok st)⟩
theorem ts_one {c : Expr} {m : Env → Sto → R Bool} (h : PT X c (tB X.K E m)) : PTs X [c] (tB X.K E m) := pts_one h
end
def spLaw (K : PySem.W.Frag) : Sp := fun vs H Q _ => ∃ (a : Addr) (ns : List Int), vs = [.ref a] ∧ SqL K H a (ns.map V.int) ∧ ns.length ≤ 63 ∧ ∀ H', Q (.bl true) H'
theorem reps_ints {K : PySem.W.Frag} {ρ : Wd} {H : Hp} : ∀ ys : List Int, Reps K ρ H (ys.map V.int) (ys.map T.int)
  | [] => .nil
  | y :: ys => .cons (.int y) (reps_ints ys)
theorem law_ok {P : Program} {w : World} {K : PySem.W.Frag} {mg : Str → Option Value} {base : Heap} {k : Nat} {f : Addr} {fd : FuncData} {ps : List Str} {F : List T → Sto → R T} (hps : ps.length = 1) (G : FnOk P w K mg base CX0 k f fd ps (spM K 1 F))
    (h : ∀ ns : List Int, ns.length ≤ 63 → ∃ S, F [.kst (ns.map T.int)] [] = .ok (.bl true) S) : FnOk P w K mg base CX0 k f fd ps (spLaw K) :=
  G.imp fun vs H Q E ⟨a, ns, e, hS, hl, q⟩ => by
    obtain ⟨S, hF⟩ := h ns hl
    subst e
    refine ⟨⟨[], []⟩, [], [.kst (ns.map T.int)], rfl, ⟨rfl, List.nodup_nil, (fun _ h => nomatch h), fun _ _ _ h => nomatch h⟩, .cons (.kst ?_ (reps_ints ns)) .nil, ?_⟩
    · rcases hS with hS | hS
      · exact .inl ⟨hS, fun h => nomatch h⟩
      · exact .inr (.inr hS)
    · rw [hF]
      intro ρ' H' _ _ v rv
      rw [rep_bl rv]
      exact q H'
end Fx
namespace Fx
open PySem PySem.Spec PyProof.Rows L2
def strV (z : Str) : List V := z.cps.toList.map fun c => V.str ⟨#[c]⟩
theorem reps_signs {K : PySem.W.Frag} {ρ : Wd} {H : Hp} {z : Str} : Reps K ρ H (strV z) (strT z) := by
  unfold strV strT
  induction z.cps.toList with
  | nil => exact .nil
  | cons c cs ih => exact .cons (.str _) ih
def rListStr : List V → Hp → VK → Prop := fun xs H Q => ∃ z, xs = [.str z] ∧ z.length ≤ sizeLine ∧ ∀ l, H l = none → Q (.ref l) (upd H l (.lst (strV z)))
section
variable {X : Cx} {E : XK}
theorem o_listStr (hc : X.calm = true) : CallR X (.type "list") rListStr := by
  intro pins s σ H xs us Q I r ⟨z, e, hz, q⟩
  subst e
  cases r with
  | cons r rr =>
    cases rr
    obtain ⟨t, rfl⟩ := r
    refine call_list_str (I.ok.hd hc) z t (hn := hz) fun h' tk acc n k e it => ⟨.ref s.heap.objs.size, _, I.laid (t' := tk) k (Nat.le_refl _) ?_, rfl, q _ (I.hok.fresh (Nat.le_refl _))⟩
    have hl : acc.toList.length = z.cps.size := by rw [Array.length_toList]; exact it.1
    refine ⟨by unfold strV; rw [List.length_map, Array.length_toList]; exact hz, acc.toList, n, ?_, by simpa using e⟩
    refine vals_of_at (by unfold strV; rw [List.length_map, Array.length_toList, hl]) fun j x u hx hu => ?_
    obtain ⟨c, u', hc', rfl⟩ := it.2 j u (by simpa using hu)
    have hx : (z.cps.toList.map fun c => V.str ⟨#[c]⟩)[j]? = some x := hx
    rw [List.getElem?_map] at hx
    obtain ⟨c2, h2, rfl⟩ := Option.map_eq_some_iff.mp hx
    have : c2 = c := by
      rw [← Array.getElem?_toList] at hc'
      rw [h2] at hc'
      exact Option.some.inj hc'
    rw [this]
    exact ⟨_, rfl⟩
def fListA (fz : Bool) (xs : List T) (S : Sto) : R T := match xs with
  | [.str z] => if z.length ≤ 100000 then newL fz (strT z) S else .bad
  | [x] => match seqOf S x with
    | some ts => newL fz ts S
    | none => .bad
  | _ => .bad
def rListB (K : PySem.W.Frag) : List V → Hp → VK → Prop := rN1 (rListA K) rListStr
theorem o_listA (hc : X.calm = true) : CallR X (.type "list") (rListB X.K) := o_list.or (o_listStr hc)
theorem f_listA (fz : Bool) : OpN X.K E (rListB X.K) (fListA fz) := by
  intro ρ H S vs ts Q s rs h
  unfold fListA at h
  split at h
  · rename_i z
    obtain ⟨y, rfl, r⟩ := rs.one
    split at h
    · rename_i hl
      rw [rep_str r]
      exact .inr ⟨z, rfl, sz5 hl, fun l hl => new_lst s reps_signs h l hl⟩
    · exact h.elim
  · obtain ⟨y, rfl, r⟩ := rs.one
    split at h
    · rename_i us hs
      obtain ⟨a, xs, rfl, hx, rx⟩ := seqOf_at s r hs
      exact .inl ⟨a, xs, rfl, hx, fun l hl => new_lst s rx h l hl⟩
    · exact h.elim
  · exact h.elim
def mLstRg (fz : Bool) (m : Env → Sto → R T) : Env → Sto → R T := fun τ S => (m τ S).bind fun x S1 => match x with
  | .int n => if (decide (-(2 ^ 62) ≤ n) && decide (n ≤ 100000)) = true then newL fz (rangeT 0 n.toNat) S1 else .bad
  | _ => .bad
theorem reps_range {K : PySem.W.Frag} {ρ : Wd} {H : Hp} {n : Int} : Reps K ρ H (rgV 0 n) (rangeT 0 n.toNat) := by
  unfold rgV rangeT
  rw [Int.sub_zero]
  induction List.range n.toNat with
  | nil => exact .nil
  | cons c cs ih => exact .cons (.int _) ih
theorem x_listRg (fz : Bool) {e : Expr} {m : Env → Sto → R T} {p p2 pos pos2 : Pos} (hc : X.calm = true) (hg : Gl X "list") (hm : X.mg "list" = none) (hg2 : Gl X "range") (hm2 : X.mg "range" = none) (he : PE X e (tM X.K E m)) (na : starEach [.Call (.Name "range" p2) [e] [] pos2] X.env = (false, eval (.Call (.Name "range" p2) [e] [] pos2) X.env) :: starEach [] X.env := by rfl) (na2 : starEach [e] X.env = (false, eval e X.env) :: starEach [] X.env := by rfl) :
    PE X (.Call (.Name "list" p) [.Call (.Name "range" p2) [e] [] pos2] [] pos) (tM X.K E (mLstRg fz m)) :=
  PE.of (pe_listRg hc hg hm (prg_1 hg2 hm2 he na2) na) fun σ H Q ⟨ρ, τ, S, s, en, q⟩ => ⟨ρ, τ, S, s, en, q.step fun ρ1 H1 t S1 e1 s1 h1 v rv => by
    cases t with
    | int n =>
      have h1 : Post X.K E ρ1 H1 (if (decide (-(2 ^ 62) ≤ n) && decide (n ≤ 100000)) = true then newL fz (rangeT 0 n.toNat) S1 else .bad) (QE X.K Q) := h1
      split at h1
      · rename_i hb
        rw [Bool.and_eq_true, decide_eq_true_eq, decide_eq_true_eq] at hb
        exact ⟨n, rep_int rv, ⟨by omega, by omega, by omega, by omega, by omega⟩, fun q hq => new_lst s1 reps_range h1 q hq⟩
      · exact h1.elim
    | _ => exact h1.elim⟩
def fAddA (fz : Bool) (x y : T) (S : Sto) : R T := match x, y with
  | .int i, .int j => .ok (.int (i + j)) S
  | .str a, .str b => if a.length + b.length ≤ 1000000 then .ok (.str (a ++ b)) S else .bad
  | .tup xs, .tup ys => if xs.length + ys.length ≤ 100000 then .ok (.tup (xs ++ ys)) S else .bad
  | x, y => fCat fz x y S
def rAddB (K : PySem.W.Frag) : R2 := rOr (rAddA K) rCat
theorem o_addA : OpR X (binaryOp .Add) (rAddB X.K) := o_add.or op_cat
theorem f_addA (fz : Bool) : Op2 X.K E (rAddB X.K) (fAddA fz) := by
  intro ρ H S v w x y Q s rv rw' h
  unfold fAddA at h
  split at h
  · exact .inl (f_add (E := E) ρ H S v w _ _ Q s rv rw' h)
  · exact .inl (f_add (E := E) ρ H S v w _ _ Q s rv rw' h)
  · exact .inl (f_add (E := E) ρ H S v w _ _ Q s rv rw' h)
  · exact .inr (f_cat fz (E := E) ρ H S v w _ _ Q s rv rw' h)
def fSlA (fz : Bool) (x : T) (lo hi : Option Int) (S : Sto) : R T := match x with
  | .tup ts => .ok (.tup (cutT ts lo hi)) S
  | .str z => if z.length ≤ 1000000 then .ok (.str (Txt.slice z lo hi)) S else .bad
  | x => fSlL fz x lo hi S
def rSlB (K : PySem.W.Frag) : V → Option Int → Option Int → Hp → VK → Prop := sOr (rSlTX K) (rSlL K)
theorem o_slA : SlR X (rSlB X.K) := L2.SlR.or o_sl sl_list
theorem f_slA (fz : Bool) : OpS X.K E (rSlB X.K) (fSlA fz) := by
  intro ρ H S v x lo hi Q s rv h
  unfold fSlA at h
  split at h
  · exact .inl (f_sl (E := E) ρ H S v _ lo hi Q s rv h)
  · exact .inl (f_sl (E := E) ρ H S v _ lo hi Q s rv h)
  · exact .inr (f_slL fz (E := E) ρ H S v _ lo hi Q s rv h)
theorem s_setLc (fz : Bool) {i : Nat} {y : Str} {py : Pos} {elt tg iter : Expr} {ifs : List Expr} {scope : Scope} {own : List (Str × Nat)} {pos spos : Pos} {m : Env → Sto → R Its} {p : Pat} {c : Env → Sto → R Bool} {b : Env → Sto → R T} (hc : X.calm = true) (hN : X.N.Nodup) (hy : X.N[i]? = some y) (hyl : X.env.scope.names.lookup y = some .local)
    (hsw : swapsWith (.ListComp elt [⟨tg, iter, ifs, 0⟩] scope pos) (some (.Name y py)) spos.line X.env = pure true) (hi : PI X tg iter (tI X.K E m)) (ok : BlkOk X.N X.env.scope scope own)
    (hsl : p.slots.all (fun j => (own.map (·.2)).contains j) = true)
    (hg : ∀ (s : Shared) (H : Hp) (C : Addr) (cl : List (Str × Addr)) (fp : List Addr), PG (X.blk s H scope (compEnvC scope cl C X.env) fp) tg (tG X.K p)) (ht : ∀ (s : Shared) (H : Hp) (C : Addr) (cl : List (Str × Addr)) (fp : List Addr), PTs (X.blk s H scope (compEnvC scope cl C X.env) fp) ifs (tB X.K E0 c))
    (he : ∀ (s : Shared) (H : Hp) (C : Addr) (cl : List (Str × Addr)) (fp : List Addr), PE (X.blk s H scope (compEnvC scope cl C X.env) fp) elt (tM X.K E0 b)) (hs : ∀ x, foldedSetIterable iter X.env x = pure x := by intro _; rfl) :
    PS X (.Assign [.Name y py] (.ListComp elt [⟨tg, iter, ifs, 0⟩] scope pos) spos) (tS X.K E (sSet i (mLc fz (own.map (·.2)) m p c b))) :=
  PS.of (ps_setLc hc hN hy hyl hsw hi ok hg ht he hs) fun D σ H ⟨ρ, τ, S, s, e, h⟩ => ⟨ρ, τ, S, s, e, by
    have h : Post X.K E ρ H ((mLc fz (own.map (·.2)) m p c b τ S).bind fun x S1 => R.ok (Fl.nx (τ.set i (some x))) S1) (QS X.K D) := h
    have h : Post X.K E ρ H (((m τ S).bind fun it S1 => (mLcGo it p c b (wipeT τ (own.map (·.2))) it.ts [] S1).bind fun acc S2 => newL fz acc S2).bind fun x S1 => R.ok (Fl.nx (τ.set i (some x))) S1) (QS X.K D) := h
    rw [R.bind_assoc] at h
    exact h.step fun ρ1 H1 it S1 e1 s1 h1 J wm D' hD => lc_fn (E := E) (fz := fz) own hsl hD s1 (e.ext e1) (Q := fun x H => D.nx (σ.set i (some x)) H) (h1.step fun ρ2 H2 x S2 e2 s2 q v rv => q.ok s2 _ (((e.ext e1).ext e2).set i rv)) wm⟩
def mStar (a : Env → Sto → R T) (b : Env → Sto → R (List T)) : Env → Sto → R (List T) := fun τ S => (a τ S).bind fun x S1 => match seqOf S1 x with
  | some xs => (b τ S1).bind fun ys S2 => .ok (xs ++ ys) S2
  | none => .bad
theorem a_star {e : Expr} {p : Pos} {es : List Expr} {m : Env → Sto → R T} {ms : Env → Sto → R (List T)} (he : PE X e (tM X.K E m)) (hr : PA X es (tA X.K E ms)) (hs : starEach (.Starred e p :: es) X.env = (true, eval e X.env) :: starEach es X.env := by rfl) : PA X (.Starred e p :: es) (tA X.K E (mStar m ms)) :=
  PA.of (StX.pa_star he hr hs) fun σ H Q ⟨ρ, τ, S, s, en, q⟩ => ⟨ρ, τ, S, s, en, q.step fun ρ1 H1 t S1 e1 s1 h1 v rv => by
    split at h1
    · rename_i xs hx
      obtain ⟨a, vs, rfl, hv, rx⟩ := seqOf_at s1 rv hx
      exact ⟨a, vs, rfl, hv.symm, ρ1, τ, S1, s1, en.ext e1, h1.step fun ρ2 H2 ys S2 e2 s2 h2 ws rw' => h2.ok s2 _ ((rx.ext e2).append rw')⟩
    · exact h1.elim⟩
end
end Fx
namespace Fx
open PySem PySem.Spec PyProof.Rows L2
theorem bt_len : bootBuiltins "len" = some (.builtin "len") := by decide +kernel
theorem bt_abs : bootBuiltins "abs" = some (.builtin "abs") := by decide +kernel
theorem bt_max : bootBuiltins "max" = some (.builtin "max") := by decide +kernel
theorem bt_min : bootBuiltins "min" = some (.builtin "min") := by decide +kernel
theorem bt_isinstance : bootBuiltins "isinstance" = some (.builtin "isinstance") := by decide +kernel
theorem bt_int : bootBuiltins "int" = some (.type "int") := by decide +kernel
theorem bt_str : bootBuiltins "str" = some (.type "str") := by decide +kernel
theorem bt_bool : bootBuiltins "bool" = some (.type "bool") := by decide +kernel
theorem bt_tuple : bootBuiltins "tuple" = some (.type "tuple") := by decide +kernel
theorem bt_list : bootBuiltins "list" = some (.type "list") := by decide +kernel
theorem hu65 {k : Nat} {A : Around} (hr : Room k A) : A.units + 65 < cLine := by
  have := hr.un
  omega
theorem fn_bad {P : Program} {w : World} {K : PySem.W.Frag} {mg : Str → Option Value} {base : Heap} {k : Nat} {f : Addr} {fd : FuncData} {ps : List Str} {m : Nat} : FnOk P w K mg base CX0 k f fd ps (spM K m fun _ _ => .bad) :=
  ⟨fun vs H Q E ⟨_, _, _, _, _, _, h⟩ => h.elim, fun A outer s H args us vs Q E hr he hb hv ⟨_, _, _, _, _, _, h⟩ => h.elim⟩
end Fx
namespace Fx
open PySem PySem.Spec PyProof.Rows L2
section
variable {α β : Type} (τ : Fx.Env) (S : Sto)
@[simp] theorem ev_ok (a : α) (f : α → Sto → R β) : R.bind (.ok a S) f = f a S := id rfl
@[simp] theorem ev_noErr (a : α) : noErr (.ok a S) = .ok a S := id rfl
@[simp] theorem ev_C (t : T) : mC t τ S = .ok t S := id rfl
@[simp] theorem ev_V (i : Nat) : mVar i τ S = match τ[i]? with
  | some (some t) => .ok t S
  | _ => .bad := id rfl
@[simp] theorem ev_bin (f a b) : mBin f a b τ S = (a τ S).bind fun x S1 => (b τ S1).bind fun y S2 => f x y S2 := id rfl
@[simp] theorem ev_un (f a) : mUn f a τ S = (a τ S).bind fun x S1 => f x S1 := id rfl
@[simp] theorem ev_nil : mNil τ S = .ok [] S := id rfl
@[simp] theorem ev_cons (a b) : mCons a b τ S = (a τ S).bind fun x S1 => (b τ S1).bind fun y S2 => .ok (x :: y) S2 := id rfl
@[simp] theorem ev_fn (f a) : mFn f a τ S = (a τ S).bind f := id rfl
@[simp] theorem ev_ite (c a b) : mIte c a b τ S = (c τ S).bind fun k S1 => if k = true then a τ S1 else b τ S1 := id rfl
@[simp] theorem ev_tst (a) : mTst a τ S = (a τ S).bind toB := id rfl
@[simp] theorem ev_toB (b : Bool) : toB (.bl b) S = .ok b S := id rfl
@[simp] theorem ev_and (a b) : mAnd a b τ S = (a τ S).bind fun k S1 => if k = true then b τ S1 else .ok false S1 := id rfl
@[simp] theorem ev_or (a b) : mOr a b τ S = (a τ S).bind fun k S1 => if k = true then .ok true S1 else b τ S1 := id rfl
@[simp] theorem ev_not (a) : mNot a τ S = (a τ S).bind fun k S1 => .ok (!k) S1 := id rfl
@[simp] theorem ev_andV (a b) : mAndV a b τ S = (a τ S).bind fun x S1 => (toB x S1).bind fun k S2 => if k = true then b τ S2 else .ok (.bl false) S2 := id rfl
@[simp] theorem ev_orV (a b) : mOrV a b τ S = (a τ S).bind fun x S1 => (toB x S1).bind fun k S2 => if k = true then .ok (.bl true) S2 else b τ S2 := id rfl
@[simp] theorem ev_notV (a) : mNotV a τ S = (a τ S).bind fun x S1 => (toB x S1).bind fun k S2 => .ok (.bl (!k)) S2 := id rfl
@[simp] theorem ev_tup (a) : mTup a τ S = (a τ S).bind fun ts S1 => if ts.length ≤ 100000 then .ok (.tup ts) S1 else .bad := id rfl
@[simp] theorem ev_lst (fz a) : mLst fz a τ S = (a τ S).bind fun ts S1 => if ts.length ≤ 100000 then newL fz ts S1 else .bad := id rfl
@[simp] theorem ev_newT (ts) : newL true ts S = .ok (.lst ts) S := id rfl
@[simp] theorem ev_newF (ts) : newL false ts S = .ok (.ref S.length) (S ++ [.lst ts]) := id rfl
@[simp] theorem ev_meth (c f o a) : mMeth c f o a τ S = (o τ S).bind fun x S1 => if c x S1 = true then (a τ S1).bind fun ts S2 => f x ts S2 else .bad := id rfl
@[simp] theorem ev_tru (a) : mTru a τ S = (a τ S).bind fTru := id rfl
@[simp] theorem ev_true : mTrue τ S = .ok true S := id rfl
@[simp] theorem ev_it (a) : mIt a τ S = (a τ S).bind itOf := id rfl
@[simp] theorem ev_itN (f a) : mItN f a τ S = (a τ S).bind f := id rfl
@[simp] theorem ev_itOfT (ts : List T) : itOf (.tup ts) S = .ok ⟨ts, []⟩ S := id rfl
@[simp] theorem ev_itOfL (ts : List T) : itOf (.lst ts) S = .ok ⟨ts, []⟩ S := id rfl
@[simp] theorem ev_itOfK (ts : List T) : itOf (.kst ts) S = .ok ⟨ts, []⟩ S := id rfl
@[simp] theorem ev_itOfS (z : Str) : itOf (.str z) S = .ok ⟨strT z, []⟩ S := id rfl
@[simp] theorem ev_lstOfL (ts : List T) : lstOf S (.lst ts) = some ts := id rfl
@[simp] theorem ev_lstOfK (ts : List T) : lstOf S (.kst ts) = some ts := id rfl
@[simp] theorem ev_sl (f a l u) : mSl f a l u τ S = (a τ S).bind fun x S1 => (l τ S1).bind fun lo S2 => (u τ S2).bind fun hi S3 => f x lo hi S3 := id rfl
@[simp] theorem ev_O0 : mO0 τ S = .ok none S := id rfl
@[simp] theorem ev_O1 (a) : mO1 a τ S = (a τ S).bind fun x S1 => match x with
  | .int i => .ok (some i) S1
  | _ => .bad := id rfl
@[simp] theorem ev_lc (fz vs m p c b) : mLc fz vs m p c b τ S = (m τ S).bind fun it S1 => (mLcGo it p c b (wipeT τ vs) it.ts [] S1).bind fun acc S2 => newL fz acc S2 := id rfl
@[simp] theorem ev_lstRg (fz m) : mLstRg fz m τ S = (m τ S).bind fun x S1 => match x with
  | .int n => if (decide (-(2 ^ 62) ≤ n) && decide (n ≤ 100000)) = true then newL fz (rangeT 0 n.toNat) S1 else .bad
  | _ => .bad := id rfl
@[simp] theorem ev_next : sNext τ S = .ok (.nx τ) S := id rfl
@[simp] theorem ev_seq (a b) : sSeq a b τ S = (a τ S).bind fun f S1 => match f with
  | .nx τ1 => b τ1 S1
  | .rt t => .ok (.rt t) S1
  | .bk τ1 => .ok (.bk τ1) S1
  | .ct τ1 => .ok (.ct τ1) S1 := id rfl
@[simp] theorem ev_set (i a) : sSet i a τ S = (a τ S).bind fun x S1 => .ok (.nx (τ.set i (some x))) S1 := id rfl
@[simp] theorem ev_drop (a) : sDrop a τ S = (a τ S).bind fun _ S1 => .ok (.nx τ) S1 := id rfl
@[simp] theorem ev_ret (a) : sRet a τ S = (a τ S).bind fun x S1 => .ok (.rt x) S1 := id rfl
@[simp] theorem ev_retN : sRetN τ S = .ok (.rt .non) S := id rfl
@[simp] theorem ev_if (c a b) : sIf c a b τ S = (c τ S).bind fun k S1 => if k = true then a τ S1 else b τ S1 := id rfl
@[simp] theorem ev_for (m p b) : sFor m p b τ S = (m τ S).bind fun it S1 => sForGo it p b it.ts τ S1 := id rfl
@[simp] theorem ev_put (o i a) : sPut o i a τ S = (a τ S).bind fun t S1 => (o τ S1).bind fun x S2 => (i τ S2).bind fun y S3 => match x, y with
  | .ref k, .int n => match S3[k]? with
    | some (.lst us) => match ixN us.length n with
      | some j => .ok (.nx τ) (S3.set k (.lst (us.set j t)))
      | none => .bad
    | _ => .bad
  | _, _ => .bad := id rfl
@[simp] theorem ev_eqI (i j : Int) : fEq (.int i) (.int j) S = .ok (.bl (decide (i = j))) S := id rfl
@[simp] theorem ev_eqS (i j : Str) : fEq (.str i) (.str j) S = .ok (.bl (decide (i = j))) S := id rfl
@[simp] theorem ev_neI (i j : Int) : fNe (.int i) (.int j) S = .ok (.bl (!decide (i = j))) S := id rfl
@[simp] theorem ev_neS (i j : Str) : fNe (.str i) (.str j) S = .ok (.bl (!decide (i = j))) S := id rfl
@[simp] theorem ev_lt (i j : Int) : fLt (.int i) (.int j) S = .ok (.bl (decide (i < j))) S := id rfl
@[simp] theorem ev_le (i j : Int) : fLe (.int i) (.int j) S = .ok (.bl (decide (i ≤ j))) S := id rfl
@[simp] theorem ev_gt (i j : Int) : fGt (.int i) (.int j) S = .ok (.bl (decide (j < i))) S := id rfl
@[simp] theorem ev_ge (i j : Int) : fGe (.int i) (.int j) S = .ok (.bl (decide (j ≤ i))) S := id rfl
@[simp] theorem ev_sub (i j : Int) : fSub (.int i) (.int j) S = .ok (.int (i - j)) S := id rfl
@[simp] theorem ev_neg (i : Int) : fNeg (.int i) S = .ok (.int (-i)) S := id rfl
@[simp] theorem ev_addI (fz) (i j : Int) : fAddA fz (.int i) (.int j) S = .ok (.int (i + j)) S := id rfl
@[simp] theorem ev_addT (fz) (i j : List T) : fAddA fz (.tup i) (.tup j) S = if i.length + j.length ≤ 100000 then .ok (.tup (i ++ j)) S else .bad := id rfl
@[simp] theorem ev_addS (fz) (i j : Str) : fAddA fz (.str i) (.str j) S = if i.length + j.length ≤ 1000000 then .ok (.str (i ++ j)) S else .bad := id rfl
@[simp] theorem ev_addL (fz) (i j : List T) : fAddA fz (.lst i) (.lst j) S = if i.length + j.length ≤ 100000 then newL fz (i ++ j) S else .bad := id rfl
@[simp] theorem ev_int (i : Int) : fInt [.int i] S = .ok (.int i) S := id rfl
@[simp] theorem ev_abs (i : Int) : fAbs [.int i] S = .ok (.int i.natAbs) S := by
  show R.ok (T.int (if i < 0 then -i else i)) S = _
  congr 2
  split <;> omega
@[simp] theorem ev_max (i j : Int) : fMax2 [.int i, .int j] S = .ok (.int (max i j)) S := by
  show R.ok (T.int (if j > i then j else i)) S = _
  congr 2
  split <;> omega
@[simp] theorem ev_min (i j : Int) : fMin2 [.int i, .int j] S = .ok (.int (min i j)) S := by
  show R.ok (T.int (if j < i then j else i)) S = _
  congr 2
  split <;> omega
@[simp] theorem ev_lenT (ts : List T) : fLen [.tup ts] S = .ok (.int ts.length) S := id rfl
@[simp] theorem ev_lenL (ts : List T) : fLen [.lst ts] S = .ok (.int ts.length) S := id rfl
@[simp] theorem ev_lenK (ts : List T) : fLen [.kst ts] S = .ok (.int ts.length) S := id rfl
@[simp] theorem ev_lenS (z : Str) : fLen [.str z] S = if z.length ≤ 1000000 then .ok (.int z.length) S else .bad := id rfl
@[simp] theorem ev_lenR (k : Nat) : fLen [.ref k] S = match seqOf S (.ref k) with
    | some ts => .ok (.int ts.length) S
    | none => .bad := id rfl
@[simp] theorem ev_seqR (k : Nat) : seqOf S (.ref k) = match S[k]? with
    | some (.lst ts) => some ts
    | _ => none := id rfl
@[simp] theorem ev_lstR (k : Nat) : lstOf S (.ref k) = match S[k]? with
    | some (.lst ts) => some ts
    | _ => none := id rfl
@[simp] theorem ev_tupT (ts : List T) : fTuple [.tup ts] S = .ok (.tup ts) S := id rfl
@[simp] theorem ev_tupL (ts : List T) : fTuple [.lst ts] S = .ok (.tup ts) S := id rfl
@[simp] theorem ev_tupK (ts : List T) : fTuple [.kst ts] S = .ok (.tup ts) S := id rfl
@[simp] theorem ev_ixT (ts : List T) (i : Int) : fIx (.tup ts) (.int i) S = match L2.atI ts i with
        | some t => .ok t S
        | none => .bad := id rfl
@[simp] theorem ev_ixL (ts : List T) (i : Int) : fIx (.lst ts) (.int i) S = match L2.atI ts i with
        | some t => .ok t S
        | none => .bad := id rfl
@[simp] theorem ev_ixR (k : Nat) (i : Int) : fIx (.ref k) (.int i) S = match seqOf S (.ref k) with
      | some ts => match L2.atI ts i with
        | some t => .ok t S
        | none => .bad
      | none => .bad := id rfl
@[simp] theorem ev_mul {i j : Int} (h : -18446744073709551616 < j ∧ j < 18446744073709551616) : fMul (.int i) (.int j) S = .ok (.int (i * j)) S := by
  have c : cMul i j = true := by
    unfold cMul
    simp only [Bool.or_eq_true, Bool.and_eq_true, decide_eq_true_eq]
    exact .inr ⟨by omega, by omega⟩
  show (if cMul i j = true then R.ok (T.int (i * j)) S else .bad) = _
  rw [if_pos c]
@[simp] theorem ev_mod {i j : Int} (h : 0 < j) : fMod (.int i) (.int j) S = .ok (.int (i % j)) S := by
  unfold fMod fI2c
  simp [h]
@[simp] theorem ev_div {i j : Int} (h : 0 < j ∧ j < 1073741824) : fDiv (.int i) (.int j) S = .ok (.int (i / j)) S := by
  unfold fDiv fI2c
  simp [h.1, h.2]
@[simp] theorem ev_pow : fPow (.int 10) (.int 18) S = .ok (.int 1000000000000000000) S := id rfl
theorem atI_in (xs : List α) (i : Int) (h0 : 0 ≤ i) (h : i < xs.length) : L2.atI xs i = xs[i.toNat]? := by
  unfold L2.atI ixN
  rw [if_pos h0, if_pos h]
  rfl
theorem ixN_in (n : Nat) (i : Int) (h0 : 0 ≤ i) (h : i < n) : ixN n i = some i.toNat := by
  unfold ixN
  rw [if_pos h0, if_pos h]
@[simp] theorem atI_0 (x : α) (xs : List α) : L2.atI (x :: xs) 0 = some x := by rw [atI_in _ _ (by omega) (by simp)]; rfl
@[simp] theorem atI_1 (x y : α) (xs : List α) : L2.atI (x :: y :: xs) 1 = some y := by rw [atI_in _ _ (by omega) (by simp; omega)]; rfl
@[simp] theorem atI_2 (x y z : α) (xs : List α) : L2.atI (x :: y :: z :: xs) 2 = some z := by rw [atI_in _ _ (by omega) (by simp; omega)]; rfl
@[simp] theorem atI_3 (x y z u : α) (xs : List α) : L2.atI (x :: y :: z :: u :: xs) 3 = some u := by rw [atI_in _ _ (by omega) (by simp; omega)]; rfl
@[simp] theorem atI_4 (x y z u v : α) (xs : List α) : L2.atI (x :: y :: z :: u :: v :: xs) 4 = some v := by rw [atI_in _ _ (by omega) (by simp; omega)]; rfl
@[simp] theorem ixN_0 (n : Nat) : ixN (n + 1) 0 = some 0 := by rw [ixN_in _ _ (by omega) (by omega)]; rfl
@[simp] theorem ifP_true (a b : α) : ifP True a b = a := ifP_t trivial
@[simp] theorem ifP_false (a b : α) : ifP False a b = b := ifP_f id
end
section
variable (n : Nat)
@[simp] theorem cl_non : cl n .non = true := by unfold cl; rfl
@[simp] theorem cl_bl (b) : cl n (.bl b) = true := by unfold cl; rfl
@[simp] theorem cl_int (b) : cl n (.int b) = true := by unfold cl; rfl
@[simp] theorem cl_str (b) : cl n (.str b) = true := by unfold cl; rfl
@[simp] theorem cl_tup (b) : cl n (.tup b) = cls n b := by rw [cl]
@[simp] theorem cl_lst (b) : cl n (.lst b) = cls n b := by rw [cl]
@[simp] theorem cl_kst (b) : cl n (.kst b) = cls n b := by rw [cl]
@[simp] theorem cl_ref (b) : cl n (.ref b) = decide (b < n) := by rw [cl]
@[simp] theorem cls_nil : cls n [] = true := by rw [cls]
@[simp] theorem cls_cons (t ts) : cls n (t :: ts) = (cl n t && cls n ts) := by rw [cls]
@[simp] theorem clO_lst (b) : clO n (.lst b) = cls n b := rfl
theorem cls_all (ts : List T) (h : ∀ t ∈ ts, cl n t = true) : cls n ts = true := by
  induction ts with
  | nil => simp
  | cons t ts ih => simp [h t List.mem_cons_self, ih fun t m => h t (List.mem_cons_of_mem _ m)]
@[simp] theorem cls_ints (xs : List Int) : cls n (xs.map T.int) = true := cls_all n _ fun t m => by
  obtain ⟨i, _, rfl⟩ := List.mem_map.mp m
  simp
@[simp] theorem cls_strs (xs : List Str) : cls n (xs.map T.str) = true := cls_all n _ fun t m => by
  obtain ⟨i, _, rfl⟩ := List.mem_map.mp m
  simp
end
@[simp] theorem thaw_int (n fz i S) : thaw n fz (.int i) S = .int i := by unfold thaw; split <;> rfl
@[simp] theorem thaw_str (n fz i S) : thaw n fz (.str i) S = .str i := by unfold thaw; split <;> rfl
@[simp] theorem thaw_bl (n fz i S) : thaw n fz (.bl i) S = .bl i := by unfold thaw; split <;> rfl
@[simp] theorem thaw_non (n fz S) : thaw n fz .non S = .non := by unfold thaw; split <;> rfl
@[simp] theorem thaw_tup (n fz i S) : thaw n fz (.tup i) S = .tup i := by unfold thaw; split <;> rfl
@[simp] theorem thaw_lst (n fz i S) : thaw n fz (.lst i) S = .lst i := by unfold thaw; split <;> rfl
@[simp] theorem thaw_kst (n fz i S) : thaw n fz (.kst i) S = .kst i := by unfold thaw; split <;> rfl
def Ok {α : Type} (r : R α) (Q : α → Sto → Prop) : Prop := match r with
  | .ok a S => Q a S
  | _ => False
section
variable {α β : Type}
@[simp] theorem Ok_ok (a : α) (S : Sto) (Q : α → Sto → Prop) : Ok (.ok a S) Q = Q a S := id rfl
@[simp] theorem Ok_bad (Q : α → Sto → Prop) : Ok (.bad) Q = False := id rfl
theorem Ok_bind (r : R α) (f : α → Sto → R β) (Q : β → Sto → Prop) : Ok (r.bind f) Q = Ok r fun a S => Ok (f a S) Q := by cases r <;> rfl
theorem Ok_noErr (r : R α) (Q : α → Sto → Prop) : Ok (noErr r) Q = Ok r Q := by cases r <;> rfl
theorem Ok_if (c : Prop) [Decidable c] (a b : R α) (Q : α → Sto → Prop) : Ok (if c then a else b) Q = if c then Ok a Q else Ok b Q := by split <;> rfl
theorem Ok.mono {r : R α} {Q Q' : α → Sto → Prop} (h : Ok r Q) (i : ∀ a S, Q a S → Q' a S) : Ok r Q' := by
  cases r with
  | ok a S => exact i a S h
  | err x S => exact h
  | bad => exact h
theorem Ok.get {r : R α} {Q : α → Sto → Prop} (h : Ok r Q) : ∃ a S, r = .ok a S ∧ Q a S := by
  cases r with
  | ok a S => exact ⟨a, S, rfl, h⟩
  | err x S => exact h.elim
  | bad => exact h.elim
theorem Ok.of {r : R α} {Q : α → Sto → Prop} {a : α} {S : Sto} (e : r = .ok a S) (h : Q a S) : Ok r Q := by rw [e]; exact h
end
def endQ (Q : T → Sto → Prop) : Fl → Sto → Prop := fun f S => match f with
  | .nx _ => Q .non S
  | .rt t => Q t S
  | _ => False
theorem ok_run {N : Nat} {b : Env → Sto → R Fl} {ts : List T} {S : Sto} {Q : T → Sto → Prop} (h : Ok (b (ts.map some ++ List.replicate (N - ts.length) none) S) (endQ Q)) : Ok (runF N b ts S) Q := by
  unfold runF
  rw [Ok_bind, Ok_noErr]
  refine h.mono fun f S1 q => ?_
  cases f with
  | nx τ => exact q
  | rt t => exact q
  | bk τ => exact q
  | ct τ => exact q
theorem ok_frame0 {F : List T → Sto → R T} {ts : List T} {S : Sto} {Q : T → Sto → Prop} (hc : cls 0 ts = true) (h : Ok (F ts []) fun t S1 => cl 0 (thaw 0 true t S1) = true ∧ Q (thaw 0 true t S1) S) : Ok (frame 0 true F ts S) Q := by
  unfold frame
  rw [ifP_t ⟨Nat.zero_le _, hc, rfl⟩]
  obtain ⟨t, S1, e, q1, q2⟩ := h.get
  have e : F ts (S.take 0) = .ok t S1 := e
  rw [e]
  show Ok (ifP (0 ≤ S1.length ∧ (S1.take 0).all (clO 0) = true ∧ cl 0 (thaw 0 true t S1) = true) (.ok (thaw 0 true t S1) (S1.take 0 ++ S.drop 0)) .bad) Q
  rw [ifP_t ⟨Nat.zero_le _, rfl, q1⟩]
  exact q2
theorem ok_frame1 {F : List T → Sto → R T} {ts : List T} {o : O} {rest : Sto} {Q : T → Sto → Prop} (hc : cls 1 ts = true) (ho : clO 1 o = true) (h : Ok (F ts [o]) fun t S1 => ∃ o' g, S1 = o' :: g ∧ clO 1 o' = true ∧ cl 1 (thaw 1 true t S1) = true ∧ Q (thaw 1 true t S1) (o' :: rest)) : Ok (frame 1 true F ts (o :: rest)) Q := by
  unfold frame
  rw [ifP_t ⟨by simp, hc, by simpa using ho⟩]
  obtain ⟨t, S1, e, o', g, rfl, q0, q1, q2⟩ := h.get
  have e : F ts ((o :: rest).take 1) = .ok t (o' :: g) := e
  rw [e]
  show Ok (ifP (1 ≤ (o' :: g).length ∧ ((o' :: g).take 1).all (clO 1) = true ∧ cl 1 (thaw 1 true t (o' :: g)) = true) (.ok (thaw 1 true t (o' :: g)) ((o' :: g).take 1 ++ (o :: rest).drop 1)) .bad) Q
  rw [ifP_t ⟨by simp, by simpa using q0, q1⟩]
  exact q2
def forQ (I : Env → Sto → Prop) (Q : Fl → Sto → Prop) : Fl → Sto → Prop := fun f S => match f with
  | .nx τ => I τ S
  | .ct τ => I τ S
  | .bk τ => Q (.nx τ) S
  | .rt t => Q (.rt t) S
theorem ok_forGo {it : Its} {p : Pat} {b : Env → Sto → R Fl} {Q : Fl → Sto → Prop} (I : Nat → Env → Sto → Prop) (hchk : ∀ k τ S, I k τ S → it.chk S) : ∀ (ts : List T) (k : Nat) (τ : Env) (S : Sto),
    (∀ i t τ S, ts[i]? = some t → I (k + i) τ S → ∃ τ1, bindP p t τ = some τ1 ∧ Ok (b τ1 S) (forQ (I (k + i + 1)) Q)) → (∀ τ S, I (k + ts.length) τ S → Q (.nx τ) S) → I k τ S → Ok (sForGo it p b ts τ S) Q
  | [], k, τ, S, _, hq, h => by
    rw [sForGo, ifP_t (hchk _ _ _ h)]
    exact hq τ S h
  | t :: ts, k, τ, S, hs, hq, h => by
    obtain ⟨τ1, h1, h2⟩ := hs 0 t τ S rfl h
    rw [sForGo, ifP_t (hchk _ _ _ h), bound, h1]
    dsimp only
    rw [Ok_bind]
    have go : ∀ τ2 S2, I (k + 0 + 1) τ2 S2 → Ok (sForGo it p b ts τ2 S2) Q := fun τ2 S2 q => ok_forGo I hchk ts (k + 1) τ2 S2 (fun i t τ S e q => by
      have := hs (i + 1) t τ S (by simpa using e) (by rw [show k + (i + 1) = k + 1 + i by omega]; exact q)
      rw [show k + (i + 1) = k + 1 + i by omega] at this
      exact this) (fun τ S q => hq τ S (by rw [List.length_cons, show k + (ts.length + 1) = k + 1 + ts.length by omega]; exact q)) q
    refine h2.mono fun f S2 q => ?_
    cases f with
    | nx τ2 => exact go τ2 S2 q
    | ct τ2 => exact go τ2 S2 q
    | bk τ2 => exact q
    | rt t2 => exact q
/-- a for over what no one changes -/
theorem ok_for {ts : List T} {p : Pat} {b : Env → Sto → R Fl} {Q : Fl → Sto → Prop} {τ : Env} {S : Sto} (I : Nat → Env → Sto → Prop) (h0 : I 0 τ S)
    (hs : ∀ i t τ S, ts[i]? = some t → I i τ S → ∃ τ1, bindP p t τ = some τ1 ∧ Ok (b τ1 S) (forQ (I (i + 1)) Q)) (hq : ∀ τ S, I ts.length τ S → Q (.nx τ) S) : Ok (sForGo ⟨ts, []⟩ p b ts τ S) Q :=
  ok_forGo I (fun _ _ S _ => chk_nil ts S) ts 0 τ S (fun i t τ S e q => by rw [Nat.zero_add] at q ⊢; exact hs i t τ S e q) (fun τ S q => hq τ S (by rw [Nat.zero_add] at q; exact q)) h0
theorem ok_lcGo {it : Its} {p : Pat} {c : Env → Sto → R Bool} {b : Env → Sto → R T} {τ : Env} {Q : List T → Sto → Prop} (I : Nat → List T → Sto → Prop) (hchk : ∀ k acc S, I k acc S → it.chk S) : ∀ (ts : List T) (k : Nat) (acc : List T) (S : Sto),
    (∀ i t acc S, ts[i]? = some t → I (k + i) acc S → ∃ τ1, bindP p t τ = some τ1 ∧ Ok (c τ1 S) fun r S1 => if r = true then Ok (b τ1 S1) fun y S2 => acc.length < 100000 ∧ I (k + i + 1) (acc ++ [y]) S2 else I (k + i + 1) acc S1) →
    (∀ acc S, I (k + ts.length) acc S → Q acc S) → I k acc S → Ok (mLcGo it p c b τ ts acc S) Q
  | [], k, acc, S, _, hq, h => by
    rw [mLcGo, ifP_t (hchk _ _ _ h)]
    exact hq acc S h
  | t :: ts, k, acc, S, hs, hq, h => by
    obtain ⟨τ1, h1, h2⟩ := hs 0 t acc S rfl h
    rw [mLcGo, ifP_t (hchk _ _ _ h), bound, h1]
    dsimp only
    rw [Ok_bind, Ok_noErr]
    have go : ∀ acc2 S2, I (k + 0 + 1) acc2 S2 → Ok (mLcGo it p c b τ ts acc2 S2) Q := fun acc2 S2 q => ok_lcGo I hchk ts (k + 1) acc2 S2 (fun i t acc S e q => by
      have := hs (i + 1) t acc S (by simpa using e) (by rw [show k + (i + 1) = k + 1 + i by omega]; exact q)
      rw [show k + (i + 1) = k + 1 + i by omega] at this
      exact this) (fun acc S q => hq acc S (by rw [List.length_cons, show k + (ts.length + 1) = k + 1 + ts.length by omega]; exact q)) q
    refine h2.mono fun r S2 q => ?_
    cases r with
    | false =>
      rw [if_neg Bool.false_ne_true] at q ⊢
      exact go acc S2 q
    | true =>
      rw [if_pos rfl] at q ⊢
      rw [Ok_bind, Ok_noErr]
      refine q.mono fun y S3 q3 => ?_
      rw [if_pos q3.1]
      exact go _ S3 q3.2
theorem ok_lc {ts : List T} {p : Pat} {c : Env → Sto → R Bool} {b : Env → Sto → R T} {τ : Env} {S : Sto} {Q : List T → Sto → Prop} (I : Nat → List T → Sto → Prop) (h0 : I 0 [] S)
    (hs : ∀ i t acc S, ts[i]? = some t → I i acc S → ∃ τ1, bindP p t τ = some τ1 ∧ Ok (c τ1 S) fun r S1 => if r = true then Ok (b τ1 S1) fun y S2 => acc.length < 100000 ∧ I (i + 1) (acc ++ [y]) S2 else I (i + 1) acc S1)
    (hq : ∀ acc S, I ts.length acc S → Q acc S) : Ok (mLcGo ⟨ts, []⟩ p c b τ ts [] S) Q :=
  ok_lcGo I (fun _ _ S _ => chk_nil ts S) ts 0 [] S (fun i t acc S e q => by rw [Nat.zero_add] at q ⊢; exact hs i t acc S e q) (fun acc S q => hq acc S (by rw [Nat.zero_add] at q; exact q)) h0
/-- tests that hold of some items, an element that is a function of the item -/
theorem lc_pure {ts0 : List T} {p : Pat} {c : Env → Sto → R Bool} {b : Env → Sto → R T} {τ : Env} {S : Sto} (f : T → Bool) (g : T → T) : ∀ (ts acc : List T), acc.length + ts.length ≤ 100000 →
    (∀ t ∈ ts, ∃ τ1, bindP p t τ = some τ1 ∧ c τ1 S = .ok (f t) S ∧ (f t = true → b τ1 S = .ok (g t) S)) → mLcGo ⟨ts0, []⟩ p c b τ ts acc S = .ok (acc ++ (ts.filter f).map g) S
  | [], acc, _, _ => by rw [mLcGo, ifP_t (chk_nil _ _)]; simp
  | t :: ts, acc, hl, hs => by
    obtain ⟨τ1, h1, h2, h3⟩ := hs t List.mem_cons_self
    rw [List.length_cons] at hl
    rw [mLcGo, ifP_t (chk_nil _ _), bound, h1]
    dsimp only
    rw [h2, ev_noErr, ev_ok]
    cases hf : f t with
    | true =>
      rw [if_pos rfl, h3 hf, ev_noErr, ev_ok, if_pos (by omega), lc_pure f g ts (acc ++ [g t]) (by simp; omega) fun t m => hs t (List.mem_cons_of_mem _ m)]
      simp [hf]
    | false =>
      rw [if_neg Bool.false_ne_true, lc_pure f g ts acc (by omega) fun t m => hs t (List.mem_cons_of_mem _ m)]
      simp [hf]
theorem lc_map {ts0 : List T} {p : Pat} {b : Env → Sto → R T} {τ : Env} {S : Sto} (g : T → T) (ts : List T) (hl : ts.length ≤ 100000)
    (hs : ∀ t ∈ ts, ∃ τ1, bindP p t τ = some τ1 ∧ b τ1 S = .ok (g t) S) : mLcGo ⟨ts0, []⟩ p mTrue b τ ts [] S = .ok (ts.map g) S := by
  rw [lc_pure (fun _ => true) g ts [] (by simpa using hl) fun t m => by
    obtain ⟨τ1, h1, h2⟩ := hs t m
    exact ⟨τ1, h1, rfl, fun _ => h2⟩]
  rw [List.filter_eq_self.mpr (fun _ _ => rfl), List.nil_append]
theorem rangeT_at {lo : Int} {n i : Nat} {t : T} (h : (rangeT lo n)[i]? = some t) : i < n ∧ t = .int (lo + i) := by
  unfold rangeT at h
  rw [List.getElem?_map] at h
  obtain ⟨c, hc, rfl⟩ := Option.map_eq_some_iff.mp h
  obtain ⟨hi, hci⟩ := List.getElem?_eq_some_iff.mp hc
  rw [List.getElem_range] at hci
  rw [List.length_range] at hi
  exact ⟨hi, by rw [hci]⟩
@[simp] theorem rangeT_length (lo : Int) (n : Nat) : (rangeT lo n).length = n := by simp [rangeT]
@[simp] theorem bindP_nm (i : Nat) (t : T) (τ : Env) : bindP (.nm i) t τ = some (τ.set i (some t)) := by rw [bindP]
theorem range1_ev (j : Int) (S : Sto) (h : -4611686018427387904 ≤ j ∧ j < 4611686018427387904) : fRange1 [.int j] S = .ok ⟨rangeT 0 j.toNat, []⟩ S := by
  show (if (decide (-(2 ^ 62) ≤ j) && decide (j < 2 ^ 62)) = true then R.ok (⟨rangeT 0 j.toNat, []⟩ : Its) S else .bad) = _
  rw [if_pos (by simp only [Bool.and_eq_true, decide_eq_true_eq]; omega)]
end Fx
namespace Fx
open PySem PySem.Spec PyProof.Rows L2
noncomputable def mLc2Go (it : Its) (p : Pat) (c : Env → Sto → R Bool) (m1 : Env → Sto → R Its) (p1 : Pat) (c1 : Env → Sto → R Bool) (b : Env → Sto → R T) (vs1 : List Nat) (τ : Env) : List T → List T → Sto → R (List T)
  | [], acc, S => ifP (it.chk S) (.ok acc S) .bad
  | t :: ts, acc, S => ifP (it.chk S) (bound p t τ fun τ1 => (noErr (c τ1 S)).bind fun k S1 => if k = true then (noErr (m1 τ1 S1)).bind fun it1 S2 => (mLcGo it1 p1 c1 b (wipeT τ1 vs1) it1.ts acc S2).bind fun acc2 S3 => mLc2Go it p c m1 p1 c1 b vs1 τ ts acc2 S3 else mLc2Go it p c m1 p1 c1 b vs1 τ ts acc S1) .bad
noncomputable def mLc2 (fz : Bool) (vs vs1 : List Nat) (m : Env → Sto → R Its) (p : Pat) (c : Env → Sto → R Bool) (m1 : Env → Sto → R Its) (p1 : Pat) (c1 : Env → Sto → R Bool) (b : Env → Sto → R T) : Env → Sto → R T := fun τ S => (m τ S).bind fun it S1 => (mLc2Go it p c m1 p1 c1 b vs1 (wipeT τ vs) it.ts [] S1).bind fun acc S2 => newL fz acc S2
theorem ExtW.set {K : PySem.W.Frag} {ρ ρ' : Wd} {H H' : Hp} {D : Addr} {o : HO} (e : ExtW ρ H ρ' H') (hD : D ∈ ρ.av) : ExtW ρ H ρ' (upd H' D o) := ⟨e.pre, e.fresh, fun a u h n => by
  rw [upd_ne (show a ≠ D from fun z => n (by rw [z]; exact hD))]
  exact e.keep a u h n⟩
theorem REnv.grow {K : PySem.W.Frag} {ρ : Wd} {H : Hp} {σ : L2.St} {τ : Env} {D : Addr} {o : HO} (h : REnv K ρ H σ τ) (hD : D ∈ ρ.out) : REnv K ρ (upd H D o) σ τ := ⟨h.len, fun i t q => by
  obtain ⟨v, h1, h2⟩ := h.at_ i t q
  exact ⟨v, h1, h2.grow hD⟩⟩
theorem lc2_fn {K : PySem.W.Frag} {E : XK} {fz : Bool} {σ : L2.St} {ρ1 : Wd} {H1 : Hp} {S1 : Sto} {τ : Env} {it : Its} {J : It} {D : Addr} {Q : VK} {p p1 : Pat} {c c1 : Env → Sto → R Bool} {m1 : Env → Sto → R Its} {b : Env → Sto → R T} (own : List (Str × Nat)) (vs1 : List Nat) (hsl : p.slots.all (fun j => (own.map (·.2)).contains j) = true) (hsl1 : p1.slots.all (fun j => vs1.contains j) = true) (hD : H1 D = none) (s1 : Sta K ρ1 H1 S1) (e1 : REnv K ρ1 H1 σ τ)
    (h : Post K E ρ1 H1 ((mLc2Go it p c m1 p1 c1 b vs1 (wipeT τ (own.map (·.2))) it.ts [] S1).bind fun acc S2 => newL fz acc S2) (QE K Q)) (wm : WalkM K J ρ1 H1 it) :
    ∃ W : Nat → Nat → Hp → Prop, (∃ m, W 0 m (upd H1 D (.lst []))) ∧ ∀ i m H, W i m H →
      (J.stop i H ∧ Q (.ref D) H) ∨ (J.go i H ∧ ∃ Nx : Hp → Prop, (∀ H', Nx H' → ∃ m', m' < m ∧ W (i + 1) m' H') ∧ ∀ x H', J.yld i H x H' → tG K p x (L2.wipe σ (own.map (·.2))) H' fun σ2 H2 => L2.wipe σ2 (own.map (·.2)) = L2.wipe σ (own.map (·.2)) ∧ tB K E0 c σ2 H2 fun k H3 =>
        if k = true then tI K E0 m1 σ2 H3 fun J1 H4 => ∃ W1 : Nat → Nat → Hp → Prop, (∃ m, W1 0 m H4) ∧ ∀ j k H, W1 j k H →
          (J1.stop j H ∧ Nx H) ∨ (J1.go j H ∧ ∃ Nx1 : Hp → Prop, (∀ H', Nx1 H' → ∃ k', k' < k ∧ W1 (j + 1) k' H') ∧ ∀ x H', J1.yld j H x H' → tG K p1 x (L2.wipe σ2 vs1) H' fun σ3 H5 => L2.wipe σ3 vs1 = L2.wipe σ2 vs1 ∧ tB K E0 c1 σ3 H5 fun b1 H6 =>
            if b1 = true then tM K E0 b σ3 H6 fun y H7 => ∃ acc, H7 D = some (.lst acc) ∧ acc.length < sizeLine ∧ Nx1 (upd H7 D (.lst (acc ++ [y]))) else Nx1 H6)
        else Nx H3) := by
  generalize hvs : own.map (·.2) = vs at *
  have hn1 := s1.new hD
  refine ⟨fun i n H => ∃ ρ S rest acc us, Ext ρ1 H1 ρ H ∧ Sta K ρ H S ∧ D ∈ ρ.out ∧ H D = some (.lst us) ∧ Reps K ρ H us acc ∧ i ≤ it.ts.length ∧ it.ts.drop i = rest ∧ n = rest.length ∧ Post K E ρ1 H1 ((mLc2Go it p c m1 p1 c1 b vs1 (wipeT τ vs) rest acc S).bind fun acc S2 => newL fz acc S2) (QE K Q),
    ⟨_, ρ1.plus D, S1, _, [], [], Ext.plus hD hn1, s1.plus hD, List.mem_cons_self, upd_same, .nil, Nat.zero_le _, rfl, rfl, h⟩, fun i n H hW => ?_⟩
  obtain ⟨ρ, S, rest, acc, us, x1, s, hm, hd, ra, hil, hr, hn, q⟩ := hW
  cases rest with
  | nil =>
    unfold mLc2Go at q
    have q' : it.chk S ∧ Post K E ρ1 H1 (newL fz acc S) (QE K Q) := by
      by_cases ck : it.chk S
      · rw [ifP_t ck] at q; exact ⟨ck, q⟩
      · rw [ifP_f ck] at q; exact q.elim
    obtain ⟨w1, _⟩ := wm ρ H S x1.w s q'.1
    have ei : i = it.ts.length := Nat.le_antisymm hil (List.drop_eq_nil_iff.mp hr)
    rw [ei]
    exact .inl ⟨w1, give_lst hD hn1 hd x1 s hm ra q'.2⟩
  | cons t ts =>
    unfold mLc2Go at q
    by_cases ck : it.chk S
    case neg => rw [ifP_f ck] at q; exact q.elim
    rw [ifP_t ck] at q
    obtain ⟨_, w2⟩ := wm ρ H S x1.w s ck
    have hlt : i < it.ts.length := by
      refine Nat.lt_of_not_le fun z => ?_
      rw [List.drop_eq_nil_of_le z] at hr
      cases hr
    have hcons := List.drop_eq_getElem_cons hlt
    rw [hr] at hcons
    injection hcons with ht hts
    obtain ⟨go, yld⟩ := w2 i t (by rw [List.getElem?_eq_getElem hlt, ht])
    unfold Fx.bound at q
    split at q
    case h_2 => exact q.elim
    rename_i τ1 hb1
    refine .inr ⟨go, fun H' => ∃ ρ S acc us, Ext ρ1 H1 ρ H' ∧ Sta K ρ H' S ∧ D ∈ ρ.out ∧ H' D = some (.lst us) ∧ Reps K ρ H' us acc ∧ Post K E ρ1 H1 ((mLc2Go it p c m1 p1 c1 b vs1 (wipeT τ vs) ts acc S).bind fun acc S2 => newL fz acc S2) (QE K Q), fun H' hN => ?_, fun v H2 hy => ?_⟩
    · obtain ⟨ρ', S', acc', us', a1, a2, a3, a4, a5, a6⟩ := hN
      exact ⟨ts.length, by rw [hn]; exact Nat.lt_succ_self _, ρ', S', ts, acc', us', a1, a2, a3, a4, a5, hlt, hts.symm, rfl, a6⟩
    · obtain ⟨y1, y2, y3⟩ := yld v H2 hy
      have hoff : ∀ {ρ : Wd} {H : Hp} {S : Sto}, Sta K ρ H S → D ∈ ρ.out → D ∉ ρ.at_ := fun s m => s.off m
      have ew : REnv K ρ H2 (L2.wipe σ vs) (wipeT τ vs) := ((e1.ext x1).ext y1).wipe vs
      refine ⟨ρ, wipeT τ vs, t, τ1, ew, y3, hb1, fun σ3 e3 nr => ⟨near_wipe nr hsl, ρ, τ1, S, y2, e3, ?_⟩⟩
      refine Post.at0 (K := K) (E := E) (ρ := ρ1) (H := H1) (f := fun k S1 => (if k = true then (noErr (m1 τ1 S1)).bind fun it1 S2 => (mLcGo it1 p1 c1 b (wipeT τ1 vs1) it1.ts acc S2).bind fun acc2 S3 => mLc2Go it p c m1 p1 c1 b vs1 (wipeT τ vs) ts acc2 S3 else mLc2Go it p c m1 p1 c1 b vs1 (wipeT τ vs) ts acc S1).bind fun acc S2 => newL fz acc S2) (Q := QE K Q) ?_ (x1.trans y1) fun ρ4 H4 k S4 x4 s4 q4 => ?_
      · rw [← R.bind_assoc]; exact q
      · have d4 : H4 D = some (.lst us) := x4.keep _ _ (y1.keep _ _ hd (s.off hm)) (y2.off hm)
        have m4 : D ∈ ρ4.out := x4.out _ hm
        have xx := (x1.trans y1).trans x4
        cases k with
        | false => exact ⟨ρ4, S4, acc, us, xx, s4, m4, d4, (ra.ext y1).ext x4, q4⟩
        | true =>
          refine ⟨ρ4, τ1, S4, s4, e3.ext x4, ?_⟩
          refine Post.at0 (K := K) (E := E) (ρ := ρ1) (H := H1) (f := fun it1 S2 => ((mLcGo it1 p1 c1 b (wipeT τ1 vs1) it1.ts acc S2).bind fun acc2 S3 => mLc2Go it p c m1 p1 c1 b vs1 (wipeT τ vs) ts acc2 S3).bind fun acc S2 => newL fz acc S2) (Q := QE K Q) ?_ xx fun ρ5 H5 it1 S5 x5 s5 q5 J1 wm1 => ?_
          · rw [← R.bind_assoc]; exact q4
          have d5 : H5 D = some (.lst us) := x5.keep _ _ d4 (s4.off m4)
          have m5 : D ∈ ρ5.out := x5.out _ m4
          have r5 := ((ra.ext y1).ext x4).ext x5
          have xx5 := xx.trans x5
          have e5 : REnv K ρ5 H5 σ3 τ1 := (e3.ext x4).ext x5
          -- the second loop
          refine ⟨fun j n H => ∃ ρ S rest acc us, Ext ρ1 H1 ρ H ∧ ExtW ρ5 H5 ρ H ∧ REnv K ρ H σ3 τ1 ∧ Sta K ρ H S ∧ D ∈ ρ.out ∧ H D = some (.lst us) ∧ Reps K ρ H us acc ∧ j ≤ it1.ts.length ∧ it1.ts.drop j = rest ∧ n = rest.length ∧ Post K E ρ1 H1 (((mLcGo it1 p1 c1 b (wipeT τ1 vs1) rest acc S).bind fun acc2 S3 => mLc2Go it p c m1 p1 c1 b vs1 (wipeT τ vs) ts acc2 S3).bind fun acc S2 => newL fz acc S2) (QE K Q),
            ⟨_, ρ5, S5, _, acc, us, xx5, ExtW.refl _ _, e5, s5, m5, d5, r5, Nat.zero_le _, rfl, rfl, q5⟩, fun j n H hW => ?_⟩
          obtain ⟨ρ, S, rest, acc, us, x1, xw, er, s, hm, hd, ra, hil, hr, hn, q⟩ := hW
          cases rest with
          | nil =>
            unfold mLcGo at q
            by_cases ck : it1.chk S
            case neg => rw [ifP_f ck] at q; exact q.elim
            rw [ifP_t ck] at q
            obtain ⟨w1, _⟩ := wm1 ρ H S xw s ck
            have ei : j = it1.ts.length := Nat.le_antisymm hil (List.drop_eq_nil_iff.mp hr)
            rw [ei]
            exact .inl ⟨w1, ρ, S, acc, us, x1, s, hm, hd, ra, q⟩
          | cons t1 ts1 =>
            unfold mLcGo at q
            by_cases ck : it1.chk S
            case neg => rw [ifP_f ck] at q; exact q.elim
            rw [ifP_t ck] at q
            obtain ⟨_, w2⟩ := wm1 ρ H S xw s ck
            have hlt1 : j < it1.ts.length := by
              refine Nat.lt_of_not_le fun z => ?_
              rw [List.drop_eq_nil_of_le z] at hr
              cases hr
            have hcons := List.drop_eq_getElem_cons hlt1
            rw [hr] at hcons
            injection hcons with ht1 hts1
            obtain ⟨go1, yld1⟩ := w2 j t1 (by rw [List.getElem?_eq_getElem hlt1, ht1])
            unfold Fx.bound at q
            split at q
            case h_2 => exact q.elim
            rename_i τ2 hb2
            refine .inr ⟨go1, fun H' => ∃ ρ S acc us, Ext ρ1 H1 ρ H' ∧ ExtW ρ5 H5 ρ H' ∧ REnv K ρ H' σ3 τ1 ∧ Sta K ρ H' S ∧ D ∈ ρ.out ∧ H' D = some (.lst us) ∧ Reps K ρ H' us acc ∧ Post K E ρ1 H1 (((mLcGo it1 p1 c1 b (wipeT τ1 vs1) ts1 acc S).bind fun acc2 S3 => mLc2Go it p c m1 p1 c1 b vs1 (wipeT τ vs) ts acc2 S3).bind fun acc S2 => newL fz acc S2) (QE K Q), fun H' hN => ?_, fun v H6 hy => ?_⟩
            · obtain ⟨ρ', S', acc', us', a1, a2, a3, a4, a5, a6, a7, a8⟩ := hN
              exact ⟨ts1.length, by rw [hn]; exact Nat.lt_succ_self _, ρ', S', ts1, acc', us', a1, a2, a3, a4, a5, a6, a7, hlt1, hts1.symm, rfl, a8⟩
            · obtain ⟨y1, y2, y3⟩ := yld1 v H6 hy
              have ew : REnv K ρ H6 (L2.wipe σ3 vs1) (wipeT τ1 vs1) := (er.ext y1).wipe vs1
              refine ⟨ρ, wipeT τ1 vs1, t1, τ2, ew, y3, hb2, fun σ4 e4 nr => ⟨near_wipe nr hsl1, ρ, τ2, S, y2, e4, ?_⟩⟩
              refine Post.at0 (K := K) (E := E) (ρ := ρ1) (H := H1) (f := fun k S1 => ((if k = true then (noErr (b τ2 S1)).bind fun y S2 => if acc.length < 100000 then mLcGo it1 p1 c1 b (wipeT τ1 vs1) ts1 (acc ++ [y]) S2 else .bad else mLcGo it1 p1 c1 b (wipeT τ1 vs1) ts1 acc S1).bind fun acc2 S3 => mLc2Go it p c m1 p1 c1 b vs1 (wipeT τ vs) ts acc2 S3).bind fun acc S2 => newL fz acc S2) (Q := QE K Q) ?_ (x1.trans y1) fun ρ7 H7 k S7 x7 s7 q7 => ?_
              · rw [← R.bind_assoc, ← R.bind_assoc]; exact q
              · have d7 : H7 D = some (.lst us) := x7.keep _ _ (y1.keep _ _ hd (s.off hm)) (y2.off hm)
                have m7 : D ∈ ρ7.out := x7.out _ hm
                have xx7 := (x1.trans y1).trans x7
                have xw7 := xw.trans (y1.trans x7).w
                cases k with
                | false => exact ⟨ρ7, S7, acc, us, xx7, xw7, (er.ext y1).ext x7, s7, m7, d7, (ra.ext y1).ext x7, q7⟩
                | true =>
                  refine ⟨ρ7, τ2, S7, s7, e4.ext x7, ?_⟩
                  refine Post.at0 (K := K) (E := E) (ρ := ρ1) (H := H1) (f := fun y S2 => ((if acc.length < 100000 then mLcGo it1 p1 c1 b (wipeT τ1 vs1) ts1 (acc ++ [y]) S2 else .bad).bind fun acc2 S3 => mLc2Go it p c m1 p1 c1 b vs1 (wipeT τ vs) ts acc2 S3).bind fun acc S2 => newL fz acc S2) (Q := QE K Q) ?_ xx7 fun ρ8 H8 y S8 x8 s8 q8 w rw' => ?_
                  · rw [← R.bind_assoc, ← R.bind_assoc]; exact q7
                  · have d8 : H8 D = some (.lst us) := x8.keep _ _ d7 (s7.off m7)
                    have m8 : D ∈ ρ8.out := x8.out _ m7
                    have r8 := ((ra.ext y1).ext x7).ext x8
                    by_cases hl : acc.length < 100000
                    · rw [if_pos hl] at q8
                      exact ⟨us, d8, by rw [ra.length]; exact sz_lt5 hl, ρ8, S8, acc ++ [y], us ++ [w], (xx7.trans x8).grow hD, (xw7.trans x8.w).set (K := K) (List.mem_append_right _ m5), (((er.ext y1).ext x7).ext x8).grow m8, s8.grow m8, m8, upd_same, (r8.append (.cons rw' .nil)).grow m8, q8⟩
                    · rw [if_neg hl] at q8
                      exact q8.elim
section
variable {X : Cx} {E : XK}
theorem s_setLc2 (fz : Bool) {i : Nat} {y : Str} {py : Pos} {elt tg iter tg1 iter1 : Expr} {ifs ifs1 : List Expr} {scope : Scope} {own : List (Str × Nat)} {vs1 : List Nat} {pos spos : Pos} {m m1 : Env → Sto → R Its} {p p1 : Pat} {c c1 : Env → Sto → R Bool} {b : Env → Sto → R T} (hc : X.calm = true) (hN : X.N.Nodup) (hy : X.N[i]? = some y) (hyl : X.env.scope.names.lookup y = some .local)
    (hsw : swapsWith (.ListComp elt [⟨tg, iter, ifs, 0⟩, ⟨tg1, iter1, ifs1, 0⟩] scope pos) (some (.Name y py)) spos.line X.env = pure true) (hi : PI X tg iter (tI X.K E m)) (ok : BlkOk X.N X.env.scope scope own) (hv : ∀ i ∈ vs1, i ∈ own.map (·.2))
    (hsl : p.slots.all (fun j => (own.map (·.2)).contains j) = true) (hsl1 : p1.slots.all (fun j => vs1.contains j) = true)
    (hg : ∀ (s : Shared) (H : Hp) (C : Addr) (cl : List (Str × Addr)) (fp : List Addr), PG (X.blk s H scope (compEnvC scope cl C X.env) fp) tg (tG X.K p)) (ht : ∀ (s : Shared) (H : Hp) (C : Addr) (cl : List (Str × Addr)) (fp : List Addr), PTs (X.blk s H scope (compEnvC scope cl C X.env) fp) ifs (tB X.K E0 c))
    (hi1 : ∀ (s : Shared) (H : Hp) (C : Addr) (cl : List (Str × Addr)) (fp : List Addr), PI (X.blk s H scope (compEnvC scope cl C X.env) fp) tg1 iter1 (tI X.K E0 m1))
    (hg1 : ∀ (s : Shared) (H : Hp) (C : Addr) (cl : List (Str × Addr)) (fp : List Addr), PG (X.blk s H scope (compEnvC scope cl C X.env) fp) tg1 (tG X.K p1)) (ht1 : ∀ (s : Shared) (H : Hp) (C : Addr) (cl : List (Str × Addr)) (fp : List Addr), PTs (X.blk s H scope (compEnvC scope cl C X.env) fp) ifs1 (tB X.K E0 c1))
    (he : ∀ (s : Shared) (H : Hp) (C : Addr) (cl : List (Str × Addr)) (fp : List Addr), PE (X.blk s H scope (compEnvC scope cl C X.env) fp) elt (tM X.K E0 b)) (hs : ∀ x, foldedSetIterable iter X.env x = pure x := by intro _; rfl) (hs1 : ∀ env x, foldedSetIterable iter1 env x = pure x := by intro _ _; rfl) :
    PS X (.Assign [.Name y py] (.ListComp elt [⟨tg, iter, ifs, 0⟩, ⟨tg1, iter1, ifs1, 0⟩] scope pos) spos) (tS X.K E (sSet i (mLc2 fz (own.map (·.2)) vs1 m p c m1 p1 c1 b))) :=
  PS.of (ps_setLc2 hc hN hy hyl hsw hi ok hv hg ht hi1 hg1 ht1 he hs hs1) fun D σ H ⟨ρ, τ, S, s, e, h⟩ => ⟨ρ, τ, S, s, e, by
    have h : Post X.K E ρ H ((mLc2 fz (own.map (·.2)) vs1 m p c m1 p1 c1 b τ S).bind fun x S1 => R.ok (Fl.nx (τ.set i (some x))) S1) (QS X.K D) := h
    have h : Post X.K E ρ H (((m τ S).bind fun it S1 => (mLc2Go it p c m1 p1 c1 b vs1 (wipeT τ (own.map (·.2))) it.ts [] S1).bind fun acc S2 => newL fz acc S2).bind fun x S1 => R.ok (Fl.nx (τ.set i (some x))) S1) (QS X.K D) := h
    rw [R.bind_assoc] at h
    exact h.step fun ρ1 H1 it S1 e1 s1 h1 J wm D' hD => lc2_fn (E := E) (fz := fz) own vs1 hsl hsl1 hD s1 (e.ext e1) (Q := fun x H => D.nx (σ.set i (some x)) H) (h1.step fun ρ2 H2 x S2 e2 s2 q v rv => q.ok s2 _ (((e.ext e1).ext e2).set i rv)) wm⟩
end
@[simp] theorem ev_lc2 (fz vs vs1 m p c m1 p1 c1 b) (τ : Env) (S : Sto) : mLc2 fz vs vs1 m p c m1 p1 c1 b τ S = (m τ S).bind fun it S1 => (mLc2Go it p c m1 p1 c1 b vs1 (wipeT τ vs) it.ts [] S1).bind fun acc S2 => newL fz acc S2 := id rfl
end Fx
namespace Fx
open PySem PySem.Spec PyProof.Rows L2
def fTupRev (t : T) (S : Sto) : R T := match lstOf S t with
  | some ts => .ok (.tup ts.reverse) S
  | none => .bad
theorem x_tupRev {X : Cx} {E : XK} {e : Expr} {m : Env → Sto → R T} {p p2 pos pos2 : Pos} (hc : X.calm = true) (hg : Gl X "tuple") (hm : X.mg "tuple" = none) (hg2 : Gl X "reversed") (hm2 : X.mg "reversed" = none) (he : PE X e (tM X.K E m))
    (hs : starEach [e] X.env = (false, eval e X.env) :: starEach [] X.env := by rfl)
    (hs2 : starEach [.Call (.Name "reversed" p2) [e] [] pos2] X.env = (false, eval (.Call (.Name "reversed" p2) [e] [] pos2) X.env) :: starEach [] X.env := by rfl) :
    PE X (.Call (.Name "tuple" p) [.Call (.Name "reversed" p2) [e] [] pos2] [] pos) (tM X.K E (mUn fTupRev m)) :=
  PE.of (pe_tupRevN hc hg hm hg2 hm2 he hs hs2) fun σ H Q ⟨ρ, τ, S, s, en, q⟩ => ⟨ρ, τ, S, s, en, q.step fun ρ1 H1 t S1 e1 s1 h1 v rv => by
    unfold fTupRev at h1
    split at h1
    · rename_i ts hts
      obtain ⟨a, xs, rfl, hx, rx⟩ := lstOf_at s1 rv hts
      exact ⟨a, xs, rfl, hx, new_tup s1 rx.reverse h1⟩
    · exact h1.elim⟩
@[simp] theorem ev_tupRev (ts : List T) (S : Sto) : fTupRev (.lst ts) S = .ok (.tup ts.reverse) S := id rfl
end Fx
namespace Fx
open PySem PySem.Spec PyProof.Rows L2
def fRepA (fz : Bool) (x y : T) (S : Sto) : R T := match lstD S x, y with
  | some xs, .int n => if 0 ≤ n ∧ n ≤ 100000 ∧ xs.length * n.toNat ≤ 100000 then newL fz (List.replicate n.toNat xs).flatten S else .bad
  | _, _ => .bad
theorem Reps.rep {K : PySem.W.Frag} {ρ : Wd} {H : Hp} {vs : List V} {ts : List T} (r : Reps K ρ H vs ts) : ∀ n : Nat, Reps K ρ H (List.replicate n vs).flatten (List.replicate n ts).flatten
  | 0 => by simpa using Reps.nil
  | n + 1 => by
    rw [List.replicate_succ, List.replicate_succ, List.flatten_cons, List.flatten_cons]
    exact r.append (r.rep n)
theorem lstD_at' {K : PySem.W.Frag} {ρ : Wd} {H : Hp} {S : Sto} {v : V} {t : T} {ts : List T} (s : Sta K ρ H S) (r : Rep K ρ H v t) (h : lstD S t = some ts) : ∃ a xs, v = .ref a ∧ H a = some (.lst xs) ∧ Reps K ρ H xs ts := by
  cases t with
  | lst us =>
    cases h
    cases r with
    | lst h na rs => exact ⟨_, _, rfl, h, rs⟩
  | ref i =>
    have h : (match S[i]? with
    | some (.lst ts) => some ts
    | _ => none) = some ts := h
    split at h
    · rename_i us hu
      cases h
      obtain ⟨a, xs, e, _, hx, rx⟩ := lstD_ref s r hu
      exact ⟨a, xs, e, hx, rx⟩
    · cases h
  | _ => cases h
theorem f_repA (fz : Bool) {X : Cx} {E : XK} : Op2 X.K E rRep (fRepA fz) := by
  intro ρ H S v w x y Q s rv rw' h
  unfold fRepA at h
  split at h
  · rename_i xs n hx
    split at h
    · rename_i hc
      obtain ⟨a, us, rfl, ha, ru⟩ := lstD_at' s rv hx
      refine ⟨a, n, us, rfl, rep_int rw', ha, by omega, by omega, ?_, fun p hp => new_lst s (ru.rep n.toNat) h p hp⟩
      rw [ru.length]
      exact Nat.le_trans hc.2.2 (by decide)
    · exact h.elim
  · exact h.elim
def isTup (x : T) (_ : Sto) : Bool := match x with
  | .tup _ => true
  | _ => false
@[simp] theorem ev_isTup (ts : List T) (S : Sto) : isTup (.tup ts) S = true := rfl
end Fx
namespace Fx
open PySem PySem.Spec PyProof.Rows L2
end Fx
namespace Fx
open PySem PySem.Spec PyProof.Rows L2
def mOrG (a b : Env → Sto → R T) : Env → Sto → R T := fun τ S => (a τ S).bind fun x S1 => (fTru x S1).bind fun k S2 => if k = true then .ok x S2 else b τ S2
def mAndG (a b : Env → Sto → R T) : Env → Sto → R T := fun τ S => (a τ S).bind fun x S1 => (fTru x S1).bind fun k S2 => if k = true then b τ S2 else .ok x S2
section
variable {X : Cx} {E : XK} {a b : Expr} {rest : List Expr} {ma mb : Env → Sto → R T} {pos : Pos}
def rRepTN (K : PySem.W.Frag) : R2 := fun x y H Q => ∃ l k xs, x = .ref l ∧ y = .int k ∧ SqT K H l xs ∧ xs ≠ [] ∧ 2 ≤ k ∧ k ≤ 1000 ∧ xs.length ≤ 1000 ∧ NewT (List.replicate k.toNat xs).flatten H Q
theorem op_repTN : OpR X (binaryOp .Mult) (rRepTN X.K) := by
  intro pins s σ H x y v u Q I rx ry h
  obtain ⟨l, k, xs, rfl, rfl, hT, hne, h1, h2, hz, q⟩ := h
  cases rx
  obtain ⟨t, rfl⟩ := ry
  obtain ⟨its, r, ⟨⟨cls, dd, data, sl⟩, ho, hc, n, hd⟩, hs⟩ := I.tuple hT
  simp only at hc hd
  subst hc hd
  have hle : its.length = xs.length := r.length.symm
  have hn : its ≠ [] := fun e => hne (by
    rw [e] at hle
    exact List.eq_nil_of_length_eq_zero hle.symm)
  have hi : its.toArray.isEmpty = false := by
    cases its with
    | nil => exact absurd rfl hn
    | cons a b => rfl
  have hsz0 : its.toArray.size = xs.length := by rw [List.size_toArray, hle]
  have hm : ((its.toArray.size : Nat) : Int) * k ≤ 1000000 := by
    rw [hsz0]
    have a1 : ((xs.length : Nat) : Int) * k ≤ 1000 * k := Int.mul_le_mul_of_nonneg_right (by omega) (by omega)
    omega
  have hfl : (List.replicate k.toNat xs).flatten.length ≤ sizeLine := by
    rw [PyProof.Rows.lm_len_rep_flat, sizeLine_eq]
    have a1 : k.toNat * xs.length ≤ 1000 * 1000 := Nat.mul_le_mul (by omega) hz
    omega
  have flen : (List.replicate k.toNat its).flatten.length ≤ sizeLine := by
    rw [PyProof.Rows.lm_len_rep_flat, hle, sizeLine_eq]
    have a1 : k.toNat * xs.length ≤ 1000 * 1000 := Nat.mul_le_mul (by omega) hz
    omega
  have c0 : (decide (k < -(2 ^ 63)) || decide (k ≥ 2 ^ 63)) = false := by
    rw [decide_eq_false (by omega), decide_eq_false (by omega)] <;> rfl
  have c1 : (its.toArray.isEmpty || k == 1) = false := by
    rw [hi, Bool.false_or]
    exact beq_eq_false_iff_ne.mpr (by omega)
  have c2 : (decide (k ≤ 0) || its.toArray.isEmpty) = false := by
    rw [hi, Bool.or_false]
    exact decide_eq_false (by omega)
  have c4 : Builtin.Tuple.tupleTooMany (((its.toArray.size : Nat) : Int) * k) = false := by
    unfold Builtin.Tuple.tupleTooMany
    rw [sizeLine_eq]
    exact decide_eq_false (by omega)
  refine wpAny_binaryOp_repeat_ref (T := "tuple") (U := "int") (by decide) ⟨_, ho, rfl⟩ (fun s' => typeIs_int s' k t) noFill_tuple_mul F.fills_int_mul F.slot_int_rmul repeat_tuple F.slot_int_index.lookup
    (call_meets F.slot_int_rmul (typeIs_int s k t) F.entry_int_rmul (F.args_int_rmul_2 _ _) (int_rmul_tuple k t l its.toArray n dd sl)
      ⟨ho, rfl, ⟨_, ho, rfl⟩, call_meets F.slot_tuple_mul ⟨_, ho, rfl⟩ F.entry_tuple_mul (F.args_tuple_mul_2 _ _) (tuple_mulW l its.toArray n dd sl k t c0 c1 c2 (by omega) c4 (by rw [size_rep, List.size_toArray]; exact flen)) ⟨ho, ?_⟩⟩)
  rw [size_rep]
  exact ⟨.ref s.heap.objs.size, _, I.laid (t' := s.toks) (o := .frz _ (.tup (List.replicate k.toNat xs).flatten)) (fun c d e => Heap.get?_push_of_some _ e) (Nat.le_refl _) ⟨Heap.get?_push_size _ rfl, hfl, _, r.rep k.toNat, IsTup.new _ _⟩, rfl, q _ _ (I.hok.fresh (Nat.le_refl _)) ⟨rfl, rfl⟩⟩
def fRepT (x y : T) (S : Sto) : R T := match x, y with
  | .tup ts, .int k => if (decide (2 ≤ k) && (decide (k ≤ 1000) && (decide (ts.length ≤ 100) && !ts.isEmpty))) = true then .ok (.tup (List.replicate k.toNat ts).flatten) S else .bad
  | _, _ => .bad
theorem reps_rep {K : PySem.W.Frag} {ρ : Wd} {H : Hp} {xs : List V} {ts : List T} (r : Reps K ρ H xs ts) : ∀ n : Nat, Reps K ρ H (List.replicate n xs).flatten (List.replicate n ts).flatten
  | 0 => .nil
  | n + 1 => by
    rw [List.replicate_succ, List.replicate_succ, List.flatten_cons, List.flatten_cons]
    exact r.append (reps_rep r n)
theorem f_repT : Op2 X.K E (rRepTN X.K) fRepT := by
  intro ρ H S v w x y Q s rx ry h
  unfold fRepT at h
  split at h
  · rename_i ts k
    split at h
    · rename_i hc
      simp only [Bool.and_eq_true, decide_eq_true_eq, Bool.not_eq_true'] at hc
      obtain ⟨a, xs, rfl, ft, rs⟩ := rep_tup rx
      have hl := rs.length
      exact ⟨a, k, xs, rfl, rep_int ry, ft.sq, fun e => by
        rw [e] at hl
        have : ts = [] := List.eq_nil_of_length_eq_zero hl.symm
        rw [this] at hc
        exact absurd hc.2.2.2 (by decide), hc.1, hc.2.1, by omega, new_tup s (reps_rep rs k.toNat) h⟩
    · exact h.elim
  · exact h.elim
end
section
variable (τ : Env) (S : Sto)
theorem ev_orG (a b) : mOrG a b τ S = (a τ S).bind fun x S1 => (fTru x S1).bind fun k S2 => if k = true then .ok x S2 else b τ S2 := id rfl
theorem ev_andG (a b) : mAndG a b τ S = (a τ S).bind fun x S1 => (fTru x S1).bind fun k S2 => if k = true then b τ S2 else .ok x S2 := id rfl
end
end Fx
set_option maxHeartbeats 4000000
namespace Fx
open PySem PySem.Spec PyProof.Rows L2
theorem tuple_mul1 (l : Addr) (items : Array Value) (n : Nat) (dd : Option Addr) (sl : Array (Option Value)) (u : Tok) :
    Meets (Builtin.«tuple.__mul__» ⟨[.ref l, .int 1 u], []⟩) (fun _ R s => s.heap.get? l = some { cls := .type "tuple", dict := dd, data := .seq items n, slots := sl } ∧ R (.ok (.ret (Value.ref l))) s) :=
  .of_wp fun prog w A R s h => by
    obtain ⟨hp, g, d, tk, os⟩ := s
    obtain ⟨hl, h⟩ := h
    have f1 := AutoSeq1.idx_int
    have c0 : (decide ((1 : Int) < -(2 ^ 63)) || decide ((1 : Int) ≥ 2 ^ 63)) = false := by decide
    have c1 : (items.isEmpty || (1 : Int) == 1) = true := by simp
    wp_walk using wpAny_loadPart' hl
    repeat (first
      | (refine wpAny_ite_false (decide_eq_false (by rw [c0]; exact Bool.false_ne_true)) ?_; wp_walk using wpAny_loadPart' hl)
      | (refine wpAny_ite_true (decide_eq_true c1) ?_; wp_walk using wpAny_loadPart' hl))
    exact ⟨_, rfl, h⟩
def rRep1 (K : PySem.W.Frag) : R2 := fun x y H Q => ∃ l xs, x = .ref l ∧ y = .int 1 ∧ SqT K H l xs ∧ xs ≠ [] ∧ Q (.ref l) H
section
variable {X : Cx} {E : XK}
theorem op_rep1 : OpR X (binaryOp .Mult) (rRep1 X.K) := by
  intro pins s σ H x y v u Q I rx ry h
  obtain ⟨l, xs, rfl, rfl, hT, hne, q⟩ := h
  cases rx
  obtain ⟨t, rfl⟩ := ry
  obtain ⟨its, r, ⟨⟨cls, dd, data, sl⟩, ho, hc, n, hd⟩, hs⟩ := I.tuple hT
  simp only at hc hd
  subst hc hd
  refine wpAny_binaryOp_repeat_ref (T := "tuple") (U := "int") (by decide) ⟨_, ho, rfl⟩ (fun s' => typeIs_int s' 1 t) noFill_tuple_mul F.fills_int_mul F.slot_int_rmul repeat_tuple F.slot_int_index.lookup
    (call_meets F.slot_int_rmul (typeIs_int s 1 t) F.entry_int_rmul (F.args_int_rmul_2 _ _) (int_rmul_tuple 1 t l its.toArray n dd sl)
      ⟨ho, rfl, ⟨_, ho, rfl⟩, call_meets F.slot_tuple_mul ⟨_, ho, rfl⟩ F.entry_tuple_mul (F.args_tuple_mul_2 _ _) (tuple_mul1 l its.toArray n dd sl t) ⟨ho, ?_⟩⟩)
  exact ⟨.ref l, H, I, rfl, q⟩
def fMulA (fz : Bool) (x y : T) (S : Sto) : R T := match x with
  | .int _ => fMul x y S
  | .tup ts => match y with
    | .int k => if (decide (k = 1) && !ts.isEmpty) = true then .ok x S else fRepT x y S
    | _ => .bad
  | _ => fRepA fz x y S
def rMulA (K : PySem.W.Frag) : R2 := rOr (rRep1 K) (rOr (rRepTN K) (rOr (rI CMul fun i j => .int (i * j)) rRep))
theorem o_mulA : OpR X (binaryOp .Mult) (rMulA X.K) := op_rep1.or (op_repTN.or (op_mul.or op_rep))
theorem f_mulA (fz : Bool) : Op2 X.K E (rMulA X.K) (fMulA fz) := by
  intro ρ H S v w x y Q s rx ry h
  unfold fMulA at h
  split at h
  · exact .inr (.inr (.inl (f_mul (E := E) ρ H S v w _ _ Q s rx ry h)))
  · rename_i ts
    split at h
    · rename_i k
      split at h
      · rename_i hc
        rw [Bool.and_eq_true, decide_eq_true_eq, Bool.not_eq_true'] at hc
        obtain ⟨rfl, hne⟩ := hc
        obtain ⟨a, xs, rfl, ft, rs⟩ := rep_tup rx
        refine .inl ⟨a, xs, rfl, rep_int ry, ft.sq, fun e => ?_, h.ok s _ rx⟩
        have hl := rs.length
        rw [e] at hl
        have : ts = [] := List.eq_nil_of_length_eq_zero hl.symm
        rw [this] at hne
        exact absurd hne (by decide)
      · exact .inr (.inl (f_repT (E := E) ρ H S v w _ _ Q s rx ry h))
    · exact h.elim
  · exact .inr (.inr (.inr (f_repA fz (E := E) ρ H S v w _ _ Q s rx ry h)))
end
end Fx
set_option maxHeartbeats 4000000
namespace Fx
open PySem PySem.Spec PyProof.Rows L2
theorem tuple_mul0 (l : Addr) (items : Array Value) (n : Nat) (dd : Option Addr) (sl : Array (Option Value)) (u : Tok) (c1 : (items.isEmpty || (0 : Int) == 1) = false) :
    Meets (Builtin.«tuple.__mul__» ⟨[.ref l, .int 0 u], []⟩) (fun _ R s => s.heap.get? l = some { cls := .type "tuple", dict := dd, data := .seq items n, slots := sl } ∧
      R (.ok (.ret (Value.ref s.heap.objs.size))) { s with heap := s.heap.push { cls := Value.type "tuple", data := Data.seq #[] }, toks := s.toks }) :=
  .of_wp fun prog w A R s h => by
    obtain ⟨hp, g, d, tk, os⟩ := s
    obtain ⟨hl, h⟩ := h
    have f1 := AutoSeq1.idx_int
    have c0 : (decide ((0 : Int) < -(2 ^ 63)) || decide ((0 : Int) ≥ 2 ^ 63)) = false := by decide
    have c2 : (decide ((0 : Int) ≤ 0) || items.isEmpty) = true := by simp
    have hsz : (#[] : Array Value).size ≤ sizeLine := by rw [sizeLine_eq]; exact Nat.zero_le _
    wp_walk using wpAny_loadPart' hl
    repeat (first
      | (refine wpAny_ite_false (decide_eq_false (by rw [c0]; exact Bool.false_ne_true)) ?_; wp_walk using wpAny_loadPart' hl)
      | (refine wpAny_ite_false (decide_eq_false (by rw [c1]; exact Bool.false_ne_true)) ?_; wp_walk using wpAny_loadPart' hl)
      | (refine wpAny_ite_true (decide_eq_true c2) ?_; wp_walk using wpAny_loadPart' hl)
      | (refine wpAny_ite_false (decide_eq_false (Nat.not_lt.mpr hsz)) ?_; wp_walk using wpAny_loadPart' hl))
    exact ⟨_, rfl, h⟩
def rRep0 (K : PySem.W.Frag) : R2 := fun x y H Q => ∃ l xs, x = .ref l ∧ y = .int 0 ∧ SqT K H l xs ∧ xs ≠ [] ∧ NewT [] H Q
section
variable {X : Cx} {E : XK}
theorem op_rep0 : OpR X (binaryOp .Mult) (rRep0 X.K) := by
  intro pins s σ H x y v u Q I rx ry h
  obtain ⟨l, xs, rfl, rfl, hT, hne, q⟩ := h
  cases rx
  obtain ⟨t, rfl⟩ := ry
  obtain ⟨its, r, ⟨⟨cls, dd, data, sl⟩, ho, hc, n, hd⟩, hs⟩ := I.tuple hT
  simp only at hc hd
  subst hc hd
  have hle : its.length = xs.length := r.length.symm
  have hn : its ≠ [] := fun e => hne (by
    rw [e] at hle
    exact List.eq_nil_of_length_eq_zero hle.symm)
  have hi : its.toArray.isEmpty = false := by
    cases its with
    | nil => exact absurd rfl hn
    | cons a b => rfl
  have c1 : (its.toArray.isEmpty || (0 : Int) == 1) = false := by
    rw [hi]
    rfl
  refine wpAny_binaryOp_repeat_ref (T := "tuple") (U := "int") (by decide) ⟨_, ho, rfl⟩ (fun s' => typeIs_int s' 0 t) noFill_tuple_mul F.fills_int_mul F.slot_int_rmul repeat_tuple F.slot_int_index.lookup
    (call_meets F.slot_int_rmul (typeIs_int s 0 t) F.entry_int_rmul (F.args_int_rmul_2 _ _) (int_rmul_tuple 0 t l its.toArray n dd sl)
      ⟨ho, rfl, ⟨_, ho, rfl⟩, call_meets F.slot_tuple_mul ⟨_, ho, rfl⟩ F.entry_tuple_mul (F.args_tuple_mul_2 _ _) (tuple_mul0 l its.toArray n dd sl t c1) ⟨ho, ?_⟩⟩)
  exact ⟨.ref s.heap.objs.size, _, I.laid (t' := s.toks) (o := .frz _ (.tup [])) (fun c d e => Heap.get?_push_of_some _ e) (Nat.le_refl _) ⟨Heap.get?_push_size _ rfl, by rw [sizeLine_eq]; exact Nat.zero_le _, _, .nil, IsTup.new _ _⟩, rfl, q _ _ (I.hok.fresh (Nat.le_refl _)) ⟨rfl, rfl⟩⟩
def fMulZ (fz : Bool) (x y : T) (S : Sto) : R T := match x with
  | .tup ts => match y with
    | .int k => if (decide (k = 0) && !ts.isEmpty) = true then .ok (.tup []) S else fMulA fz x y S
    | _ => .bad
  | _ => fMulA fz x y S
def rMulZ (K : PySem.W.Frag) : R2 := rOr (rRep0 K) (rMulA K)
theorem o_mulZ : OpR X (binaryOp .Mult) (rMulZ X.K) := op_rep0.or o_mulA
theorem f_mulZ (fz : Bool) : Op2 X.K E (rMulZ X.K) (fMulZ fz) := by
  intro ρ H S v w x y Q s rx ry h
  unfold fMulZ at h
  split at h
  · rename_i ts
    split at h
    · rename_i k
      split at h
      · rename_i hc
        rw [Bool.and_eq_true, decide_eq_true_eq, Bool.not_eq_true'] at hc
        obtain ⟨rfl, hne⟩ := hc
        obtain ⟨a, xs, rfl, ft, rs⟩ := rep_tup rx
        refine .inl ⟨a, xs, rfl, rep_int ry, ft.sq, fun e => ?_, new_tup s .nil h⟩
        have hl := rs.length
        rw [e] at hl
        have : ts = [] := List.eq_nil_of_length_eq_zero hl.symm
        rw [this] at hne
        exact absurd hne (by decide)
      · exact .inr (f_mulA fz (E := E) ρ H S v w _ _ Q s rx ry h)
    · exact h.elim
  · exact .inr (f_mulA fz (E := E) ρ H S v w _ _ Q s rx ry h)
end
end Fx
namespace Fx
open PySem PySem.Spec PyProof.Rows L2
theorem bt_any : bootBuiltins "any" = some (.builtin "any") := by decide +kernel
def boolsOf : List T → Option (List Bool)
  | [] => some []
  | .bl i :: ts => (boolsOf ts).map fun l => i :: l
  | _ => none
def fAnyAll (g : List Bool → Bool) (xs : List T) (S : Sto) : R T := match xs with
  | [x] => match lstOf S x with
    | some ts => match boolsOf ts with
      | some ns => .ok (.bl (g ns)) S
      | none => .bad
    | none => .bad
  | _ => .bad
def fAny := fAnyAll fun l => l.any id
section
variable {X : Cx} {E : XK}
theorem bools_of {K : PySem.W.Frag} {ρ : Wd} {H : Hp} : ∀ {v : List V} {t : List T} {ns : List Bool}, Reps K ρ H v t → boolsOf t = some ns → v = ns.map V.bl
  | _, _, _, .nil, h => by cases h; rfl
  | _, t :: ts, ns, .cons r rs, h => by
    cases t with
    | bl i =>
      obtain ⟨l, e, h⟩ := Option.map_eq_some_iff.mp (show (boolsOf ts).map (fun l => i :: l) = _ from h)
      subst h
      rw [rep_bl r, bools_of rs e]
      rfl
    | _ => cases h
theorem f_anyAll (g : List Bool → Bool) : OpN X.K E (fun vs H Q => ∃ (a : Addr) (bs : List Bool), vs = [V.ref a] ∧ SqL X.K H a (bs.map V.bl) ∧ Q (.bl (g bs)) H) (fAnyAll g) := by
  intro ρ H S vs ts Q s rs h
  unfold fAnyAll at h
  split at h
  · obtain ⟨y, rfl, r⟩ := rs.one
    split at h
    · rename_i us hs
      split at h
      · rename_i ns hn
        obtain ⟨a, xs, rfl, hx, rx⟩ := lstOf_at s r hs
        have ex := bools_of rx hn
        subst ex
        exact ⟨a, ns, rfl, hx, h.ok s _ (.bl _)⟩
      · exact h.elim
    · exact h.elim
  · exact h.elim
theorem o_any (hc : X.calm = true) : CallR X (.builtin "any") (rAny X.K) := cr_any hc
theorem f_any : OpN X.K E (rAny X.K) fAny := f_anyAll _
end
end Fx
namespace Fx
open PySem PySem.Spec PyProof.Rows L2
theorem hu1 {n : Nat} (h : n + 64 < cLine) : n + 1 < cLine := by omega
def keyOf? : T → Option Key
  | .int i => some (.inl i)
  | .str x => some (.inr x)
  | _ => none
theorem key_of {K : PySem.W.Frag} {ρ : Wd} {H : Hp} {v : V} {t : T} {k : Key} (r : Rep K ρ H v t) (h : keyOf? t = some k) : v = kV k := by
  cases t with
  | int i => cases h; exact rep_int r
  | str x => cases h; exact rep_str r
  | _ => cases h
/-- in its place, or at the end -/
def putT (kts : List (Key × T)) (k : Key) (t : T) : List (Key × T) :=
  if (kts.any fun kv => decide (kv.1 = k)) = true then kts.map (fun kv => if kv.1 = k then (kv.1, t) else kv) else kts ++ [(k, t)]
inductive RepK (K : PySem.W.Frag) (ρ : Wd) (H : Hp) : List (Key × V) → List (Key × T) → Prop
  | nil : RepK K ρ H [] []
  | cons {k : Key} {v : V} {t : T} {vs : List (Key × V)} {ts : List (Key × T)} : Rep K ρ H v t → RepK K ρ H vs ts → RepK K ρ H ((k, v) :: vs) ((k, t) :: ts)
section
variable {K : PySem.W.Frag} {ρ ρ' : Wd} {H H' : Hp}
theorem RepK.length : ∀ {vs : List (Key × V)} {ts : List (Key × T)}, RepK K ρ H vs ts → vs.length = ts.length
  | _, _, .nil => rfl
  | _, _, .cons _ r => congrArg (· + 1) r.length
theorem RepK.ext (e : Ext ρ H ρ' H') : ∀ {vs : List (Key × V)} {ts : List (Key × T)}, RepK K ρ H vs ts → RepK K ρ' H' vs ts
  | _, _, .nil => .nil
  | _, _, .cons h r => .cons (h.ext e) (r.ext e)
theorem RepK.grow {D : Addr} {o : HO} (hD : D ∈ ρ.out) : ∀ {vs : List (Key × V)} {ts : List (Key × T)}, RepK K ρ H vs ts → RepK K ρ (upd H D o) vs ts
  | _, _, .nil => .nil
  | _, _, .cons h r => .cons (h.grow hD) (r.grow hD)
theorem RepK.any (k : Key) : ∀ {vs : List (Key × V)} {ts : List (Key × T)}, RepK K ρ H vs ts → (vs.any fun kv => decide (kv.1 = k)) = ts.any fun kv => decide (kv.1 = k)
  | _, _, .nil => rfl
  | _, _, .cons _ r => by rw [List.any_cons, List.any_cons, r.any k]
theorem RepK.append : ∀ {vs vs' : List (Key × V)} {ts ts' : List (Key × T)}, RepK K ρ H vs ts → RepK K ρ H vs' ts' → RepK K ρ H (vs ++ vs') (ts ++ ts')
  | _, _, _, _, .nil, q => q
  | _, _, _, _, .cons h r, q => .cons h (r.append q)
theorem RepK.map {k : Key} {v : V} {t : T} (hv : Rep K ρ H v t) : ∀ {vs : List (Key × V)} {ts : List (Key × T)}, RepK K ρ H vs ts → RepK K ρ H (vs.map fun kv => if kv.1 = k then (kv.1, v) else kv) (ts.map fun kv => if kv.1 = k then (kv.1, t) else kv)
  | _, _, .nil => .nil
  | _, _, .cons (k := j) h r => by
    rw [List.map_cons, List.map_cons]
    by_cases c : j = k
    · rw [if_pos c, if_pos c]
      exact .cons hv (r.map hv)
    · rw [if_neg c, if_neg c]
      exact .cons h (r.map hv)
theorem RepK.put {k : Key} {v : V} {t : T} (hv : Rep K ρ H v t) {vs : List (Key × V)} {ts : List (Key × T)} (r : RepK K ρ H vs ts) : RepK K ρ H (putK vs k v) (putT ts k t) := by
  unfold putK putT
  rw [r.any k]
  by_cases c : (ts.any fun kv => decide (kv.1 = k)) = true
  · rw [if_pos c, if_pos c]
    exact r.map hv
  · rw [if_neg c, if_neg c]
    exact r.append (.cons hv .nil)
end
noncomputable def mDcGo (it : Its) (p : Pat) (c : Env → Sto → R Bool) (kb b : Env → Sto → R T) (τ : Env) : List T → List (Key × T) → Sto → R (List (Key × T))
  | [], acc, S => ifP (it.chk S) (.ok acc S) .bad
  | t :: ts, acc, S => ifP (it.chk S) (bound p t τ fun τ1 => (noErr (c τ1 S)).bind fun k S1 => if k = true then (noErr (kb τ1 S1)).bind fun y S2 => (noErr (b τ1 S2)).bind fun z S3 => match keyOf? y with
    | some k => if acc.length < 100000 then mDcGo it p c kb b τ ts (putT acc k z) S3 else .bad
    | none => .bad
    else mDcGo it p c kb b τ ts acc S1) .bad
noncomputable def mDc (vs : List Nat) (m : Env → Sto → R Its) (p : Pat) (c : Env → Sto → R Bool) (kb b : Env → Sto → R T) : Env → Sto → R T := fun τ S => (m τ S).bind fun it S1 => (mDcGo it p c kb b (wipeT τ vs) it.ts [] S1).bind fun acc S2 => .ok (.dct (acc.map (·.1)) (acc.map (·.2))) S2
def getT : List Key → List T → Key → Option T
  | k :: ks, t :: ts, j => if k = j then some t else getT ks ts j
  | _, _, _ => none
theorem get_of {K : PySem.W.Frag} {ρ : Wd} {H : Hp} {j : Key} {t : T} : ∀ {kvs : List (Key × V)} {ks : List Key} {ts : List T}, kvs.map (·.1) = ks → Reps K ρ H (kvs.map (·.2)) ts → getT ks ts j = some t → ∃ v, valV kvs j = some v ∧ Rep K ρ H v t
  | [], _, _, e, r, h => by
    subst e
    cases h
  | kv :: kvs, _, ts, e, r, h => by
    subst e
    cases r with
    | cons rv rs =>
      rw [List.map_cons, getT] at h
      by_cases c : kv.1 = j
      · rw [if_pos c] at h
        cases h
        exact ⟨kv.2, valV_pos c, rv⟩
      · rw [if_neg c] at h
        obtain ⟨v, h1, h2⟩ := get_of rfl rs h
        exact ⟨v, by rw [valV_neg c]; exact h1, h2⟩
@[simp] theorem ev_dc (vs m p c kb b) (τ : Env) (S : Sto) : mDc vs m p c kb b τ S = (m τ S).bind fun it S1 => (mDcGo it p c kb b (wipeT τ vs) it.ts [] S1).bind fun acc S2 => .ok (.dct (acc.map (·.1)) (acc.map (·.2))) S2 := id rfl
end Fx
namespace Fx
open PySem PySem.Spec PyProof.Rows L2 RT
def mDct0 : Env → Sto → R T := fun _ S => .ok (.ref S.length) (S ++ [.dct [] []])
def fIxK (x y : T) (S : Sto) : R T := match x with
  | .ref i => match S[i]? with
    | some (.dct ks ts) => match keyOf? y with
      | some k => match getT ks ts k with
        | some t => .ok t S
        | none => .bad
      | none => .bad
    | _ => .bad
  | _ => .bad
/-- in its place, or at the end -/
def hasK (ks : List Key) (k : Key) : Bool := ks.any fun q => decide (q = k)
def putKt (ks : List Key) (ts : List T) (k : Key) (t : T) : List T := if hasK ks k = true then (ks.zip ts).map fun p => if p.1 = k then t else p.2 else ts ++ [t]
def putKk (ks : List Key) (k : Key) : List Key := if hasK ks k = true then ks else ks ++ [k]
def sPutK (o i a : Env → Sto → R T) : Env → Sto → R Fl := fun τ S => (a τ S).bind fun t S1 => (o τ S1).bind fun x S2 => (i τ S2).bind fun y S3 => match x, keyOf? y with
  | .ref j, some k => match S3[j]? with
    | some (.dct ks ts) => if ks.length < 100000 then .ok (.nx τ) (S3.set j (.dct (putKk ks k) (putKt ks ts k t))) else .bad
    | _ => .bad
  | _, _ => .bad
section
variable {X : Cx} {E : XK} {pos : Pos}
theorem x_dct0 : PE X (.Dict [] [] pos) (tM X.K E mDct0) := PE.of pe_dnewK fun σ H Q ⟨ρ, τ, S, s, e, h⟩ p n => by
  refine h (ρ.push p) _ (Ext.more n (s.new n)) (s.more n ⟨[], upd_same, rfl, .nil⟩) _ (.ref ?_)
  show (ρ.at_ ++ [p])[S.length]? = some p
  rw [← s.len, List.getElem?_append_right (Nat.le_refl _), Nat.sub_self]
  rfl
theorem dgetK_fn {ρ : Wd} {H : Hp} {S : Sto} {v w : V} {x y : T} {Q : VK} (s : Sta X.K ρ H S) (rv : Rep X.K ρ H v x) (rw' : Rep X.K ρ H w y) (h : Post X.K E ρ H (fIxK x y S) (QE X.K Q)) : ∃ a u, v = .ref a ∧ DGet H a w (some u) ∧ Q u H := by
  unfold fIxK at h
  split at h
  · rename_i i
    split at h
    · rename_i ks ts hi
      split at h
      · rename_i k hk
        split at h
        · rename_i t ht
          cases rv with
          | ref ha =>
            obtain ⟨b, hb, ro⟩ := s.look hi
            rw [hb] at ha
            have ha := Option.some.inj ha
            subst ha
            obtain ⟨kvs, hx, he, rs⟩ := ro
            obtain ⟨u, h1, h2⟩ := get_of he rs ht
            rw [key_of rw' hk]
            have g := DGet.k hx (k := k)
            rw [h1] at g
            exact ⟨_, u, rfl, g, h.ok s _ h2⟩
        · exact h.elim
      · exact h.elim
    · exact h.elim
  · exact h.elim
theorem x_dgetK {o i : Expr} {ma mb : Env → Sto → R T} (hu : X.A.units + 1 < cLine) (ho : PE X o (tM X.K E ma)) (hi : PE X i (tM X.K E mb)) (hs : NoSl i := by exact fun _ _ => rfl) : PE X (.Subscript o i pos) (tM X.K E (mBin fIxK ma mb)) :=
  PE.of (pe_dget hu ho hi hs) fun σ H Q ⟨ρ, τ, S, s, e, h⟩ => ⟨ρ, τ, S, s, e, h.step fun ρ1 H1 x S1 e1 s1 h1 v rv => ⟨ρ1, τ, S1, s1, e.ext e1, h1.step fun ρ2 H2 y S2 e2 s2 h2 w rw => dgetK_fn s2 (rv.ext e2) rw h2⟩⟩
theorem put_of {K : PySem.W.Frag} {ρ : Wd} {H : Hp} {k : Key} {v : V} {t : T} (hv : Rep K ρ H v t) : ∀ {kvs : List (Key × V)} {ks : List Key} {ts : List T}, kvs.map (·.1) = ks → Reps K ρ H (kvs.map (·.2)) ts → (putK kvs k v).map (·.1) = putKk ks k ∧ Reps K ρ H ((putK kvs k v).map (·.2)) (putKt ks ts k t) := by
  intro kvs ks ts he rs
  have hany : (kvs.any fun kv => decide (kv.1 = k)) = hasK ks k := by
    subst he
    unfold hasK
    rw [List.any_map]
    rfl
  unfold putK putKk putKt
  rw [hany]
  by_cases c : hasK ks k = true
  · rw [if_pos c, if_pos c, if_pos c]
    have key : ∀ {kvs : List (Key × V)} {ks : List Key} {ts : List T}, kvs.map (·.1) = ks → Reps K ρ H (kvs.map (·.2)) ts → (kvs.map fun kv => if kv.1 = k then (kv.1, v) else kv).map (·.1) = ks ∧ Reps K ρ H ((kvs.map fun kv => if kv.1 = k then (kv.1, v) else kv).map (·.2)) ((ks.zip ts).map fun p => if p.1 = k then t else p.2) := by
      intro kvs
      induction kvs with
      | nil =>
        intro ks ts he rs
        subst he
        cases rs
        exact ⟨rfl, .nil⟩
      | cons kv kvs ih =>
        intro ks ts he rs
        subst he
        cases rs with
        | cons h r =>
          obtain ⟨i1, i2⟩ := ih rfl r
          rw [List.map_cons, List.map_cons, List.map_cons, List.zip_cons_cons, List.map_cons, List.map_cons]
          by_cases d : kv.1 = k
          · rw [if_pos d, if_pos d]
            exact ⟨by rw [i1], .cons hv i2⟩
          · rw [if_neg d, if_neg d]
            exact ⟨by rw [i1], .cons h i2⟩
    exact key he rs
  · rw [if_neg c, if_neg c, if_neg c]
    subst he
    rw [List.map_append, List.map_append]
    exact ⟨rfl, rs.append (.cons hv .nil)⟩
theorem s_putK {o i a : Expr} {p1 : Pos} {mo mi ma : Env → Sto → R T} (hu : X.A.units + 1 < cLine) (ha : PE X a (tM X.K E ma)) (ho : PE X o (tM X.K E mo)) (hi : PE X i (tM X.K E mi)) (hs : swapsWith a (some (.Subscript o i p1)) pos.line X.env = pure false := by rfl) :
    PS X (.Assign [.Subscript o i p1] a pos) (tS X.K E (sPutK mo mi ma)) :=
  PS.of (ps_dput hu ho hi ha hs) fun D σ H ⟨ρ, τ, S, s, e, h⟩ => ⟨ρ, τ, S, s, e, h.step fun ρ1 H1 t S1 e1 s1 h1 v rv => ⟨ρ1, τ, S1, s1, e.ext e1, h1.step fun ρ2 H2 x S2 e2 s2 h2 w rw' => ⟨ρ2, τ, S2, s2, (e.ext e1).ext e2, h2.step fun ρ3 H3 y S3 e3 s3 h3 z rz => by
    split at h3
    · rename_i j k hk
      split at h3
      · rename_i ks ts hj
        split at h3
        · rename_i hl
          have ez := key_of rz hk
          subst ez
          have rw2 := rw'.ext e3
          cases rw2 with
          | ref hb0 =>
            obtain ⟨b, hb, ro⟩ := s3.look hj
            rw [hb] at hb0
            have hb0 := Option.some.inj hb0
            subst hb0
            obtain ⟨kvs, hx, he, rs⟩ := ro
            have m : b ∈ ρ3.at_ := List.mem_of_getElem? hb
            obtain ⟨q1, q2⟩ := put_of ((rv.ext e2).ext e3) he rs
            have hlen : kvs.length < sizeLine := by
              have : kvs.length = ks.length := by rw [← he, List.length_map]
              rw [this]
              exact sz_lt5 hl
            exact ⟨b, _, rfl, DPut.k hx hlen, h3 ρ3 _ (Ext.put m) (s3.put hb ⟨_, upd_same, q1, q2.ext (Ext.put m)⟩) σ ((((e.ext e1).ext e2).ext e3).ext (Ext.put m))⟩
        · exact h3.elim
      · exact h3.elim
    · exact h3.elim⟩⟩⟩
end
theorem ev_dct0 (τ : Env) (S : Sto) : mDct0 τ S = .ok (.ref S.length) (S ++ [.dct [] []]) := id rfl
theorem ev_putK (o i a : Env → Sto → R T) (τ : Env) (S : Sto) : sPutK o i a τ S = (a τ S).bind fun t S1 => (o τ S1).bind fun x S2 => (i τ S2).bind fun y S3 => match x, keyOf? y with
  | .ref j, some k => match S3[j]? with
    | some (.dct ks ts) => if ks.length < 100000 then .ok (.nx τ) (S3.set j (.dct (putKk ks k) (putKt ks ts k t))) else .bad
    | _ => .bad
  | _, _ => .bad := id rfl
end Fx
namespace Fx
open PySem PySem.Spec PyProof.Rows L2 RT
theorem places_rev (n : Nat) : Builtin.Slice.slicePlaces ((n : Int) - 1) (-1) (-1) = n := by
  unfold Builtin.Slice.slicePlaces
  have h1 : ¬ ((-1 : Int) > 0) := by decide
  simp only [h1, if_false, show (- -1 : Int) = 1 by decide, Int.ediv_one]
  split <;> omega
theorem adjust_rev (n : Nat) : Builtin.Slice.sliceAdjust none none (-1) (n : Int) = ((n : Int) - 1, -1) := by
  unfold Builtin.Slice.sliceAdjust
  have h1 : (-1 : Int) < 0 := by decide
  simp only [h1, if_true]
theorem pick_rev (xs : Array Value) : ((List.range xs.size).filterMap fun (k : Nat) => xs[(((xs.size : Int) - 1) + (k : Int) * (-1)).toNat]?).toArray = xs.toList.reverse.toArray := by
  have e : (List.range xs.size).filterMap (fun (k : Nat) => xs[(((xs.size : Int) - 1) + (k : Int) * (-1)).toNat]?) = ((List.range xs.size).map fun k => xs.size - 1 - k).filterMap (xs[·]?) := by
    rw [List.filterMap_map]
    congr 1
    funext k
    have : (((xs.size : Int) - 1) + (k : Int) * (-1)).toNat = xs.size - 1 - k := by omega
    rw [this]
    rfl
  rw [e, PySem.W.krv_range, List.filterMap_reverse, PySem.W.krv_all]
section
variable {prog : Program} {w : World} {A : Around} {E : Value → Shared → Prop} {s : Shared}
theorem sliceApplied_rev {sl : Addr} {vl vu vs : Value} {n : Nat} {Q : Int × Int × Nat → Shared → Prop} (hs : s.heap.IsSliceOf sl vl vu vs) (pl : IsPart vl none) (pu : IsPart vu none) (ps : IsPart vs (some (-1)))
    (h : Q ((n : Int) - 1, -1, n) s) : wpAny (model prog w) A (Builtin.Slice.sliceApplied (.ref sl) (pure (n : Int))) Q E s := by
  obtain ⟨os, hos, hcs, hds⟩ := id hs
  unfold Builtin.Slice.sliceApplied Builtin.Slice.sliceFields
  refine wpAny_bind (wpAny_bind (wpAny_field hos hds (x := vl) rfl (wpAny_bind (wpAny_field hos hds (x := vu) rfl (wpAny_bind (wpAny_field hos hds (x := vs) rfl (wpAny_pure ?_)))))))
  refine wpAny_bind (HT.slicePart_ ps ?_)
  show wpAny _ _ (if ((-1 : Int) == 0) = true then _ else _) _ _ s
  rw [if_neg (by decide)]
  refine wpAny_bind (HT.slicePart_ pl (wpAny_bind (HT.slicePart_ pu (wpAny_bind (wpAny_pure ?_)))))
  show wpAny _ _ (match Builtin.Slice.sliceAdjust none none (-1) (n : Int) with | (lo, hi) => pure (lo, (-1 : Int), Builtin.Slice.slicePlaces lo hi (-1))) _ _ s
  rw [adjust_rev n]
  show wpAny _ _ (pure ((n : Int) - 1, (-1 : Int), Builtin.Slice.slicePlaces ((n : Int) - 1) (-1) (-1))) _ _ s
  rw [places_rev]
  exact wpAny_pure h
theorem getItem_tuple_rev {t sl : Addr} {items : Array Value} {vl vu vs : Value} {Q : Value → Shared → Prop} (ht : IsTup s.heap t items) (hs : s.heap.IsSliceOf sl vl vu vs) (pl : IsPart vl none) (pu : IsPart vu none) (ps : IsPart vs (some (-1)))
    (h : Q (.ref s.heap.objs.size) { s with heap := s.heap.push { cls := .type "tuple", data := .seq items.toList.reverse.toArray } })
    (hsz : items.size ≤ sizeLine) : wpAny (model prog w) A (getItem (.ref t) (.ref sl)) Q E s := by
  have htake : sizeOk (.seq items.toList.reverse.toArray) := by
    show items.toList.reverse.toArray.size ≤ sizeLine
    rw [List.size_toArray, List.length_reverse, Array.length_toList]
    exact hsz
  obtain ⟨os, hos, hcs, hds⟩ := id hs
  have hTs : s.TypeIs (.ref sl) "slice" := ⟨os, hos, hcs⟩
  unfold getItem
  try with_reducible refine wpAny_holding ?_
  first | refine wpAny_bind (wpAny_pure ?_) | skip
  refine wpAny_bind (wpAny_sequenceKey ht.typeIs (by decide) ?_)
  refine wpAny_bind (wpAny_callSpecial?_slot (name := Str.ofString "__getitem__") ht.typeIs PyProof.Rows.slot_tuple_getitem
    (wpAny_call_entry PyProof.Rows.slot_tuple_getitem ht.typeIs entry_tuple_getitem ?_ (args_tuple_getitem _ _)))
  show wpAny _ _ (Builtin.Tuple.tupleItemsOf (.ref t) >>= _) _ _ s
  refine wpAny_bind (tupleItemsOf_ ht ?_)
  refine wpAny_bind (wpAny_typeOf hTs ?_)
  rw [if_pos (by decide)]
  refine wpAny_bind (sliceApplied_rev hs pl pu ps ?_)
  have hno : ¬ ((((items.size : Int) - 1) == 0 && (-1 : Int) == 1 && items.size == items.size) = true) := by
    rw [show ((-1 : Int) == 1) = false by decide, Bool.and_false, Bool.false_and]
    exact Bool.false_ne_true
  show wpAny _ _ (if (((items.size : Int) - 1) == 0 && (-1 : Int) == 1 && items.size == items.size) = true then _ else _) _ _ s
  rw [if_neg hno, pick_rev]
  first
    | exact wpAny_bind (m := Builtin.Tuple.tupleExact _) (wpAny_newObj_type (wpAny_pure ⟨_, rfl, wpAny_pure h⟩) htake)
    | exact wpAny_bind (m := Builtin.Tuple.tupleExact _) (wpAny_newObj_type (wpAny_bind (wpAny_pure (wpAny_pure ⟨_, rfl, wpAny_pure h⟩))) htake)
    | exact wpAny_bind (wpAny_bind (m := Builtin.Tuple.tupleExact _) (wpAny_newObj_type (wpAny_pure (wpAny_pure ⟨_, rfl, wpAny_pure h⟩)) htake))
    | exact wpAny_bind (wpAny_bind (m := Builtin.Tuple.tupleExact _) (wpAny_newObj_type (wpAny_pure ⟨_, rfl, wpAny_pure h⟩) htake))
end
def tRevT (K : PySem.W.Frag) (te : TE) : TE := fun σ H Q => te σ H fun x H1 => ∃ a xs, x = .ref a ∧ SqT K H1 a xs ∧ NewT xs.reverse H1 Q
theorem pe_revT {X : Cx} {e : Expr} {te : TE} {k : Nat} {p1 p2 p3 pos : Pos} (he : PE X e te) : PE X (.Subscript e (.Slice none none (some (.UnaryOp .USub (.Constant (.int 1) k p1) p2)) p3) pos) (tRevT X.K te) := by
  refine ⟨fun pins s σ H Q I h => ?_⟩
  refine Subscript_ (thn (he.run pins s σ H _ I h) fun v s1 ⟨x, H1, I1, r1, q1⟩ => ?_)
  obtain ⟨a, xs, ex, hx, q⟩ := q1
  subst ex
  cases r1
  have hst : PO X (some (.UnaryOp .USub (.Constant (.int 1) k p1) p2)) (tPart (tUn (rU fun i => .int (-i)) (tC (.int 1)))) := po_some (pe_un un_neg pe_int)
  refine wpAny_Slice (thn (po_none.run pins s1 σ H1 (fun o H2 => o = none ∧ H2 = H1) I1 ⟨rfl, rfl⟩) fun vl s2 ⟨l, H2, I2, pl, el, e2⟩ => ?_)
  subst el e2
  refine thn (po_none.run pins s2 σ H2 (fun o H3 => o = none ∧ H3 = H2) I2 ⟨rfl, rfl⟩) fun vu s3 ⟨u, H3, I3, pu, eu, e3⟩ => ?_
  subst eu e3
  refine thn (hst.run pins s3 σ H3 (fun o H4 => o = some (-1) ∧ H4 = H3) I3 ⟨1, rfl, -1, rfl, rfl, rfl⟩) fun vs s4 ⟨o, H4, I4, ps, eo, e4⟩ => ?_
  subst eo e4
  have I5 : Inv X pins σ H4 { s4 with heap := s4.heap.push { cls := .type "slice", data := .fields #[vl, vu, vs] } } := I4.kept (t' := s4.toks) fun b ob q => Heap.get?_push_of_some _ q
  obtain ⟨its, r, ht, hz⟩ := I5.tuple hx
  have hlen := r.length
  show wpAny (model X.prog X.w) X.A (subscriptTail e (.Slice none none (some (.UnaryOp .USub (.Constant (.int 1) k p1) p2)) p3) (.ref a) (.ref s4.heap.objs.size)) (EP X pins σ Q) X.xe { s4 with heap := s4.heap.push { cls := .type "slice", data := .fields #[vl, vu, vs] } }
  refine tail_any (ops := [.ref a, .ref s4.heap.objs.size]) ht.typeIs (PyProof.Rows.slot_tuple_getitem.lookup) ?_ (by with_unfolding_all rfl)
  refine getItem_tuple_rev ht (Heap.IsSliceOf.new _ vl vu vs) pl pu ps ?_ (by rw [List.size_toArray]; omega)
  exact ⟨.ref _, _, I5.laid (t' := s4.toks) (o := .frz _ (.tup xs.reverse)) (fun b ob q => Heap.get?_push_of_some _ q) (Nat.le_refl _) ⟨Heap.get?_push_size _ rfl, by rw [List.length_reverse]; exact hz, _, r.reverse, IsTup.new _ _⟩, rfl, q _ _ (I5.hok.fresh (Nat.le_refl _)) ⟨rfl, rfl⟩⟩
def fRevTup (t : T) (S : Sto) : R T := match t with
  | .tup ts => .ok (.tup ts.reverse) S
  | _ => .bad
theorem x_revT {X : Cx} {E : XK} {e : Expr} {m : Env → Sto → R T} {k : Nat} {p1 p2 p3 pos : Pos} (he : PE X e (tM X.K E m)) :
    PE X (.Subscript e (.Slice none none (some (.UnaryOp .USub (.Constant (.int 1) k p1) p2)) p3) pos) (tM X.K E (mUn fRevTup m)) :=
  PE.of (pe_revT he) fun σ H Q ⟨ρ, τ, S, s, en, h⟩ => ⟨ρ, τ, S, s, en, h.step fun ρ1 H1 t S1 e1 s1 h1 v rv => by
    cases rv with
    | tup ft rx => exact ⟨_, _, rfl, ft.sq, new_tup s1 rx.reverse h1⟩
    | _ => exact h1.elim⟩
@[simp] theorem ev_revTup (ts : List T) (S : Sto) : fRevTup (.tup ts) S = .ok (.tup ts.reverse) S := id rfl
end Fx
namespace Fx
open PySem PySem.Spec PyProof.Rows L2 RT
section
variable {α β : Type} (τ : Fx.Env) (S : Sto)
noncomputable def kSeq (b : Env → Sto → R Fl) : Fl → Sto → R Fl := fun f S1 => match f with
  | .nx τ1 => b τ1 S1
  | .rt t => .ok (.rt t) S1
  | .bk τ1 => .ok (.bk τ1) S1
  | .ct τ1 => .ok (.ct τ1) S1
theorem ew_seq (a b) : sSeq a b τ S = (a τ S).bind (kSeq b) := id rfl
theorem ew_seqN (b) : kSeq b (.nx τ) S = b τ S := id rfl
theorem ew_seqR (b t) : kSeq b (.rt t) S = .ok (.rt t) S := id rfl
theorem ew_seqB (b) : kSeq b (.bk τ) S = .ok (.bk τ) S := id rfl
theorem ew_seqC (b) : kSeq b (.ct τ) S = .ok (.ct τ) S := id rfl
noncomputable def kBin (f : T → T → Sto → R T) (b : Env → Sto → R T) (τ : Env) : T → Sto → R T := fun x S1 => (b τ S1).bind (f x)
theorem ew_bin (f a b) : mBin f a b τ S = (a τ S).bind (kBin f b τ) := id rfl
theorem ew_bin1 (f b) (x : T) : kBin f b τ x S = (b τ S).bind (f x) := id rfl
theorem ew_un (f a) : mUn f a τ S = (a τ S).bind f := id rfl
noncomputable def kCons2 (x : T) : List T → Sto → R (List T) := fun ys S2 => .ok (x :: ys) S2
noncomputable def kCons (b : Env → Sto → R (List T)) (τ : Env) : T → Sto → R (List T) := fun x S1 => (b τ S1).bind (kCons2 x)
theorem ew_cons (a b) : mCons a b τ S = (a τ S).bind (kCons b τ) := id rfl
theorem ew_cons1 (b) (x : T) : kCons b τ x S = (b τ S).bind (kCons2 x) := id rfl
theorem ew_cons2 (x : T) (ys) : kCons2 x ys S = .ok (x :: ys) S := id rfl
noncomputable def kIte {γ : Type} (a b : Env → Sto → R γ) (τ : Env) : Bool → Sto → R γ := fun k S1 => if k = true then a τ S1 else b τ S1
theorem ew_ite (c a b) : mIte c a b τ S = (c τ S).bind (kIte a b τ) := id rfl
theorem ew_if (c a b) : sIf c a b τ S = (c τ S).bind (kIte a b τ) := id rfl
theorem ew_iteT {γ : Type} (a b : Env → Sto → R γ) : kIte a b τ true S = a τ S := id rfl
theorem ew_iteF {γ : Type} (a b : Env → Sto → R γ) : kIte a b τ false S = b τ S := id rfl
noncomputable def kAnd (b : Env → Sto → R Bool) (τ : Env) : Bool → Sto → R Bool := fun k S1 => if k = true then b τ S1 else .ok false S1
noncomputable def kOr (b : Env → Sto → R Bool) (τ : Env) : Bool → Sto → R Bool := fun k S1 => if k = true then .ok true S1 else b τ S1
noncomputable def kNot : Bool → Sto → R Bool := fun k S1 => .ok (!k) S1
theorem ew_and (a b) : mAnd a b τ S = (a τ S).bind (kAnd b τ) := id rfl
theorem ew_andT (b) : kAnd b τ true S = b τ S := id rfl
theorem ew_andF (b) : kAnd b τ false S = .ok false S := id rfl
theorem ew_or (a b) : mOr a b τ S = (a τ S).bind (kOr b τ) := id rfl
theorem ew_orT (b) : kOr b τ true S = .ok true S := id rfl
theorem ew_orF (b) : kOr b τ false S = b τ S := id rfl
theorem ew_not (a) : mNot a τ S = (a τ S).bind kNot := id rfl
theorem ew_not1 (k : Bool) : kNot k S = .ok (!k) S := id rfl
noncomputable def kTup : List T → Sto → R T := fun ts S1 => if ts.length ≤ 100000 then .ok (.tup ts) S1 else .bad
theorem ew_tup (a) : mTup a τ S = (a τ S).bind kTup := id rfl
theorem ew_tup1 (ts) : kTup ts S = if ts.length ≤ 100000 then .ok (.tup ts) S else .bad := id rfl
noncomputable def kLst (fz : Bool) : List T → Sto → R T := fun ts S1 => if ts.length ≤ 100000 then newL fz ts S1 else .bad
theorem ew_lst (fz a) : mLst fz a τ S = (a τ S).bind (kLst fz) := id rfl
theorem ew_lst1 (fz ts) : kLst fz ts S = if ts.length ≤ 100000 then newL fz ts S else .bad := id rfl
noncomputable def kMeth (c : T → Sto → Bool) (f : T → List T → Sto → R T) (a : Env → Sto → R (List T)) (τ : Env) : T → Sto → R T := fun x S1 => if c x S1 = true then (a τ S1).bind (f x) else .bad
theorem ew_meth (c f o a) : mMeth c f o a τ S = (o τ S).bind (kMeth c f a τ) := id rfl
theorem ew_meth1 (c f a) (x : T) : kMeth c f a τ x S = if c x S = true then (a τ S).bind (f x) else .bad := id rfl
noncomputable def kSl2 (f : T → Option Int → Option Int → Sto → R T) (x : T) (u : Env → Sto → R (Option Int)) (τ : Env) : Option Int → Sto → R T := fun lo S2 => (u τ S2).bind (f x lo)
noncomputable def kSl (f : T → Option Int → Option Int → Sto → R T) (l u : Env → Sto → R (Option Int)) (τ : Env) : T → Sto → R T := fun x S1 => (l τ S1).bind (kSl2 f x u τ)
theorem ew_sl (f a l u) : mSl f a l u τ S = (a τ S).bind (kSl f l u τ) := id rfl
theorem ew_sl1 (f l u) (x : T) : kSl f l u τ x S = (l τ S).bind (kSl2 f x u τ) := id rfl
theorem ew_sl2 (f u) (x : T) (lo) : kSl2 f x u τ lo S = (u τ S).bind (f x lo) := id rfl
noncomputable def kO1 : T → Sto → R (Option Int) := fun x S1 => match x with
  | .int i => .ok (some i) S1
  | _ => .bad
theorem ew_O1 (a) : mO1 a τ S = (a τ S).bind kO1 := id rfl
theorem ew_O11 (i : Int) : kO1 (.int i) S = .ok (some i) S := id rfl
noncomputable def kLc (fz : Bool) (vs : List Nat) (p : Pat) (c : Env → Sto → R Bool) (b : Env → Sto → R T) (τ : Env) : Its → Sto → R T := fun it S1 => (mLcGo it p c b (wipeT τ vs) it.ts [] S1).bind (newL fz)
theorem ew_lc (fz vs m p c b) : mLc fz vs m p c b τ S = (m τ S).bind (kLc fz vs p c b τ) := id rfl
theorem ew_lc1 (fz vs p c b) (it : Its) : kLc fz vs p c b τ it S = (mLcGo it p c b (wipeT τ vs) it.ts [] S).bind (newL fz) := id rfl
noncomputable def kSet (i : Nat) (τ : Env) : T → Sto → R Fl := fun x S1 => .ok (.nx (τ.set i (some x))) S1
theorem ew_set (i a) : sSet i a τ S = (a τ S).bind (kSet i τ) := id rfl
theorem ew_set1 (i) (x : T) : kSet i τ x S = .ok (.nx (τ.set i (some x))) S := id rfl
noncomputable def kDrop (τ : Env) : T → Sto → R Fl := fun _ S1 => .ok (.nx τ) S1
theorem ew_drop (a) : sDrop a τ S = (a τ S).bind (kDrop τ) := id rfl
theorem ew_drop1 (x : T) : kDrop τ x S = .ok (.nx τ) S := id rfl
noncomputable def kRet : T → Sto → R Fl := fun x S1 => .ok (.rt x) S1
theorem ew_ret (a) : sRet a τ S = (a τ S).bind kRet := id rfl
theorem ew_ret1 (x : T) : kRet x S = .ok (.rt x) S := id rfl
noncomputable def kFor (p : Pat) (b : Env → Sto → R Fl) (τ : Env) : Its → Sto → R Fl := fun it S1 => sForGo it p b it.ts τ S1
theorem ew_for (m p b) : sFor m p b τ S = (m τ S).bind (kFor p b τ) := id rfl
theorem ew_for1 (p b) (it : Its) : kFor p b τ it S = sForGo it p b it.ts τ S := id rfl
def kOk (f : α → Sto → R β) (Q : β → Sto → Prop) : α → Sto → Prop := fun a S => Ok (f a S) Q
theorem ew_bind (r : R α) (f : α → Sto → R β) (Q : β → Sto → Prop) : Ok (r.bind f) Q = Ok r (kOk f Q) := Ok_bind r f Q
theorem ew_Ok (f : α → Sto → R β) (Q : β → Sto → Prop) (a : α) : kOk f Q a S = Ok (f a S) Q := id rfl
end
theorem bind_as {α β γ : Type} (r : R α) (f : α → Sto → R β) (g : β → Sto → R γ) : (r.bind f).bind g = r.bind fun a S => (f a S).bind g := by cases r <;> rfl
theorem bind_cg {α β : Type} (r : R α) {f g : α → Sto → R β} (h : ∀ a S, f a S = g a S) : r.bind f = r.bind g := by
  rw [show f = g from funext fun a => funext fun S => h a S]
theorem eb_C {β : Type} (t : T) (τ : Env) (S : Sto) (f : T → Sto → R β) : R.bind (mC t τ S) f = f t S := id rfl
theorem eb_v0 {β : Type} (t : T) (l : Env) (S : Sto) (f : T → Sto → R β) : R.bind (mVar 0 (some t :: l) S) f = f t S := id rfl
theorem eb_v1 {β : Type} (a0 : Option T) (t : T) (l : Env) (S : Sto) (f : T → Sto → R β) : R.bind (mVar 1 (a0 :: some t :: l) S) f = f t S := id rfl
theorem eb_v2 {β : Type} (a0 a1 : Option T) (t : T) (l : Env) (S : Sto) (f : T → Sto → R β) : R.bind (mVar 2 (a0 :: a1 :: some t :: l) S) f = f t S := id rfl
theorem eb_v3 {β : Type} (a0 a1 a2 : Option T) (t : T) (l : Env) (S : Sto) (f : T → Sto → R β) : R.bind (mVar 3 (a0 :: a1 :: a2 :: some t :: l) S) f = f t S := id rfl
theorem eb_v4 {β : Type} (a0 a1 a2 a3 : Option T) (t : T) (l : Env) (S : Sto) (f : T → Sto → R β) : R.bind (mVar 4 (a0 :: a1 :: a2 :: a3 :: some t :: l) S) f = f t S := id rfl
theorem eb_v5 {β : Type} (a0 a1 a2 a3 a4 : Option T) (t : T) (l : Env) (S : Sto) (f : T → Sto → R β) : R.bind (mVar 5 (a0 :: a1 :: a2 :: a3 :: a4 :: some t :: l) S) f = f t S := id rfl
theorem eb_v6 {β : Type} (a0 a1 a2 a3 a4 a5 : Option T) (t : T) (l : Env) (S : Sto) (f : T → Sto → R β) : R.bind (mVar 6 (a0 :: a1 :: a2 :: a3 :: a4 :: a5 :: some t :: l) S) f = f t S := id rfl
theorem eb_v7 {β : Type} (a0 a1 a2 a3 a4 a5 a6 : Option T) (t : T) (l : Env) (S : Sto) (f : T → Sto → R β) : R.bind (mVar 7 (a0 :: a1 :: a2 :: a3 :: a4 :: a5 :: a6 :: some t :: l) S) f = f t S := id rfl
theorem eb_v8 {β : Type} (a0 a1 a2 a3 a4 a5 a6 a7 : Option T) (t : T) (l : Env) (S : Sto) (f : T → Sto → R β) : R.bind (mVar 8 (a0 :: a1 :: a2 :: a3 :: a4 :: a5 :: a6 :: a7 :: some t :: l) S) f = f t S := id rfl
theorem eb_v9 {β : Type} (a0 a1 a2 a3 a4 a5 a6 a7 a8 : Option T) (t : T) (l : Env) (S : Sto) (f : T → Sto → R β) : R.bind (mVar 9 (a0 :: a1 :: a2 :: a3 :: a4 :: a5 :: a6 :: a7 :: a8 :: some t :: l) S) f = f t S := id rfl
theorem eb_v10 {β : Type} (a0 a1 a2 a3 a4 a5 a6 a7 a8 a9 : Option T) (t : T) (l : Env) (S : Sto) (f : T → Sto → R β) : R.bind (mVar 10 (a0 :: a1 :: a2 :: a3 :: a4 :: a5 :: a6 :: a7 :: a8 :: a9 :: some t :: l) S) f = f t S := id rfl
theorem eb_v11 {β : Type} (a0 a1 a2 a3 a4 a5 a6 a7 a8 a9 a10 : Option T) (t : T) (l : Env) (S : Sto) (f : T → Sto → R β) : R.bind (mVar 11 (a0 :: a1 :: a2 :: a3 :: a4 :: a5 :: a6 :: a7 :: a8 :: a9 :: a10 :: some t :: l) S) f = f t S := id rfl
theorem eb_v12 {β : Type} (a0 a1 a2 a3 a4 a5 a6 a7 a8 a9 a10 a11 : Option T) (t : T) (l : Env) (S : Sto) (f : T → Sto → R β) : R.bind (mVar 12 (a0 :: a1 :: a2 :: a3 :: a4 :: a5 :: a6 :: a7 :: a8 :: a9 :: a10 :: a11 :: some t :: l) S) f = f t S := id rfl
theorem eb_v13 {β : Type} (a0 a1 a2 a3 a4 a5 a6 a7 a8 a9 a10 a11 a12 : Option T) (t : T) (l : Env) (S : Sto) (f : T → Sto → R β) : R.bind (mVar 13 (a0 :: a1 :: a2 :: a3 :: a4 :: a5 :: a6 :: a7 :: a8 :: a9 :: a10 :: a11 :: a12 :: some t :: l) S) f = f t S := id rfl
theorem eb_v14 {β : Type} (a0 a1 a2 a3 a4 a5 a6 a7 a8 a9 a10 a11 a12 a13 : Option T) (t : T) (l : Env) (S : Sto) (f : T → Sto → R β) : R.bind (mVar 14 (a0 :: a1 :: a2 :: a3 :: a4 :: a5 :: a6 :: a7 :: a8 :: a9 :: a10 :: a11 :: a12 :: a13 :: some t :: l) S) f = f t S := id rfl
theorem eb_v15 {β : Type} (a0 a1 a2 a3 a4 a5 a6 a7 a8 a9 a10 a11 a12 a13 a14 : Option T) (t : T) (l : Env) (S : Sto) (f : T → Sto → R β) : R.bind (mVar 15 (a0 :: a1 :: a2 :: a3 :: a4 :: a5 :: a6 :: a7 :: a8 :: a9 :: a10 :: a11 :: a12 :: a13 :: a14 :: some t :: l) S) f = f t S := id rfl
theorem eb_v16 {β : Type} (a0 a1 a2 a3 a4 a5 a6 a7 a8 a9 a10 a11 a12 a13 a14 a15 : Option T) (t : T) (l : Env) (S : Sto) (f : T → Sto → R β) : R.bind (mVar 16 (a0 :: a1 :: a2 :: a3 :: a4 :: a5 :: a6 :: a7 :: a8 :: a9 :: a10 :: a11 :: a12 :: a13 :: a14 :: a15 :: some t :: l) S) f = f t S := id rfl
theorem eb_v17 {β : Type} (a0 a1 a2 a3 a4 a5 a6 a7 a8 a9 a10 a11 a12 a13 a14 a15 a16 : Option T) (t : T) (l : Env) (S : Sto) (f : T → Sto → R β) : R.bind (mVar 17 (a0 :: a1 :: a2 :: a3 :: a4 :: a5 :: a6 :: a7 :: a8 :: a9 :: a10 :: a11 :: a12 :: a13 :: a14 :: a15 :: a16 :: some t :: l) S) f = f t S := id rfl
noncomputable def kQs (i : Nat) (b : Env → Sto → R Fl) (τ : Env) : T → Sto → R Fl := fun x S1 => b (τ.set i (some x)) S1
theorem ew_qs (i) (a b) (τ : Env) (S : Sto) : sSeq (sSet i a) b τ S = (a τ S).bind (kQs i b τ) := id (bind_as _ _ _)
theorem ew_qs1 (i) (b) (τ : Env) (x : T) (S : Sto) : kQs i b τ x S = b (τ.set i (some x)) S := id rfl
noncomputable def kQd (b : Env → Sto → R Fl) (τ : Env) : T → Sto → R Fl := fun _ S1 => b τ S1
theorem ew_qd (a b) (τ : Env) (S : Sto) : sSeq (sDrop a) b τ S = (a τ S).bind (kQd b τ) := id (bind_as _ _ _)
theorem ew_qd1 (b) (τ : Env) (x : T) (S : Sto) : kQd b τ x S = b τ S := id rfl
noncomputable def kTp : List T → Sto → R T := fun ts S1 => .ok (.tup ts) S1
theorem ew_Tp (ts : List T) (S : Sto) : kTp ts S = .ok (.tup ts) S := id rfl
noncomputable def kF1_1 {γ : Type} (f : List T → Sto → R γ) : T → Sto → R γ := fun x S1 => f [x] S1
theorem ew_k1_1 {γ : Type} (f : List T → Sto → R γ) (x : T) (S : Sto) : kF1_1 f  x S = f [x] S := id rfl
theorem ew_ch1 {γ : Type} (g : List T → Sto → R γ) (b1 : Env → Sto → R T) (τ : Env) (S : Sto) : R.bind (mCons b1 mNil τ S) g = (b1 τ S).bind (kF1_1 g ) := (bind_as _ _ _).trans (bind_cg _ fun x S1 => (bind_as _ _ _).trans (rfl))
theorem ew_fn1 (f : List T → Sto → R T) (b1 : Env → Sto → R T) (τ : Env) (S : Sto) : mFn f (mCons b1 mNil) τ S = (b1 τ S).bind (kF1_1 f ) := ew_ch1 f b1 τ S
theorem ew_in1 (f : List T → Sto → R Its) (b1 : Env → Sto → R T) (τ : Env) (S : Sto) : mItN f (mCons b1 mNil) τ S = (b1 τ S).bind (kF1_1 f ) := ew_ch1 f b1 τ S
theorem ew_tp1 (b1 : Env → Sto → R T) (τ : Env) (S : Sto) : mTup (mCons b1 mNil) τ S = (b1 τ S).bind (kF1_1 kTp ) := (ew_ch1 kTup b1 τ S).trans rfl
theorem ew_ls1 (fz : Bool) (b1 : Env → Sto → R T) (τ : Env) (S : Sto) : mLst fz (mCons b1 mNil) τ S = (b1 τ S).bind (kF1_1 (newL fz) ) := (ew_ch1 (kLst fz) b1 τ S).trans rfl
noncomputable def kM1 (c : T → Sto → Bool) (f : T → List T → Sto → R T) (b1 : Env → Sto → R T) (τ : Env) : T → Sto → R T := fun x S => if c x S = true then (b1 τ S).bind (kF1_1 (f x) ) else .bad
theorem ew_mt1 (c : T → Sto → Bool) (f : T → List T → Sto → R T) (a b1 : Env → Sto → R T) (τ : Env) (S : Sto) : mMeth c f a (mCons b1 mNil) τ S = (a τ S).bind (kM1 c f b1 τ) := bind_cg _ fun x S1 => by
  show (if c x S1 = true then _ else _) = (if c x S1 = true then _ else _)
  rw [← ew_ch1]
theorem ew_mu1 (c : T → Sto → Bool) (f : T → List T → Sto → R T) (b1 : Env → Sto → R T) (τ : Env) (x : T) (S : Sto) : kM1 c f b1 τ x S = if c x S = true then (b1 τ S).bind (kF1_1 (f x) ) else .bad := id rfl
noncomputable def kF2_2 {γ : Type} (f : List T → Sto → R γ) (x1 : T) : T → Sto → R γ := fun x S1 => f [x1, x] S1
theorem ew_k2_2 {γ : Type} (f : List T → Sto → R γ) (x1 : T) (x : T) (S : Sto) : kF2_2 f x1 x S = f [x1, x] S := id rfl
noncomputable def kF2_1 {γ : Type} (f : List T → Sto → R γ) (b2 : Env → Sto → R T) (τ : Env) : T → Sto → R γ := fun x S1 => (b2 τ S1).bind (kF2_2 f x )
theorem ew_k2_1 {γ : Type} (f : List T → Sto → R γ) (b2 : Env → Sto → R T) (τ : Env) (x : T) (S : Sto) : kF2_1 f  b2 τ x S = (b2 τ S).bind (kF2_2 f x ) := id rfl
theorem ew_ch2 {γ : Type} (g : List T → Sto → R γ) (b1 b2 : Env → Sto → R T) (τ : Env) (S : Sto) : R.bind (mCons b1 (mCons b2 mNil) τ S) g = (b1 τ S).bind (kF2_1 g b2 τ) := (bind_as _ _ _).trans (bind_cg _ fun x S1 => (bind_as _ _ _).trans (ew_ch1 (fun ys => g (x :: ys)) b2 τ S1))
theorem ew_fn2 (f : List T → Sto → R T) (b1 b2 : Env → Sto → R T) (τ : Env) (S : Sto) : mFn f (mCons b1 (mCons b2 mNil)) τ S = (b1 τ S).bind (kF2_1 f b2 τ) := ew_ch2 f b1 b2 τ S
theorem ew_in2 (f : List T → Sto → R Its) (b1 b2 : Env → Sto → R T) (τ : Env) (S : Sto) : mItN f (mCons b1 (mCons b2 mNil)) τ S = (b1 τ S).bind (kF2_1 f b2 τ) := ew_ch2 f b1 b2 τ S
theorem ew_tp2 (b1 b2 : Env → Sto → R T) (τ : Env) (S : Sto) : mTup (mCons b1 (mCons b2 mNil)) τ S = (b1 τ S).bind (kF2_1 kTp b2 τ) := (ew_ch2 kTup b1 b2 τ S).trans rfl
theorem ew_ls2 (fz : Bool) (b1 b2 : Env → Sto → R T) (τ : Env) (S : Sto) : mLst fz (mCons b1 (mCons b2 mNil)) τ S = (b1 τ S).bind (kF2_1 (newL fz) b2 τ) := (ew_ch2 (kLst fz) b1 b2 τ S).trans rfl
noncomputable def kM2 (c : T → Sto → Bool) (f : T → List T → Sto → R T) (b1 b2 : Env → Sto → R T) (τ : Env) : T → Sto → R T := fun x S => if c x S = true then (b1 τ S).bind (kF2_1 (f x) b2 τ) else .bad
theorem ew_mt2 (c : T → Sto → Bool) (f : T → List T → Sto → R T) (a b1 b2 : Env → Sto → R T) (τ : Env) (S : Sto) : mMeth c f a (mCons b1 (mCons b2 mNil)) τ S = (a τ S).bind (kM2 c f b1 b2 τ) := bind_cg _ fun x S1 => by
  show (if c x S1 = true then _ else _) = (if c x S1 = true then _ else _)
  rw [← ew_ch2]
theorem ew_mu2 (c : T → Sto → Bool) (f : T → List T → Sto → R T) (b1 b2 : Env → Sto → R T) (τ : Env) (x : T) (S : Sto) : kM2 c f b1 b2 τ x S = if c x S = true then (b1 τ S).bind (kF2_1 (f x) b2 τ) else .bad := id rfl
noncomputable def kF3_3 {γ : Type} (f : List T → Sto → R γ) (x1 : T) (x2 : T) : T → Sto → R γ := fun x S1 => f [x1, x2, x] S1
theorem ew_k3_3 {γ : Type} (f : List T → Sto → R γ) (x1 : T) (x2 : T) (x : T) (S : Sto) : kF3_3 f x1 x2 x S = f [x1, x2, x] S := id rfl
noncomputable def kF3_2 {γ : Type} (f : List T → Sto → R γ) (x1 : T) (b3 : Env → Sto → R T) (τ : Env) : T → Sto → R γ := fun x S1 => (b3 τ S1).bind (kF3_3 f x1 x )
theorem ew_k3_2 {γ : Type} (f : List T → Sto → R γ) (x1 : T) (b3 : Env → Sto → R T) (τ : Env) (x : T) (S : Sto) : kF3_2 f x1 b3 τ x S = (b3 τ S).bind (kF3_3 f x1 x ) := id rfl
noncomputable def kF3_1 {γ : Type} (f : List T → Sto → R γ) (b2 : Env → Sto → R T) (b3 : Env → Sto → R T) (τ : Env) : T → Sto → R γ := fun x S1 => (b2 τ S1).bind (kF3_2 f x b3 τ)
theorem ew_k3_1 {γ : Type} (f : List T → Sto → R γ) (b2 : Env → Sto → R T) (b3 : Env → Sto → R T) (τ : Env) (x : T) (S : Sto) : kF3_1 f  b2 b3 τ x S = (b2 τ S).bind (kF3_2 f x b3 τ) := id rfl
theorem ew_ch3 {γ : Type} (g : List T → Sto → R γ) (b1 b2 b3 : Env → Sto → R T) (τ : Env) (S : Sto) : R.bind (mCons b1 (mCons b2 (mCons b3 mNil)) τ S) g = (b1 τ S).bind (kF3_1 g b2 b3 τ) := (bind_as _ _ _).trans (bind_cg _ fun x S1 => (bind_as _ _ _).trans (ew_ch2 (fun ys => g (x :: ys)) b2 b3 τ S1))
theorem ew_fn3 (f : List T → Sto → R T) (b1 b2 b3 : Env → Sto → R T) (τ : Env) (S : Sto) : mFn f (mCons b1 (mCons b2 (mCons b3 mNil))) τ S = (b1 τ S).bind (kF3_1 f b2 b3 τ) := ew_ch3 f b1 b2 b3 τ S
theorem ew_tp3 (b1 b2 b3 : Env → Sto → R T) (τ : Env) (S : Sto) : mTup (mCons b1 (mCons b2 (mCons b3 mNil))) τ S = (b1 τ S).bind (kF3_1 kTp b2 b3 τ) := (ew_ch3 kTup b1 b2 b3 τ S).trans rfl
theorem ew_ls3 (fz : Bool) (b1 b2 b3 : Env → Sto → R T) (τ : Env) (S : Sto) : mLst fz (mCons b1 (mCons b2 (mCons b3 mNil))) τ S = (b1 τ S).bind (kF3_1 (newL fz) b2 b3 τ) := (ew_ch3 (kLst fz) b1 b2 b3 τ S).trans rfl
noncomputable def kF4_4 {γ : Type} (f : List T → Sto → R γ) (x1 : T) (x2 : T) (x3 : T) : T → Sto → R γ := fun x S1 => f [x1, x2, x3, x] S1
theorem ew_k4_4 {γ : Type} (f : List T → Sto → R γ) (x1 : T) (x2 : T) (x3 : T) (x : T) (S : Sto) : kF4_4 f x1 x2 x3 x S = f [x1, x2, x3, x] S := id rfl
noncomputable def kF4_3 {γ : Type} (f : List T → Sto → R γ) (x1 : T) (x2 : T) (b4 : Env → Sto → R T) (τ : Env) : T → Sto → R γ := fun x S1 => (b4 τ S1).bind (kF4_4 f x1 x2 x )
theorem ew_k4_3 {γ : Type} (f : List T → Sto → R γ) (x1 : T) (x2 : T) (b4 : Env → Sto → R T) (τ : Env) (x : T) (S : Sto) : kF4_3 f x1 x2 b4 τ x S = (b4 τ S).bind (kF4_4 f x1 x2 x ) := id rfl
noncomputable def kF4_2 {γ : Type} (f : List T → Sto → R γ) (x1 : T) (b3 : Env → Sto → R T) (b4 : Env → Sto → R T) (τ : Env) : T → Sto → R γ := fun x S1 => (b3 τ S1).bind (kF4_3 f x1 x b4 τ)
theorem ew_k4_2 {γ : Type} (f : List T → Sto → R γ) (x1 : T) (b3 : Env → Sto → R T) (b4 : Env → Sto → R T) (τ : Env) (x : T) (S : Sto) : kF4_2 f x1 b3 b4 τ x S = (b3 τ S).bind (kF4_3 f x1 x b4 τ) := id rfl
noncomputable def kF4_1 {γ : Type} (f : List T → Sto → R γ) (b2 : Env → Sto → R T) (b3 : Env → Sto → R T) (b4 : Env → Sto → R T) (τ : Env) : T → Sto → R γ := fun x S1 => (b2 τ S1).bind (kF4_2 f x b3 b4 τ)
theorem ew_k4_1 {γ : Type} (f : List T → Sto → R γ) (b2 : Env → Sto → R T) (b3 : Env → Sto → R T) (b4 : Env → Sto → R T) (τ : Env) (x : T) (S : Sto) : kF4_1 f  b2 b3 b4 τ x S = (b2 τ S).bind (kF4_2 f x b3 b4 τ) := id rfl
theorem ew_ch4 {γ : Type} (g : List T → Sto → R γ) (b1 b2 b3 b4 : Env → Sto → R T) (τ : Env) (S : Sto) : R.bind (mCons b1 (mCons b2 (mCons b3 (mCons b4 mNil))) τ S) g = (b1 τ S).bind (kF4_1 g b2 b3 b4 τ) := (bind_as _ _ _).trans (bind_cg _ fun x S1 => (bind_as _ _ _).trans (ew_ch3 (fun ys => g (x :: ys)) b2 b3 b4 τ S1))
theorem ew_fn4 (f : List T → Sto → R T) (b1 b2 b3 b4 : Env → Sto → R T) (τ : Env) (S : Sto) : mFn f (mCons b1 (mCons b2 (mCons b3 (mCons b4 mNil)))) τ S = (b1 τ S).bind (kF4_1 f b2 b3 b4 τ) := ew_ch4 f b1 b2 b3 b4 τ S
theorem ew_tp4 (b1 b2 b3 b4 : Env → Sto → R T) (τ : Env) (S : Sto) : mTup (mCons b1 (mCons b2 (mCons b3 (mCons b4 mNil)))) τ S = (b1 τ S).bind (kF4_1 kTp b2 b3 b4 τ) := (ew_ch4 kTup b1 b2 b3 b4 τ S).trans rfl
theorem ew_ls4 (fz : Bool) (b1 b2 b3 b4 : Env → Sto → R T) (τ : Env) (S : Sto) : mLst fz (mCons b1 (mCons b2 (mCons b3 (mCons b4 mNil)))) τ S = (b1 τ S).bind (kF4_1 (newL fz) b2 b3 b4 τ) := (ew_ch4 (kLst fz) b1 b2 b3 b4 τ S).trans rfl
noncomputable def kF5_5 {γ : Type} (f : List T → Sto → R γ) (x1 : T) (x2 : T) (x3 : T) (x4 : T) : T → Sto → R γ := fun x S1 => f [x1, x2, x3, x4, x] S1
theorem ew_k5_5 {γ : Type} (f : List T → Sto → R γ) (x1 : T) (x2 : T) (x3 : T) (x4 : T) (x : T) (S : Sto) : kF5_5 f x1 x2 x3 x4 x S = f [x1, x2, x3, x4, x] S := id rfl
noncomputable def kF5_4 {γ : Type} (f : List T → Sto → R γ) (x1 : T) (x2 : T) (x3 : T) (b5 : Env → Sto → R T) (τ : Env) : T → Sto → R γ := fun x S1 => (b5 τ S1).bind (kF5_5 f x1 x2 x3 x )
theorem ew_k5_4 {γ : Type} (f : List T → Sto → R γ) (x1 : T) (x2 : T) (x3 : T) (b5 : Env → Sto → R T) (τ : Env) (x : T) (S : Sto) : kF5_4 f x1 x2 x3 b5 τ x S = (b5 τ S).bind (kF5_5 f x1 x2 x3 x ) := id rfl
noncomputable def kF5_3 {γ : Type} (f : List T → Sto → R γ) (x1 : T) (x2 : T) (b4 : Env → Sto → R T) (b5 : Env → Sto → R T) (τ : Env) : T → Sto → R γ := fun x S1 => (b4 τ S1).bind (kF5_4 f x1 x2 x b5 τ)
theorem ew_k5_3 {γ : Type} (f : List T → Sto → R γ) (x1 : T) (x2 : T) (b4 : Env → Sto → R T) (b5 : Env → Sto → R T) (τ : Env) (x : T) (S : Sto) : kF5_3 f x1 x2 b4 b5 τ x S = (b4 τ S).bind (kF5_4 f x1 x2 x b5 τ) := id rfl
noncomputable def kF5_2 {γ : Type} (f : List T → Sto → R γ) (x1 : T) (b3 : Env → Sto → R T) (b4 : Env → Sto → R T) (b5 : Env → Sto → R T) (τ : Env) : T → Sto → R γ := fun x S1 => (b3 τ S1).bind (kF5_3 f x1 x b4 b5 τ)
theorem ew_k5_2 {γ : Type} (f : List T → Sto → R γ) (x1 : T) (b3 : Env → Sto → R T) (b4 : Env → Sto → R T) (b5 : Env → Sto → R T) (τ : Env) (x : T) (S : Sto) : kF5_2 f x1 b3 b4 b5 τ x S = (b3 τ S).bind (kF5_3 f x1 x b4 b5 τ) := id rfl
noncomputable def kF5_1 {γ : Type} (f : List T → Sto → R γ) (b2 : Env → Sto → R T) (b3 : Env → Sto → R T) (b4 : Env → Sto → R T) (b5 : Env → Sto → R T) (τ : Env) : T → Sto → R γ := fun x S1 => (b2 τ S1).bind (kF5_2 f x b3 b4 b5 τ)
theorem ew_k5_1 {γ : Type} (f : List T → Sto → R γ) (b2 : Env → Sto → R T) (b3 : Env → Sto → R T) (b4 : Env → Sto → R T) (b5 : Env → Sto → R T) (τ : Env) (x : T) (S : Sto) : kF5_1 f  b2 b3 b4 b5 τ x S = (b2 τ S).bind (kF5_2 f x b3 b4 b5 τ) := id rfl
theorem ew_ch5 {γ : Type} (g : List T → Sto → R γ) (b1 b2 b3 b4 b5 : Env → Sto → R T) (τ : Env) (S : Sto) : R.bind (mCons b1 (mCons b2 (mCons b3 (mCons b4 (mCons b5 mNil)))) τ S) g = (b1 τ S).bind (kF5_1 g b2 b3 b4 b5 τ) := (bind_as _ _ _).trans (bind_cg _ fun x S1 => (bind_as _ _ _).trans (ew_ch4 (fun ys => g (x :: ys)) b2 b3 b4 b5 τ S1))
theorem ew_fn5 (f : List T → Sto → R T) (b1 b2 b3 b4 b5 : Env → Sto → R T) (τ : Env) (S : Sto) : mFn f (mCons b1 (mCons b2 (mCons b3 (mCons b4 (mCons b5 mNil))))) τ S = (b1 τ S).bind (kF5_1 f b2 b3 b4 b5 τ) := ew_ch5 f b1 b2 b3 b4 b5 τ S
theorem ew_tp5 (b1 b2 b3 b4 b5 : Env → Sto → R T) (τ : Env) (S : Sto) : mTup (mCons b1 (mCons b2 (mCons b3 (mCons b4 (mCons b5 mNil))))) τ S = (b1 τ S).bind (kF5_1 kTp b2 b3 b4 b5 τ) := (ew_ch5 kTup b1 b2 b3 b4 b5 τ S).trans rfl
noncomputable def kF6_6 {γ : Type} (f : List T → Sto → R γ) (x1 : T) (x2 : T) (x3 : T) (x4 : T) (x5 : T) : T → Sto → R γ := fun x S1 => f [x1, x2, x3, x4, x5, x] S1
theorem ew_k6_6 {γ : Type} (f : List T → Sto → R γ) (x1 : T) (x2 : T) (x3 : T) (x4 : T) (x5 : T) (x : T) (S : Sto) : kF6_6 f x1 x2 x3 x4 x5 x S = f [x1, x2, x3, x4, x5, x] S := id rfl
noncomputable def kF6_5 {γ : Type} (f : List T → Sto → R γ) (x1 : T) (x2 : T) (x3 : T) (x4 : T) (b6 : Env → Sto → R T) (τ : Env) : T → Sto → R γ := fun x S1 => (b6 τ S1).bind (kF6_6 f x1 x2 x3 x4 x )
theorem ew_k6_5 {γ : Type} (f : List T → Sto → R γ) (x1 : T) (x2 : T) (x3 : T) (x4 : T) (b6 : Env → Sto → R T) (τ : Env) (x : T) (S : Sto) : kF6_5 f x1 x2 x3 x4 b6 τ x S = (b6 τ S).bind (kF6_6 f x1 x2 x3 x4 x ) := id rfl
noncomputable def kF6_4 {γ : Type} (f : List T → Sto → R γ) (x1 : T) (x2 : T) (x3 : T) (b5 : Env → Sto → R T) (b6 : Env → Sto → R T) (τ : Env) : T → Sto → R γ := fun x S1 => (b5 τ S1).bind (kF6_5 f x1 x2 x3 x b6 τ)
theorem ew_k6_4 {γ : Type} (f : List T → Sto → R γ) (x1 : T) (x2 : T) (x3 : T) (b5 : Env → Sto → R T) (b6 : Env → Sto → R T) (τ : Env) (x : T) (S : Sto) : kF6_4 f x1 x2 x3 b5 b6 τ x S = (b5 τ S).bind (kF6_5 f x1 x2 x3 x b6 τ) := id rfl
noncomputable def kF6_3 {γ : Type} (f : List T → Sto → R γ) (x1 : T) (x2 : T) (b4 : Env → Sto → R T) (b5 : Env → Sto → R T) (b6 : Env → Sto → R T) (τ : Env) : T → Sto → R γ := fun x S1 => (b4 τ S1).bind (kF6_4 f x1 x2 x b5 b6 τ)
theorem ew_k6_3 {γ : Type} (f : List T → Sto → R γ) (x1 : T) (x2 : T) (b4 : Env → Sto → R T) (b5 : Env → Sto → R T) (b6 : Env → Sto → R T) (τ : Env) (x : T) (S : Sto) : kF6_3 f x1 x2 b4 b5 b6 τ x S = (b4 τ S).bind (kF6_4 f x1 x2 x b5 b6 τ) := id rfl
noncomputable def kF6_2 {γ : Type} (f : List T → Sto → R γ) (x1 : T) (b3 : Env → Sto → R T) (b4 : Env → Sto → R T) (b5 : Env → Sto → R T) (b6 : Env → Sto → R T) (τ : Env) : T → Sto → R γ := fun x S1 => (b3 τ S1).bind (kF6_3 f x1 x b4 b5 b6 τ)
theorem ew_k6_2 {γ : Type} (f : List T → Sto → R γ) (x1 : T) (b3 : Env → Sto → R T) (b4 : Env → Sto → R T) (b5 : Env → Sto → R T) (b6 : Env → Sto → R T) (τ : Env) (x : T) (S : Sto) : kF6_2 f x1 b3 b4 b5 b6 τ x S = (b3 τ S).bind (kF6_3 f x1 x b4 b5 b6 τ) := id rfl
noncomputable def kF6_1 {γ : Type} (f : List T → Sto → R γ) (b2 : Env → Sto → R T) (b3 : Env → Sto → R T) (b4 : Env → Sto → R T) (b5 : Env → Sto → R T) (b6 : Env → Sto → R T) (τ : Env) : T → Sto → R γ := fun x S1 => (b2 τ S1).bind (kF6_2 f x b3 b4 b5 b6 τ)
theorem ew_k6_1 {γ : Type} (f : List T → Sto → R γ) (b2 : Env → Sto → R T) (b3 : Env → Sto → R T) (b4 : Env → Sto → R T) (b5 : Env → Sto → R T) (b6 : Env → Sto → R T) (τ : Env) (x : T) (S : Sto) : kF6_1 f  b2 b3 b4 b5 b6 τ x S = (b2 τ S).bind (kF6_2 f x b3 b4 b5 b6 τ) := id rfl
theorem ew_ch6 {γ : Type} (g : List T → Sto → R γ) (b1 b2 b3 b4 b5 b6 : Env → Sto → R T) (τ : Env) (S : Sto) : R.bind (mCons b1 (mCons b2 (mCons b3 (mCons b4 (mCons b5 (mCons b6 mNil))))) τ S) g = (b1 τ S).bind (kF6_1 g b2 b3 b4 b5 b6 τ) := (bind_as _ _ _).trans (bind_cg _ fun x S1 => (bind_as _ _ _).trans (ew_ch5 (fun ys => g (x :: ys)) b2 b3 b4 b5 b6 τ S1))
theorem ew_tp6 (b1 b2 b3 b4 b5 b6 : Env → Sto → R T) (τ : Env) (S : Sto) : mTup (mCons b1 (mCons b2 (mCons b3 (mCons b4 (mCons b5 (mCons b6 mNil)))))) τ S = (b1 τ S).bind (kF6_1 kTp b2 b3 b4 b5 b6 τ) := (ew_ch6 kTup b1 b2 b3 b4 b5 b6 τ S).trans rfl
end Fx
namespace Go
open PySem PySem.Spec PyProof.Rows L2 Fx
private theorem EVp : (((((type_of% @eb_C ∧ type_of% @eb_v0) ∧ (type_of% @eb_v1 ∧ (type_of% @eb_v2 ∧ type_of% @eb_v3))) ∧ ((type_of% @eb_v4 ∧ type_of% @eb_v5) ∧ (type_of% @eb_v6 ∧ (type_of% @eb_v7 ∧ type_of% @eb_v8)))) ∧ (((type_of% @eb_v9 ∧ type_of% @eb_v10) ∧ (type_of% @eb_v11 ∧ (type_of% @eb_v12 ∧ type_of% @eb_v13))) ∧ ((type_of% @eb_v14 ∧ type_of% @eb_v15) ∧ (type_of% @eb_v16 ∧ (type_of% @eb_v17 ∧ type_of% @ew_qs))))) ∧ ((((type_of% @ew_qd ∧ type_of% @ew_fn1) ∧ (type_of% @ew_in1 ∧ (type_of% @ew_tp1 ∧ type_of% @ew_ls1))) ∧ ((type_of% @ew_mt1 ∧ type_of% @ew_fn2) ∧ (type_of% @ew_in2 ∧ (type_of% @ew_tp2 ∧ type_of% @ew_ls2)))) ∧ (((type_of% @ew_mt2 ∧ type_of% @ew_fn3) ∧ (type_of% @ew_tp3 ∧ (type_of% @ew_ls3 ∧ type_of% @ew_fn4))) ∧ ((type_of% @ew_tp4 ∧ type_of% @ew_ls4) ∧ (type_of% @ew_fn5 ∧ (type_of% @ew_tp5 ∧ type_of% @ew_tp6)))))) := ⟨⟨⟨⟨⟨@eb_C, @eb_v0⟩, ⟨@eb_v1, ⟨@eb_v2, @eb_v3⟩⟩⟩, ⟨⟨@eb_v4, @eb_v5⟩, ⟨@eb_v6, ⟨@eb_v7, @eb_v8⟩⟩⟩⟩, ⟨⟨⟨@eb_v9, @eb_v10⟩, ⟨@eb_v11, ⟨@eb_v12, @eb_v13⟩⟩⟩, ⟨⟨@eb_v14, @eb_v15⟩, ⟨@eb_v16, ⟨@eb_v17, @ew_qs⟩⟩⟩⟩⟩, ⟨⟨⟨⟨@ew_qd, @ew_fn1⟩, ⟨@ew_in1, ⟨@ew_tp1, @ew_ls1⟩⟩⟩, ⟨⟨@ew_mt1, @ew_fn2⟩, ⟨@ew_in2, ⟨@ew_tp2, @ew_ls2⟩⟩⟩⟩, ⟨⟨⟨@ew_mt2, @ew_fn3⟩, ⟨@ew_tp3, ⟨@ew_ls3, @ew_fn4⟩⟩⟩, ⟨⟨@ew_tp4, @ew_ls4⟩, ⟨@ew_fn5, ⟨@ew_tp5, @ew_tp6⟩⟩⟩⟩⟩⟩
private theorem EVq : (((((((type_of% @ev_ok ∧ type_of% @ev_noErr) ∧ (type_of% @ev_C ∧ type_of% @ev_V)) ∧ ((type_of% @ev_nil ∧ type_of% @ev_fn) ∧ (type_of% @ev_tst ∧ (type_of% @ev_toB ∧ type_of% @ev_andV)))) ∧ (((type_of% @ev_orV ∧ type_of% @ev_orG) ∧ (type_of% @ev_andG ∧ type_of% @ev_notV)) ∧ ((type_of% @ev_newT ∧ type_of% @ev_newF) ∧ (type_of% @ev_tru ∧ (type_of% @ev_true ∧ type_of% @ev_it))))) ∧ ((((type_of% @ev_itN ∧ type_of% @ev_O0) ∧ (type_of% @ev_lc2 ∧ type_of% @ev_lstRg)) ∧ ((type_of% @ev_next ∧ type_of% @ev_retN) ∧ (type_of% @ev_put ∧ (type_of% @ev_eqI ∧ type_of% @ev_eqS)))) ∧ (((type_of% @ev_neI ∧ type_of% @ev_neS) ∧ (type_of% @ev_lt ∧ type_of% @ev_le)) ∧ ((type_of% @ev_gt ∧ type_of% @ev_ge) ∧ (type_of% @ev_sub ∧ (type_of% @ev_neg ∧ type_of% @ev_addI)))))) ∧ (((((type_of% @ev_addT ∧ type_of% @ev_addS) ∧ (type_of% @ev_addL ∧ type_of% @ev_int)) ∧ ((type_of% @ev_abs ∧ type_of% @ev_max) ∧ (type_of% @ev_min ∧ (type_of% @ev_lenT ∧ type_of% @ev_lenL)))) ∧ (((type_of% @ev_lenK ∧ type_of% @ev_lenS) ∧ (type_of% @ev_lenR ∧ type_of% @ev_seqR)) ∧ ((type_of% @ev_lstR ∧ type_of% @ev_tupT) ∧ (type_of% @ev_tupL ∧ (type_of% @ev_tupK ∧ type_of% @ev_ixT))))) ∧ ((((type_of% @ev_ixL ∧ type_of% @ev_ixR) ∧ (type_of% @atI_0 ∧ type_of% @atI_1)) ∧ ((type_of% @atI_2 ∧ type_of% @atI_3) ∧ (type_of% @atI_4 ∧ (type_of% @Ok_ok ∧ type_of% @Ok_bad)))) ∧ (((type_of% @Ok_noErr ∧ type_of% @Ok_if) ∧ (type_of% @bindP_nm ∧ type_of% @ev_itOfT)) ∧ ((type_of% @ev_itOfL ∧ type_of% @ev_itOfK) ∧ (type_of% @ev_itOfS ∧ (type_of% @ev_lstOfL ∧ type_of% @ev_lstOfK))))))) ∧ ((((((type_of% @ev_dc ∧ type_of% @ew_seq) ∧ (type_of% @ew_seqN ∧ type_of% @ew_seqR)) ∧ ((type_of% @ew_seqB ∧ type_of% @ew_seqC) ∧ (type_of% @ew_bin ∧ (type_of% @ew_bin1 ∧ type_of% @ew_un)))) ∧ (((type_of% @ew_cons ∧ type_of% @ew_cons1) ∧ (type_of% @ew_cons2 ∧ type_of% @ew_ite)) ∧ ((type_of% @ew_if ∧ type_of% @ew_iteT) ∧ (type_of% @ew_iteF ∧ (type_of% @ew_and ∧ type_of% @ew_andT))))) ∧ ((((type_of% @ew_andF ∧ type_of% @ew_or) ∧ (type_of% @ew_orT ∧ type_of% @ew_orF)) ∧ ((type_of% @ew_not ∧ type_of% @ew_not1) ∧ (type_of% @ew_tup ∧ (type_of% @ew_tup1 ∧ type_of% @ew_lst)))) ∧ (((type_of% @ew_lst1 ∧ type_of% @ew_meth) ∧ (type_of% @ew_meth1 ∧ type_of% @ew_sl)) ∧ ((type_of% @ew_sl1 ∧ type_of% @ew_sl2) ∧ (type_of% @ew_O1 ∧ (type_of% @ew_O11 ∧ type_of% @ew_lc)))))) ∧ (((((type_of% @ew_lc1 ∧ type_of% @ew_set) ∧ (type_of% @ew_set1 ∧ type_of% @ew_drop)) ∧ ((type_of% @ew_drop1 ∧ type_of% @ew_ret) ∧ (type_of% @ew_ret1 ∧ (type_of% @ew_for ∧ type_of% @ew_for1)))) ∧ (((type_of% @ew_bind ∧ type_of% @ew_Ok) ∧ (type_of% @ew_qs1 ∧ type_of% @ew_qd1)) ∧ ((type_of% @ew_Tp ∧ type_of% @ew_k1_1) ∧ (type_of% @ew_mu1 ∧ (type_of% @ew_k2_2 ∧ type_of% @ew_k2_1))))) ∧ ((((type_of% @ew_mu2 ∧ type_of% @ew_k3_3) ∧ (type_of% @ew_k3_2 ∧ type_of% @ew_k3_1)) ∧ ((type_of% @ew_k4_4 ∧ type_of% @ew_k4_3) ∧ (type_of% @ew_k4_2 ∧ (type_of% @ew_k4_1 ∧ type_of% @ew_k5_5)))) ∧ (((type_of% @ew_k5_4 ∧ type_of% @ew_k5_3) ∧ (type_of% @ew_k5_2 ∧ (type_of% @ew_k5_1 ∧ type_of% @ew_k6_6))) ∧ ((type_of% @ew_k6_5 ∧ type_of% @ew_k6_4) ∧ (type_of% @ew_k6_3 ∧ (type_of% @ew_k6_2 ∧ type_of% @ew_k6_1)))))))) := ⟨⟨⟨⟨⟨⟨⟨@ev_ok, @ev_noErr⟩, ⟨@ev_C, @ev_V⟩⟩, ⟨⟨@ev_nil, @ev_fn⟩, ⟨@ev_tst, ⟨@ev_toB, @ev_andV⟩⟩⟩⟩, ⟨⟨⟨@ev_orV, @ev_orG⟩, ⟨@ev_andG, @ev_notV⟩⟩, ⟨⟨@ev_newT, @ev_newF⟩, ⟨@ev_tru, ⟨@ev_true, @ev_it⟩⟩⟩⟩⟩, ⟨⟨⟨⟨@ev_itN, @ev_O0⟩, ⟨@ev_lc2, @ev_lstRg⟩⟩, ⟨⟨@ev_next, @ev_retN⟩, ⟨@ev_put, ⟨@ev_eqI, @ev_eqS⟩⟩⟩⟩, ⟨⟨⟨@ev_neI, @ev_neS⟩, ⟨@ev_lt, @ev_le⟩⟩, ⟨⟨@ev_gt, @ev_ge⟩, ⟨@ev_sub, ⟨@ev_neg, @ev_addI⟩⟩⟩⟩⟩⟩, ⟨⟨⟨⟨⟨@ev_addT, @ev_addS⟩, ⟨@ev_addL, @ev_int⟩⟩, ⟨⟨@ev_abs, @ev_max⟩, ⟨@ev_min, ⟨@ev_lenT, @ev_lenL⟩⟩⟩⟩, ⟨⟨⟨@ev_lenK, @ev_lenS⟩, ⟨@ev_lenR, @ev_seqR⟩⟩, ⟨⟨@ev_lstR, @ev_tupT⟩, ⟨@ev_tupL, ⟨@ev_tupK, @ev_ixT⟩⟩⟩⟩⟩, ⟨⟨⟨⟨@ev_ixL, @ev_ixR⟩, ⟨@atI_0, @atI_1⟩⟩, ⟨⟨@atI_2, @atI_3⟩, ⟨@atI_4, ⟨@Ok_ok, @Ok_bad⟩⟩⟩⟩, ⟨⟨⟨@Ok_noErr, @Ok_if⟩, ⟨@bindP_nm, @ev_itOfT⟩⟩, ⟨⟨@ev_itOfL, @ev_itOfK⟩, ⟨@ev_itOfS, ⟨@ev_lstOfL, @ev_lstOfK⟩⟩⟩⟩⟩⟩⟩, ⟨⟨⟨⟨⟨⟨@ev_dc, @ew_seq⟩, ⟨@ew_seqN, @ew_seqR⟩⟩, ⟨⟨@ew_seqB, @ew_seqC⟩, ⟨@ew_bin, ⟨@ew_bin1, @ew_un⟩⟩⟩⟩, ⟨⟨⟨@ew_cons, @ew_cons1⟩, ⟨@ew_cons2, @ew_ite⟩⟩, ⟨⟨@ew_if, @ew_iteT⟩, ⟨@ew_iteF, ⟨@ew_and, @ew_andT⟩⟩⟩⟩⟩, ⟨⟨⟨⟨@ew_andF, @ew_or⟩, ⟨@ew_orT, @ew_orF⟩⟩, ⟨⟨@ew_not, @ew_not1⟩, ⟨@ew_tup, ⟨@ew_tup1, @ew_lst⟩⟩⟩⟩, ⟨⟨⟨@ew_lst1, @ew_meth⟩, ⟨@ew_meth1, @ew_sl⟩⟩, ⟨⟨@ew_sl1, @ew_sl2⟩, ⟨@ew_O1, ⟨@ew_O11, @ew_lc⟩⟩⟩⟩⟩⟩, ⟨⟨⟨⟨⟨@ew_lc1, @ew_set⟩, ⟨@ew_set1, @ew_drop⟩⟩, ⟨⟨@ew_drop1, @ew_ret⟩, ⟨@ew_ret1, ⟨@ew_for, @ew_for1⟩⟩⟩⟩, ⟨⟨⟨@ew_bind, @ew_Ok⟩, ⟨@ew_qs1, @ew_qd1⟩⟩, ⟨⟨@ew_Tp, @ew_k1_1⟩, ⟨@ew_mu1, ⟨@ew_k2_2, @ew_k2_1⟩⟩⟩⟩⟩, ⟨⟨⟨⟨@ew_mu2, @ew_k3_3⟩, ⟨@ew_k3_2, @ew_k3_1⟩⟩, ⟨⟨@ew_k4_4, @ew_k4_3⟩, ⟨@ew_k4_2, ⟨@ew_k4_1, @ew_k5_5⟩⟩⟩⟩, ⟨⟨⟨@ew_k5_4, @ew_k5_3⟩, ⟨@ew_k5_2, ⟨@ew_k5_1, @ew_k6_6⟩⟩⟩, ⟨⟨@ew_k6_5, @ew_k6_4⟩, ⟨@ew_k6_3, ⟨@ew_k6_2, @ew_k6_1⟩⟩⟩⟩⟩⟩⟩⟩
local macro_rules | `(tactic| simp_arith only [$ls,*] $[$l:location]?) => `(tactic| simp only [↓EVp, EVq, List.map_cons, List.map_nil, List.cons_append, List.nil_append, List.length_cons, List.length_nil, List.replicate, List.getElem?_cons_succ, List.getElem?_cons_zero, List.set_cons_succ, List.set_cons_zero, wipeT, isStr, isLst, Nat.reduceAdd, Nat.reduceSub, if_true, Option.isSome_some, decide_true, decide_false, Bool.not_true, Bool.not_false, ite_true, Nat.reduceLeDiff, Bool.false_eq_true, if_false, Nat.zero_add, $ls,*] $[$l]?)
private theorem EVqo : ((((((type_of% @ev_ok ∧ type_of% @ev_noErr) ∧ (type_of% @ev_C ∧ (type_of% @ev_V ∧ type_of% @ev_bin))) ∧ ((type_of% @ev_un ∧ (type_of% @ev_nil ∧ type_of% @ev_cons)) ∧ (type_of% @ev_fn ∧ (type_of% @ev_ite ∧ type_of% @ev_tst)))) ∧ (((type_of% @ev_toB ∧ (type_of% @ev_and ∧ type_of% @ev_or)) ∧ (type_of% @ev_not ∧ (type_of% @ev_andV ∧ type_of% @ev_orV))) ∧ ((type_of% @ev_orG ∧ (type_of% @ev_andG ∧ type_of% @ev_notV)) ∧ (type_of% @ev_tup ∧ (type_of% @ev_lst ∧ type_of% @ev_newT))))) ∧ ((((type_of% @ev_newF ∧ type_of% @ev_meth) ∧ (type_of% @ev_tru ∧ (type_of% @ev_true ∧ type_of% @ev_it))) ∧ ((type_of% @ev_itN ∧ (type_of% @ev_sl ∧ type_of% @ev_O0)) ∧ (type_of% @ev_O1 ∧ (type_of% @ev_lc ∧ type_of% @ev_lc2)))) ∧ (((type_of% @ev_lstRg ∧ (type_of% @ev_next ∧ type_of% @ev_seq)) ∧ (type_of% @ev_set ∧ (type_of% @ev_drop ∧ type_of% @ev_ret))) ∧ ((type_of% @ev_retN ∧ (type_of% @ev_if ∧ type_of% @ev_for)) ∧ (type_of% @ev_put ∧ (type_of% @ev_eqI ∧ type_of% @ev_eqS)))))) ∧ (((((type_of% @ev_neI ∧ type_of% @ev_neS) ∧ (type_of% @ev_lt ∧ (type_of% @ev_le ∧ type_of% @ev_gt))) ∧ ((type_of% @ev_ge ∧ (type_of% @ev_sub ∧ type_of% @ev_neg)) ∧ (type_of% @ev_addI ∧ (type_of% @ev_addT ∧ type_of% @ev_addS)))) ∧ (((type_of% @ev_addL ∧ (type_of% @ev_int ∧ type_of% @ev_abs)) ∧ (type_of% @ev_max ∧ (type_of% @ev_min ∧ type_of% @ev_lenT))) ∧ ((type_of% @ev_lenL ∧ (type_of% @ev_lenK ∧ type_of% @ev_lenS)) ∧ (type_of% @ev_lenR ∧ (type_of% @ev_seqR ∧ type_of% @ev_lstR))))) ∧ ((((type_of% @ev_tupT ∧ (type_of% @ev_tupL ∧ type_of% @ev_tupK)) ∧ (type_of% @ev_ixT ∧ (type_of% @ev_ixL ∧ type_of% @ev_ixR))) ∧ ((type_of% @atI_0 ∧ (type_of% @atI_1 ∧ type_of% @atI_2)) ∧ (type_of% @atI_3 ∧ (type_of% @atI_4 ∧ type_of% @Ok_ok)))) ∧ (((type_of% @Ok_bad ∧ (type_of% @Ok_bind ∧ type_of% @Ok_noErr)) ∧ (type_of% @Ok_if ∧ (type_of% @bindP_nm ∧ type_of% @ev_itOfT))) ∧ ((type_of% @ev_itOfL ∧ (type_of% @ev_itOfK ∧ type_of% @ev_itOfS)) ∧ (type_of% @ev_lstOfL ∧ (type_of% @ev_lstOfK ∧ type_of% @ev_dc))))))) := ⟨⟨⟨⟨⟨⟨@ev_ok, @ev_noErr⟩, ⟨@ev_C, ⟨@ev_V, @ev_bin⟩⟩⟩, ⟨⟨@ev_un, ⟨@ev_nil, @ev_cons⟩⟩, ⟨@ev_fn, ⟨@ev_ite, @ev_tst⟩⟩⟩⟩, ⟨⟨⟨@ev_toB, ⟨@ev_and, @ev_or⟩⟩, ⟨@ev_not, ⟨@ev_andV, @ev_orV⟩⟩⟩, ⟨⟨@ev_orG, ⟨@ev_andG, @ev_notV⟩⟩, ⟨@ev_tup, ⟨@ev_lst, @ev_newT⟩⟩⟩⟩⟩, ⟨⟨⟨⟨@ev_newF, @ev_meth⟩, ⟨@ev_tru, ⟨@ev_true, @ev_it⟩⟩⟩, ⟨⟨@ev_itN, ⟨@ev_sl, @ev_O0⟩⟩, ⟨@ev_O1, ⟨@ev_lc, @ev_lc2⟩⟩⟩⟩, ⟨⟨⟨@ev_lstRg, ⟨@ev_next, @ev_seq⟩⟩, ⟨@ev_set, ⟨@ev_drop, @ev_ret⟩⟩⟩, ⟨⟨@ev_retN, ⟨@ev_if, @ev_for⟩⟩, ⟨@ev_put, ⟨@ev_eqI, @ev_eqS⟩⟩⟩⟩⟩⟩, ⟨⟨⟨⟨⟨@ev_neI, @ev_neS⟩, ⟨@ev_lt, ⟨@ev_le, @ev_gt⟩⟩⟩, ⟨⟨@ev_ge, ⟨@ev_sub, @ev_neg⟩⟩, ⟨@ev_addI, ⟨@ev_addT, @ev_addS⟩⟩⟩⟩, ⟨⟨⟨@ev_addL, ⟨@ev_int, @ev_abs⟩⟩, ⟨@ev_max, ⟨@ev_min, @ev_lenT⟩⟩⟩, ⟨⟨@ev_lenL, ⟨@ev_lenK, @ev_lenS⟩⟩, ⟨@ev_lenR, ⟨@ev_seqR, @ev_lstR⟩⟩⟩⟩⟩, ⟨⟨⟨⟨@ev_tupT, ⟨@ev_tupL, @ev_tupK⟩⟩, ⟨@ev_ixT, ⟨@ev_ixL, @ev_ixR⟩⟩⟩, ⟨⟨@atI_0, ⟨@atI_1, @atI_2⟩⟩, ⟨@atI_3, ⟨@atI_4, @Ok_ok⟩⟩⟩⟩, ⟨⟨⟨@Ok_bad, ⟨@Ok_bind, @Ok_noErr⟩⟩, ⟨@Ok_if, ⟨@bindP_nm, @ev_itOfT⟩⟩⟩, ⟨⟨@ev_itOfL, ⟨@ev_itOfK, @ev_itOfS⟩⟩, ⟨@ev_lstOfL, ⟨@ev_lstOfK, @ev_dc⟩⟩⟩⟩⟩⟩⟩
local macro_rules | `(tactic| simp_arith! only [$ls,*] $[$l:location]?) => `(tactic| simp only [EVqo, List.map_cons, List.map_nil, List.cons_append, List.nil_append, List.length_cons, List.length_nil, List.replicate, List.getElem?_cons_succ, List.getElem?_cons_zero, List.set_cons_succ, List.set_cons_zero, wipeT, isStr, isLst, Nat.reduceAdd, Nat.reduceSub, if_true, Option.isSome_some, decide_true, decide_false, Bool.not_true, Bool.not_false, ite_true, Nat.reduceLeDiff, Bool.false_eq_true, if_false, Nat.zero_add, $ls,*] $[$l]?)
def topS (i : Nat) : Stmt := PySem.Challenge.pw_ledgerproof_k35_made_ledgers.main.body.getD i (.Pass ⟨0, 0, 0, 0⟩)
abbrev st_names_of : Stmt := topS 1
abbrev N_names_of : List Str := ["model", "profile", "k", "name"]
theorem sc_names_of : FnScope N_names_of ["model", "profile"] (defScope st_names_of) := ⟨rfl, rfl, rfl, by decide +kernel, rfl, by decide +kernel, by decide +kernel⟩
abbrev st_profile_count : Stmt := topS 2
abbrev N_profile_count : List Str := ["model"]
theorem sc_profile_count : FnScope N_profile_count ["model"] (defScope st_profile_count) := ⟨rfl, rfl, rfl, by decide +kernel, rfl, by decide +kernel, by decide +kernel⟩
abbrev st_group_profiles : Stmt := topS 6
abbrev N_group_profiles : List Str := ["model", "profile", "everybody"]
theorem sc_group_profiles : FnScope N_group_profiles ["model", "profile"] (defScope st_group_profiles) := ⟨rfl, rfl, rfl, by decide +kernel, rfl, by decide +kernel, by decide +kernel⟩
abbrev st_belongs : Stmt := topS 3
abbrev N_belongs : List Str := ["model", "profile", "sector", "word"]
theorem sc_belongs : FnScope N_belongs ["model", "profile", "sector"] (defScope st_belongs) := ⟨rfl, rfl, rfl, by decide +kernel, rfl, by decide +kernel, by decide +kernel⟩
abbrev st__groups_in : Stmt := topS 7
abbrev N__groups_in : List Str := ["model", "members", "sector", "group", "profile"]
theorem sc__groups_in : FnScope N__groups_in ["model", "members", "sector"] (defScope st__groups_in) := ⟨rfl, rfl, rfl, by decide +kernel, rfl, by decide +kernel, by decide +kernel⟩
abbrev st_unit_transactions : Stmt := topS 5
abbrev N_unit_transactions : List Str := ["model", "profile", "members", "apart", "units", "name", "payer_sector", "_", "payee_sector", "payers", "payees", "pairs", "payer", "payee"]
theorem sc_unit_transactions : FnScope N_unit_transactions ["model", "profile"] (defScope st_unit_transactions) := ⟨rfl, rfl, rfl, by decide +kernel, rfl, by decide +kernel, by decide +kernel⟩
abbrev st_made : Stmt := topS 9
abbrev N_made : List Str := ["model", "profile", "amounts", "used", "unit", "amount", "participants", "seats", "group", "_", "transactions", "name", "payer", "payee", "payees", "giver", "taker"]
theorem sc_made : FnScope N_made ["model", "profile", "amounts"] (defScope st_made) := ⟨rfl, rfl, rfl, by decide +kernel, rfl, by decide +kernel, by decide +kernel⟩
abbrev st__law_tape : Stmt := topS 11
abbrev N__law_tape : List Str := ["script", "total", "cell"]
theorem sc__law_tape : FnScope N__law_tape ["script"] (defScope st__law_tape) := ⟨rfl, rfl, rfl, by decide +kernel, rfl, by decide +kernel, by decide +kernel⟩
abbrev st__law_draw : Stmt := topS 12
abbrev N__law_draw : List Str := ["tape", "many", "place", "number"]
theorem sc__law_draw : FnScope N__law_draw ["tape", "many"] (defScope st__law_draw) := ⟨rfl, rfl, rfl, by decide +kernel, rfl, by decide +kernel, by decide +kernel⟩
abbrev st__law_same : Stmt := topS 13
abbrev N__law_same : List Str := ["actual", "expected", "k"]
theorem sc__law_same : FnScope N__law_same ["actual", "expected"] (defScope st__law_same) := ⟨rfl, rfl, rfl, by decide +kernel, rfl, by decide +kernel, by decide +kernel⟩
abbrev st__law_sets : Stmt := topS 18
abbrev N__law_sets : List Str := ["sectors", "rows", "name", "row"]
theorem sc__law_sets : FnScope N__law_sets ["sectors"] (defScope st__law_sets) := ⟨rfl, rfl, rfl, by decide +kernel, rfl, by decide +kernel, by decide +kernel⟩
abbrev st__law_letters : Stmt := topS 14
abbrev N__law_letters : List Str := []
theorem sc__law_letters : FnScope N__law_letters [] (defScope st__law_letters) := ⟨rfl, rfl, rfl, by decide +kernel, rfl, by decide +kernel, by decide +kernel⟩
abbrev st__law_reserved : Stmt := topS 15
abbrev N__law_reserved : List Str := ["words"]
theorem sc__law_reserved : FnScope N__law_reserved [] (defScope st__law_reserved) := ⟨rfl, rfl, rfl, by decide +kernel, rfl, by decide +kernel, by decide +kernel⟩
abbrev st__law_run : Stmt := topS 16
abbrev N__law_run : List Str := ["tape", "size", "k"]
theorem sc__law_run : FnScope N__law_run ["tape", "size"] (defScope st__law_run) := ⟨rfl, rfl, rfl, by decide +kernel, rfl, by decide +kernel, by decide +kernel⟩
abbrev st__law_names : Stmt := topS 17
abbrev N__law_names : List Str := ["tape", "many", "stems", "stem", "words", "reserved", "left", "names", "k", "name", "word"]
theorem sc__law_names : FnScope N__law_names ["tape", "many"] (defScope st__law_names) := ⟨rfl, rfl, rfl, by decide +kernel, rfl, by decide +kernel, by decide +kernel⟩
abbrev st__law_lists : Stmt := topS 30
abbrev N__law_lists : List Str := ["tape", "most", "names", "many", "first", "accounts"]
theorem sc__law_lists : FnScope N__law_lists ["tape", "most"] (defScope st__law_lists) := ⟨rfl, rfl, rfl, by decide +kernel, rfl, by decide +kernel, by decide +kernel⟩
abbrev st__law_leaf : Stmt := topS 19
abbrev N__law_leaf : List Str := ["tape", "sectors", "choice"]
theorem sc__law_leaf : FnScope N__law_leaf ["tape", "sectors"] (defScope st__law_leaf) := ⟨rfl, rfl, rfl, by decide +kernel, rfl, by decide +kernel, by decide +kernel⟩
abbrev st__law_sector : Stmt := topS 20
abbrev N__law_sector : List Str := ["tape", "sectors", "size", "depth", "level", "kind", "rank", "left", "first"]
theorem sc__law_sector : FnScope N__law_sector ["tape", "sectors", "size", "depth", "level"] (defScope st__law_sector) := ⟨rfl, rfl, rfl, by decide +kernel, rfl, by decide +kernel, by decide +kernel⟩
abbrev st__law_deep : Stmt := topS 21
abbrev N__law_deep : List Str := ["tape", "sectors", "depth", "sector", "k", "choice"]
theorem sc__law_deep : FnScope N__law_deep ["tape", "sectors", "depth"] (defScope st__law_deep) := ⟨rfl, rfl, rfl, by decide +kernel, rfl, by decide +kernel, by decide +kernel⟩
abbrev st__law_some_sector : Stmt := topS 23
abbrev N__law_some_sector : List Str := ["tape", "sectors", "size", "level", "choice"]
theorem sc__law_some_sector : FnScope N__law_some_sector ["tape", "sectors", "size", "level"] (defScope st__law_some_sector) := ⟨rfl, rfl, rfl, by decide +kernel, rfl, by decide +kernel, by decide +kernel⟩
abbrev st__law_number : Stmt := topS 24
abbrev N__law_number : List Str := ["tape", "wide", "numbers", "number"]
theorem sc__law_number : FnScope N__law_number ["tape", "wide"] (defScope st__law_number) := ⟨rfl, rfl, rfl, by decide +kernel, rfl, by decide +kernel, by decide +kernel⟩
abbrev st__law_entries : Stmt := topS 25
abbrev N__law_entries : List Str := ["tape", "accounts", "wide", "left", "entries", "k", "account"]
theorem sc__law_entries : FnScope N__law_entries ["tape", "accounts", "wide"] (defScope st__law_entries) := ⟨rfl, rfl, rfl, by decide +kernel, rfl, by decide +kernel, by decide +kernel⟩
abbrev st__law_negated : Stmt := topS 26
abbrev N__law_negated : List Str := ["entries", "entry"]
theorem sc__law_negated : FnScope N__law_negated ["entries"] (defScope st__law_negated) := ⟨rfl, rfl, rfl, by decide +kernel, rfl, by decide +kernel, by decide +kernel⟩
abbrev st__law_kind : Stmt := topS 27
abbrev N__law_kind : List Str := ["tape", "name", "sectors", "accounts", "size", "wide", "payer", "payee", "given", "taken"]
theorem sc__law_kind : FnScope N__law_kind ["tape", "name", "sectors", "accounts", "size", "wide"] (defScope st__law_kind) := ⟨rfl, rfl, rfl, by decide +kernel, rfl, by decide +kernel, by decide +kernel⟩
abbrev st__law_constraint : Stmt := topS 28
abbrev N__law_constraint : List Str := ["tape", "sectors", "accounts", "many", "size", "wide", "relation", "terms", "k", "number", "rows", "term"]
theorem sc__law_constraint : FnScope N__law_constraint ["tape", "sectors", "accounts", "many", "size", "wide"] (defScope st__law_constraint) := ⟨rfl, rfl, rfl, by decide +kernel, rfl, by decide +kernel, by decide +kernel⟩
abbrev st__law_claim : Stmt := topS 29
abbrev N__law_claim : List Str := ["tape", "sectors", "accounts", "premises", "many", "size", "wide", "rows", "k"]
theorem sc__law_claim : FnScope N__law_claim ["tape", "sectors", "accounts", "premises", "many", "size", "wide"] (defScope st__law_claim) := ⟨rfl, rfl, rfl, by decide +kernel, rfl, by decide +kernel, by decide +kernel⟩
abbrev st__law_model : Stmt := topS 31
abbrev N__law_model : List Str := ["tape", "lists", "most", "many", "size", "wide", "sectors", "accounts", "labels", "kinds", "k", "assumptions", "label", "claims"]
theorem sc__law_model : FnScope N__law_model ["tape", "lists", "most", "many", "size", "wide"] (defScope st__law_model) := ⟨rfl, rfl, rfl, by decide +kernel, rfl, by decide +kernel, by decide +kernel⟩
abbrev st__law_member : Stmt := topS 22
abbrev N__law_member : List Str := ["sector", "names"]
theorem sc__law_member : FnScope N__law_member ["sector", "names"] (defScope st__law_member) := ⟨rfl, rfl, rfl, by decide +kernel, rfl, by decide +kernel, by decide +kernel⟩
abbrev st__law_kind_of : Stmt := topS 34
abbrev N__law_kind_of : List Str := ["model", "name", "found", "kind"]
theorem sc__law_kind_of : FnScope N__law_kind_of ["model", "name"] (defScope st__law_kind_of) := ⟨rfl, rfl, rfl, by decide +kernel, rfl, by decide +kernel, by decide +kernel⟩
abbrev st__law_problem : Stmt := topS 35
abbrev N__law_problem : List Str := ["model", "ledger", "people", "k", "at", "deal", "kind"]
theorem sc__law_problem : FnScope N__law_problem ["model", "ledger"] (defScope st__law_problem) := ⟨rfl, rfl, rfl, by decide +kernel, rfl, by decide +kernel, by decide +kernel⟩
abbrev st__law_members : Stmt := topS 33
abbrev N__law_members : List Str := ["people", "sector", "k"]
theorem sc__law_members : FnScope N__law_members ["people", "sector"] (defScope st__law_members) := ⟨rfl, rfl, rfl, by decide +kernel, rfl, by decide +kernel, by decide +kernel⟩
abbrev st__law_units : Stmt := topS 36
abbrev N__law_units : List Str := ["model", "profile", "groups", "many", "units", "kind", "payees", "payer", "payee"]
theorem sc__law_units : FnScope N__law_units ["model", "profile"] (defScope st__law_units) := ⟨rfl, rfl, rfl, by decide +kernel, rfl, by decide +kernel, by decide +kernel⟩
abbrev st__law_two : Stmt := topS 37
abbrev N__law_two : List Str := ["used", "group", "many"]
theorem sc__law_two : FnScope N__law_two ["used", "group", "many"] (defScope st__law_two) := ⟨rfl, rfl, rfl, by decide +kernel, rfl, by decide +kernel, by decide +kernel⟩
abbrev st__law_made : Stmt := topS 38
abbrev N__law_made : List Str := ["model", "profile", "amounts", "sets", "units", "paid", "at", "groups", "unit", "used", "k", "people", "deals", "payer", "payee", "turn"]
theorem sc__law_made : FnScope N__law_made ["model", "profile", "amounts"] (defScope st__law_made) := ⟨rfl, rfl, rfl, by decide +kernel, rfl, by decide +kernel, by decide +kernel⟩
abbrev st__law_amount : Stmt := topS 32
abbrev N__law_amount : List Str := ["tape"]
theorem sc__law_amount : FnScope N__law_amount ["tape"] (defScope st__law_amount) := ⟨rfl, rfl, rfl, by decide +kernel, rfl, by decide +kernel, by decide +kernel⟩
abbrev st__law_amounts : Stmt := topS 39
abbrev N__law_amounts : List Str := ["tape", "many", "rare", "amounts", "k"]
theorem sc__law_amounts : FnScope N__law_amounts ["tape", "many"] (defScope st__law_amounts) := ⟨rfl, rfl, rfl, by decide +kernel, rfl, by decide +kernel, by decide +kernel⟩
abbrev st_law : Stmt := topS 40
abbrev N_law : List Str := ["script", "tape", "lists", "model", "many", "amounts", "turned", "lone", "other", "units", "due"]
theorem sc_law : FnScope N_law ["script"] (defScope st_law) := ⟨rfl, rfl, rfl, by decide +kernel, rfl, by decide +kernel, by decide +kernel⟩
noncomputable def B_names_of : Fx.Env → Sto → R Fl :=
    (sRet (mFn fTuple (mCons (mLc true [2, 3] (mItN fEnum (mCons (mBin fIx (mVar 0) (mC (.int 0))) mNil)) (.tp [(.nm 2), (.nm 3)]) (mTru (mBin fBand (mBin fShr (mVar 1) (mVar 2)) (mC (.int 1)))) (mVar 3)) mNil)))
noncomputable def F_names_of : List T → Sto → R T := frame 0 true (runF 4 B_names_of)
noncomputable def B_profile_count : Fx.Env → Sto → R Fl :=
    (sRet (mBin fShl (mC (.int 1)) (mFn fLen (mCons (mBin fIx (mVar 0) (mC (.int 0))) mNil))))
noncomputable def F_profile_count : List T → Sto → R T := frame 0 true (runF 1 B_profile_count)
noncomputable def B_group_profiles : Fx.Env → Sto → R Fl :=
    (sSeq (sSet 2 (mLstRg true (mFn (fun ts S => if ts.length = 1 then F_profile_count ts S else .bad) (mCons (mVar 0) mNil))))
    (sRet (mIte (mTst (mBin (fIsN false) (mVar 1) (mC .non))) (mVar 2) (mLst true (mStar (mVar 2) (mCons (mVar 1) mNil))))))
noncomputable def F_group_profiles : List T → Sto → R T := frame 0 true (runF 3 B_group_profiles)
noncomputable def B_belongs (d : List T → Sto → R T) : Fx.Env → Sto → R Fl :=
    (sSeq (sSet 3 (mBin fIx (mVar 2) (mC (.int 0))))
    (sSeq (sIf (mTst (mBin fEq (mVar 3) (mC (.str "all"))))
    (sRet (mC (.bl true)))
    sNext)
    (sSeq (sIf (mTst (mBin fEq (mVar 3) (mC (.str "none"))))
    (sRet (mC (.bl false)))
    sNext)
    (sSeq (sIf (mTst (mBin fEq (mVar 3) (mC (.str "sector"))))
    (sRet (mBin (fIn false) (mBin fIx (mVar 2) (mC (.int 1))) (mFn (fun ts S => if ts.length = 2 then F_names_of ts S else .bad) (mCons (mVar 0) (mCons (mVar 1) mNil)))))
    sNext)
    (sSeq (sIf (mTst (mBin fEq (mVar 3) (mC (.str "not"))))
    (sRet (mNotV (mFn (fun ts S => if ts.length = 3 then d ts S else .bad) (mCons (mVar 0) (mCons (mVar 1) (mCons (mBin fIx (mVar 2) (mC (.int 1))) mNil))))))
    sNext)
    (sSeq (sIf (mTst (mBin fEq (mVar 3) (mC (.str "and"))))
    (sRet (mAndV (mFn (fun ts S => if ts.length = 3 then d ts S else .bad) (mCons (mVar 0) (mCons (mVar 1) (mCons (mBin fIx (mVar 2) (mC (.int 1))) mNil)))) (mFn (fun ts S => if ts.length = 3 then d ts S else .bad) (mCons (mVar 0) (mCons (mVar 1) (mCons (mBin fIx (mVar 2) (mC (.int 2))) mNil))))))
    sNext)
    (sRet (mOrV (mFn (fun ts S => if ts.length = 3 then d ts S else .bad) (mCons (mVar 0) (mCons (mVar 1) (mCons (mBin fIx (mVar 2) (mC (.int 1))) mNil)))) (mFn (fun ts S => if ts.length = 3 then d ts S else .bad) (mCons (mVar 0) (mCons (mVar 1) (mCons (mBin fIx (mVar 2) (mC (.int 2))) mNil))))))))))))
noncomputable def F_belongs : Nat → List T → Sto → R T
  | 0 => fun _ _ => .bad
  | d + 1 => frame 0 true (runF 4 (B_belongs (F_belongs d)))
noncomputable def B__groups_in : Fx.Env → Sto → R Fl :=
    (sRet (mLc true [3, 4] (mItN fEnum (mCons (mVar 1) mNil)) (.tp [(.nm 3), (.nm 4)]) (mTru (mFn (fun ts S => if ts.length = 3 then (F_belongs 24) ts S else .bad) (mCons (mVar 0) (mCons (mVar 4) (mCons (mVar 2) mNil))))) (mVar 3)))
noncomputable def F__groups_in : List T → Sto → R T := frame 0 true (runF 5 B__groups_in)
noncomputable def B_unit_transactions : Fx.Env → Sto → R Fl :=
    (sSeq (sSet 2 (mFn (fun ts S => if ts.length = 2 then F_group_profiles ts S else .bad) (mCons (mVar 0) (mCons (mVar 1) mNil))))
    (sSeq (sSet 3 (mFn (fun ts S => if ts.length = 1 then F_profile_count ts S else .bad) (mCons (mVar 0) mNil)))
    (sSeq (sSet 4 (mLst false mNil))
    (sSeq (sFor (mIt (mBin fIx (mVar 0) (mC (.int 2)))) (.tp [(.nm 5), (.nm 6), (.nm 7), (.nm 8), (.nm 7)])
    (sSeq (sSet 9 (mFn (fun ts S => if ts.length = 3 then F__groups_in ts S else .bad) (mCons (mVar 0) (mCons (mVar 2) (mCons (mVar 6) mNil)))))
    (sSeq (sSet 10 (mFn (fun ts S => if ts.length = 3 then F__groups_in ts S else .bad) (mCons (mVar 0) (mCons (mVar 2) (mCons (mVar 8) mNil)))))
    (sSeq (sSet 11 (mLc2 true [12, 13] [13] (mIt (mVar 9)) (.nm 12) mTrue (mIt (mVar 10)) (.nm 13) (mOr (mTst (mBin fNe (mVar 12) (mVar 3))) (mTst (mBin fNe (mVar 13) (mVar 3)))) (mTup (mCons (mVar 12) (mCons (mVar 13) mNil)))))
    (sDrop (mMeth isLst fExtend (mVar 4) (mCons (mLc true [12, 13] (mIt (mVar 11)) (.tp [(.nm 12), (.nm 13)]) mTrue (mTup (mCons (mVar 5) (mCons (mVar 12) (mCons (mVar 13) mNil))))) mNil)))))))
    (sRet (mFn fTuple (mCons (mVar 4) mNil)))))))
noncomputable def F_unit_transactions : List T → Sto → R T := frame 0 true (runF 14 B_unit_transactions)
noncomputable def B_made : Fx.Env → Sto → R Fl :=
    (sSeq (sSet 3 (mLc true [4, 5] (mItN fZip (mCons (mFn (fun ts S => if ts.length = 2 then F_unit_transactions ts S else .bad) (mCons (mVar 0) (mCons (mVar 1) mNil))) (mCons (mVar 2) mNil))) (.tp [(.nm 4), (.nm 5)]) (mTst (mBin fGt (mVar 5) (mC (.int 0)))) (mTup (mCons (mVar 4) (mCons (mVar 5) mNil)))))
    (sSeq (sSet 6 (mLst false mNil))
    (sSeq (sSet 7 mDct0)
    (sSeq (sFor (mItN fRange1 (mCons (mFn (fun ts S => if ts.length = 1 then F_profile_count ts S else .bad) (mCons (mVar 0) mNil)) mNil)) (.nm 8)
    (sIf (mTru (mFn fAny (mCons (mLc true [4, 9] (mIt (mVar 3)) (.tp [(.nm 4), (.nm 9)]) mTrue (mBin (fIn false) (mVar 8) (mSl (fSlA true) (mVar 4) (mO1 (mC (.int 1))) mO0))) mNil)))
    (sSeq (sPutK (mVar 7) (mVar 8) (mTup (mCons (mFn fLen (mCons (mVar 6) mNil)) (mCons (mBin (fAddA true) (mFn fLen (mCons (mVar 6) mNil)) (mC (.int 1))) mNil))))
    (sDrop (mMeth isLst fExtend (mVar 6) (mCons (mLst true (mCons (mFn (fun ts S => if ts.length = 2 then F_names_of ts S else .bad) (mCons (mVar 0) (mCons (mVar 8) mNil))) (mCons (mFn (fun ts S => if ts.length = 2 then F_names_of ts S else .bad) (mCons (mVar 0) (mCons (mVar 8) mNil))) mNil))) mNil))))
    sNext))
    (sSeq (sIf (mTst (mBin (fIsN true) (mVar 1) (mC .non)))
    (sSeq (sPutK (mVar 7) (mFn (fun ts S => if ts.length = 1 then F_profile_count ts S else .bad) (mCons (mVar 0) mNil)) (mTup (mCons (mFn fLen (mCons (mVar 6) mNil)) (mCons (mFn fLen (mCons (mVar 6) mNil)) mNil))))
    (sDrop (mMeth isLst fAppend (mVar 6) (mCons (mFn (fun ts S => if ts.length = 2 then F_names_of ts S else .bad) (mCons (mVar 0) (mCons (mVar 1) mNil))) mNil))))
    sNext)
    (sSeq (sSet 10 (mLst false mNil))
    (sSeq (sFor (mIt (mVar 3)) (.tp [(.tp [(.nm 11), (.nm 12), (.nm 13)]), (.nm 5)])
    (sSeq (sSet 14 (mIte (mTst (mBin fEq (mVar 12) (mVar 13))) (mUn fRevTup (mBin fIxK (mVar 7) (mVar 13))) (mBin fIxK (mVar 7) (mVar 13))))
    (sDrop (mMeth isLst fExtend (mVar 10) (mCons (mLc true [15, 16] (mItN fZip (mCons (mBin fIxK (mVar 7) (mVar 12)) (mCons (mVar 14) mNil))) (.tp [(.nm 15), (.nm 16)]) mTrue (mTup (mCons (mVar 11) (mCons (mVar 15) (mCons (mVar 16) (mCons (mVar 5) mNil)))))) mNil)))))
    (sRet (mTup (mCons (mFn fTuple (mCons (mVar 6) mNil)) (mCons (mFn fTuple (mCons (mVar 10) mNil)) mNil)))))))))))
noncomputable def F_made : List T → Sto → R T := frame 0 true (runF 17 B_made)
noncomputable def B__law_tape : Fx.Env → Sto → R Fl :=
    (sSeq (sSet 1 (mC (.int 7)))
    (sSeq (sFor (mIt (mVar 0)) (.nm 2)
    (sSet 1 (mBin fMod (mFn fInt (mCons (mBin (fAddA true) (mBin fMul (mVar 1) (mC (.int 31))) (mFn fAbs (mCons (mFn fInt (mCons (mVar 2) mNil)) mNil))) mNil)) (mC (.int 2147483647)))))
    (sRet (mLst false (mCons (mFn (fListA true) (mCons (mVar 0) mNil)) (mCons (mC (.int 0)) (mCons (mC (.int 0)) (mCons (mVar 1) mNil))))))))
noncomputable def F__law_tape : List T → Sto → R T := (runF 3 B__law_tape)
noncomputable def B__law_draw : Fx.Env → Sto → R Fl :=
    (sSeq (sIf (mTst (mBin fEq (mBin fIx (mVar 0) (mC (.int 2))) (mC (.int 0))))
    (sSeq (sSet 2 (mBin fIx (mVar 0) (mC (.int 1))))
    (sSeq (sSet 3 (mC (.int 0)))
    (sSeq (sIf (mTst (mBin fLt (mVar 2) (mFn fLen (mCons (mBin fIx (mVar 0) (mC (.int 0))) mNil))))
    (sSet 3 (mFn fAbs (mCons (mFn fInt (mCons (mBin fIx (mBin fIx (mVar 0) (mC (.int 0))) (mVar 2)) mNil)) mNil)))
    (sSeq (sPut (mVar 0) (mC (.int 3)) (mBin fMod (mFn fInt (mCons (mBin (fAddA true) (mBin (fAddA true) (mBin fMul (mBin fIx (mVar 0) (mC (.int 3))) (mC (.int 48271))) (mVar 2)) (mC (.int 1))) mNil)) (mC (.int 2147483647))))
    (sSet 3 (mBin fIx (mVar 0) (mC (.int 3))))))
    (sSeq (sPut (mVar 0) (mC (.int 1)) (mBin (fAddA true) (mVar 2) (mC (.int 1))))
    (sSeq (sIf (mTst (mBin fLt (mVar 3) (mBin fPow (mC (.int 10)) (mC (.int 18)))))
    (sSeq (sSet 3 (mBin fMod (mFn fInt (mCons (mBin (fAddA true) (mBin (fAddA true) (mBin fMul (mVar 3) (mC (.int 48271))) (mBin fMul (mVar 2) (mC (.int 69621)))) (mC (.int 5))) mNil)) (mC (.int 2147483647))))
    (sSeq (sSet 3 (mBin fMod (mFn fInt (mCons (mBin fMul (mVar 3) (mC (.int 69621))) mNil)) (mC (.int 2147483629))))
    (sRet (mBin fMod (mFn fInt (mCons (mVar 3) mNil)) (mFn fMax2 (mCons (mVar 1) (mCons (mC (.int 1)) mNil)))))))
    sNext)
    (sPut (mVar 0) (mC (.int 2)) (mVar 3)))))))
    sNext)
    (sSeq (sSet 3 (mBin fIx (mVar 0) (mC (.int 2))))
    (sSeq (sPut (mVar 0) (mC (.int 2)) (mBin fDiv (mVar 3) (mFn fMax2 (mCons (mVar 1) (mCons (mC (.int 2)) mNil)))))
    (sRet (mBin fMod (mFn fInt (mCons (mVar 3) mNil)) (mFn fMax2 (mCons (mVar 1) (mCons (mC (.int 1)) mNil))))))))
noncomputable def F__law_draw : List T → Sto → R T := frame 1 true (runF 4 B__law_draw)
noncomputable def B__law_same (d : List T → Sto → R T) : Fx.Env → Sto → R Fl :=
    (sSeq (sIf (mTst (mBin (fIsN false) (mVar 1) (mC .non)))
    (sRet (mBin (fIsN false) (mVar 0) (mC .non)))
    sNext)
    (sSeq (sIf (mTru (mFn fIsi (mCons (mVar 1) (mCons (mC (.ty "tuple")) mNil))))
    (sSeq (sIf (mOr (mNot (mTru (mFn fIsi (mCons (mVar 0) (mCons (mC (.ty "tuple")) mNil))))) (mTst (mBin fNe (mFn fLen (mCons (mVar 0) mNil)) (mFn fLen (mCons (mVar 1) mNil)))))
    (sRet (mC (.bl false)))
    sNext)
    (sSeq (sFor (mItN fRange1 (mCons (mFn fLen (mCons (mVar 1) mNil)) mNil)) (.nm 2)
    (sIf (mNot (mTru (mFn (fun ts S => if ts.length = 2 then d ts S else .bad) (mCons (mBin fIx (mVar 0) (mVar 2)) (mCons (mBin fIx (mVar 1) (mVar 2)) mNil)))))
    (sRet (mC (.bl false)))
    sNext))
    (sRet (mC (.bl true)))))
    sNext)
    (sSeq (sIf (mTru (mFn fIsi (mCons (mVar 1) (mCons (mC (.ty "bool")) mNil))))
    (sRet (mAndV (mFn fIsi (mCons (mVar 0) (mCons (mC (.ty "bool")) mNil))) (mBin fEq (mVar 0) (mVar 1))))
    sNext)
    (sSeq (sIf (mTru (mFn fIsi (mCons (mVar 1) (mCons (mC (.ty "str")) mNil))))
    (sRet (mAndV (mFn fIsi (mCons (mVar 0) (mCons (mC (.ty "str")) mNil))) (mBin fEq (mVar 0) (mVar 1))))
    sNext)
    (sRet (mAndV (mFn fIsi (mCons (mVar 0) (mCons (mC (.ty "int")) mNil))) (mAndV (mNotV (mFn fIsi (mCons (mVar 0) (mCons (mC (.ty "bool")) mNil)))) (mBin fEq (mVar 0) (mVar 1)))))))))
noncomputable def F__law_same : Nat → List T → Sto → R T
  | 0 => fun _ _ => .bad
  | d + 1 => frame 0 true (runF 3 (B__law_same (F__law_same d)))
noncomputable def B__law_sets : Fx.Env → Sto → R Fl :=
    (sSeq (sSet 1 (mLst true (mCons (mTup mNil) mNil)))
    (sSeq (sFor (mIt (mVar 0)) (.nm 2)
    (sSet 1 (mBin (fAddA true) (mVar 1) (mLc true [3] (mIt (mVar 1)) (.nm 3) mTrue (mBin (fAddA true) (mVar 3) (mTup (mCons (mVar 2) mNil)))))))
    (sRet (mVar 1))))
noncomputable def F__law_sets : List T → Sto → R T := frame 0 true (runF 4 B__law_sets)
noncomputable def B__law_letters : Fx.Env → Sto → R Fl :=
    (sRet (mC (.str "abcdefghijklmnopqrstuvwxyz")))
noncomputable def F__law_letters : List T → Sto → R T := frame 0 true (runF 0 B__law_letters)
noncomputable def B__law_reserved : Fx.Env → Sto → R Fl :=
    (sSeq (sSet 0 (mC (.str "sectors accounts type to if then each of not and or all none assume claim drop profiles distinguish")))
    (sSeq (sSet 0 (mBin (fAddA true) (mVar 0) (mC (.str " conserved obligations evaluate decide bound by statuses core verdict refutes minimize types"))))
    (sRet (mMeth isStr (fSplit true) (mVar 0) (mCons (mC (.str " ")) mNil)))))
noncomputable def F__law_reserved : List T → Sto → R T := frame 0 true (runF 1 B__law_reserved)
noncomputable def B__law_run : Fx.Env → Sto → R Fl :=
    (sRet (mMeth isStr fJoin (mC (.str "")) (mCons (mLc true [2] (mItN fRange1 (mCons (mVar 1) mNil)) (.nm 2) mTrue (mBin fIx (mFn F__law_letters mNil) (mFn (fun ts S => if ts.length = 2 then F__law_draw ts S else .bad) (mCons (mVar 0) (mCons (mC (.int 26)) mNil))))) mNil)))
noncomputable def F__law_run : List T → Sto → R T := frame 1 true (runF 3 B__law_run)
noncomputable def B__law_names : Fx.Env → Sto → R Fl :=
    (sSeq (sSet 2 (mLst true (mCons (mC (.str "")) (mCons (mC (.str "")) (mCons (mC (.str "")) (mCons (mC (.str "al")) (mCons (mC (.str "no")) (mCons (mC (.str "claim")) (mCons (mC (.str "sector")) (mCons (mFn (fun ts S => if ts.length = 2 then F__law_run ts S else .bad) (mCons (mVar 0) (mCons (mFn (fun ts S => if ts.length = 2 then F__law_draw ts S else .bad) (mCons (mVar 0) (mCons (mC (.int 10)) mNil))) mNil))) (mCons (mFn (fun ts S => if ts.length = 2 then F__law_run ts S else .bad) (mCons (mVar 0) (mCons (mC (.int 9)) mNil))) mNil)))))))))))
    (sSeq (sSet 3 (mBin fIx (mVar 2) (mFn (fun ts S => if ts.length = 2 then F__law_draw ts S else .bad) (mCons (mVar 0) (mCons (mC (.int 9)) mNil)))))
    (sSeq (sSet 4 (mLst true (mCons (mC (.str "sector")) (mCons (mC (.str "sum")) (mCons (mC (.str "number")) (mCons (mC (.str "end")) (mCons (mC (.str "name")) (mCons (mC (.str "symbol")) (mCons (mC (.str "invalid")) (mCons (mC (.str "holds")) mNil))))))))))
    (sSeq (sSet 5 (mFn F__law_reserved mNil))
    (sSeq (sSet 6 (mFn (fListA false) (mCons (mFn F__law_letters mNil) mNil)))
    (sSeq (sSet 7 (mLst false mNil))
    (sSeq (sFor (mItN fRange1 (mCons (mVar 1) mNil)) (.nm 8)
    (sSeq (sSet 9 (mBin (fAddA true) (mVar 3) (mMeth isLst fPopAt (mVar 6) (mCons (mFn (fun ts S => if ts.length = 2 then F__law_draw ts S else .bad) (mCons (mVar 0) (mCons (mFn fLen (mCons (mVar 6) mNil)) mNil))) mNil))))
    (sSeq (sSet 9 (mBin (fAddA true) (mVar 9) (mFn (fun ts S => if ts.length = 2 then F__law_run ts S else .bad) (mCons (mVar 0) (mCons (mBin fIx (mLst true (mCons (mC (.int 0)) (mCons (mC (.int 0)) (mCons (mC (.int 1)) (mCons (mC (.int 2)) mNil))))) (mFn (fun ts S => if ts.length = 2 then F__law_draw ts S else .bad) (mCons (mVar 0) (mCons (mC (.int 4)) mNil)))) mNil)))))
    (sSeq (sIf (mTst (mBin (fIn false) (mVar 9) (mVar 5)))
    (sSet 9 (mBin (fAddA true) (mVar 9) (mC (.str "x"))))
    sNext)
    (sDrop (mMeth isLst fAppend (mVar 7) (mCons (mVar 9) mNil)))))))
    (sSeq (sIf (mTst (mBin fEq (mFn (fun ts S => if ts.length = 2 then F__law_draw ts S else .bad) (mCons (mVar 0) (mCons (mC (.int 8)) mNil))) (mC (.int 0))))
    (sFor (mItN fRange1 (mCons (mFn fMin2 (mCons (mVar 1) (mCons (mC (.int 4)) mNil))) mNil)) (.nm 8)
    (sSeq (sSet 10 (mBin fIx (mVar 4) (mFn (fun ts S => if ts.length = 2 then F__law_draw ts S else .bad) (mCons (mVar 0) (mCons (mC (.int 8)) mNil)))))
    (sIf (mTst (mBin (fIn true) (mVar 10) (mVar 7)))
    (sPut (mVar 7) (mVar 8) (mVar 10))
    sNext)))
    sNext)
    (sRet (mVar 7))))))))))
noncomputable def F__law_names : List T → Sto → R T := frame 1 true (runF 11 B__law_names)
noncomputable def B__law_lists : Fx.Env → Sto → R Fl :=
    (sSeq (sSet 2 (mFn (fun ts S => if ts.length = 2 then F__law_names ts S else .bad) (mCons (mVar 0) (mCons (mC (.int 25)) mNil))))
    (sSeq (sSet 3 (mFn (fun ts S => if ts.length = 2 then F__law_draw ts S else .bad) (mCons (mVar 0) (mCons (mBin (fAddA true) (mBin fIx (mVar 1) (mC (.int 0))) (mC (.int 1))) mNil))))
    (sSeq (sSet 4 (mBin fIx (mLst true (mCons (mC (.int 0)) (mCons (mVar 3) (mCons (mC (.int 1)) mNil)))) (mFn (fun ts S => if ts.length = 2 then F__law_draw ts S else .bad) (mCons (mVar 0) (mCons (mC (.int 3)) mNil)))))
    (sSeq (sSet 5 (mSl (fSlA true) (mVar 2) (mO1 (mVar 4)) (mO1 (mBin (fAddA true) (mBin (fAddA true) (mVar 4) (mC (.int 1))) (mFn (fun ts S => if ts.length = 2 then F__law_draw ts S else .bad) (mCons (mVar 0) (mCons (mBin fIx (mVar 1) (mC (.int 1))) mNil)))))))
    (sRet (mTup (mCons (mFn fTuple (mCons (mSl (fSlA true) (mVar 2) mO0 (mO1 (mVar 3))) mNil)) (mCons (mFn fTuple (mCons (mVar 5) mNil)) (mCons (mSl (fSlA true) (mVar 2) (mO1 (mBin fIx (mLst true (mCons (mC (.int 3)) (mCons (mC (.int 7)) mNil))) (mFn (fun ts S => if ts.length = 2 then F__law_draw ts S else .bad) (mCons (mVar 0) (mCons (mC (.int 2)) mNil))))) mO0) mNil)))))))))
noncomputable def F__law_lists : List T → Sto → R T := frame 1 true (runF 6 B__law_lists)
noncomputable def B__law_leaf : Fx.Env → Sto → R Fl :=
    (sSeq (sSet 2 (mFn (fun ts S => if ts.length = 2 then F__law_draw ts S else .bad) (mCons (mVar 0) (mCons (mBin (fAddA true) (mC (.int 2)) (mBin fMul (mC (.int 2)) (mFn fLen (mCons (mVar 1) mNil)))) mNil))))
    (sSeq (sIf (mTst (mBin fLt (mVar 2) (mC (.int 2))))
    (sRet (mBin fIx (mLst true (mCons (mTup (mCons (mC (.str "all")) mNil)) (mCons (mTup (mCons (mC (.str "none")) mNil)) mNil))) (mVar 2)))
    sNext)
    (sRet (mTup (mCons (mC (.str "sector")) (mCons (mBin fIx (mVar 1) (mBin fSub (mBin fDiv (mVar 2) (mC (.int 2))) (mC (.int 1)))) mNil))))))
noncomputable def F__law_leaf : List T → Sto → R T := frame 1 true (runF 3 B__law_leaf)
noncomputable def B__law_sector (d : List T → Sto → R T) : Fx.Env → Sto → R Fl :=
    (sSeq (sSet 5 (mBin fIx (mLst true (mCons (mC (.str "or")) (mCons (mC (.str "and")) (mCons (mC (.str "not")) (mCons (mC (.str "or")) (mCons (mC (.str "and")) (mCons (mC (.str "or")) (mCons (mC (.str "and")) (mCons (mC (.str "leaf")) mNil))))))))) (mFn (fun ts S => if ts.length = 2 then F__law_draw ts S else .bad) (mCons (mVar 0) (mCons (mC (.int 8)) mNil)))))
    (sSeq (sIf (mAnd (mTst (mBin fLt (mVar 2) (mC (.int 2)))) (mTst (mBin fNe (mVar 5) (mC (.str "not")))))
    (sSet 5 (mC (.str "leaf")))
    sNext)
    (sSeq (sIf (mTst (mBin fEq (mVar 5) (mC (.str "leaf"))))
    (sRet (mFn (fun ts S => if ts.length = 2 then F__law_leaf ts S else .bad) (mCons (mVar 0) (mCons (mVar 1) mNil))))
    sNext)
    (sSeq (sSet 6 (mMeth isLst fIndex (mLst true (mCons (mC (.str "or")) (mCons (mC (.str "and")) (mCons (mC (.str "not")) mNil)))) (mCons (mVar 5) mNil)))
    (sSeq (sIf (mAnd (mTst (mBin fLt (mVar 6) (mVar 4))) (mTst (mBin fEq (mVar 3) (mC (.int 0)))))
    (sRet (mFn (fun ts S => if ts.length = 2 then F__law_leaf ts S else .bad) (mCons (mVar 0) (mCons (mVar 1) mNil))))
    sNext)
    (sSeq (sIf (mTst (mBin fLt (mVar 6) (mVar 4)))
    (sSet 3 (mBin fSub (mVar 3) (mC (.int 1))))
    sNext)
    (sSeq (sIf (mTst (mBin fEq (mVar 5) (mC (.str "not"))))
    (sRet (mTup (mCons (mC (.str "not")) (mCons (mFn (fun ts S => if ts.length = 5 then d ts S else .bad) (mCons (mVar 0) (mCons (mVar 1) (mCons (mVar 2) (mCons (mVar 3) (mCons (mC (.int 3)) mNil)))))) mNil))))
    sNext)
    (sSeq (sSet 7 (mBin (fAddA true) (mC (.int 1)) (mFn (fun ts S => if ts.length = 2 then F__law_draw ts S else .bad) (mCons (mVar 0) (mCons (mBin fSub (mVar 2) (mC (.int 1))) mNil)))))
    (sSeq (sSet 8 (mFn (fun ts S => if ts.length = 5 then d ts S else .bad) (mCons (mVar 0) (mCons (mVar 1) (mCons (mVar 7) (mCons (mVar 3) (mCons (mVar 6) mNil)))))))
    (sRet (mTup (mCons (mVar 5) (mCons (mVar 8) (mCons (mFn (fun ts S => if ts.length = 5 then d ts S else .bad) (mCons (mVar 0) (mCons (mVar 1) (mCons (mBin fSub (mVar 2) (mVar 7)) (mCons (mVar 3) (mCons (mBin (fAddA true) (mVar 6) (mC (.int 1))) mNil)))))) mNil))))))))))))))
noncomputable def F__law_sector : Nat → List T → Sto → R T
  | 0 => fun _ _ => .bad
  | d + 1 => frame 1 true (runF 9 (B__law_sector (F__law_sector d)))
noncomputable def B__law_deep : Fx.Env → Sto → R Fl :=
    (sSeq (sSet 3 (mTup (mCons (mC (.str "or")) (mCons (mFn (fun ts S => if ts.length = 2 then F__law_leaf ts S else .bad) (mCons (mVar 0) (mCons (mVar 1) mNil))) (mCons (mFn (fun ts S => if ts.length = 2 then F__law_leaf ts S else .bad) (mCons (mVar 0) (mCons (mVar 1) mNil))) mNil)))))
    (sSeq (sFor (mItN fRange1 (mCons (mVar 2) mNil)) (.nm 4)
    (sSeq (sSet 5 (mFn (fun ts S => if ts.length = 2 then F__law_draw ts S else .bad) (mCons (mVar 0) (mCons (mC (.int 4)) mNil))))
    (sIf (mAnd (mTst (mBin fEq (mVar 5) (mC (.int 0)))) (mTst (mBin fEq (mBin fIx (mVar 3) (mC (.int 0))) (mC (.str "or")))))
    (sSet 3 (mTup (mCons (mC (.str "or")) (mCons (mFn (fun ts S => if ts.length = 2 then F__law_leaf ts S else .bad) (mCons (mVar 0) (mCons (mVar 1) mNil))) (mCons (mVar 3) mNil)))))
    (sIf (mAnd (mTst (mBin fLt (mVar 5) (mC (.int 2)))) (mTst (mBin fNe (mBin fIx (mVar 3) (mC (.int 0))) (mC (.str "not")))))
    (sSet 3 (mTup (mCons (mC (.str "and")) (mCons (mFn (fun ts S => if ts.length = 2 then F__law_leaf ts S else .bad) (mCons (mVar 0) (mCons (mVar 1) mNil))) (mCons (mVar 3) mNil)))))
    (sIf (mAnd (mTst (mBin fEq (mVar 5) (mC (.int 2)))) (mTst (mBin fEq (mBin fIx (mVar 3) (mC (.int 0))) (mC (.str "or")))))
    (sSet 3 (mTup (mCons (mC (.str "and")) (mCons (mVar 3) (mCons (mFn (fun ts S => if ts.length = 2 then F__law_leaf ts S else .bad) (mCons (mVar 0) (mCons (mVar 1) mNil))) mNil)))))
    (sSet 3 (mTup (mCons (mC (.str "not")) (mCons (mVar 3) mNil)))))))))
    (sRet (mVar 3))))
noncomputable def F__law_deep : List T → Sto → R T := frame 1 true (runF 6 B__law_deep)
noncomputable def B__law_some_sector : Fx.Env → Sto → R Fl :=
    (sSeq (sSet 4 (mFn (fun ts S => if ts.length = 2 then F__law_draw ts S else .bad) (mCons (mVar 0) (mCons (mC (.int 8)) mNil))))
    (sSeq (sIf (mTst (mBin fLt (mVar 2) (mC (.int 8))))
    (sRet (mFn (fun ts S => if ts.length = 5 then (F__law_sector 24) ts S else .bad) (mCons (mVar 0) (mCons (mVar 1) (mCons (mFn fMin2 (mCons (mVar 2) (mCons (mBin (fAddA true) (mC (.int 1)) (mVar 4)) mNil))) (mCons (mC (.int 2)) (mCons (mVar 3) mNil)))))))
    sNext)
    (sSeq (sIf (mTst (mBin fEq (mVar 4) (mC (.int 7))))
    (sRet (mFn (fun ts S => if ts.length = 3 then F__law_deep ts S else .bad) (mCons (mVar 0) (mCons (mVar 1) (mCons (mFn (fun ts S => if ts.length = 2 then F__law_draw ts S else .bad) (mCons (mVar 0) (mCons (mBin fSub (mC (.int 7)) (mFn fInt (mCons (mBin fGt (mVar 3) (mC (.int 0))) mNil))) mNil))) mNil)))))
    sNext)
    (sSeq (sIf (mTst (mBin fGt (mVar 4) (mC (.int 3))))
    (sRet (mFn (fun ts S => if ts.length = 5 then (F__law_sector 24) ts S else .bad) (mCons (mVar 0) (mCons (mVar 1) (mCons (mVar 2) (mCons (mC (.int 6)) (mCons (mVar 3) mNil)))))))
    sNext)
    (sRet (mFn (fun ts S => if ts.length = 5 then (F__law_sector 24) ts S else .bad) (mCons (mVar 0) (mCons (mVar 1) (mCons (mBin (fAddA true) (mC (.int 1)) (mVar 4)) (mCons (mC (.int 6)) (mCons (mVar 3) mNil)))))))))))
noncomputable def F__law_some_sector : List T → Sto → R T := frame 1 true (runF 5 B__law_some_sector)
noncomputable def B__law_number : Fx.Env → Sto → R Fl :=
    (sSeq (sSet 2 (mLst true (mCons (mC (.int 1)) (mCons (mC (.int 1)) (mCons (mC (.int 1)) (mCons (mC (.int 2)) (mCons (mC (.int 2)) (mCons (mC (.int 3)) mNil))))))))
    (sSeq (sIf (mTst (mBin fGt (mVar 1) (mC (.int 0))))
    (sSet 2 (mLst true (mCons (mC (.int 1)) (mCons (mC (.int 1)) (mCons (mC (.int 1)) (mCons (mC (.int 2)) (mCons (mC (.int 10)) (mCons (mC (.int 9999)) (mCons (mC (.int 100)) (mCons (mBin (fAddA true) (mC (.int 1)) (mFn (fun ts S => if ts.length = 2 then F__law_draw ts S else .bad) (mCons (mVar 0) (mCons (mC (.int 9999)) mNil)))) mNil))))))))))
    sNext)
    (sSeq (sSet 3 (mBin fIx (mVar 2) (mFn (fun ts S => if ts.length = 2 then F__law_draw ts S else .bad) (mCons (mVar 0) (mCons (mFn fLen (mCons (mVar 2) mNil)) mNil)))))
    (sRet (mBin fIx (mLst true (mCons (mVar 3) (mCons (mUn fNeg (mVar 3)) mNil))) (mFn (fun ts S => if ts.length = 2 then F__law_draw ts S else .bad) (mCons (mVar 0) (mCons (mC (.int 2)) mNil))))))))
noncomputable def F__law_number : List T → Sto → R T := frame 1 true (runF 4 B__law_number)
noncomputable def B__law_entries : Fx.Env → Sto → R Fl :=
    (sSeq (sSet 3 (mFn (fListA false) (mCons (mVar 1) mNil)))
    (sSeq (sSet 4 (mLst false mNil))
    (sSeq (sFor (mItN fRange1 (mCons (mFn (fun ts S => if ts.length = 2 then F__law_draw ts S else .bad) (mCons (mVar 0) (mCons (mBin (fAddA true) (mFn fLen (mCons (mVar 1) mNil)) (mC (.int 1))) mNil))) mNil)) (.nm 5)
    (sSeq (sSet 6 (mMeth isLst fPopAt (mVar 3) (mCons (mFn (fun ts S => if ts.length = 2 then F__law_draw ts S else .bad) (mCons (mVar 0) (mCons (mFn fLen (mCons (mVar 3) mNil)) mNil))) mNil)))
    (sDrop (mMeth isLst fAppend (mVar 4) (mCons (mTup (mCons (mVar 6) (mCons (mFn (fun ts S => if ts.length = 2 then F__law_number ts S else .bad) (mCons (mVar 0) (mCons (mVar 2) mNil))) mNil))) mNil)))))
    (sRet (mFn fTuple (mCons (mVar 4) mNil))))))
noncomputable def F__law_entries : List T → Sto → R T := frame 1 true (runF 7 B__law_entries)
noncomputable def B__law_negated : Fx.Env → Sto → R Fl :=
    (sRet (mFn fTuple (mCons (mLc true [1] (mIt (mVar 0)) (.nm 1) mTrue (mTup (mCons (mBin fIx (mVar 1) (mC (.int 0))) (mCons (mUn fNeg (mBin fIx (mVar 1) (mC (.int 1)))) mNil)))) mNil)))
noncomputable def F__law_negated : List T → Sto → R T := frame 0 true (runF 2 B__law_negated)
noncomputable def B__law_kind : Fx.Env → Sto → R Fl :=
    (sSeq (sSet 6 (mFn (fun ts S => if ts.length = 4 then F__law_some_sector ts S else .bad) (mCons (mVar 0) (mCons (mVar 2) (mCons (mVar 4) (mCons (mC (.int 0)) mNil))))))
    (sSeq (sSet 7 (mFn (fun ts S => if ts.length = 4 then F__law_some_sector ts S else .bad) (mCons (mVar 0) (mCons (mVar 2) (mCons (mVar 4) (mCons (mC (.int 0)) mNil))))))
    (sSeq (sSet 8 (mFn (fun ts S => if ts.length = 3 then F__law_entries ts S else .bad) (mCons (mVar 0) (mCons (mVar 3) (mCons (mVar 5) mNil)))))
    (sSeq (sSet 9 (mFn (fun ts S => if ts.length = 3 then F__law_entries ts S else .bad) (mCons (mVar 0) (mCons (mVar 3) (mCons (mVar 5) mNil)))))
    (sSeq (sIf (mTst (mBin fEq (mFn (fun ts S => if ts.length = 2 then F__law_draw ts S else .bad) (mCons (mVar 0) (mCons (mC (.int 3)) mNil))) (mC (.int 0))))
    (sSet 9 (mFn (fun ts S => if ts.length = 1 then F__law_negated ts S else .bad) (mCons (mVar 8) mNil)))
    sNext)
    (sRet (mTup (mCons (mVar 1) (mCons (mVar 6) (mCons (mVar 8) (mCons (mVar 7) (mCons (mVar 9) mNil))))))))))))
noncomputable def F__law_kind : List T → Sto → R T := frame 1 true (runF 10 B__law_kind)
noncomputable def B__law_constraint : Fx.Env → Sto → R Fl :=
    (sSeq (sSet 6 (mBin fIx (mLst true (mCons (mC (.str ">=")) (mCons (mC (.str ">=")) (mCons (mC (.str "=")) mNil)))) (mFn (fun ts S => if ts.length = 2 then F__law_draw ts S else .bad) (mCons (mVar 0) (mCons (mC (.int 3)) mNil)))))
    (sSeq (sSet 7 (mLst false mNil))
    (sSeq (sFor (mItN fRange1 (mCons (mBin (fAddA true) (mC (.int 1)) (mFn (fun ts S => if ts.length = 2 then F__law_draw ts S else .bad) (mCons (mVar 0) (mCons (mVar 3) mNil)))) mNil)) (.nm 8)
    (sSeq (sSet 9 (mFn (fun ts S => if ts.length = 2 then F__law_number ts S else .bad) (mCons (mVar 0) (mCons (mVar 5) mNil))))
    (sDrop (mMeth isLst fAppend (mVar 7) (mCons (mTup (mCons (mVar 9) (mCons (mBin fIx (mVar 2) (mFn (fun ts S => if ts.length = 2 then F__law_draw ts S else .bad) (mCons (mVar 0) (mCons (mFn fLen (mCons (mVar 2) mNil)) mNil)))) mNil))) mNil)))))
    (sSeq (sIf (mTst (mBin fEq (mFn (fun ts S => if ts.length = 2 then F__law_draw ts S else .bad) (mCons (mVar 0) (mCons (mC (.int 2)) mNil))) (mC (.int 0))))
    (sRet (mTup (mCons (mC (.str "each")) (mCons (mFn (fun ts S => if ts.length = 4 then F__law_some_sector ts S else .bad) (mCons (mVar 0) (mCons (mVar 1) (mCons (mVar 4) (mCons (mC (.int 0)) mNil))))) (mCons (mFn fTuple (mCons (mVar 7) mNil)) (mCons (mVar 6) mNil))))))
    sNext)
    (sSeq (sSet 10 (mLc true [11] (mIt (mVar 7)) (.nm 11) mTrue (mBin (fAddA true) (mVar 11) (mTup (mCons (mFn (fun ts S => if ts.length = 4 then F__law_some_sector ts S else .bad) (mCons (mVar 0) (mCons (mVar 1) (mCons (mVar 4) (mCons (mC (.int 2)) mNil))))) mNil)))))
    (sRet (mTup (mCons (mC (.str "sum")) (mCons (mFn fTuple (mCons (mVar 10) mNil)) (mCons (mVar 6) mNil))))))))))
noncomputable def F__law_constraint : List T → Sto → R T := frame 1 true (runF 12 B__law_constraint)
noncomputable def B__law_claim : Fx.Env → Sto → R Fl :=
    (sSeq (sSet 7 (mLst false mNil))
    (sSeq (sFor (mItN fRange1 (mCons (mFn (fun ts S => if ts.length = 2 then F__law_draw ts S else .bad) (mCons (mVar 0) (mCons (mBin (fAddA true) (mVar 3) (mC (.int 1))) mNil))) mNil)) (.nm 8)
    (sDrop (mMeth isLst fAppend (mVar 7) (mCons (mFn (fun ts S => if ts.length = 6 then F__law_constraint ts S else .bad) (mCons (mVar 0) (mCons (mVar 1) (mCons (mVar 2) (mCons (mVar 4) (mCons (mVar 5) (mCons (mVar 6) mNil))))))) mNil))))
    (sRet (mTup (mCons (mFn fTuple (mCons (mVar 7) mNil)) (mCons (mFn (fun ts S => if ts.length = 6 then F__law_constraint ts S else .bad) (mCons (mVar 0) (mCons (mVar 1) (mCons (mVar 2) (mCons (mVar 4) (mCons (mVar 5) (mCons (mVar 6) mNil))))))) mNil))))))
noncomputable def F__law_claim : List T → Sto → R T := frame 1 true (runF 9 B__law_claim)
noncomputable def B__law_model : Fx.Env → Sto → R Fl :=
    (sSeq (sSet 6 (mBin fIx (mVar 1) (mC (.int 0))))
    (sSeq (sSet 7 (mBin fIx (mVar 1) (mC (.int 1))))
    (sSeq (sSet 8 (mFn (fListA false) (mCons (mBin fIx (mVar 1) (mC (.int 2))) mNil)))
    (sSeq (sSet 9 (mLst false mNil))
    (sSeq (sFor (mItN fRange1 (mCons (mFn (fun ts S => if ts.length = 2 then F__law_draw ts S else .bad) (mCons (mVar 0) (mCons (mBin (fAddA true) (mBin fIx (mVar 2) (mC (.int 0))) (mC (.int 1))) mNil))) mNil)) (.nm 10)
    (sDrop (mMeth isLst fAppend (mVar 9) (mCons (mFn (fun ts S => if ts.length = 6 then F__law_kind ts S else .bad) (mCons (mVar 0) (mCons (mMeth isLst fPopAt (mVar 8) (mCons (mFn (fun ts S => if ts.length = 2 then F__law_draw ts S else .bad) (mCons (mVar 0) (mCons (mFn fLen (mCons (mVar 8) mNil)) mNil))) mNil)) (mCons (mVar 6) (mCons (mVar 7) (mCons (mVar 4) (mCons (mVar 5) mNil))))))) mNil))))
    (sSeq (sSet 11 (mLst false mNil))
    (sSeq (sFor (mItN fRange1 (mCons (mFn (fun ts S => if ts.length = 2 then F__law_draw ts S else .bad) (mCons (mVar 0) (mCons (mBin (fAddA true) (mBin fIx (mVar 2) (mC (.int 1))) (mC (.int 1))) mNil))) mNil)) (.nm 10)
    (sSeq (sSet 12 (mMeth isLst fPopAt (mVar 8) (mCons (mFn (fun ts S => if ts.length = 2 then F__law_draw ts S else .bad) (mCons (mVar 0) (mCons (mFn fLen (mCons (mVar 8) mNil)) mNil))) mNil)))
    (sDrop (mMeth isLst fAppend (mVar 11) (mCons (mTup (mCons (mVar 12) (mCons (mFn (fun ts S => if ts.length = 6 then F__law_constraint ts S else .bad) (mCons (mVar 0) (mCons (mVar 6) (mCons (mVar 7) (mCons (mVar 3) (mCons (mVar 4) (mCons (mVar 5) mNil))))))) mNil))) mNil)))))
    (sSeq (sSet 13 (mLst false mNil))
    (sSeq (sFor (mItN fRange1 (mCons (mFn (fun ts S => if ts.length = 2 then F__law_draw ts S else .bad) (mCons (mVar 0) (mCons (mBin (fAddA true) (mBin fIx (mVar 2) (mC (.int 2))) (mC (.int 1))) mNil))) mNil)) (.nm 10)
    (sSeq (sSet 12 (mMeth isLst fPopAt (mVar 8) (mCons (mFn (fun ts S => if ts.length = 2 then F__law_draw ts S else .bad) (mCons (mVar 0) (mCons (mFn fLen (mCons (mVar 8) mNil)) mNil))) mNil)))
    (sDrop (mMeth isLst fAppend (mVar 13) (mCons (mTup (mCons (mVar 12) (mCons (mFn (fun ts S => if ts.length = 7 then F__law_claim ts S else .bad) (mCons (mVar 0) (mCons (mVar 6) (mCons (mVar 7) (mCons (mC (.int 2)) (mCons (mVar 3) (mCons (mVar 4) (mCons (mVar 5) mNil)))))))) mNil))) mNil)))))
    (sRet (mTup (mCons (mVar 6) (mCons (mVar 7) (mCons (mFn fTuple (mCons (mVar 9) mNil)) (mCons (mFn fTuple (mCons (mVar 11) mNil)) (mCons (mFn fTuple (mCons (mVar 13) mNil)) mNil))))))))))))))))
noncomputable def F__law_model : List T → Sto → R T := frame 1 true (runF 14 B__law_model)
noncomputable def B__law_member (d : List T → Sto → R T) : Fx.Env → Sto → R Fl :=
    (sSeq (sIf (mTst (mBin fEq (mBin fIx (mVar 0) (mC (.int 0))) (mC (.str "sector"))))
    (sRet (mBin (fIn false) (mBin fIx (mVar 0) (mC (.int 1))) (mVar 1)))
    sNext)
    (sSeq (sIf (mTst (mBin fEq (mBin fIx (mVar 0) (mC (.int 0))) (mC (.str "not"))))
    (sRet (mNotV (mFn (fun ts S => if ts.length = 2 then d ts S else .bad) (mCons (mBin fIx (mVar 0) (mC (.int 1))) (mCons (mVar 1) mNil)))))
    sNext)
    (sSeq (sIf (mTst (mBin fEq (mBin fIx (mVar 0) (mC (.int 0))) (mC (.str "and"))))
    (sRet (mAndV (mFn (fun ts S => if ts.length = 2 then d ts S else .bad) (mCons (mBin fIx (mVar 0) (mC (.int 1))) (mCons (mVar 1) mNil))) (mFn (fun ts S => if ts.length = 2 then d ts S else .bad) (mCons (mBin fIx (mVar 0) (mC (.int 2))) (mCons (mVar 1) mNil)))))
    sNext)
    (sSeq (sIf (mTst (mBin fEq (mBin fIx (mVar 0) (mC (.int 0))) (mC (.str "or"))))
    (sRet (mOrV (mFn (fun ts S => if ts.length = 2 then d ts S else .bad) (mCons (mBin fIx (mVar 0) (mC (.int 1))) (mCons (mVar 1) mNil))) (mFn (fun ts S => if ts.length = 2 then d ts S else .bad) (mCons (mBin fIx (mVar 0) (mC (.int 2))) (mCons (mVar 1) mNil)))))
    sNext)
    (sRet (mBin fEq (mBin fIx (mVar 0) (mC (.int 0))) (mC (.str "all"))))))))
noncomputable def F__law_member : Nat → List T → Sto → R T
  | 0 => fun _ _ => .bad
  | d + 1 => frame 0 true (runF 2 (B__law_member (F__law_member d)))
noncomputable def B__law_kind_of : Fx.Env → Sto → R Fl :=
    (sSeq (sSet 2 (mC .non))
    (sSeq (sFor (mIt (mBin fIx (mVar 0) (mC (.int 2)))) (.nm 3)
    (sIf (mTst (mBin fEq (mBin fIx (mVar 3) (mC (.int 0))) (mVar 1)))
    (sSet 2 (mVar 3))
    sNext))
    (sRet (mVar 2))))
noncomputable def F__law_kind_of : List T → Sto → R T := frame 0 true (runF 4 B__law_kind_of)
noncomputable def B__law_problem_t2 : Fx.Env → Sto → R Fl :=
    (sSeq (sFor (mItN fRange1 (mCons (mFn fLen (mCons (mBin fIx (mVar 1) (mC (.int 1))) mNil)) mNil)) (.nm 3)
    (sSeq (sSet 5 (mBin fIx (mBin fIx (mVar 1) (mC (.int 1))) (mVar 3)))
    (sSeq (sSet 6 (mFn (fun ts S => if ts.length = 2 then F__law_kind_of ts S else .bad) (mCons (mVar 0) (mCons (mBin fIx (mVar 5) (mC (.int 0))) mNil))))
    (sSeq (sIf (mTst (mBin (fIsN false) (mVar 6) (mC .non)))
    (sRet (mTup (mCons (mC (.str "transaction")) (mCons (mVar 3) (mCons (mC (.str "type")) mNil)))))
    sNext)
    (sSeq (sIf (mOr (mTst (mBin fLt (mBin fIx (mVar 5) (mC (.int 1))) (mC (.int 0)))) (mTst (mBin fGe (mBin fIx (mVar 5) (mC (.int 1))) (mFn fLen (mCons (mVar 2) mNil)))))
    (sRet (mTup (mCons (mC (.str "transaction")) (mCons (mVar 3) (mCons (mC (.str "payer")) mNil)))))
    sNext)
    (sSeq (sIf (mOr (mTst (mBin fLt (mBin fIx (mVar 5) (mC (.int 2))) (mC (.int 0)))) (mTst (mBin fGe (mBin fIx (mVar 5) (mC (.int 2))) (mFn fLen (mCons (mVar 2) mNil)))))
    (sRet (mTup (mCons (mC (.str "transaction")) (mCons (mVar 3) (mCons (mC (.str "payee")) mNil)))))
    sNext)
    (sSeq (sIf (mTst (mBin fEq (mBin fIx (mVar 5) (mC (.int 1))) (mBin fIx (mVar 5) (mC (.int 2)))))
    (sRet (mTup (mCons (mC (.str "transaction")) (mCons (mVar 3) (mCons (mC (.str "same")) mNil)))))
    sNext)
    (sSeq (sIf (mNot (mTru (mFn (fun ts S => if ts.length = 2 then (F__law_member 24) ts S else .bad) (mCons (mBin fIx (mVar 6) (mC (.int 1))) (mCons (mBin fIx (mVar 2) (mBin fIx (mVar 5) (mC (.int 1)))) mNil)))))
    (sRet (mTup (mCons (mC (.str "transaction")) (mCons (mVar 3) (mCons (mC (.str "payer sector")) mNil)))))
    sNext)
    (sSeq (sIf (mNot (mTru (mFn (fun ts S => if ts.length = 2 then (F__law_member 24) ts S else .bad) (mCons (mBin fIx (mVar 6) (mC (.int 3))) (mCons (mBin fIx (mVar 2) (mBin fIx (mVar 5) (mC (.int 2)))) mNil)))))
    (sRet (mTup (mCons (mC (.str "transaction")) (mCons (mVar 3) (mCons (mC (.str "payee sector")) mNil)))))
    sNext)
    (sIf (mTst (mBin fLt (mBin fIx (mVar 5) (mC (.int 3))) (mC (.int 1))))
    (sRet (mTup (mCons (mC (.str "transaction")) (mCons (mVar 3) (mCons (mC (.str "amount")) mNil)))))
    sNext))))))))))
    (sRet (mC .non)))
noncomputable def B__law_problem : Fx.Env → Sto → R Fl :=
    (sSeq (sSet 2 (mBin fIx (mVar 1) (mC (.int 0))))
    (sSeq (sFor (mItN fRange1 (mCons (mFn fLen (mCons (mVar 2) mNil)) mNil)) (.nm 3)
    (sFor (mItN fRange1 (mCons (mFn fLen (mCons (mBin fIx (mVar 2) (mVar 3)) mNil)) mNil)) (.nm 4)
    (sIf (mOr (mTst (mBin (fIn true) (mBin fIx (mBin fIx (mVar 2) (mVar 3)) (mVar 4)) (mBin fIx (mVar 0) (mC (.int 0))))) (mTst (mBin (fIn false) (mBin fIx (mBin fIx (mVar 2) (mVar 3)) (mVar 4)) (mSl (fSlA true) (mBin fIx (mVar 2) (mVar 3)) mO0 (mO1 (mVar 4))))))
    (sRet (mTup (mCons (mC (.str "participant")) (mCons (mVar 3) mNil))))
    sNext)))
    B__law_problem_t2))
noncomputable def F__law_problem : List T → Sto → R T := frame 0 true (runF 7 B__law_problem)
noncomputable def B__law_members : Fx.Env → Sto → R Fl :=
    (sRet (mLc true [2] (mItN fRange1 (mCons (mFn fLen (mCons (mVar 0) mNil)) mNil)) (.nm 2) (mTru (mFn (fun ts S => if ts.length = 2 then (F__law_member 24) ts S else .bad) (mCons (mVar 1) (mCons (mBin fIx (mVar 0) (mVar 2)) mNil)))) (mVar 2)))
noncomputable def F__law_members : List T → Sto → R T := frame 0 true (runF 3 B__law_members)
noncomputable def B__law_units_t3 : Fx.Env → Sto → R Fl :=
    (sSeq (sSet 4 (mLst false mNil))
    (sSeq (sFor (mIt (mBin fIx (mVar 0) (mC (.int 2)))) (.nm 5)
    (sSeq (sSet 6 (mFn (fun ts S => if ts.length = 2 then F__law_members ts S else .bad) (mCons (mVar 2) (mCons (mBin fIx (mVar 5) (mC (.int 3))) mNil))))
    (sFor (mIt (mFn (fun ts S => if ts.length = 2 then F__law_members ts S else .bad) (mCons (mVar 2) (mCons (mBin fIx (mVar 5) (mC (.int 1))) mNil)))) (.nm 7)
    (sFor (mIt (mVar 6)) (.nm 8)
    (sIf (mOr (mTst (mBin fLt (mVar 7) (mVar 3))) (mTst (mBin fLt (mVar 8) (mVar 3))))
    (sDrop (mMeth isLst fAppend (mVar 4) (mCons (mTup (mCons (mBin fIx (mVar 5) (mC (.int 0))) (mCons (mVar 7) (mCons (mVar 8) mNil)))) mNil)))
    sNext)))))
    (sRet (mVar 4))))
noncomputable def B__law_units : Fx.Env → Sto → R Fl :=
    (sSeq (sSet 2 (mFn (fun ts S => if ts.length = 1 then F__law_sets ts S else .bad) (mCons (mBin fIx (mVar 0) (mC (.int 0))) mNil)))
    (sSeq (sSet 3 (mFn fLen (mCons (mVar 2) mNil)))
    (sSeq (sIf (mTst (mBin (fIsN true) (mVar 1) (mC .non)))
    (sSet 2 (mBin (fAddA true) (mVar 2) (mLst true (mCons (mBin fIx (mVar 2) (mVar 1)) mNil))))
    sNext)
    B__law_units_t3)))
noncomputable def F__law_units : List T → Sto → R T := frame 0 true (runF 9 B__law_units)
noncomputable def B__law_two : Fx.Env → Sto → R Fl :=
    (sSeq (sIf (mTst (mBin (fIn false) (mVar 1) (mVar 0)))
    (sRet (mTup (mCons (mBin fMul (mC (.int 2)) (mMeth isLst fIndex (mVar 0) (mCons (mVar 1) mNil))) (mCons (mBin (fAddA true) (mBin fMul (mC (.int 2)) (mMeth isLst fIndex (mVar 0) (mCons (mVar 1) mNil))) (mC (.int 1))) mNil))))
    sNext)
    (sRet (mTup (mCons (mBin fSub (mVar 2) (mC (.int 1))) (mCons (mBin fSub (mVar 2) (mC (.int 1))) mNil)))))
noncomputable def F__law_two : List T → Sto → R T := frame 0 true (runF 3 B__law_two)
noncomputable def B__law_made_t8 : Fx.Env → Sto → R Fl :=
    (sSeq (sSet 12 (mLst false mNil))
    (sSeq (sFor (mItN fRange1 (mCons (mFn fLen (mCons (mVar 4) mNil)) mNil)) (.nm 6)
    (sSeq (sSet 13 (mFn (fun ts S => if ts.length = 3 then F__law_two ts S else .bad) (mCons (mVar 9) (mCons (mBin fIx (mBin fIx (mVar 4) (mVar 6)) (mC (.int 1))) (mCons (mFn fLen (mCons (mVar 11) mNil)) mNil)))))
    (sSeq (sSet 14 (mFn (fun ts S => if ts.length = 3 then F__law_two ts S else .bad) (mCons (mVar 9) (mCons (mBin fIx (mBin fIx (mVar 4) (mVar 6)) (mC (.int 2))) (mCons (mFn fLen (mCons (mVar 11) mNil)) mNil)))))
    (sSeq (sIf (mTst (mBin fEq (mBin fIx (mBin fIx (mVar 4) (mVar 6)) (mC (.int 1))) (mBin fIx (mBin fIx (mVar 4) (mVar 6)) (mC (.int 2)))))
    (sSet 14 (mTup (mCons (mBin fIx (mVar 14) (mC (.int 1))) (mCons (mBin fIx (mVar 14) (mC (.int 0))) mNil))))
    sNext)
    (sIf (mTst (mBin fGt (mBin fIx (mVar 2) (mVar 6)) (mC (.int 0))))
    (sFor (mItN fRange1 (mCons (mC (.int 2)) mNil)) (.nm 15)
    (sDrop (mMeth isLst fAppend (mVar 12) (mCons (mTup (mCons (mBin fIx (mBin fIx (mVar 4) (mVar 6)) (mC (.int 0))) (mCons (mBin fIx (mVar 13) (mVar 15)) (mCons (mBin fIx (mVar 14) (mVar 15)) (mCons (mBin fIx (mVar 2) (mVar 6)) mNil))))) mNil))))
    sNext)))))
    (sRet (mTup (mCons (mFn fTuple (mCons (mVar 11) mNil)) (mCons (mFn fTuple (mCons (mVar 12) mNil)) mNil))))))
noncomputable def B__law_made_t5 : Fx.Env → Sto → R Fl :=
    (sSeq (sSet 11 (mLst false mNil))
    (sSeq (sFor (mIt (mVar 9)) (.nm 10)
    (sSet 11 (mBin (fAddA false) (mVar 11) (mLst true (mCons (mBin fIx (mVar 3) (mVar 10)) (mCons (mBin fIx (mVar 3) (mVar 10)) mNil))))))
    (sSeq (sIf (mTst (mBin (fIsN true) (mVar 1) (mC .non)))
    (sDrop (mMeth isLst fAppend (mVar 11) (mCons (mBin fIx (mVar 3) (mVar 1)) mNil)))
    sNext)
    B__law_made_t8)))
noncomputable def B__law_made : Fx.Env → Sto → R Fl :=
    (sSeq (sSet 3 (mFn (fun ts S => if ts.length = 1 then F__law_sets ts S else .bad) (mCons (mBin fIx (mVar 0) (mC (.int 0))) mNil)))
    (sSeq (sSet 4 (mFn (fun ts S => if ts.length = 2 then F__law_units ts S else .bad) (mCons (mVar 0) (mCons (mVar 1) mNil))))
    (sSeq (sSet 5 (mLc true [6] (mItN fRange1 (mCons (mFn fLen (mCons (mVar 4) mNil)) mNil)) (.nm 6) (mTst (mBin fGt (mBin fIx (mVar 2) (mVar 6)) (mC (.int 0)))) (mBin fIx (mVar 4) (mVar 6))))
    (sSeq (sSet 7 (mBin (fAddA true) (mLc true [8] (mIt (mVar 5)) (.nm 8) mTrue (mBin fIx (mVar 8) (mC (.int 1)))) (mLc true [8] (mIt (mVar 5)) (.nm 8) mTrue (mBin fIx (mVar 8) (mC (.int 2))))))
    (sSeq (sSet 9 (mLc true [10] (mItN fRange1 (mCons (mFn fLen (mCons (mVar 3) mNil)) mNil)) (.nm 10) (mTst (mBin (fIn false) (mVar 10) (mVar 7))) (mVar 10)))
    B__law_made_t5)))))
noncomputable def F__law_made : List T → Sto → R T := frame 0 true (runF 16 B__law_made)
noncomputable def B__law_amount : Fx.Env → Sto → R Fl :=
    (sRet (mBin fIx (mLst true (mCons (mC (.int 1)) (mCons (mC (.int 1)) (mCons (mC (.int 2)) (mCons (mC (.int 3)) (mCons (mC (.int 5)) (mCons (mC (.int 1000)) (mCons (mBin (fAddA true) (mBin fPow (mC (.int 10)) (mC (.int 59))) (mC (.int 1))) (mCons (mBin (fAddA true) (mC (.int 1)) (mFn (fun ts S => if ts.length = 2 then F__law_draw ts S else .bad) (mCons (mVar 0) (mCons (mC (.int 9)) mNil)))) mNil))))))))) (mFn (fun ts S => if ts.length = 2 then F__law_draw ts S else .bad) (mCons (mVar 0) (mCons (mC (.int 8)) mNil)))))
noncomputable def F__law_amount : List T → Sto → R T := frame 1 true (runF 1 B__law_amount)
noncomputable def B__law_amounts : Fx.Env → Sto → R Fl :=
    (sSeq (sSet 2 (mBin fIx (mLst true (mCons (mC (.int 2)) (mCons (mC (.int 6)) (mCons (mC (.int 40)) mNil)))) (mFn (fun ts S => if ts.length = 2 then F__law_draw ts S else .bad) (mCons (mVar 0) (mCons (mC (.int 3)) mNil)))))
    (sSeq (sSet 3 (mLst false mNil))
    (sSeq (sFor (mItN fRange1 (mCons (mVar 1) mNil)) (.nm 4)
    (sDrop (mMeth isLst fAppend (mVar 3) (mCons (mBin fIx (mLst true (mCons (mC (.int 0)) (mCons (mFn (fun ts S => if ts.length = 1 then F__law_amount ts S else .bad) (mCons (mVar 0) mNil)) mNil))) (mFn fInt (mCons (mBin fEq (mFn (fun ts S => if ts.length = 2 then F__law_draw ts S else .bad) (mCons (mVar 0) (mCons (mVar 2) mNil))) (mC (.int 0))) mNil))) mNil))))
    (sRet (mFn fTuple (mCons (mVar 3) mNil))))))
noncomputable def F__law_amounts : List T → Sto → R T := frame 1 true (runF 5 B__law_amounts)
noncomputable def B_law_t6 : Fx.Env → Sto → R Fl :=
    (sSeq (sFor (mIt (mLst true (mCons (mC .non) (mCons (mFn (fun ts S => if ts.length = 2 then F__law_draw ts S else .bad) (mCons (mVar 1) (mCons (mVar 4) mNil))) (mCons (mFn (fun ts S => if ts.length = 2 then F__law_draw ts S else .bad) (mCons (mVar 1) (mCons (mVar 4) mNil))) (mCons (mC .non) mNil)))))) (.nm 7)
    (sFor (mIt (mLst true (mCons (mVar 3) (mCons (mVar 6) (mCons (mVar 3) mNil))))) (.nm 8)
    (sSeq (sSet 9 (mFn fLen (mCons (mFn (fun ts S => if ts.length = 2 then F__law_units ts S else .bad) (mCons (mVar 8) (mCons (mVar 7) mNil))) mNil)))
    (sSeq (sSet 10 (mFn (fun ts S => if ts.length = 3 then F__law_made ts S else .bad) (mCons (mVar 8) (mCons (mVar 7) (mCons (mSl (fSlA true) (mVar 5) mO0 (mO1 (mVar 9))) mNil)))))
    (sIf (mOr (mTst (mBin (fIsN true) (mFn (fun ts S => if ts.length = 2 then F__law_problem ts S else .bad) (mCons (mVar 8) (mCons (mVar 10) mNil))) (mC .non))) (mNot (mTru (mFn (fun ts S => if ts.length = 2 then (F__law_same 24) ts S else .bad) (mCons (mFn (fun ts S => if ts.length = 3 then F_made ts S else .bad) (mCons (mVar 8) (mCons (mVar 7) (mCons (mSl (fSlA true) (mVar 5) mO0 (mO1 (mVar 9))) mNil)))) (mCons (mVar 10) mNil))))))
    (sRet (mC (.bl false)))
    sNext)))))
    (sSeq (sSet 9 (mFn fLen (mCons (mFn (fun ts S => if ts.length = 2 then F__law_units ts S else .bad) (mCons (mVar 3) (mCons (mC .non) mNil))) mNil)))
    (sRet (mFn (fun ts S => if ts.length = 2 then (F__law_same 24) ts S else .bad) (mCons (mFn (fun ts S => if ts.length = 3 then F_made ts S else .bad) (mCons (mVar 3) (mCons (mC .non) (mCons (mBin (fMulZ true) (mTup (mCons (mC (.int 0)) mNil)) (mVar 9)) mNil)))) (mCons (mTup (mCons (mTup mNil) (mCons (mTup mNil) mNil))) mNil))))))
noncomputable def B_law : Fx.Env → Sto → R Fl :=
    (sSeq (sSet 1 (mFn (fun ts S => if ts.length = 1 then F__law_tape ts S else .bad) (mCons (mVar 0) mNil)))
    (sSeq (sSet 2 (mFn (fun ts S => if ts.length = 2 then F__law_lists ts S else .bad) (mCons (mVar 1) (mCons (mTup (mCons (mC (.int 3)) (mCons (mC (.int 2)) mNil))) mNil))))
    (sSeq (sSet 3 (mFn (fun ts S => if ts.length = 6 then F__law_model ts S else .bad) (mCons (mVar 1) (mCons (mVar 2) (mCons (mBin fIx (mLst true (mCons (mTup (mCons (mC (.int 2)) (mCons (mC (.int 0)) (mCons (mC (.int 0)) mNil)))) (mCons (mTup (mCons (mC (.int 4)) (mCons (mC (.int 0)) (mCons (mC (.int 0)) mNil)))) mNil))) (mFn (fun ts S => if ts.length = 2 then F__law_draw ts S else .bad) (mCons (mVar 1) (mCons (mC (.int 2)) mNil)))) (mCons (mC (.int 1)) (mCons (mC (.int 2)) (mCons (mC (.int 0)) mNil))))))))
    (sSeq (sSet 4 (mFn fLen (mCons (mFn (fun ts S => if ts.length = 1 then F__law_sets ts S else .bad) (mCons (mBin fIx (mVar 3) (mC (.int 0))) mNil)) mNil)))
    (sSeq (sSet 5 (mFn (fun ts S => if ts.length = 2 then F__law_amounts ts S else .bad) (mCons (mVar 1) (mCons (mC (.int 324)) mNil))))
    (sSeq (sSet 6 (mBin (fAddA true) (mTup (mCons (mUn fTupRev (mFn (fListA true) (mCons (mBin fIx (mVar 3) (mC (.int 0))) mNil))) mNil)) (mSl (fSlA true) (mVar 3) (mO1 (mC (.int 1))) mO0)))
    B_law_t6))))))
noncomputable def F_law : List T → Sto → R T := frame 0 true (runF 11 B_law)
set_option maxHeartbeats 0 in
set_option genInjectivity false in
set_option genSizeOf false in
structure Facts (K : PySem.W.Frag) (mg : Str → Option Value) where
  a_names_of : Addr
  d_names_of : FuncData
  F_names_of : L2.Fun K "names_of" "names_of" st_names_of a_names_of d_names_of
  g_names_of : mg "names_of" = some (.ref a_names_of)
  b_names_of : Binds K d_names_of ["model", "profile"] []
  a_profile_count : Addr
  d_profile_count : FuncData
  F_profile_count : L2.Fun K "profile_count" "profile_count" st_profile_count a_profile_count d_profile_count
  g_profile_count : mg "profile_count" = some (.ref a_profile_count)
  b_profile_count : Binds K d_profile_count ["model"] []
  a_group_profiles : Addr
  d_group_profiles : FuncData
  F_group_profiles : L2.Fun K "group_profiles" "group_profiles" st_group_profiles a_group_profiles d_group_profiles
  g_group_profiles : mg "group_profiles" = some (.ref a_group_profiles)
  b_group_profiles : Binds K d_group_profiles ["model", "profile"] []
  a_belongs : Addr
  d_belongs : FuncData
  F_belongs : L2.Fun K "belongs" "belongs" st_belongs a_belongs d_belongs
  g_belongs : mg "belongs" = some (.ref a_belongs)
  b_belongs : Binds K d_belongs ["model", "profile", "sector"] []
  a__groups_in : Addr
  d__groups_in : FuncData
  F__groups_in : L2.Fun K "_groups_in" "_groups_in" st__groups_in a__groups_in d__groups_in
  g__groups_in : mg "_groups_in" = some (.ref a__groups_in)
  b__groups_in : Binds K d__groups_in ["model", "members", "sector"] []
  a_unit_transactions : Addr
  d_unit_transactions : FuncData
  F_unit_transactions : L2.Fun K "unit_transactions" "unit_transactions" st_unit_transactions a_unit_transactions d_unit_transactions
  g_unit_transactions : mg "unit_transactions" = some (.ref a_unit_transactions)
  b_unit_transactions : Binds K d_unit_transactions ["model", "profile"] []
  a_made : Addr
  d_made : FuncData
  F_made : L2.Fun K "made" "made" st_made a_made d_made
  g_made : mg "made" = some (.ref a_made)
  b_made : Binds K d_made ["model", "profile", "amounts"] []
  a__law_tape : Addr
  d__law_tape : FuncData
  F__law_tape : L2.Fun K "_law_tape" "_law_tape" st__law_tape a__law_tape d__law_tape
  g__law_tape : mg "_law_tape" = some (.ref a__law_tape)
  b__law_tape : Binds K d__law_tape ["script"] []
  a__law_draw : Addr
  d__law_draw : FuncData
  F__law_draw : L2.Fun K "_law_draw" "_law_draw" st__law_draw a__law_draw d__law_draw
  g__law_draw : mg "_law_draw" = some (.ref a__law_draw)
  b__law_draw : Binds K d__law_draw ["tape", "many"] []
  a__law_same : Addr
  d__law_same : FuncData
  F__law_same : L2.Fun K "_law_same" "_law_same" st__law_same a__law_same d__law_same
  g__law_same : mg "_law_same" = some (.ref a__law_same)
  b__law_same : Binds K d__law_same ["actual", "expected"] []
  a__law_sets : Addr
  d__law_sets : FuncData
  F__law_sets : L2.Fun K "_law_sets" "_law_sets" st__law_sets a__law_sets d__law_sets
  g__law_sets : mg "_law_sets" = some (.ref a__law_sets)
  b__law_sets : Binds K d__law_sets ["sectors"] []
  a__law_letters : Addr
  d__law_letters : FuncData
  F__law_letters : L2.Fun K "_law_letters" "_law_letters" st__law_letters a__law_letters d__law_letters
  g__law_letters : mg "_law_letters" = some (.ref a__law_letters)
  b__law_letters : Binds K d__law_letters [] []
  a__law_reserved : Addr
  d__law_reserved : FuncData
  F__law_reserved : L2.Fun K "_law_reserved" "_law_reserved" st__law_reserved a__law_reserved d__law_reserved
  g__law_reserved : mg "_law_reserved" = some (.ref a__law_reserved)
  b__law_reserved : Binds K d__law_reserved [] []
  a__law_run : Addr
  d__law_run : FuncData
  F__law_run : L2.Fun K "_law_run" "_law_run" st__law_run a__law_run d__law_run
  g__law_run : mg "_law_run" = some (.ref a__law_run)
  b__law_run : Binds K d__law_run ["tape", "size"] []
  a__law_names : Addr
  d__law_names : FuncData
  F__law_names : L2.Fun K "_law_names" "_law_names" st__law_names a__law_names d__law_names
  g__law_names : mg "_law_names" = some (.ref a__law_names)
  b__law_names : Binds K d__law_names ["tape", "many"] []
  a__law_lists : Addr
  d__law_lists : FuncData
  F__law_lists : L2.Fun K "_law_lists" "_law_lists" st__law_lists a__law_lists d__law_lists
  g__law_lists : mg "_law_lists" = some (.ref a__law_lists)
  b__law_lists : Binds K d__law_lists ["tape", "most"] []
  a__law_leaf : Addr
  d__law_leaf : FuncData
  F__law_leaf : L2.Fun K "_law_leaf" "_law_leaf" st__law_leaf a__law_leaf d__law_leaf
  g__law_leaf : mg "_law_leaf" = some (.ref a__law_leaf)
  b__law_leaf : Binds K d__law_leaf ["tape", "sectors"] []
  a__law_sector : Addr
  d__law_sector : FuncData
  F__law_sector : L2.Fun K "_law_sector" "_law_sector" st__law_sector a__law_sector d__law_sector
  g__law_sector : mg "_law_sector" = some (.ref a__law_sector)
  b__law_sector : Binds K d__law_sector ["tape", "sectors", "size", "depth", "level"] []
  a__law_deep : Addr
  d__law_deep : FuncData
  F__law_deep : L2.Fun K "_law_deep" "_law_deep" st__law_deep a__law_deep d__law_deep
  g__law_deep : mg "_law_deep" = some (.ref a__law_deep)
  b__law_deep : Binds K d__law_deep ["tape", "sectors", "depth"] []
  a__law_some_sector : Addr
  d__law_some_sector : FuncData
  F__law_some_sector : L2.Fun K "_law_some_sector" "_law_some_sector" st__law_some_sector a__law_some_sector d__law_some_sector
  g__law_some_sector : mg "_law_some_sector" = some (.ref a__law_some_sector)
  b__law_some_sector : Binds K d__law_some_sector ["tape", "sectors", "size", "level"] []
  a__law_number : Addr
  d__law_number : FuncData
  F__law_number : L2.Fun K "_law_number" "_law_number" st__law_number a__law_number d__law_number
  g__law_number : mg "_law_number" = some (.ref a__law_number)
  b__law_number : Binds K d__law_number ["tape", "wide"] []
  a__law_entries : Addr
  d__law_entries : FuncData
  F__law_entries : L2.Fun K "_law_entries" "_law_entries" st__law_entries a__law_entries d__law_entries
  g__law_entries : mg "_law_entries" = some (.ref a__law_entries)
  b__law_entries : Binds K d__law_entries ["tape", "accounts", "wide"] []
  a__law_negated : Addr
  d__law_negated : FuncData
  F__law_negated : L2.Fun K "_law_negated" "_law_negated" st__law_negated a__law_negated d__law_negated
  g__law_negated : mg "_law_negated" = some (.ref a__law_negated)
  b__law_negated : Binds K d__law_negated ["entries"] []
  a__law_kind : Addr
  d__law_kind : FuncData
  F__law_kind : L2.Fun K "_law_kind" "_law_kind" st__law_kind a__law_kind d__law_kind
  g__law_kind : mg "_law_kind" = some (.ref a__law_kind)
  b__law_kind : Binds K d__law_kind ["tape", "name", "sectors", "accounts", "size", "wide"] []
  a__law_constraint : Addr
  d__law_constraint : FuncData
  F__law_constraint : L2.Fun K "_law_constraint" "_law_constraint" st__law_constraint a__law_constraint d__law_constraint
  g__law_constraint : mg "_law_constraint" = some (.ref a__law_constraint)
  b__law_constraint : Binds K d__law_constraint ["tape", "sectors", "accounts", "many", "size", "wide"] []
  a__law_claim : Addr
  d__law_claim : FuncData
  F__law_claim : L2.Fun K "_law_claim" "_law_claim" st__law_claim a__law_claim d__law_claim
  g__law_claim : mg "_law_claim" = some (.ref a__law_claim)
  b__law_claim : Binds K d__law_claim ["tape", "sectors", "accounts", "premises", "many", "size", "wide"] []
  a__law_model : Addr
  d__law_model : FuncData
  F__law_model : L2.Fun K "_law_model" "_law_model" st__law_model a__law_model d__law_model
  g__law_model : mg "_law_model" = some (.ref a__law_model)
  b__law_model : Binds K d__law_model ["tape", "lists", "most", "many", "size", "wide"] []
  a__law_member : Addr
  d__law_member : FuncData
  F__law_member : L2.Fun K "_law_member" "_law_member" st__law_member a__law_member d__law_member
  g__law_member : mg "_law_member" = some (.ref a__law_member)
  b__law_member : Binds K d__law_member ["sector", "names"] []
  a__law_kind_of : Addr
  d__law_kind_of : FuncData
  F__law_kind_of : L2.Fun K "_law_kind_of" "_law_kind_of" st__law_kind_of a__law_kind_of d__law_kind_of
  g__law_kind_of : mg "_law_kind_of" = some (.ref a__law_kind_of)
  b__law_kind_of : Binds K d__law_kind_of ["model", "name"] []
  a__law_problem : Addr
  d__law_problem : FuncData
  F__law_problem : L2.Fun K "_law_problem" "_law_problem" st__law_problem a__law_problem d__law_problem
  g__law_problem : mg "_law_problem" = some (.ref a__law_problem)
  b__law_problem : Binds K d__law_problem ["model", "ledger"] []
  a__law_members : Addr
  d__law_members : FuncData
  F__law_members : L2.Fun K "_law_members" "_law_members" st__law_members a__law_members d__law_members
  g__law_members : mg "_law_members" = some (.ref a__law_members)
  b__law_members : Binds K d__law_members ["people", "sector"] []
  a__law_units : Addr
  d__law_units : FuncData
  F__law_units : L2.Fun K "_law_units" "_law_units" st__law_units a__law_units d__law_units
  g__law_units : mg "_law_units" = some (.ref a__law_units)
  b__law_units : Binds K d__law_units ["model", "profile"] []
  a__law_two : Addr
  d__law_two : FuncData
  F__law_two : L2.Fun K "_law_two" "_law_two" st__law_two a__law_two d__law_two
  g__law_two : mg "_law_two" = some (.ref a__law_two)
  b__law_two : Binds K d__law_two ["used", "group", "many"] []
  a__law_made : Addr
  d__law_made : FuncData
  F__law_made : L2.Fun K "_law_made" "_law_made" st__law_made a__law_made d__law_made
  g__law_made : mg "_law_made" = some (.ref a__law_made)
  b__law_made : Binds K d__law_made ["model", "profile", "amounts"] []
  a__law_amount : Addr
  d__law_amount : FuncData
  F__law_amount : L2.Fun K "_law_amount" "_law_amount" st__law_amount a__law_amount d__law_amount
  g__law_amount : mg "_law_amount" = some (.ref a__law_amount)
  b__law_amount : Binds K d__law_amount ["tape"] []
  a__law_amounts : Addr
  d__law_amounts : FuncData
  F__law_amounts : L2.Fun K "_law_amounts" "_law_amounts" st__law_amounts a__law_amounts d__law_amounts
  g__law_amounts : mg "_law_amounts" = some (.ref a__law_amounts)
  b__law_amounts : Binds K d__law_amounts ["tape", "many"] []
  a_law : Addr
  d_law : FuncData
  F_law : L2.Fun K "law" "law" st_law a_law d_law
  g_law : mg "law" = some (.ref a_law)
  b_law : Binds K d_law ["script"] []
  m_abs : mg "abs" = none
  m_any : mg "any" = none
  m_bool : mg "bool" = none
  m_enumerate : mg "enumerate" = none
  m_int : mg "int" = none
  m_isinstance : mg "isinstance" = none
  m_len : mg "len" = none
  m_list : mg "list" = none
  m_max : mg "max" = none
  m_min : mg "min" = none
  m_range : mg "range" = none
  m_reversed : mg "reversed" = none
  m_str : mg "str" = none
  m_tuple : mg "tuple" = none
  m_zip : mg "zip" = none
section
variable {P : Program} {w : World} {K : PySem.W.Frag} {mg : Str → Option Value} {base : Heap}
theorem ok_names_of (T : Facts K mg) : FnOk P w K mg base CX0 1 T.a_names_of T.d_names_of ["model", "profile"] (spM K 2 F_names_of) :=
  FnOk.framed (fn_ok T.F_names_of sc_names_of fun cdv A outer s H E hr => (s_one (s_ret (x_callT o_tuple f_tuple (by rfl) T.m_tuple bt_tuple (a_cons (x_lc true (own := [("k", 2), ("name", 3)]) (p := (.tp [(.nm 2), (.nm 3)])) rfl sc_names_of.nd (i_enum (by rfl) T.m_enumerate (a_cons (x_ix o_ix f_ix (xv 0) x_int) a_nil)) (blkOk_by (N := N_names_of) (sc := defScope st_names_of) (by decide +kernel)) (by decide) (fun _ _ _ _ _ => (g_tup rfl (gs_cons (g_name (i := 2) sc_names_of.nd rfl (by first | exact .inl rfl | exact .inr rfl)) (gs_cons (g_name (i := 3) sc_names_of.nd rfl (by first | exact .inl rfl | exact .inr rfl)) gs_nil)))) (fun _ _ _ _ _ => (ts_one (t_tru (x_bin op_and f_band (x_bin op_shr f_shr (xv 1) (xv 2)) x_int)))) (fun _ _ _ _ _ => (xv 3))) a_nil))))) 0 true
theorem ok_profile_count (T : Facts K mg) : FnOk P w K mg base CX0 1 T.a_profile_count T.d_profile_count ["model"] (spM K 1 F_profile_count) :=
  FnOk.framed (fn_ok T.F_profile_count sc_profile_count fun cdv A outer s H E hr => (s_one (s_ret (x_bin op_shl f_shl x_int (x_callB o_len f_len (by rfl) T.m_len bt_len (a_cons (x_ix o_ix f_ix (xv 0) x_int) a_nil)))))) 0 true
theorem ok_group_profiles (T : Facts K mg) : FnOk P w K mg base CX0 2 T.a_group_profiles T.d_group_profiles ["model", "profile"] (spM K 2 F_group_profiles) :=
  FnOk.framed (fn_ok T.F_group_profiles sc_group_profiles fun cdv A outer s H E hr => (s_cons (s_set (i := 2) sc_group_profiles.nd rfl (by first | exact .inl rfl | exact .inr rfl) (x_listRg true rfl (by rfl) T.m_list (by rfl) T.m_range (x_call (ok_profile_count T) (hr.mono (by decide)) (by rfl) T.g_profile_count T.F_profile_count.kp T.b_profile_count (a_cons (xv 0) a_nil))))
    (s_one (s_ret (x_ite (t_cmp op_isN f_isN (xv 1) x_non) (xv 2) (x_lst true (a_star (xv 2) (a_cons (xv 1) a_nil)))))))) 0 true
theorem ok_belongs (T : Facts K mg) : ∀ d : Nat, FnOk P w K mg base CX0 (2 + d) T.a_belongs T.d_belongs ["model", "profile", "sector"] (spM K 3 (F_belongs d))
  | 0 => fn_bad
  | d + 1 => FnOk.framed (fn_ok T.F_belongs sc_belongs fun cdv A outer s H E hr => by
    have ih := ok_belongs T d
    exact (s_cons (s_set (i := 3) sc_belongs.nd rfl (by first | exact .inl rfl | exact .inr rfl) (x_ix o_ix f_ix (xv 2) x_int))
    (s_cons (s_if (t_cmp (o_eq hr.units) f_eq (xv 3) x_str)
    (s_one (s_ret x_bl))
    s_nil)
    (s_cons (s_if (t_cmp (o_eq hr.units) f_eq (xv 3) x_str)
    (s_one (s_ret x_bl))
    s_nil)
    (s_cons (s_if (t_cmp (o_eq hr.units) f_eq (xv 3) x_str)
    (s_one (s_ret (x_cmp (o_in (hu65 hr)) f_in (x_ix o_ix f_ix (xv 2) x_int) (x_call (ok_names_of T) (hr.mono (Nat.le_trans (by decide) (Nat.le_add_right _ _))) (by rfl) T.g_names_of T.F_names_of.kp T.b_names_of (a_cons (xv 0) (a_cons (xv 1) a_nil))))))
    s_nil)
    (s_cons (s_if (t_cmp (o_eq hr.units) f_eq (xv 3) x_str)
    (s_one (s_ret (x_not (x_call ih hr (by rfl) T.g_belongs T.F_belongs.kp T.b_belongs (a_cons (xv 0) (a_cons (xv 1) (a_cons (x_ix o_ix f_ix (xv 2) x_int) a_nil)))))))
    s_nil)
    (s_cons (s_if (t_cmp (o_eq hr.units) f_eq (xv 3) x_str)
    (s_one (s_ret (x_and (x_call ih hr (by rfl) T.g_belongs T.F_belongs.kp T.b_belongs (a_cons (xv 0) (a_cons (xv 1) (a_cons (x_ix o_ix f_ix (xv 2) x_int) a_nil)))) (x_one (x_call ih hr (by rfl) T.g_belongs T.F_belongs.kp T.b_belongs (a_cons (xv 0) (a_cons (xv 1) (a_cons (x_ix o_ix f_ix (xv 2) x_int) a_nil))))))))
    s_nil)
    (s_one (s_ret (x_or (x_call ih hr (by rfl) T.g_belongs T.F_belongs.kp T.b_belongs (a_cons (xv 0) (a_cons (xv 1) (a_cons (x_ix o_ix f_ix (xv 2) x_int) a_nil)))) (x_one (x_call ih hr (by rfl) T.g_belongs T.F_belongs.kp T.b_belongs (a_cons (xv 0) (a_cons (xv 1) (a_cons (x_ix o_ix f_ix (xv 2) x_int) a_nil))))))))))))))) 0 true
theorem ok__groups_in (T : Facts K mg) : FnOk P w K mg base CX0 27 T.a__groups_in T.d__groups_in ["model", "members", "sector"] (spM K 3 F__groups_in) :=
  FnOk.framed (fn_ok T.F__groups_in sc__groups_in fun cdv A outer s H E hr => (s_one (s_ret (x_lc true (own := [("group", 3), ("profile", 4)]) (p := (.tp [(.nm 3), (.nm 4)])) rfl sc__groups_in.nd (i_enum (by rfl) T.m_enumerate (a_cons (xv 1) a_nil)) (blkOk_by (N := N__groups_in) (sc := defScope st__groups_in) (by decide +kernel)) (by decide) (fun _ _ _ _ _ => (g_tup rfl (gs_cons (g_name (i := 3) sc__groups_in.nd rfl (by first | exact .inl rfl | exact .inr rfl)) (gs_cons (g_name (i := 4) sc__groups_in.nd rfl (by first | exact .inl rfl | exact .inr rfl)) gs_nil)))) (fun _ _ _ _ _ => (ts_one (t_tru (x_call (ok_belongs T 24) (hr.mono (by decide)) (by rfl) T.g_belongs T.F_belongs.kp T.b_belongs (a_cons (xv 0) (a_cons (xv 4) (a_cons (xv 2) a_nil))))))) (fun _ _ _ _ _ => (xv 3)))))) 0 true
theorem ok_unit_transactions (T : Facts K mg) : FnOk P w K mg base CX0 28 T.a_unit_transactions T.d_unit_transactions ["model", "profile"] (spM K 2 F_unit_transactions) :=
  FnOk.framed (fn_ok T.F_unit_transactions sc_unit_transactions fun cdv A outer s H E hr => (s_cons (s_set (i := 2) sc_unit_transactions.nd rfl (by first | exact .inl rfl | exact .inr rfl) (x_call (ok_group_profiles T) (hr.mono (by decide)) (by rfl) T.g_group_profiles T.F_group_profiles.kp T.b_group_profiles (a_cons (xv 0) (a_cons (xv 1) a_nil))))
    (s_cons (s_set (i := 3) sc_unit_transactions.nd rfl (by first | exact .inl rfl | exact .inr rfl) (x_call (ok_profile_count T) (hr.mono (by decide)) (by rfl) T.g_profile_count T.F_profile_count.kp T.b_profile_count (a_cons (xv 0) a_nil)))
    (s_cons (s_set (i := 4) sc_unit_transactions.nd rfl (by first | exact .inl rfl | exact .inr rfl) (x_lst false a_nil))
    (s_cons (s_for PassesOwn.never rfl (i_seq (x_ix o_ix f_ix (xv 0) x_int)) (g_tup rfl (gs_cons (g_name (i := 5) sc_unit_transactions.nd rfl (by first | exact .inl rfl | exact .inr rfl)) (gs_cons (g_name (i := 6) sc_unit_transactions.nd rfl (by first | exact .inl rfl | exact .inr rfl)) (gs_cons (g_name (i := 7) sc_unit_transactions.nd rfl (by first | exact .inl rfl | exact .inr rfl)) (gs_cons (g_name (i := 8) sc_unit_transactions.nd rfl (by first | exact .inl rfl | exact .inr rfl)) (gs_cons (g_name (i := 7) sc_unit_transactions.nd rfl (by first | exact .inl rfl | exact .inr rfl)) gs_nil))))))
    (s_cons (s_set (i := 9) sc_unit_transactions.nd rfl (by first | exact .inl rfl | exact .inr rfl) (x_call (ok__groups_in T) (hr.mono (by decide)) (by rfl) T.g__groups_in T.F__groups_in.kp T.b__groups_in (a_cons (xv 0) (a_cons (xv 2) (a_cons (xv 6) a_nil)))))
    (s_cons (s_set (i := 10) sc_unit_transactions.nd rfl (by first | exact .inl rfl | exact .inr rfl) (x_call (ok__groups_in T) (hr.mono (by decide)) (by rfl) T.g__groups_in T.F__groups_in.kp T.b__groups_in (a_cons (xv 0) (a_cons (xv 2) (a_cons (xv 8) a_nil)))))
    (s_cons (s_setLc2 true (i := 11) (own := [("payer", 12), ("payee", 13)]) (vs1 := [13]) (p := (.nm 12)) (p1 := (.nm 13)) rfl sc_unit_transactions.nd rfl rfl (sw_true rfl rfl rfl (by decide +kernel)) (i_seq (xv 9)) (blkOk_by (N := N_unit_transactions) (sc := defScope st_unit_transactions) (by decide +kernel)) (by decide) (by decide) (by decide) (fun _ _ _ _ _ => (g_name (i := 12) sc_unit_transactions.nd rfl (by first | exact .inl rfl | exact .inr rfl))) (fun _ _ _ _ _ => ts_nil) (fun _ _ _ _ _ => (i_seq (xv 10))) (fun _ _ _ _ _ => (g_name (i := 13) sc_unit_transactions.nd rfl (by first | exact .inl rfl | exact .inr rfl))) (fun _ _ _ _ _ => (ts_one (PW.pt (t_or (t_cmp (o_ne hr.units) f_ne (xv 12) (xv 3)) (t_or1 (t_cmp (o_ne hr.units) f_ne (xv 13) (xv 3))))))) (fun _ _ _ _ _ => (x_tup (a_cons (xv 12) (a_cons (xv 13) a_nil)))))
    (s_one (s_expr (x_meth PySem.F.plainAttrs_list PySem.F.slot_list_extend PySem.F.type_list_extend mt_extend f_extend ty_lst (xv 4) (a_cons (x_lc true (own := [("payer", 12), ("payee", 13)]) (p := (.tp [(.nm 12), (.nm 13)])) rfl sc_unit_transactions.nd (i_seq (xv 11)) (blkOk_by (N := N_unit_transactions) (sc := defScope st_unit_transactions) (by decide +kernel)) (by decide) (fun _ _ _ _ _ => (g_tup rfl (gs_cons (g_name (i := 12) sc_unit_transactions.nd rfl (by first | exact .inl rfl | exact .inr rfl)) (gs_cons (g_name (i := 13) sc_unit_transactions.nd rfl (by first | exact .inl rfl | exact .inr rfl)) gs_nil)))) (fun _ _ _ _ _ => ts_nil) (fun _ _ _ _ _ => (x_tup (a_cons (xv 5) (a_cons (xv 12) (a_cons (xv 13) a_nil)))))) a_nil))))))))
    (s_one (s_ret (x_callT o_tuple f_tuple (by rfl) T.m_tuple bt_tuple (a_cons (xv 4) a_nil))))))))) 0 true
theorem ok_made (T : Facts K mg) : FnOk P w K mg base CX0 29 T.a_made T.d_made ["model", "profile", "amounts"] (spM K 3 F_made) :=
  FnOk.framed (fn_ok T.F_made sc_made fun cdv A outer s H E hr => (s_cons (s_setLc true (i := 3) (own := [("unit", 4), ("amount", 5)]) (p := (.tp [(.nm 4), (.nm 5)])) rfl sc_made.nd rfl rfl (sw_true rfl rfl rfl (by decide +kernel)) (i_zip (by rfl) T.m_zip (a_cons (x_call (ok_unit_transactions T) (hr.mono (by decide)) (by rfl) T.g_unit_transactions T.F_unit_transactions.kp T.b_unit_transactions (a_cons (xv 0) (a_cons (xv 1) a_nil))) (a_cons (xv 2) a_nil))) (blkOk_by (N := N_made) (sc := defScope st_made) (by decide +kernel)) (by decide) (fun _ _ _ _ _ => (g_tup rfl (gs_cons (g_name (i := 4) sc_made.nd rfl (by first | exact .inl rfl | exact .inr rfl)) (gs_cons (g_name (i := 5) sc_made.nd rfl (by first | exact .inl rfl | exact .inr rfl)) gs_nil)))) (fun _ _ _ _ _ => (ts_one (t_cmp op_gt f_gt (xv 5) x_int))) (fun _ _ _ _ _ => (x_tup (a_cons (xv 4) (a_cons (xv 5) a_nil)))))
    (s_cons (s_set (i := 6) sc_made.nd rfl (by first | exact .inl rfl | exact .inr rfl) (x_lst false a_nil))
    (s_cons (s_set (i := 7) sc_made.nd rfl (by first | exact .inl rfl | exact .inr rfl) x_dct0)
    (s_cons (s_for PassesOwn.never rfl (i_range1 (by rfl) T.m_range (a_cons (x_call (ok_profile_count T) (hr.mono (by decide)) (by rfl) T.g_profile_count T.F_profile_count.kp T.b_profile_count (a_cons (xv 0) a_nil)) a_nil)) (g_name (i := 8) sc_made.nd rfl (by first | exact .inl rfl | exact .inr rfl))
    (s_one (s_if (t_tru (x_callB (o_any rfl) f_any (by rfl) T.m_any bt_any (a_cons (x_lc true (own := [("unit", 4), ("_", 9)]) (p := (.tp [(.nm 4), (.nm 9)])) rfl sc_made.nd (i_seq (xv 3)) (blkOk_by (N := N_made) (sc := defScope st_made) (by decide +kernel)) (by decide) (fun _ _ _ _ _ => (g_tup rfl (gs_cons (g_name (i := 4) sc_made.nd rfl (by first | exact .inl rfl | exact .inr rfl)) (gs_cons (g_name (i := 9) sc_made.nd rfl (by first | exact .inl rfl | exact .inr rfl)) gs_nil)))) (fun _ _ _ _ _ => ts_nil) (fun _ _ _ _ _ => (x_cmp (o_in (hu65 hr)) f_in (xv 8) (x_sl o_slA (f_slA true) (xv 4) (o1 x_int) o0)))) a_nil)))
    (s_cons (s_putK (hu1 hr.units) (x_tup (a_cons (x_callB o_len f_len (by rfl) T.m_len bt_len (a_cons (xv 6) a_nil)) (a_cons (x_bin o_addA (f_addA true) (x_callB o_len f_len (by rfl) T.m_len bt_len (a_cons (xv 6) a_nil)) x_int) a_nil))) (xv 7) (xv 8))
    (s_one (s_expr (x_meth PySem.F.plainAttrs_list PySem.F.slot_list_extend PySem.F.type_list_extend mt_extend f_extend ty_lst (xv 6) (a_cons (x_lst true (a_cons (x_call (ok_names_of T) (hr.mono (by decide)) (by rfl) T.g_names_of T.F_names_of.kp T.b_names_of (a_cons (xv 0) (a_cons (xv 8) a_nil))) (a_cons (x_call (ok_names_of T) (hr.mono (by decide)) (by rfl) T.g_names_of T.F_names_of.kp T.b_names_of (a_cons (xv 0) (a_cons (xv 8) a_nil))) a_nil))) a_nil)))))
    s_nil)))
    (s_cons (s_if (t_cmp op_notN f_notN (xv 1) x_non)
    (s_cons (s_putK (hu1 hr.units) (x_tup (a_cons (x_callB o_len f_len (by rfl) T.m_len bt_len (a_cons (xv 6) a_nil)) (a_cons (x_callB o_len f_len (by rfl) T.m_len bt_len (a_cons (xv 6) a_nil)) a_nil))) (xv 7) (x_call (ok_profile_count T) (hr.mono (by decide)) (by rfl) T.g_profile_count T.F_profile_count.kp T.b_profile_count (a_cons (xv 0) a_nil)))
    (s_one (s_expr (x_meth PySem.F.plainAttrs_list PySem.F.slot_list_append PySem.F.type_list_append mt_append f_append ty_lst (xv 6) (a_cons (x_call (ok_names_of T) (hr.mono (by decide)) (by rfl) T.g_names_of T.F_names_of.kp T.b_names_of (a_cons (xv 0) (a_cons (xv 1) a_nil))) a_nil)))))
    s_nil)
    (s_cons (s_set (i := 10) sc_made.nd rfl (by first | exact .inl rfl | exact .inr rfl) (x_lst false a_nil))
    (s_cons (s_for PassesOwn.never rfl (i_seq (xv 3)) (g_tup rfl (gs_cons (g_tup rfl (gs_cons (g_name (i := 11) sc_made.nd rfl (by first | exact .inl rfl | exact .inr rfl)) (gs_cons (g_name (i := 12) sc_made.nd rfl (by first | exact .inl rfl | exact .inr rfl)) (gs_cons (g_name (i := 13) sc_made.nd rfl (by first | exact .inl rfl | exact .inr rfl)) gs_nil)))) (gs_cons (g_name (i := 5) sc_made.nd rfl (by first | exact .inl rfl | exact .inr rfl)) gs_nil)))
    (s_cons (s_set (i := 14) sc_made.nd rfl (by first | exact .inl rfl | exact .inr rfl) (x_ite (t_cmp (o_eq hr.units) f_eq (xv 12) (xv 13)) (x_revT (x_dgetK (hu1 hr.units) (xv 7) (xv 13))) (x_dgetK (hu1 hr.units) (xv 7) (xv 13))))
    (s_one (s_expr (x_meth PySem.F.plainAttrs_list PySem.F.slot_list_extend PySem.F.type_list_extend mt_extend f_extend ty_lst (xv 10) (a_cons (x_lc true (own := [("giver", 15), ("taker", 16)]) (p := (.tp [(.nm 15), (.nm 16)])) rfl sc_made.nd (i_zip (by rfl) T.m_zip (a_cons (x_dgetK (hu1 hr.units) (xv 7) (xv 12)) (a_cons (xv 14) a_nil))) (blkOk_by (N := N_made) (sc := defScope st_made) (by decide +kernel)) (by decide) (fun _ _ _ _ _ => (g_tup rfl (gs_cons (g_name (i := 15) sc_made.nd rfl (by first | exact .inl rfl | exact .inr rfl)) (gs_cons (g_name (i := 16) sc_made.nd rfl (by first | exact .inl rfl | exact .inr rfl)) gs_nil)))) (fun _ _ _ _ _ => ts_nil) (fun _ _ _ _ _ => (x_tup (a_cons (xv 11) (a_cons (xv 15) (a_cons (xv 16) (a_cons (xv 5) a_nil))))))) a_nil))))))
    (s_one (s_ret (x_tup (a_cons (x_callT o_tuple f_tuple (by rfl) T.m_tuple bt_tuple (a_cons (xv 6) a_nil)) (a_cons (x_callT o_tuple f_tuple (by rfl) T.m_tuple bt_tuple (a_cons (xv 10) a_nil)) a_nil))))))))))))) 0 true
theorem ok__law_tape (T : Facts K mg) : FnOk P w K mg base CX0 1 T.a__law_tape T.d__law_tape ["script"] (spM K 1 F__law_tape) :=
  (fn_ok T.F__law_tape sc__law_tape fun cdv A outer s H E hr => (s_cons (s_set (i := 1) sc__law_tape.nd rfl (by first | exact .inl rfl | exact .inr rfl) x_int)
    (s_cons (s_for PassesOwn.never rfl (i_seq (xv 0)) (g_name (i := 2) sc__law_tape.nd rfl (by first | exact .inl rfl | exact .inr rfl))
    (s_one (s_set (i := 1) sc__law_tape.nd rfl (by first | exact .inl rfl | exact .inr rfl) (x_bin op_mod f_mod (x_callT o_int f_int (by rfl) T.m_int bt_int (a_cons (x_bin o_addA (f_addA true) (x_bin op_mul f_mul (xv 1) x_int) (x_callB o_abs f_abs (by rfl) T.m_abs bt_abs (a_cons (x_callT o_int f_int (by rfl) T.m_int bt_int (a_cons (xv 2) a_nil)) a_nil))) a_nil)) x_int))))
    (s_one (s_ret (x_lst false (a_cons (x_callT (o_listA rfl) (f_listA true) (by rfl) T.m_list bt_list (a_cons (xv 0) a_nil)) (a_cons x_int (a_cons x_int (a_cons (xv 1) a_nil))))))))))
theorem ok__law_draw (T : Facts K mg) : FnOk P w K mg base CX0 1 T.a__law_draw T.d__law_draw ["tape", "many"] (spM K 2 F__law_draw) :=
  FnOk.framed (fn_ok T.F__law_draw sc__law_draw fun cdv A outer s H E hr => (s_cons (s_if (t_cmp (o_eq hr.units) f_eq (x_ix o_ix f_ix (xv 0) x_int) x_int)
    (s_cons (s_set (i := 2) sc__law_draw.nd rfl (by first | exact .inl rfl | exact .inr rfl) (x_ix o_ix f_ix (xv 0) x_int))
    (s_cons (s_set (i := 3) sc__law_draw.nd rfl (by first | exact .inl rfl | exact .inr rfl) x_int)
    (s_cons (s_if (t_cmp op_lt f_lt (xv 2) (x_callB o_len f_len (by rfl) T.m_len bt_len (a_cons (x_ix o_ix f_ix (xv 0) x_int) a_nil)))
    (s_one (s_set (i := 3) sc__law_draw.nd rfl (by first | exact .inl rfl | exact .inr rfl) (x_callB o_abs f_abs (by rfl) T.m_abs bt_abs (a_cons (x_callT o_int f_int (by rfl) T.m_int bt_int (a_cons (x_ix o_ix f_ix (x_ix o_ix f_ix (xv 0) x_int) (xv 2)) a_nil)) a_nil))))
    (s_cons (s_put (x_bin op_mod f_mod (x_callT o_int f_int (by rfl) T.m_int bt_int (a_cons (x_bin o_addA (f_addA true) (x_bin o_addA (f_addA true) (x_bin op_mul f_mul (x_ix o_ix f_ix (xv 0) x_int) x_int) (xv 2)) x_int) a_nil)) x_int) (xv 0) x_int (pg_sub (xv 0) x_int set_list))
    (s_one (s_set (i := 3) sc__law_draw.nd rfl (by first | exact .inl rfl | exact .inr rfl) (x_ix o_ix f_ix (xv 0) x_int)))))
    (s_cons (s_put (x_bin o_addA (f_addA true) (xv 2) x_int) (xv 0) x_int (pg_sub (xv 0) x_int set_list))
    (s_cons (s_if (t_cmp op_lt f_lt (xv 3) (x_bin op_pow f_pow x_int x_int))
    (s_cons (s_set (i := 3) sc__law_draw.nd rfl (by first | exact .inl rfl | exact .inr rfl) (x_bin op_mod f_mod (x_callT o_int f_int (by rfl) T.m_int bt_int (a_cons (x_bin o_addA (f_addA true) (x_bin o_addA (f_addA true) (x_bin op_mul f_mul (xv 3) x_int) (x_bin op_mul f_mul (xv 2) x_int)) x_int) a_nil)) x_int))
    (s_cons (s_set (i := 3) sc__law_draw.nd rfl (by first | exact .inl rfl | exact .inr rfl) (x_bin op_mod f_mod (x_callT o_int f_int (by rfl) T.m_int bt_int (a_cons (x_bin op_mul f_mul (xv 3) x_int) a_nil)) x_int))
    (s_one (s_ret (x_bin op_mod f_mod (x_callT o_int f_int (by rfl) T.m_int bt_int (a_cons (xv 3) a_nil)) (x_callB (o_max2 rfl) f_max2 (by rfl) T.m_max bt_max (a_cons (xv 1) (a_cons x_int a_nil))))))))
    s_nil)
    (s_one (s_put (xv 3) (xv 0) x_int (pg_sub (xv 0) x_int set_list))))))))
    s_nil)
    (s_cons (s_set (i := 3) sc__law_draw.nd rfl (by first | exact .inl rfl | exact .inr rfl) (x_ix o_ix f_ix (xv 0) x_int))
    (s_cons (s_put (x_bin op_fdiv f_div (xv 3) (x_callB (o_max2 rfl) f_max2 (by rfl) T.m_max bt_max (a_cons (xv 1) (a_cons x_int a_nil)))) (xv 0) x_int (pg_sub (xv 0) x_int set_list))
    (s_one (s_ret (x_bin op_mod f_mod (x_callT o_int f_int (by rfl) T.m_int bt_int (a_cons (xv 3) a_nil)) (x_callB (o_max2 rfl) f_max2 (by rfl) T.m_max bt_max (a_cons (xv 1) (a_cons x_int a_nil)))))))))) 1 true
theorem ok__law_same (T : Facts K mg) : ∀ d : Nat, FnOk P w K mg base CX0 (1 + d) T.a__law_same T.d__law_same ["actual", "expected"] (spM K 2 (F__law_same d))
  | 0 => fn_bad
  | d + 1 => FnOk.framed (fn_ok T.F__law_same sc__law_same fun cdv A outer s H E hr => by
    have ih := ok__law_same T d
    exact (s_cons (s_if (t_cmp op_isN f_isN (xv 1) x_non)
    (s_one (s_ret (x_cmp op_isN f_isN (xv 0) x_non)))
    s_nil)
    (s_cons (s_if (t_tru (x_callB o_isi f_isi (by rfl) T.m_isinstance bt_isinstance (a_cons (xv 1) (a_cons (x_ty (by rfl) T.m_tuple bt_tuple) a_nil))))
    (s_cons (s_if (PW.pt (t_or (t_not (t_tru (x_callB o_isi f_isi (by rfl) T.m_isinstance bt_isinstance (a_cons (xv 0) (a_cons (x_ty (by rfl) T.m_tuple bt_tuple) a_nil))))) (t_or1 (t_cmp (o_ne hr.units) f_ne (x_callB o_len f_len (by rfl) T.m_len bt_len (a_cons (xv 0) a_nil)) (x_callB o_len f_len (by rfl) T.m_len bt_len (a_cons (xv 1) a_nil))))))
    (s_one (s_ret x_bl))
    s_nil)
    (s_cons (s_for PassesOwn.never rfl (i_range1 (by rfl) T.m_range (a_cons (x_callB o_len f_len (by rfl) T.m_len bt_len (a_cons (xv 1) a_nil)) a_nil)) (g_name (i := 2) sc__law_same.nd rfl (by first | exact .inl rfl | exact .inr rfl))
    (s_one (s_if (t_not (t_tru (x_call ih hr (by rfl) T.g__law_same T.F__law_same.kp T.b__law_same (a_cons (x_ix o_ix f_ix (xv 0) (xv 2)) (a_cons (x_ix o_ix f_ix (xv 1) (xv 2)) a_nil)))))
    (s_one (s_ret x_bl))
    s_nil)))
    (s_one (s_ret x_bl))))
    s_nil)
    (s_cons (s_if (t_tru (x_callB o_isi f_isi (by rfl) T.m_isinstance bt_isinstance (a_cons (xv 1) (a_cons (x_ty (by rfl) T.m_bool bt_bool) a_nil))))
    (s_one (s_ret (x_and (x_callB o_isi f_isi (by rfl) T.m_isinstance bt_isinstance (a_cons (xv 0) (a_cons (x_ty (by rfl) T.m_bool bt_bool) a_nil))) (x_one (x_cmp (o_eq hr.units) f_eq (xv 0) (xv 1))))))
    s_nil)
    (s_cons (s_if (t_tru (x_callB o_isi f_isi (by rfl) T.m_isinstance bt_isinstance (a_cons (xv 1) (a_cons (x_ty (by rfl) T.m_str bt_str) a_nil))))
    (s_one (s_ret (x_and (x_callB o_isi f_isi (by rfl) T.m_isinstance bt_isinstance (a_cons (xv 0) (a_cons (x_ty (by rfl) T.m_str bt_str) a_nil))) (x_one (x_cmp (o_eq hr.units) f_eq (xv 0) (xv 1))))))
    s_nil)
    (s_one (s_ret (x_and (x_callB o_isi f_isi (by rfl) T.m_isinstance bt_isinstance (a_cons (xv 0) (a_cons (x_ty (by rfl) T.m_int bt_int) a_nil))) (x_and (x_not (x_callB o_isi f_isi (by rfl) T.m_isinstance bt_isinstance (a_cons (xv 0) (a_cons (x_ty (by rfl) T.m_bool bt_bool) a_nil)))) (x_one (x_cmp (o_eq hr.units) f_eq (xv 0) (xv 1)))))))))))) 0 true
theorem ok__law_sets (T : Facts K mg) : FnOk P w K mg base CX0 1 T.a__law_sets T.d__law_sets ["sectors"] (spM K 1 F__law_sets) :=
  FnOk.framed (fn_ok T.F__law_sets sc__law_sets fun cdv A outer s H E hr => (s_cons (s_set (i := 1) sc__law_sets.nd rfl (by first | exact .inl rfl | exact .inr rfl) (x_lst true (a_cons (x_tup a_nil) a_nil)))
    (s_cons (s_for PassesOwn.never rfl (i_seq (xv 0)) (g_name (i := 2) sc__law_sets.nd rfl (by first | exact .inl rfl | exact .inr rfl))
    (s_one (s_set (i := 1) sc__law_sets.nd rfl (by first | exact .inl rfl | exact .inr rfl) (x_bin o_addA (f_addA true) (xv 1) (x_lc true (own := [("row", 3)]) (p := (.nm 3)) rfl sc__law_sets.nd (i_seq (xv 1)) (blkOk_by (N := N__law_sets) (sc := defScope st__law_sets) (by decide +kernel)) (by decide) (fun _ _ _ _ _ => (g_name (i := 3) sc__law_sets.nd rfl (by first | exact .inl rfl | exact .inr rfl))) (fun _ _ _ _ _ => ts_nil) (fun _ _ _ _ _ => (x_bin o_addA (f_addA true) (xv 3) (x_tup (a_cons (xv 2) a_nil)))))))))
    (s_one (s_ret (xv 1)))))) 0 true
theorem ok__law_letters (T : Facts K mg) : FnOk P w K mg base CX0 1 T.a__law_letters T.d__law_letters [] (spM K 0 F__law_letters) :=
  FnOk.framed (fn_ok T.F__law_letters sc__law_letters fun cdv A outer s H E hr => (s_one (s_ret x_str))) 0 true
theorem ok__law_reserved (T : Facts K mg) : FnOk P w K mg base CX0 1 T.a__law_reserved T.d__law_reserved [] (spM K 0 F__law_reserved) :=
  FnOk.framed (fn_ok T.F__law_reserved sc__law_reserved fun cdv A outer s H E hr => (s_cons (s_set (i := 0) sc__law_reserved.nd rfl (by first | exact .inl rfl | exact .inr rfl) x_str)
    (s_cons (s_set (i := 0) sc__law_reserved.nd rfl (by first | exact .inl rfl | exact .inr rfl) (x_bin o_addA (f_addA true) (xv 0) x_str))
    (s_one (s_ret (x_meth PySem.F.plainAttrs_str PySem.F.slot_str_split PySem.F.type_str_split mt_split (f_split true) ty_str (xv 0) (a_cons x_str a_nil))))))) 0 true
theorem ok__law_run (T : Facts K mg) : FnOk P w K mg base CX0 2 T.a__law_run T.d__law_run ["tape", "size"] (spM K 2 F__law_run) :=
  FnOk.framed (fn_ok T.F__law_run sc__law_run fun cdv A outer s H E hr => (s_one (s_ret (x_meth PySem.F.plainAttrs_str PySem.F.slot_str_join PySem.F.type_str_join mt_join f_join ty_str x_str (a_cons (x_lc true (own := [("k", 2)]) (p := (.nm 2)) rfl sc__law_run.nd (i_range1 (by rfl) T.m_range (a_cons (xv 1) a_nil)) (blkOk_by (N := N__law_run) (sc := defScope st__law_run) (by decide +kernel)) (by decide) (fun _ _ _ _ _ => (g_name (i := 2) sc__law_run.nd rfl (by first | exact .inl rfl | exact .inr rfl))) (fun _ _ _ _ _ => ts_nil) (fun _ _ _ _ _ => (x_ix o_ix f_ix (x_call0 (ok__law_letters T) (hr.mono (by decide)) (by rfl) T.g__law_letters T.F__law_letters.kp T.b__law_letters) (x_call (ok__law_draw T) (hr.mono (by decide)) (by rfl) T.g__law_draw T.F__law_draw.kp T.b__law_draw (a_cons (xv 0) (a_cons x_int a_nil)))))) a_nil))))) 1 true
theorem ok__law_names (T : Facts K mg) : FnOk P w K mg base CX0 3 T.a__law_names T.d__law_names ["tape", "many"] (spM K 2 F__law_names) :=
  FnOk.framed (fn_ok T.F__law_names sc__law_names fun cdv A outer s H E hr => (s_cons (s_set (i := 2) sc__law_names.nd rfl (by first | exact .inl rfl | exact .inr rfl) (x_lst true (a_cons x_str (a_cons x_str (a_cons x_str (a_cons x_str (a_cons x_str (a_cons x_str (a_cons x_str (a_cons (x_call (ok__law_run T) (hr.mono (by decide)) (by rfl) T.g__law_run T.F__law_run.kp T.b__law_run (a_cons (xv 0) (a_cons (x_call (ok__law_draw T) (hr.mono (by decide)) (by rfl) T.g__law_draw T.F__law_draw.kp T.b__law_draw (a_cons (xv 0) (a_cons x_int a_nil))) a_nil))) (a_cons (x_call (ok__law_run T) (hr.mono (by decide)) (by rfl) T.g__law_run T.F__law_run.kp T.b__law_run (a_cons (xv 0) (a_cons x_int a_nil))) a_nil)))))))))))
    (s_cons (s_set (i := 3) sc__law_names.nd rfl (by first | exact .inl rfl | exact .inr rfl) (x_ix o_ix f_ix (xv 2) (x_call (ok__law_draw T) (hr.mono (by decide)) (by rfl) T.g__law_draw T.F__law_draw.kp T.b__law_draw (a_cons (xv 0) (a_cons x_int a_nil)))))
    (s_cons (s_set (i := 4) sc__law_names.nd rfl (by first | exact .inl rfl | exact .inr rfl) (x_lst true (a_cons x_str (a_cons x_str (a_cons x_str (a_cons x_str (a_cons x_str (a_cons x_str (a_cons x_str (a_cons x_str a_nil))))))))))
    (s_cons (s_set (i := 5) sc__law_names.nd rfl (by first | exact .inl rfl | exact .inr rfl) (x_call0 (ok__law_reserved T) (hr.mono (by decide)) (by rfl) T.g__law_reserved T.F__law_reserved.kp T.b__law_reserved))
    (s_cons (s_set (i := 6) sc__law_names.nd rfl (by first | exact .inl rfl | exact .inr rfl) (x_callT (o_listA rfl) (f_listA false) (by rfl) T.m_list bt_list (a_cons (x_call0 (ok__law_letters T) (hr.mono (by decide)) (by rfl) T.g__law_letters T.F__law_letters.kp T.b__law_letters) a_nil)))
    (s_cons (s_set (i := 7) sc__law_names.nd rfl (by first | exact .inl rfl | exact .inr rfl) (x_lst false a_nil))
    (s_cons (s_for PassesOwn.never rfl (i_range1 (by rfl) T.m_range (a_cons (xv 1) a_nil)) (g_name (i := 8) sc__law_names.nd rfl (by first | exact .inl rfl | exact .inr rfl))
    (s_cons (s_set (i := 9) sc__law_names.nd rfl (by first | exact .inl rfl | exact .inr rfl) (x_bin o_addA (f_addA true) (xv 3) (x_meth PySem.F.plainAttrs_list PySem.F.slot_list_pop PySem.F.type_list_pop mt_popAt f_popAt ty_lst (xv 6) (a_cons (x_call (ok__law_draw T) (hr.mono (by decide)) (by rfl) T.g__law_draw T.F__law_draw.kp T.b__law_draw (a_cons (xv 0) (a_cons (x_callB o_len f_len (by rfl) T.m_len bt_len (a_cons (xv 6) a_nil)) a_nil))) a_nil))))
    (s_cons (s_set (i := 9) sc__law_names.nd rfl (by first | exact .inl rfl | exact .inr rfl) (x_bin o_addA (f_addA true) (xv 9) (x_call (ok__law_run T) (hr.mono (by decide)) (by rfl) T.g__law_run T.F__law_run.kp T.b__law_run (a_cons (xv 0) (a_cons (x_ix o_ix f_ix (x_lst true (a_cons x_int (a_cons x_int (a_cons x_int (a_cons x_int a_nil))))) (x_call (ok__law_draw T) (hr.mono (by decide)) (by rfl) T.g__law_draw T.F__law_draw.kp T.b__law_draw (a_cons (xv 0) (a_cons x_int a_nil)))) a_nil)))))
    (s_cons (s_if (t_cmp (o_in (hu65 hr)) f_in (xv 9) (xv 5))
    (s_one (s_set (i := 9) sc__law_names.nd rfl (by first | exact .inl rfl | exact .inr rfl) (x_bin o_addA (f_addA true) (xv 9) x_str)))
    s_nil)
    (s_one (s_expr (x_meth PySem.F.plainAttrs_list PySem.F.slot_list_append PySem.F.type_list_append mt_append f_append ty_lst (xv 7) (a_cons (xv 9) a_nil))))))))
    (s_cons (s_if (t_cmp (o_eq hr.units) f_eq (x_call (ok__law_draw T) (hr.mono (by decide)) (by rfl) T.g__law_draw T.F__law_draw.kp T.b__law_draw (a_cons (xv 0) (a_cons x_int a_nil))) x_int)
    (s_one (s_for PassesOwn.never rfl (i_range1 (by rfl) T.m_range (a_cons (x_callB (o_min2 rfl) f_min2 (by rfl) T.m_min bt_min (a_cons (xv 1) (a_cons x_int a_nil))) a_nil)) (g_name (i := 8) sc__law_names.nd rfl (by first | exact .inl rfl | exact .inr rfl))
    (s_cons (s_set (i := 10) sc__law_names.nd rfl (by first | exact .inl rfl | exact .inr rfl) (x_ix o_ix f_ix (xv 4) (x_call (ok__law_draw T) (hr.mono (by decide)) (by rfl) T.g__law_draw T.F__law_draw.kp T.b__law_draw (a_cons (xv 0) (a_cons x_int a_nil)))))
    (s_one (s_if (t_cmp (o_ni (hu65 hr)) f_ni (xv 10) (xv 7))
    (s_one (s_put (xv 10) (xv 7) (xv 8) (pg_sub (xv 7) (xv 8) set_list)))
    s_nil)))))
    s_nil)
    (s_one (s_ret (xv 7)))))))))))) 1 true
theorem ok__law_lists (T : Facts K mg) : FnOk P w K mg base CX0 4 T.a__law_lists T.d__law_lists ["tape", "most"] (spM K 2 F__law_lists) :=
  FnOk.framed (fn_ok T.F__law_lists sc__law_lists fun cdv A outer s H E hr => (s_cons (s_set (i := 2) sc__law_lists.nd rfl (by first | exact .inl rfl | exact .inr rfl) (x_call (ok__law_names T) (hr.mono (by decide)) (by rfl) T.g__law_names T.F__law_names.kp T.b__law_names (a_cons (xv 0) (a_cons x_int a_nil))))
    (s_cons (s_set (i := 3) sc__law_lists.nd rfl (by first | exact .inl rfl | exact .inr rfl) (x_call (ok__law_draw T) (hr.mono (by decide)) (by rfl) T.g__law_draw T.F__law_draw.kp T.b__law_draw (a_cons (xv 0) (a_cons (x_bin o_addA (f_addA true) (x_ix o_ix f_ix (xv 1) x_int) x_int) a_nil))))
    (s_cons (s_set (i := 4) sc__law_lists.nd rfl (by first | exact .inl rfl | exact .inr rfl) (x_ix o_ix f_ix (x_lst true (a_cons x_int (a_cons (xv 3) (a_cons x_int a_nil)))) (x_call (ok__law_draw T) (hr.mono (by decide)) (by rfl) T.g__law_draw T.F__law_draw.kp T.b__law_draw (a_cons (xv 0) (a_cons x_int a_nil)))))
    (s_cons (s_set (i := 5) sc__law_lists.nd rfl (by first | exact .inl rfl | exact .inr rfl) (x_sl o_slA (f_slA true) (xv 2) (o1 (xv 4)) (o1 (x_bin o_addA (f_addA true) (x_bin o_addA (f_addA true) (xv 4) x_int) (x_call (ok__law_draw T) (hr.mono (by decide)) (by rfl) T.g__law_draw T.F__law_draw.kp T.b__law_draw (a_cons (xv 0) (a_cons (x_ix o_ix f_ix (xv 1) x_int) a_nil)))))))
    (s_one (s_ret (x_tup (a_cons (x_callT o_tuple f_tuple (by rfl) T.m_tuple bt_tuple (a_cons (x_sl o_slA (f_slA true) (xv 2) o0 (o1 (xv 3))) a_nil)) (a_cons (x_callT o_tuple f_tuple (by rfl) T.m_tuple bt_tuple (a_cons (xv 5) a_nil)) (a_cons (x_sl o_slA (f_slA true) (xv 2) (o1 (x_ix o_ix f_ix (x_lst true (a_cons x_int (a_cons x_int a_nil))) (x_call (ok__law_draw T) (hr.mono (by decide)) (by rfl) T.g__law_draw T.F__law_draw.kp T.b__law_draw (a_cons (xv 0) (a_cons x_int a_nil))))) o0) a_nil))))))))))) 1 true
theorem ok__law_leaf (T : Facts K mg) : FnOk P w K mg base CX0 2 T.a__law_leaf T.d__law_leaf ["tape", "sectors"] (spM K 2 F__law_leaf) :=
  FnOk.framed (fn_ok T.F__law_leaf sc__law_leaf fun cdv A outer s H E hr => (s_cons (s_set (i := 2) sc__law_leaf.nd rfl (by first | exact .inl rfl | exact .inr rfl) (x_call (ok__law_draw T) (hr.mono (by decide)) (by rfl) T.g__law_draw T.F__law_draw.kp T.b__law_draw (a_cons (xv 0) (a_cons (x_bin o_addA (f_addA true) x_int (x_bin op_mul f_mul x_int (x_callB o_len f_len (by rfl) T.m_len bt_len (a_cons (xv 1) a_nil)))) a_nil))))
    (s_cons (s_if (t_cmp op_lt f_lt (xv 2) x_int)
    (s_one (s_ret (x_ix o_ix f_ix (x_lst true (a_cons (x_tup (a_cons x_str a_nil)) (a_cons (x_tup (a_cons x_str a_nil)) a_nil))) (xv 2))))
    s_nil)
    (s_one (s_ret (x_tup (a_cons x_str (a_cons (x_ix o_ix f_ix (xv 1) (x_bin op_sub f_sub (x_bin op_fdiv f_div (xv 2) x_int) x_int)) a_nil)))))))) 1 true
theorem ok__law_sector (T : Facts K mg) : ∀ d : Nat, FnOk P w K mg base CX0 (3 + d) T.a__law_sector T.d__law_sector ["tape", "sectors", "size", "depth", "level"] (spM K 5 (F__law_sector d))
  | 0 => fn_bad
  | d + 1 => FnOk.framed (fn_ok T.F__law_sector sc__law_sector fun cdv A outer s H E hr => by
    have ih := ok__law_sector T d
    exact (s_cons (s_set (i := 5) sc__law_sector.nd rfl (by first | exact .inl rfl | exact .inr rfl) (x_ix o_ix f_ix (x_lst true (a_cons x_str (a_cons x_str (a_cons x_str (a_cons x_str (a_cons x_str (a_cons x_str (a_cons x_str (a_cons x_str a_nil))))))))) (x_call (ok__law_draw T) (hr.mono (Nat.le_trans (by decide) (Nat.le_add_right _ _))) (by rfl) T.g__law_draw T.F__law_draw.kp T.b__law_draw (a_cons (xv 0) (a_cons x_int a_nil)))))
    (s_cons (s_if (PW.pt (t_and (t_cmp op_lt f_lt (xv 2) x_int) (t_and1 (t_cmp (o_ne hr.units) f_ne (xv 5) x_str))))
    (s_one (s_set (i := 5) sc__law_sector.nd rfl (by first | exact .inl rfl | exact .inr rfl) x_str))
    s_nil)
    (s_cons (s_if (t_cmp (o_eq hr.units) f_eq (xv 5) x_str)
    (s_one (s_ret (x_call (ok__law_leaf T) (hr.mono (Nat.le_trans (by decide) (Nat.le_add_right _ _))) (by rfl) T.g__law_leaf T.F__law_leaf.kp T.b__law_leaf (a_cons (xv 0) (a_cons (xv 1) a_nil)))))
    s_nil)
    (s_cons (s_set (i := 6) sc__law_sector.nd rfl (by first | exact .inl rfl | exact .inr rfl) (x_meth PySem.F.plainAttrs_list PySem.F.slot_list_index PySem.F.type_list_index mt_index f_index ty_lst (x_lst true (a_cons x_str (a_cons x_str (a_cons x_str a_nil)))) (a_cons (xv 5) a_nil)))
    (s_cons (s_if (PW.pt (t_and (t_cmp op_lt f_lt (xv 6) (xv 4)) (t_and1 (t_cmp (o_eq hr.units) f_eq (xv 3) x_int))))
    (s_one (s_ret (x_call (ok__law_leaf T) (hr.mono (Nat.le_trans (by decide) (Nat.le_add_right _ _))) (by rfl) T.g__law_leaf T.F__law_leaf.kp T.b__law_leaf (a_cons (xv 0) (a_cons (xv 1) a_nil)))))
    s_nil)
    (s_cons (s_if (t_cmp op_lt f_lt (xv 6) (xv 4))
    (s_one (s_set (i := 3) sc__law_sector.nd rfl (by first | exact .inl rfl | exact .inr rfl) (x_bin op_sub f_sub (xv 3) x_int)))
    s_nil)
    (s_cons (s_if (t_cmp (o_eq hr.units) f_eq (xv 5) x_str)
    (s_one (s_ret (x_tup (a_cons x_str (a_cons (x_call ih hr (by rfl) T.g__law_sector T.F__law_sector.kp T.b__law_sector (a_cons (xv 0) (a_cons (xv 1) (a_cons (xv 2) (a_cons (xv 3) (a_cons x_int a_nil)))))) a_nil)))))
    s_nil)
    (s_cons (s_set (i := 7) sc__law_sector.nd rfl (by first | exact .inl rfl | exact .inr rfl) (x_bin o_addA (f_addA true) x_int (x_call (ok__law_draw T) (hr.mono (Nat.le_trans (by decide) (Nat.le_add_right _ _))) (by rfl) T.g__law_draw T.F__law_draw.kp T.b__law_draw (a_cons (xv 0) (a_cons (x_bin op_sub f_sub (xv 2) x_int) a_nil)))))
    (s_cons (s_set (i := 8) sc__law_sector.nd rfl (by first | exact .inl rfl | exact .inr rfl) (x_call ih hr (by rfl) T.g__law_sector T.F__law_sector.kp T.b__law_sector (a_cons (xv 0) (a_cons (xv 1) (a_cons (xv 7) (a_cons (xv 3) (a_cons (xv 6) a_nil)))))))
    (s_one (s_ret (x_tup (a_cons (xv 5) (a_cons (xv 8) (a_cons (x_call ih hr (by rfl) T.g__law_sector T.F__law_sector.kp T.b__law_sector (a_cons (xv 0) (a_cons (xv 1) (a_cons (x_bin op_sub f_sub (xv 2) (xv 7)) (a_cons (xv 3) (a_cons (x_bin o_addA (f_addA true) (xv 6) x_int) a_nil)))))) a_nil)))))))))))))))) 1 true
theorem ok__law_deep (T : Facts K mg) : FnOk P w K mg base CX0 3 T.a__law_deep T.d__law_deep ["tape", "sectors", "depth"] (spM K 3 F__law_deep) :=
  FnOk.framed (fn_ok T.F__law_deep sc__law_deep fun cdv A outer s H E hr => (s_cons (s_set (i := 3) sc__law_deep.nd rfl (by first | exact .inl rfl | exact .inr rfl) (x_tup (a_cons x_str (a_cons (x_call (ok__law_leaf T) (hr.mono (by decide)) (by rfl) T.g__law_leaf T.F__law_leaf.kp T.b__law_leaf (a_cons (xv 0) (a_cons (xv 1) a_nil))) (a_cons (x_call (ok__law_leaf T) (hr.mono (by decide)) (by rfl) T.g__law_leaf T.F__law_leaf.kp T.b__law_leaf (a_cons (xv 0) (a_cons (xv 1) a_nil))) a_nil)))))
    (s_cons (s_for PassesOwn.never rfl (i_range1 (by rfl) T.m_range (a_cons (xv 2) a_nil)) (g_name (i := 4) sc__law_deep.nd rfl (by first | exact .inl rfl | exact .inr rfl))
    (s_cons (s_set (i := 5) sc__law_deep.nd rfl (by first | exact .inl rfl | exact .inr rfl) (x_call (ok__law_draw T) (hr.mono (by decide)) (by rfl) T.g__law_draw T.F__law_draw.kp T.b__law_draw (a_cons (xv 0) (a_cons x_int a_nil))))
    (s_one (s_if (PW.pt (t_and (t_cmp (o_eq hr.units) f_eq (xv 5) x_int) (t_and1 (t_cmp (o_eq hr.units) f_eq (x_ix o_ix f_ix (xv 3) x_int) x_str))))
    (s_one (s_set (i := 3) sc__law_deep.nd rfl (by first | exact .inl rfl | exact .inr rfl) (x_tup (a_cons x_str (a_cons (x_call (ok__law_leaf T) (hr.mono (by decide)) (by rfl) T.g__law_leaf T.F__law_leaf.kp T.b__law_leaf (a_cons (xv 0) (a_cons (xv 1) a_nil))) (a_cons (xv 3) a_nil))))))
    (s_one (s_if (PW.pt (t_and (t_cmp op_lt f_lt (xv 5) x_int) (t_and1 (t_cmp (o_ne hr.units) f_ne (x_ix o_ix f_ix (xv 3) x_int) x_str))))
    (s_one (s_set (i := 3) sc__law_deep.nd rfl (by first | exact .inl rfl | exact .inr rfl) (x_tup (a_cons x_str (a_cons (x_call (ok__law_leaf T) (hr.mono (by decide)) (by rfl) T.g__law_leaf T.F__law_leaf.kp T.b__law_leaf (a_cons (xv 0) (a_cons (xv 1) a_nil))) (a_cons (xv 3) a_nil))))))
    (s_one (s_if (PW.pt (t_and (t_cmp (o_eq hr.units) f_eq (xv 5) x_int) (t_and1 (t_cmp (o_eq hr.units) f_eq (x_ix o_ix f_ix (xv 3) x_int) x_str))))
    (s_one (s_set (i := 3) sc__law_deep.nd rfl (by first | exact .inl rfl | exact .inr rfl) (x_tup (a_cons x_str (a_cons (xv 3) (a_cons (x_call (ok__law_leaf T) (hr.mono (by decide)) (by rfl) T.g__law_leaf T.F__law_leaf.kp T.b__law_leaf (a_cons (xv 0) (a_cons (xv 1) a_nil))) a_nil))))))
    (s_one (s_set (i := 3) sc__law_deep.nd rfl (by first | exact .inl rfl | exact .inr rfl) (x_tup (a_cons x_str (a_cons (xv 3) a_nil)))))))))))))
    (s_one (s_ret (xv 3)))))) 1 true
theorem ok__law_some_sector (T : Facts K mg) : FnOk P w K mg base CX0 28 T.a__law_some_sector T.d__law_some_sector ["tape", "sectors", "size", "level"] (spM K 4 F__law_some_sector) :=
  FnOk.framed (fn_ok T.F__law_some_sector sc__law_some_sector fun cdv A outer s H E hr => (s_cons (s_set (i := 4) sc__law_some_sector.nd rfl (by first | exact .inl rfl | exact .inr rfl) (x_call (ok__law_draw T) (hr.mono (by decide)) (by rfl) T.g__law_draw T.F__law_draw.kp T.b__law_draw (a_cons (xv 0) (a_cons x_int a_nil))))
    (s_cons (s_if (t_cmp op_lt f_lt (xv 2) x_int)
    (s_one (s_ret (x_call (ok__law_sector T 24) (hr.mono (by decide)) (by rfl) T.g__law_sector T.F__law_sector.kp T.b__law_sector (a_cons (xv 0) (a_cons (xv 1) (a_cons (x_callB (o_min2 rfl) f_min2 (by rfl) T.m_min bt_min (a_cons (xv 2) (a_cons (x_bin o_addA (f_addA true) x_int (xv 4)) a_nil))) (a_cons x_int (a_cons (xv 3) a_nil))))))))
    s_nil)
    (s_cons (s_if (t_cmp (o_eq hr.units) f_eq (xv 4) x_int)
    (s_one (s_ret (x_call (ok__law_deep T) (hr.mono (by decide)) (by rfl) T.g__law_deep T.F__law_deep.kp T.b__law_deep (a_cons (xv 0) (a_cons (xv 1) (a_cons (x_call (ok__law_draw T) (hr.mono (by decide)) (by rfl) T.g__law_draw T.F__law_draw.kp T.b__law_draw (a_cons (xv 0) (a_cons (x_bin op_sub f_sub x_int (x_callT o_int f_int (by rfl) T.m_int bt_int (a_cons (x_cmp op_gt f_gt (xv 3) x_int) a_nil))) a_nil))) a_nil))))))
    s_nil)
    (s_cons (s_if (t_cmp op_gt f_gt (xv 4) x_int)
    (s_one (s_ret (x_call (ok__law_sector T 24) (hr.mono (by decide)) (by rfl) T.g__law_sector T.F__law_sector.kp T.b__law_sector (a_cons (xv 0) (a_cons (xv 1) (a_cons (xv 2) (a_cons x_int (a_cons (xv 3) a_nil))))))))
    s_nil)
    (s_one (s_ret (x_call (ok__law_sector T 24) (hr.mono (by decide)) (by rfl) T.g__law_sector T.F__law_sector.kp T.b__law_sector (a_cons (xv 0) (a_cons (xv 1) (a_cons (x_bin o_addA (f_addA true) x_int (xv 4)) (a_cons x_int (a_cons (xv 3) a_nil))))))))))))) 1 true
theorem ok__law_number (T : Facts K mg) : FnOk P w K mg base CX0 2 T.a__law_number T.d__law_number ["tape", "wide"] (spM K 2 F__law_number) :=
  FnOk.framed (fn_ok T.F__law_number sc__law_number fun cdv A outer s H E hr => (s_cons (s_set (i := 2) sc__law_number.nd rfl (by first | exact .inl rfl | exact .inr rfl) (x_lst true (a_cons x_int (a_cons x_int (a_cons x_int (a_cons x_int (a_cons x_int (a_cons x_int a_nil))))))))
    (s_cons (s_if (t_cmp op_gt f_gt (xv 1) x_int)
    (s_one (s_set (i := 2) sc__law_number.nd rfl (by first | exact .inl rfl | exact .inr rfl) (x_lst true (a_cons x_int (a_cons x_int (a_cons x_int (a_cons x_int (a_cons x_int (a_cons x_int (a_cons x_int (a_cons (x_bin o_addA (f_addA true) x_int (x_call (ok__law_draw T) (hr.mono (by decide)) (by rfl) T.g__law_draw T.F__law_draw.kp T.b__law_draw (a_cons (xv 0) (a_cons x_int a_nil)))) a_nil)))))))))))
    s_nil)
    (s_cons (s_set (i := 3) sc__law_number.nd rfl (by first | exact .inl rfl | exact .inr rfl) (x_ix o_ix f_ix (xv 2) (x_call (ok__law_draw T) (hr.mono (by decide)) (by rfl) T.g__law_draw T.F__law_draw.kp T.b__law_draw (a_cons (xv 0) (a_cons (x_callB o_len f_len (by rfl) T.m_len bt_len (a_cons (xv 2) a_nil)) a_nil)))))
    (s_one (s_ret (x_ix o_ix f_ix (x_lst true (a_cons (xv 3) (a_cons (x_un un_neg f_neg (xv 3)) a_nil))) (x_call (ok__law_draw T) (hr.mono (by decide)) (by rfl) T.g__law_draw T.F__law_draw.kp T.b__law_draw (a_cons (xv 0) (a_cons x_int a_nil)))))))))) 1 true
theorem ok__law_entries (T : Facts K mg) : FnOk P w K mg base CX0 3 T.a__law_entries T.d__law_entries ["tape", "accounts", "wide"] (spM K 3 F__law_entries) :=
  FnOk.framed (fn_ok T.F__law_entries sc__law_entries fun cdv A outer s H E hr => (s_cons (s_set (i := 3) sc__law_entries.nd rfl (by first | exact .inl rfl | exact .inr rfl) (x_callT (o_listA rfl) (f_listA false) (by rfl) T.m_list bt_list (a_cons (xv 1) a_nil)))
    (s_cons (s_set (i := 4) sc__law_entries.nd rfl (by first | exact .inl rfl | exact .inr rfl) (x_lst false a_nil))
    (s_cons (s_for PassesOwn.never rfl (i_range1 (by rfl) T.m_range (a_cons (x_call (ok__law_draw T) (hr.mono (by decide)) (by rfl) T.g__law_draw T.F__law_draw.kp T.b__law_draw (a_cons (xv 0) (a_cons (x_bin o_addA (f_addA true) (x_callB o_len f_len (by rfl) T.m_len bt_len (a_cons (xv 1) a_nil)) x_int) a_nil))) a_nil)) (g_name (i := 5) sc__law_entries.nd rfl (by first | exact .inl rfl | exact .inr rfl))
    (s_cons (s_set (i := 6) sc__law_entries.nd rfl (by first | exact .inl rfl | exact .inr rfl) (x_meth PySem.F.plainAttrs_list PySem.F.slot_list_pop PySem.F.type_list_pop mt_popAt f_popAt ty_lst (xv 3) (a_cons (x_call (ok__law_draw T) (hr.mono (by decide)) (by rfl) T.g__law_draw T.F__law_draw.kp T.b__law_draw (a_cons (xv 0) (a_cons (x_callB o_len f_len (by rfl) T.m_len bt_len (a_cons (xv 3) a_nil)) a_nil))) a_nil)))
    (s_one (s_expr (x_meth PySem.F.plainAttrs_list PySem.F.slot_list_append PySem.F.type_list_append mt_append f_append ty_lst (xv 4) (a_cons (x_tup (a_cons (xv 6) (a_cons (x_call (ok__law_number T) (hr.mono (by decide)) (by rfl) T.g__law_number T.F__law_number.kp T.b__law_number (a_cons (xv 0) (a_cons (xv 2) a_nil))) a_nil))) a_nil))))))
    (s_one (s_ret (x_callT o_tuple f_tuple (by rfl) T.m_tuple bt_tuple (a_cons (xv 4) a_nil)))))))) 1 true
theorem ok__law_negated (T : Facts K mg) : FnOk P w K mg base CX0 1 T.a__law_negated T.d__law_negated ["entries"] (spM K 1 F__law_negated) :=
  FnOk.framed (fn_ok T.F__law_negated sc__law_negated fun cdv A outer s H E hr => (s_one (s_ret (x_callT o_tuple f_tuple (by rfl) T.m_tuple bt_tuple (a_cons (x_lc true (own := [("entry", 1)]) (p := (.nm 1)) rfl sc__law_negated.nd (i_seq (xv 0)) (blkOk_by (N := N__law_negated) (sc := defScope st__law_negated) (by decide +kernel)) (by decide) (fun _ _ _ _ _ => (g_name (i := 1) sc__law_negated.nd rfl (by first | exact .inl rfl | exact .inr rfl))) (fun _ _ _ _ _ => ts_nil) (fun _ _ _ _ _ => (x_tup (a_cons (x_ix o_ix f_ix (xv 1) x_int) (a_cons (x_un un_neg f_neg (x_ix o_ix f_ix (xv 1) x_int)) a_nil))))) a_nil))))) 0 true
theorem ok__law_kind (T : Facts K mg) : FnOk P w K mg base CX0 29 T.a__law_kind T.d__law_kind ["tape", "name", "sectors", "accounts", "size", "wide"] (spM K 6 F__law_kind) :=
  FnOk.framed (fn_ok T.F__law_kind sc__law_kind fun cdv A outer s H E hr => (s_cons (s_set (i := 6) sc__law_kind.nd rfl (by first | exact .inl rfl | exact .inr rfl) (x_call (ok__law_some_sector T) (hr.mono (by decide)) (by rfl) T.g__law_some_sector T.F__law_some_sector.kp T.b__law_some_sector (a_cons (xv 0) (a_cons (xv 2) (a_cons (xv 4) (a_cons x_int a_nil))))))
    (s_cons (s_set (i := 7) sc__law_kind.nd rfl (by first | exact .inl rfl | exact .inr rfl) (x_call (ok__law_some_sector T) (hr.mono (by decide)) (by rfl) T.g__law_some_sector T.F__law_some_sector.kp T.b__law_some_sector (a_cons (xv 0) (a_cons (xv 2) (a_cons (xv 4) (a_cons x_int a_nil))))))
    (s_cons (s_set (i := 8) sc__law_kind.nd rfl (by first | exact .inl rfl | exact .inr rfl) (x_call (ok__law_entries T) (hr.mono (by decide)) (by rfl) T.g__law_entries T.F__law_entries.kp T.b__law_entries (a_cons (xv 0) (a_cons (xv 3) (a_cons (xv 5) a_nil)))))
    (s_cons (s_set (i := 9) sc__law_kind.nd rfl (by first | exact .inl rfl | exact .inr rfl) (x_call (ok__law_entries T) (hr.mono (by decide)) (by rfl) T.g__law_entries T.F__law_entries.kp T.b__law_entries (a_cons (xv 0) (a_cons (xv 3) (a_cons (xv 5) a_nil)))))
    (s_cons (s_if (t_cmp (o_eq hr.units) f_eq (x_call (ok__law_draw T) (hr.mono (by decide)) (by rfl) T.g__law_draw T.F__law_draw.kp T.b__law_draw (a_cons (xv 0) (a_cons x_int a_nil))) x_int)
    (s_one (s_set (i := 9) sc__law_kind.nd rfl (by first | exact .inl rfl | exact .inr rfl) (x_call (ok__law_negated T) (hr.mono (by decide)) (by rfl) T.g__law_negated T.F__law_negated.kp T.b__law_negated (a_cons (xv 8) a_nil))))
    s_nil)
    (s_one (s_ret (x_tup (a_cons (xv 1) (a_cons (xv 6) (a_cons (xv 8) (a_cons (xv 7) (a_cons (xv 9) a_nil)))))))))))))) 1 true
theorem ok__law_constraint (T : Facts K mg) : FnOk P w K mg base CX0 29 T.a__law_constraint T.d__law_constraint ["tape", "sectors", "accounts", "many", "size", "wide"] (spM K 6 F__law_constraint) :=
  FnOk.framed (fn_ok T.F__law_constraint sc__law_constraint fun cdv A outer s H E hr => (s_cons (s_set (i := 6) sc__law_constraint.nd rfl (by first | exact .inl rfl | exact .inr rfl) (x_ix o_ix f_ix (x_lst true (a_cons x_str (a_cons x_str (a_cons x_str a_nil)))) (x_call (ok__law_draw T) (hr.mono (by decide)) (by rfl) T.g__law_draw T.F__law_draw.kp T.b__law_draw (a_cons (xv 0) (a_cons x_int a_nil)))))
    (s_cons (s_set (i := 7) sc__law_constraint.nd rfl (by first | exact .inl rfl | exact .inr rfl) (x_lst false a_nil))
    (s_cons (s_for PassesOwn.never rfl (i_range1 (by rfl) T.m_range (a_cons (x_bin o_addA (f_addA true) x_int (x_call (ok__law_draw T) (hr.mono (by decide)) (by rfl) T.g__law_draw T.F__law_draw.kp T.b__law_draw (a_cons (xv 0) (a_cons (xv 3) a_nil)))) a_nil)) (g_name (i := 8) sc__law_constraint.nd rfl (by first | exact .inl rfl | exact .inr rfl))
    (s_cons (s_set (i := 9) sc__law_constraint.nd rfl (by first | exact .inl rfl | exact .inr rfl) (x_call (ok__law_number T) (hr.mono (by decide)) (by rfl) T.g__law_number T.F__law_number.kp T.b__law_number (a_cons (xv 0) (a_cons (xv 5) a_nil))))
    (s_one (s_expr (x_meth PySem.F.plainAttrs_list PySem.F.slot_list_append PySem.F.type_list_append mt_append f_append ty_lst (xv 7) (a_cons (x_tup (a_cons (xv 9) (a_cons (x_ix o_ix f_ix (xv 2) (x_call (ok__law_draw T) (hr.mono (by decide)) (by rfl) T.g__law_draw T.F__law_draw.kp T.b__law_draw (a_cons (xv 0) (a_cons (x_callB o_len f_len (by rfl) T.m_len bt_len (a_cons (xv 2) a_nil)) a_nil)))) a_nil))) a_nil))))))
    (s_cons (s_if (t_cmp (o_eq hr.units) f_eq (x_call (ok__law_draw T) (hr.mono (by decide)) (by rfl) T.g__law_draw T.F__law_draw.kp T.b__law_draw (a_cons (xv 0) (a_cons x_int a_nil))) x_int)
    (s_one (s_ret (x_tup (a_cons x_str (a_cons (x_call (ok__law_some_sector T) (hr.mono (by decide)) (by rfl) T.g__law_some_sector T.F__law_some_sector.kp T.b__law_some_sector (a_cons (xv 0) (a_cons (xv 1) (a_cons (xv 4) (a_cons x_int a_nil))))) (a_cons (x_callT o_tuple f_tuple (by rfl) T.m_tuple bt_tuple (a_cons (xv 7) a_nil)) (a_cons (xv 6) a_nil)))))))
    s_nil)
    (s_cons (s_setLc true (i := 10) (own := [("term", 11)]) (p := (.nm 11)) rfl sc__law_constraint.nd rfl rfl (sw_true rfl rfl rfl (by decide +kernel)) (i_seq (xv 7)) (blkOk_by (N := N__law_constraint) (sc := defScope st__law_constraint) (by decide +kernel)) (by decide) (fun _ _ _ _ _ => (g_name (i := 11) sc__law_constraint.nd rfl (by first | exact .inl rfl | exact .inr rfl))) (fun _ _ _ _ _ => ts_nil) (fun _ _ _ _ _ => (x_bin o_addA (f_addA true) (xv 11) (x_tup (a_cons (x_call (ok__law_some_sector T) (hr.mono (by decide)) (by rfl) T.g__law_some_sector T.F__law_some_sector.kp T.b__law_some_sector (a_cons (xv 0) (a_cons (xv 1) (a_cons (xv 4) (a_cons x_int a_nil))))) a_nil)))))
    (s_one (s_ret (x_tup (a_cons x_str (a_cons (x_callT o_tuple f_tuple (by rfl) T.m_tuple bt_tuple (a_cons (xv 10) a_nil)) (a_cons (xv 6) a_nil)))))))))))) 1 true
theorem ok__law_claim (T : Facts K mg) : FnOk P w K mg base CX0 30 T.a__law_claim T.d__law_claim ["tape", "sectors", "accounts", "premises", "many", "size", "wide"] (spM K 7 F__law_claim) :=
  FnOk.framed (fn_ok T.F__law_claim sc__law_claim fun cdv A outer s H E hr => (s_cons (s_set (i := 7) sc__law_claim.nd rfl (by first | exact .inl rfl | exact .inr rfl) (x_lst false a_nil))
    (s_cons (s_for PassesOwn.never rfl (i_range1 (by rfl) T.m_range (a_cons (x_call (ok__law_draw T) (hr.mono (by decide)) (by rfl) T.g__law_draw T.F__law_draw.kp T.b__law_draw (a_cons (xv 0) (a_cons (x_bin o_addA (f_addA true) (xv 3) x_int) a_nil))) a_nil)) (g_name (i := 8) sc__law_claim.nd rfl (by first | exact .inl rfl | exact .inr rfl))
    (s_one (s_expr (x_meth PySem.F.plainAttrs_list PySem.F.slot_list_append PySem.F.type_list_append mt_append f_append ty_lst (xv 7) (a_cons (x_call (ok__law_constraint T) (hr.mono (by decide)) (by rfl) T.g__law_constraint T.F__law_constraint.kp T.b__law_constraint (a_cons (xv 0) (a_cons (xv 1) (a_cons (xv 2) (a_cons (xv 4) (a_cons (xv 5) (a_cons (xv 6) a_nil))))))) a_nil)))))
    (s_one (s_ret (x_tup (a_cons (x_callT o_tuple f_tuple (by rfl) T.m_tuple bt_tuple (a_cons (xv 7) a_nil)) (a_cons (x_call (ok__law_constraint T) (hr.mono (by decide)) (by rfl) T.g__law_constraint T.F__law_constraint.kp T.b__law_constraint (a_cons (xv 0) (a_cons (xv 1) (a_cons (xv 2) (a_cons (xv 4) (a_cons (xv 5) (a_cons (xv 6) a_nil))))))) a_nil)))))))) 1 true
theorem ok__law_model (T : Facts K mg) : FnOk P w K mg base CX0 31 T.a__law_model T.d__law_model ["tape", "lists", "most", "many", "size", "wide"] (spM K 6 F__law_model) :=
  FnOk.framed (fn_ok T.F__law_model sc__law_model fun cdv A outer s H E hr => (s_cons (s_set (i := 6) sc__law_model.nd rfl (by first | exact .inl rfl | exact .inr rfl) (x_ix o_ix f_ix (xv 1) x_int))
    (s_cons (s_set (i := 7) sc__law_model.nd rfl (by first | exact .inl rfl | exact .inr rfl) (x_ix o_ix f_ix (xv 1) x_int))
    (s_cons (s_set (i := 8) sc__law_model.nd rfl (by first | exact .inl rfl | exact .inr rfl) (x_callT (o_listA rfl) (f_listA false) (by rfl) T.m_list bt_list (a_cons (x_ix o_ix f_ix (xv 1) x_int) a_nil)))
    (s_cons (s_set (i := 9) sc__law_model.nd rfl (by first | exact .inl rfl | exact .inr rfl) (x_lst false a_nil))
    (s_cons (s_for PassesOwn.never rfl (i_range1 (by rfl) T.m_range (a_cons (x_call (ok__law_draw T) (hr.mono (by decide)) (by rfl) T.g__law_draw T.F__law_draw.kp T.b__law_draw (a_cons (xv 0) (a_cons (x_bin o_addA (f_addA true) (x_ix o_ix f_ix (xv 2) x_int) x_int) a_nil))) a_nil)) (g_name (i := 10) sc__law_model.nd rfl (by first | exact .inl rfl | exact .inr rfl))
    (s_one (s_expr (x_meth PySem.F.plainAttrs_list PySem.F.slot_list_append PySem.F.type_list_append mt_append f_append ty_lst (xv 9) (a_cons (x_call (ok__law_kind T) (hr.mono (by decide)) (by rfl) T.g__law_kind T.F__law_kind.kp T.b__law_kind (a_cons (xv 0) (a_cons (x_meth PySem.F.plainAttrs_list PySem.F.slot_list_pop PySem.F.type_list_pop mt_popAt f_popAt ty_lst (xv 8) (a_cons (x_call (ok__law_draw T) (hr.mono (by decide)) (by rfl) T.g__law_draw T.F__law_draw.kp T.b__law_draw (a_cons (xv 0) (a_cons (x_callB o_len f_len (by rfl) T.m_len bt_len (a_cons (xv 8) a_nil)) a_nil))) a_nil)) (a_cons (xv 6) (a_cons (xv 7) (a_cons (xv 4) (a_cons (xv 5) a_nil))))))) a_nil)))))
    (s_cons (s_set (i := 11) sc__law_model.nd rfl (by first | exact .inl rfl | exact .inr rfl) (x_lst false a_nil))
    (s_cons (s_for PassesOwn.never rfl (i_range1 (by rfl) T.m_range (a_cons (x_call (ok__law_draw T) (hr.mono (by decide)) (by rfl) T.g__law_draw T.F__law_draw.kp T.b__law_draw (a_cons (xv 0) (a_cons (x_bin o_addA (f_addA true) (x_ix o_ix f_ix (xv 2) x_int) x_int) a_nil))) a_nil)) (g_name (i := 10) sc__law_model.nd rfl (by first | exact .inl rfl | exact .inr rfl))
    (s_cons (s_set (i := 12) sc__law_model.nd rfl (by first | exact .inl rfl | exact .inr rfl) (x_meth PySem.F.plainAttrs_list PySem.F.slot_list_pop PySem.F.type_list_pop mt_popAt f_popAt ty_lst (xv 8) (a_cons (x_call (ok__law_draw T) (hr.mono (by decide)) (by rfl) T.g__law_draw T.F__law_draw.kp T.b__law_draw (a_cons (xv 0) (a_cons (x_callB o_len f_len (by rfl) T.m_len bt_len (a_cons (xv 8) a_nil)) a_nil))) a_nil)))
    (s_one (s_expr (x_meth PySem.F.plainAttrs_list PySem.F.slot_list_append PySem.F.type_list_append mt_append f_append ty_lst (xv 11) (a_cons (x_tup (a_cons (xv 12) (a_cons (x_call (ok__law_constraint T) (hr.mono (by decide)) (by rfl) T.g__law_constraint T.F__law_constraint.kp T.b__law_constraint (a_cons (xv 0) (a_cons (xv 6) (a_cons (xv 7) (a_cons (xv 3) (a_cons (xv 4) (a_cons (xv 5) a_nil))))))) a_nil))) a_nil))))))
    (s_cons (s_set (i := 13) sc__law_model.nd rfl (by first | exact .inl rfl | exact .inr rfl) (x_lst false a_nil))
    (s_cons (s_for PassesOwn.never rfl (i_range1 (by rfl) T.m_range (a_cons (x_call (ok__law_draw T) (hr.mono (by decide)) (by rfl) T.g__law_draw T.F__law_draw.kp T.b__law_draw (a_cons (xv 0) (a_cons (x_bin o_addA (f_addA true) (x_ix o_ix f_ix (xv 2) x_int) x_int) a_nil))) a_nil)) (g_name (i := 10) sc__law_model.nd rfl (by first | exact .inl rfl | exact .inr rfl))
    (s_cons (s_set (i := 12) sc__law_model.nd rfl (by first | exact .inl rfl | exact .inr rfl) (x_meth PySem.F.plainAttrs_list PySem.F.slot_list_pop PySem.F.type_list_pop mt_popAt f_popAt ty_lst (xv 8) (a_cons (x_call (ok__law_draw T) (hr.mono (by decide)) (by rfl) T.g__law_draw T.F__law_draw.kp T.b__law_draw (a_cons (xv 0) (a_cons (x_callB o_len f_len (by rfl) T.m_len bt_len (a_cons (xv 8) a_nil)) a_nil))) a_nil)))
    (s_one (s_expr (x_meth PySem.F.plainAttrs_list PySem.F.slot_list_append PySem.F.type_list_append mt_append f_append ty_lst (xv 13) (a_cons (x_tup (a_cons (xv 12) (a_cons (x_call (ok__law_claim T) (hr.mono (by decide)) (by rfl) T.g__law_claim T.F__law_claim.kp T.b__law_claim (a_cons (xv 0) (a_cons (xv 6) (a_cons (xv 7) (a_cons x_int (a_cons (xv 3) (a_cons (xv 4) (a_cons (xv 5) a_nil)))))))) a_nil))) a_nil))))))
    (s_one (s_ret (x_tup (a_cons (xv 6) (a_cons (xv 7) (a_cons (x_callT o_tuple f_tuple (by rfl) T.m_tuple bt_tuple (a_cons (xv 9) a_nil)) (a_cons (x_callT o_tuple f_tuple (by rfl) T.m_tuple bt_tuple (a_cons (xv 11) a_nil)) (a_cons (x_callT o_tuple f_tuple (by rfl) T.m_tuple bt_tuple (a_cons (xv 13) a_nil)) a_nil)))))))))))))))))) 1 true
theorem ok__law_member (T : Facts K mg) : ∀ d : Nat, FnOk P w K mg base CX0 (1 + d) T.a__law_member T.d__law_member ["sector", "names"] (spM K 2 (F__law_member d))
  | 0 => fn_bad
  | d + 1 => FnOk.framed (fn_ok T.F__law_member sc__law_member fun cdv A outer s H E hr => by
    have ih := ok__law_member T d
    exact (s_cons (s_if (t_cmp (o_eq hr.units) f_eq (x_ix o_ix f_ix (xv 0) x_int) x_str)
    (s_one (s_ret (x_cmp (o_in (hu65 hr)) f_in (x_ix o_ix f_ix (xv 0) x_int) (xv 1))))
    s_nil)
    (s_cons (s_if (t_cmp (o_eq hr.units) f_eq (x_ix o_ix f_ix (xv 0) x_int) x_str)
    (s_one (s_ret (x_not (x_call ih hr (by rfl) T.g__law_member T.F__law_member.kp T.b__law_member (a_cons (x_ix o_ix f_ix (xv 0) x_int) (a_cons (xv 1) a_nil))))))
    s_nil)
    (s_cons (s_if (t_cmp (o_eq hr.units) f_eq (x_ix o_ix f_ix (xv 0) x_int) x_str)
    (s_one (s_ret (x_and (x_call ih hr (by rfl) T.g__law_member T.F__law_member.kp T.b__law_member (a_cons (x_ix o_ix f_ix (xv 0) x_int) (a_cons (xv 1) a_nil))) (x_one (x_call ih hr (by rfl) T.g__law_member T.F__law_member.kp T.b__law_member (a_cons (x_ix o_ix f_ix (xv 0) x_int) (a_cons (xv 1) a_nil)))))))
    s_nil)
    (s_cons (s_if (t_cmp (o_eq hr.units) f_eq (x_ix o_ix f_ix (xv 0) x_int) x_str)
    (s_one (s_ret (x_or (x_call ih hr (by rfl) T.g__law_member T.F__law_member.kp T.b__law_member (a_cons (x_ix o_ix f_ix (xv 0) x_int) (a_cons (xv 1) a_nil))) (x_one (x_call ih hr (by rfl) T.g__law_member T.F__law_member.kp T.b__law_member (a_cons (x_ix o_ix f_ix (xv 0) x_int) (a_cons (xv 1) a_nil)))))))
    s_nil)
    (s_one (s_ret (x_cmp (o_eq hr.units) f_eq (x_ix o_ix f_ix (xv 0) x_int) x_str)))))))) 0 true
theorem ok__law_kind_of (T : Facts K mg) : FnOk P w K mg base CX0 1 T.a__law_kind_of T.d__law_kind_of ["model", "name"] (spM K 2 F__law_kind_of) :=
  FnOk.framed (fn_ok T.F__law_kind_of sc__law_kind_of fun cdv A outer s H E hr => (s_cons (s_set (i := 2) sc__law_kind_of.nd rfl (by first | exact .inl rfl | exact .inr rfl) x_non)
    (s_cons (s_for PassesOwn.never rfl (i_seq (x_ix o_ix f_ix (xv 0) x_int)) (g_name (i := 3) sc__law_kind_of.nd rfl (by first | exact .inl rfl | exact .inr rfl))
    (s_one (s_if (t_cmp (o_eq hr.units) f_eq (x_ix o_ix f_ix (xv 3) x_int) (xv 1))
    (s_one (s_set (i := 2) sc__law_kind_of.nd rfl (by first | exact .inl rfl | exact .inr rfl) (xv 3)))
    s_nil)))
    (s_one (s_ret (xv 2)))))) 0 true
theorem ok__law_problem (T : Facts K mg) : FnOk P w K mg base CX0 26 T.a__law_problem T.d__law_problem ["model", "ledger"] (spM K 2 F__law_problem) :=
  FnOk.framed (fn_ok T.F__law_problem sc__law_problem fun cdv A outer s H E hr => (s_cons (s_set (i := 2) sc__law_problem.nd rfl (by first | exact .inl rfl | exact .inr rfl) (x_ix o_ix f_ix (xv 1) x_int))
    (s_cons (s_for PassesOwn.never rfl (i_range1 (by rfl) T.m_range (a_cons (x_callB o_len f_len (by rfl) T.m_len bt_len (a_cons (xv 2) a_nil)) a_nil)) (g_name (i := 3) sc__law_problem.nd rfl (by first | exact .inl rfl | exact .inr rfl))
    (s_one (s_for PassesOwn.never rfl (i_range1 (by rfl) T.m_range (a_cons (x_callB o_len f_len (by rfl) T.m_len bt_len (a_cons (x_ix o_ix f_ix (xv 2) (xv 3)) a_nil)) a_nil)) (g_name (i := 4) sc__law_problem.nd rfl (by first | exact .inl rfl | exact .inr rfl))
    (s_one (s_if (PW.pt (t_or (t_cmp (o_ni (hu65 hr)) f_ni (x_ix o_ix f_ix (x_ix o_ix f_ix (xv 2) (xv 3)) (xv 4)) (x_ix o_ix f_ix (xv 0) x_int)) (t_or1 (t_cmp (o_in (hu65 hr)) f_in (x_ix o_ix f_ix (x_ix o_ix f_ix (xv 2) (xv 3)) (xv 4)) (x_sl o_slA (f_slA true) (x_ix o_ix f_ix (xv 2) (xv 3)) o0 (o1 (xv 4)))))))
    (s_one (s_ret (x_tup (a_cons x_str (a_cons (xv 3) a_nil)))))
    s_nil)))))
    (s_cons (s_for PassesOwn.never rfl (i_range1 (by rfl) T.m_range (a_cons (x_callB o_len f_len (by rfl) T.m_len bt_len (a_cons (x_ix o_ix f_ix (xv 1) x_int) a_nil)) a_nil)) (g_name (i := 3) sc__law_problem.nd rfl (by first | exact .inl rfl | exact .inr rfl))
    (s_cons (s_set (i := 5) sc__law_problem.nd rfl (by first | exact .inl rfl | exact .inr rfl) (x_ix o_ix f_ix (x_ix o_ix f_ix (xv 1) x_int) (xv 3)))
    (s_cons (s_set (i := 6) sc__law_problem.nd rfl (by first | exact .inl rfl | exact .inr rfl) (x_call (ok__law_kind_of T) (hr.mono (by decide)) (by rfl) T.g__law_kind_of T.F__law_kind_of.kp T.b__law_kind_of (a_cons (xv 0) (a_cons (x_ix o_ix f_ix (xv 5) x_int) a_nil))))
    (s_cons (s_if (t_cmp op_isN f_isN (xv 6) x_non)
    (s_one (s_ret (x_tup (a_cons x_str (a_cons (xv 3) (a_cons x_str a_nil))))))
    s_nil)
    (s_cons (s_if (PW.pt (t_or (t_cmp op_lt f_lt (x_ix o_ix f_ix (xv 5) x_int) x_int) (t_or1 (t_cmp op_ge f_ge (x_ix o_ix f_ix (xv 5) x_int) (x_callB o_len f_len (by rfl) T.m_len bt_len (a_cons (xv 2) a_nil))))))
    (s_one (s_ret (x_tup (a_cons x_str (a_cons (xv 3) (a_cons x_str a_nil))))))
    s_nil)
    (s_cons (s_if (PW.pt (t_or (t_cmp op_lt f_lt (x_ix o_ix f_ix (xv 5) x_int) x_int) (t_or1 (t_cmp op_ge f_ge (x_ix o_ix f_ix (xv 5) x_int) (x_callB o_len f_len (by rfl) T.m_len bt_len (a_cons (xv 2) a_nil))))))
    (s_one (s_ret (x_tup (a_cons x_str (a_cons (xv 3) (a_cons x_str a_nil))))))
    s_nil)
    (s_cons (s_if (t_cmp (o_eq hr.units) f_eq (x_ix o_ix f_ix (xv 5) x_int) (x_ix o_ix f_ix (xv 5) x_int))
    (s_one (s_ret (x_tup (a_cons x_str (a_cons (xv 3) (a_cons x_str a_nil))))))
    s_nil)
    (s_cons (s_if (t_not (t_tru (x_call (ok__law_member T 24) (hr.mono (by decide)) (by rfl) T.g__law_member T.F__law_member.kp T.b__law_member (a_cons (x_ix o_ix f_ix (xv 6) x_int) (a_cons (x_ix o_ix f_ix (xv 2) (x_ix o_ix f_ix (xv 5) x_int)) a_nil)))))
    (s_one (s_ret (x_tup (a_cons x_str (a_cons (xv 3) (a_cons x_str a_nil))))))
    s_nil)
    (s_cons (s_if (t_not (t_tru (x_call (ok__law_member T 24) (hr.mono (by decide)) (by rfl) T.g__law_member T.F__law_member.kp T.b__law_member (a_cons (x_ix o_ix f_ix (xv 6) x_int) (a_cons (x_ix o_ix f_ix (xv 2) (x_ix o_ix f_ix (xv 5) x_int)) a_nil)))))
    (s_one (s_ret (x_tup (a_cons x_str (a_cons (xv 3) (a_cons x_str a_nil))))))
    s_nil)
    (s_one (s_if (t_cmp op_lt f_lt (x_ix o_ix f_ix (xv 5) x_int) x_int)
    (s_one (s_ret (x_tup (a_cons x_str (a_cons (xv 3) (a_cons x_str a_nil))))))
    s_nil)))))))))))
    (s_one (s_ret x_non)))))) 0 true
theorem ok__law_members (T : Facts K mg) : FnOk P w K mg base CX0 26 T.a__law_members T.d__law_members ["people", "sector"] (spM K 2 F__law_members) :=
  FnOk.framed (fn_ok T.F__law_members sc__law_members fun cdv A outer s H E hr => (s_one (s_ret (x_lc true (own := [("k", 2)]) (p := (.nm 2)) rfl sc__law_members.nd (i_range1 (by rfl) T.m_range (a_cons (x_callB o_len f_len (by rfl) T.m_len bt_len (a_cons (xv 0) a_nil)) a_nil)) (blkOk_by (N := N__law_members) (sc := defScope st__law_members) (by decide +kernel)) (by decide) (fun _ _ _ _ _ => (g_name (i := 2) sc__law_members.nd rfl (by first | exact .inl rfl | exact .inr rfl))) (fun _ _ _ _ _ => (ts_one (t_tru (x_call (ok__law_member T 24) (hr.mono (by decide)) (by rfl) T.g__law_member T.F__law_member.kp T.b__law_member (a_cons (xv 1) (a_cons (x_ix o_ix f_ix (xv 0) (xv 2)) a_nil)))))) (fun _ _ _ _ _ => (xv 2)))))) 0 true
theorem ok__law_units (T : Facts K mg) : FnOk P w K mg base CX0 27 T.a__law_units T.d__law_units ["model", "profile"] (spM K 2 F__law_units) :=
  FnOk.framed (fn_ok T.F__law_units sc__law_units fun cdv A outer s H E hr => (s_cons (s_set (i := 2) sc__law_units.nd rfl (by first | exact .inl rfl | exact .inr rfl) (x_call (ok__law_sets T) (hr.mono (by decide)) (by rfl) T.g__law_sets T.F__law_sets.kp T.b__law_sets (a_cons (x_ix o_ix f_ix (xv 0) x_int) a_nil)))
    (s_cons (s_set (i := 3) sc__law_units.nd rfl (by first | exact .inl rfl | exact .inr rfl) (x_callB o_len f_len (by rfl) T.m_len bt_len (a_cons (xv 2) a_nil)))
    (s_cons (s_if (t_cmp op_notN f_notN (xv 1) x_non)
    (s_one (s_set (i := 2) sc__law_units.nd rfl (by first | exact .inl rfl | exact .inr rfl) (x_bin o_addA (f_addA true) (xv 2) (x_lst true (a_cons (x_ix o_ix f_ix (xv 2) (xv 1)) a_nil)))))
    s_nil)
    (s_cons (s_set (i := 4) sc__law_units.nd rfl (by first | exact .inl rfl | exact .inr rfl) (x_lst false a_nil))
    (s_cons (s_for PassesOwn.never rfl (i_seq (x_ix o_ix f_ix (xv 0) x_int)) (g_name (i := 5) sc__law_units.nd rfl (by first | exact .inl rfl | exact .inr rfl))
    (s_cons (s_set (i := 6) sc__law_units.nd rfl (by first | exact .inl rfl | exact .inr rfl) (x_call (ok__law_members T) (hr.mono (by decide)) (by rfl) T.g__law_members T.F__law_members.kp T.b__law_members (a_cons (xv 2) (a_cons (x_ix o_ix f_ix (xv 5) x_int) a_nil))))
    (s_one (s_for PassesOwn.never rfl (i_seq (x_call (ok__law_members T) (hr.mono (by decide)) (by rfl) T.g__law_members T.F__law_members.kp T.b__law_members (a_cons (xv 2) (a_cons (x_ix o_ix f_ix (xv 5) x_int) a_nil)))) (g_name (i := 7) sc__law_units.nd rfl (by first | exact .inl rfl | exact .inr rfl))
    (s_one (s_for PassesOwn.never rfl (i_seq (xv 6)) (g_name (i := 8) sc__law_units.nd rfl (by first | exact .inl rfl | exact .inr rfl))
    (s_one (s_if (PW.pt (t_or (t_cmp op_lt f_lt (xv 7) (xv 3)) (t_or1 (t_cmp op_lt f_lt (xv 8) (xv 3)))))
    (s_one (s_expr (x_meth PySem.F.plainAttrs_list PySem.F.slot_list_append PySem.F.type_list_append mt_append f_append ty_lst (xv 4) (a_cons (x_tup (a_cons (x_ix o_ix f_ix (xv 5) x_int) (a_cons (xv 7) (a_cons (xv 8) a_nil)))) a_nil))))
    s_nil))))))))
    (s_one (s_ret (xv 4))))))))) 0 true
theorem ok__law_two (T : Facts K mg) : FnOk P w K mg base CX0 1 T.a__law_two T.d__law_two ["used", "group", "many"] (spM K 3 F__law_two) :=
  FnOk.framed (fn_ok T.F__law_two sc__law_two fun cdv A outer s H E hr => (s_cons (s_if (t_cmp (o_in (hu65 hr)) f_in (xv 1) (xv 0))
    (s_one (s_ret (x_tup (a_cons (x_bin op_mul f_mul x_int (x_meth PySem.F.plainAttrs_list PySem.F.slot_list_index PySem.F.type_list_index mt_index f_index ty_lst (xv 0) (a_cons (xv 1) a_nil))) (a_cons (x_bin o_addA (f_addA true) (x_bin op_mul f_mul x_int (x_meth PySem.F.plainAttrs_list PySem.F.slot_list_index PySem.F.type_list_index mt_index f_index ty_lst (xv 0) (a_cons (xv 1) a_nil))) x_int) a_nil)))))
    s_nil)
    (s_one (s_ret (x_tup (a_cons (x_bin op_sub f_sub (xv 2) x_int) (a_cons (x_bin op_sub f_sub (xv 2) x_int) a_nil))))))) 0 true
theorem ok__law_made (T : Facts K mg) : FnOk P w K mg base CX0 28 T.a__law_made T.d__law_made ["model", "profile", "amounts"] (spM K 3 F__law_made) :=
  FnOk.framed (fn_ok T.F__law_made sc__law_made fun cdv A outer s H E hr => (s_cons (s_set (i := 3) sc__law_made.nd rfl (by first | exact .inl rfl | exact .inr rfl) (x_call (ok__law_sets T) (hr.mono (by decide)) (by rfl) T.g__law_sets T.F__law_sets.kp T.b__law_sets (a_cons (x_ix o_ix f_ix (xv 0) x_int) a_nil)))
    (s_cons (s_set (i := 4) sc__law_made.nd rfl (by first | exact .inl rfl | exact .inr rfl) (x_call (ok__law_units T) (hr.mono (by decide)) (by rfl) T.g__law_units T.F__law_units.kp T.b__law_units (a_cons (xv 0) (a_cons (xv 1) a_nil))))
    (s_cons (s_setLc true (i := 5) (own := [("at", 6)]) (p := (.nm 6)) rfl sc__law_made.nd rfl rfl (sw_true rfl rfl rfl (by decide +kernel)) (i_range1 (by rfl) T.m_range (a_cons (x_callB o_len f_len (by rfl) T.m_len bt_len (a_cons (xv 4) a_nil)) a_nil)) (blkOk_by (N := N__law_made) (sc := defScope st__law_made) (by decide +kernel)) (by decide) (fun _ _ _ _ _ => (g_name (i := 6) sc__law_made.nd rfl (by first | exact .inl rfl | exact .inr rfl))) (fun _ _ _ _ _ => (ts_one (t_cmp op_gt f_gt (x_ix o_ix f_ix (xv 2) (xv 6)) x_int))) (fun _ _ _ _ _ => (x_ix o_ix f_ix (xv 4) (xv 6))))
    (s_cons (s_set (i := 7) sc__law_made.nd rfl (by first | exact .inl rfl | exact .inr rfl) (x_bin o_addA (f_addA true) (x_lc true (own := [("unit", 8)]) (p := (.nm 8)) rfl sc__law_made.nd (i_seq (xv 5)) (blkOk_by (N := N__law_made) (sc := defScope st__law_made) (by decide +kernel)) (by decide) (fun _ _ _ _ _ => (g_name (i := 8) sc__law_made.nd rfl (by first | exact .inl rfl | exact .inr rfl))) (fun _ _ _ _ _ => ts_nil) (fun _ _ _ _ _ => (x_ix o_ix f_ix (xv 8) x_int))) (x_lc true (own := [("unit", 8)]) (p := (.nm 8)) rfl sc__law_made.nd (i_seq (xv 5)) (blkOk_by (N := N__law_made) (sc := defScope st__law_made) (by decide +kernel)) (by decide) (fun _ _ _ _ _ => (g_name (i := 8) sc__law_made.nd rfl (by first | exact .inl rfl | exact .inr rfl))) (fun _ _ _ _ _ => ts_nil) (fun _ _ _ _ _ => (x_ix o_ix f_ix (xv 8) x_int)))))
    (s_cons (s_setLc true (i := 9) (own := [("k", 10)]) (p := (.nm 10)) rfl sc__law_made.nd rfl rfl (sw_true rfl rfl rfl (by decide +kernel)) (i_range1 (by rfl) T.m_range (a_cons (x_callB o_len f_len (by rfl) T.m_len bt_len (a_cons (xv 3) a_nil)) a_nil)) (blkOk_by (N := N__law_made) (sc := defScope st__law_made) (by decide +kernel)) (by decide) (fun _ _ _ _ _ => (g_name (i := 10) sc__law_made.nd rfl (by first | exact .inl rfl | exact .inr rfl))) (fun _ _ _ _ _ => (ts_one (t_cmp (o_in (hu65 hr)) f_in (xv 10) (xv 7)))) (fun _ _ _ _ _ => (xv 10)))
    (s_cons (s_set (i := 11) sc__law_made.nd rfl (by first | exact .inl rfl | exact .inr rfl) (x_lst false a_nil))
    (s_cons (s_for PassesOwn.never rfl (i_seq (xv 9)) (g_name (i := 10) sc__law_made.nd rfl (by first | exact .inl rfl | exact .inr rfl))
    (s_one (s_set (i := 11) sc__law_made.nd rfl (by first | exact .inl rfl | exact .inr rfl) (x_bin o_addA (f_addA false) (xv 11) (x_lst true (a_cons (x_ix o_ix f_ix (xv 3) (xv 10)) (a_cons (x_ix o_ix f_ix (xv 3) (xv 10)) a_nil)))))))
    (s_cons (s_if (t_cmp op_notN f_notN (xv 1) x_non)
    (s_one (s_expr (x_meth PySem.F.plainAttrs_list PySem.F.slot_list_append PySem.F.type_list_append mt_append f_append ty_lst (xv 11) (a_cons (x_ix o_ix f_ix (xv 3) (xv 1)) a_nil))))
    s_nil)
    (s_cons (s_set (i := 12) sc__law_made.nd rfl (by first | exact .inl rfl | exact .inr rfl) (x_lst false a_nil))
    (s_cons (s_for PassesOwn.never rfl (i_range1 (by rfl) T.m_range (a_cons (x_callB o_len f_len (by rfl) T.m_len bt_len (a_cons (xv 4) a_nil)) a_nil)) (g_name (i := 6) sc__law_made.nd rfl (by first | exact .inl rfl | exact .inr rfl))
    (s_cons (s_set (i := 13) sc__law_made.nd rfl (by first | exact .inl rfl | exact .inr rfl) (x_call (ok__law_two T) (hr.mono (by decide)) (by rfl) T.g__law_two T.F__law_two.kp T.b__law_two (a_cons (xv 9) (a_cons (x_ix o_ix f_ix (x_ix o_ix f_ix (xv 4) (xv 6)) x_int) (a_cons (x_callB o_len f_len (by rfl) T.m_len bt_len (a_cons (xv 11) a_nil)) a_nil)))))
    (s_cons (s_set (i := 14) sc__law_made.nd rfl (by first | exact .inl rfl | exact .inr rfl) (x_call (ok__law_two T) (hr.mono (by decide)) (by rfl) T.g__law_two T.F__law_two.kp T.b__law_two (a_cons (xv 9) (a_cons (x_ix o_ix f_ix (x_ix o_ix f_ix (xv 4) (xv 6)) x_int) (a_cons (x_callB o_len f_len (by rfl) T.m_len bt_len (a_cons (xv 11) a_nil)) a_nil)))))
    (s_cons (s_if (t_cmp (o_eq hr.units) f_eq (x_ix o_ix f_ix (x_ix o_ix f_ix (xv 4) (xv 6)) x_int) (x_ix o_ix f_ix (x_ix o_ix f_ix (xv 4) (xv 6)) x_int))
    (s_one (s_set (i := 14) sc__law_made.nd rfl (by first | exact .inl rfl | exact .inr rfl) (x_tup (a_cons (x_ix o_ix f_ix (xv 14) x_int) (a_cons (x_ix o_ix f_ix (xv 14) x_int) a_nil)))))
    s_nil)
    (s_one (s_if (t_cmp op_gt f_gt (x_ix o_ix f_ix (xv 2) (xv 6)) x_int)
    (s_one (s_for PassesOwn.never rfl (i_range1 (by rfl) T.m_range (a_cons x_int a_nil)) (g_name (i := 15) sc__law_made.nd rfl (by first | exact .inl rfl | exact .inr rfl))
    (s_one (s_expr (x_meth PySem.F.plainAttrs_list PySem.F.slot_list_append PySem.F.type_list_append mt_append f_append ty_lst (xv 12) (a_cons (x_tup (a_cons (x_ix o_ix f_ix (x_ix o_ix f_ix (xv 4) (xv 6)) x_int) (a_cons (x_ix o_ix f_ix (xv 13) (xv 15)) (a_cons (x_ix o_ix f_ix (xv 14) (xv 15)) (a_cons (x_ix o_ix f_ix (xv 2) (xv 6)) a_nil))))) a_nil))))))
    s_nil))))))
    (s_one (s_ret (x_tup (a_cons (x_callT o_tuple f_tuple (by rfl) T.m_tuple bt_tuple (a_cons (xv 11) a_nil)) (a_cons (x_callT o_tuple f_tuple (by rfl) T.m_tuple bt_tuple (a_cons (xv 12) a_nil)) a_nil)))))))))))))))) 0 true
theorem ok__law_amount (T : Facts K mg) : FnOk P w K mg base CX0 2 T.a__law_amount T.d__law_amount ["tape"] (spM K 1 F__law_amount) :=
  FnOk.framed (fn_ok T.F__law_amount sc__law_amount fun cdv A outer s H E hr => (s_one (s_ret (x_ix o_ix f_ix (x_lst true (a_cons x_int (a_cons x_int (a_cons x_int (a_cons x_int (a_cons x_int (a_cons x_int (a_cons (x_bin o_addA (f_addA true) (x_bin op_pow f_pow x_int x_int) x_int) (a_cons (x_bin o_addA (f_addA true) x_int (x_call (ok__law_draw T) (hr.mono (by decide)) (by rfl) T.g__law_draw T.F__law_draw.kp T.b__law_draw (a_cons (xv 0) (a_cons x_int a_nil)))) a_nil))))))))) (x_call (ok__law_draw T) (hr.mono (by decide)) (by rfl) T.g__law_draw T.F__law_draw.kp T.b__law_draw (a_cons (xv 0) (a_cons x_int a_nil))))))) 1 true
theorem ok__law_amounts (T : Facts K mg) : FnOk P w K mg base CX0 3 T.a__law_amounts T.d__law_amounts ["tape", "many"] (spM K 2 F__law_amounts) :=
  FnOk.framed (fn_ok T.F__law_amounts sc__law_amounts fun cdv A outer s H E hr => (s_cons (s_set (i := 2) sc__law_amounts.nd rfl (by first | exact .inl rfl | exact .inr rfl) (x_ix o_ix f_ix (x_lst true (a_cons x_int (a_cons x_int (a_cons x_int a_nil)))) (x_call (ok__law_draw T) (hr.mono (by decide)) (by rfl) T.g__law_draw T.F__law_draw.kp T.b__law_draw (a_cons (xv 0) (a_cons x_int a_nil)))))
    (s_cons (s_set (i := 3) sc__law_amounts.nd rfl (by first | exact .inl rfl | exact .inr rfl) (x_lst false a_nil))
    (s_cons (s_for PassesOwn.never rfl (i_range1 (by rfl) T.m_range (a_cons (xv 1) a_nil)) (g_name (i := 4) sc__law_amounts.nd rfl (by first | exact .inl rfl | exact .inr rfl))
    (s_one (s_expr (x_meth PySem.F.plainAttrs_list PySem.F.slot_list_append PySem.F.type_list_append mt_append f_append ty_lst (xv 3) (a_cons (x_ix o_ix f_ix (x_lst true (a_cons x_int (a_cons (x_call (ok__law_amount T) (hr.mono (by decide)) (by rfl) T.g__law_amount T.F__law_amount.kp T.b__law_amount (a_cons (xv 0) a_nil)) a_nil))) (x_callT o_int f_int (by rfl) T.m_int bt_int (a_cons (x_cmp (o_eq hr.units) f_eq (x_call (ok__law_draw T) (hr.mono (by decide)) (by rfl) T.g__law_draw T.F__law_draw.kp T.b__law_draw (a_cons (xv 0) (a_cons (xv 2) a_nil))) x_int) a_nil))) a_nil)))))
    (s_one (s_ret (x_callT o_tuple f_tuple (by rfl) T.m_tuple bt_tuple (a_cons (xv 3) a_nil)))))))) 1 true
theorem ok_law (T : Facts K mg) : FnOk P w K mg base CX0 32 T.a_law T.d_law ["script"] (spM K 1 F_law) :=
  FnOk.framed (fn_ok T.F_law sc_law fun cdv A outer s H E hr => (s_cons (s_set (i := 1) sc_law.nd rfl (by first | exact .inl rfl | exact .inr rfl) (x_call (ok__law_tape T) (hr.mono (by decide)) (by rfl) T.g__law_tape T.F__law_tape.kp T.b__law_tape (a_cons (xv 0) a_nil)))
    (s_cons (s_set (i := 2) sc_law.nd rfl (by first | exact .inl rfl | exact .inr rfl) (x_call (ok__law_lists T) (hr.mono (by decide)) (by rfl) T.g__law_lists T.F__law_lists.kp T.b__law_lists (a_cons (xv 1) (a_cons (x_tup (a_cons x_int (a_cons x_int a_nil))) a_nil))))
    (s_cons (s_set (i := 3) sc_law.nd rfl (by first | exact .inl rfl | exact .inr rfl) (x_call (ok__law_model T) (hr.mono (by decide)) (by rfl) T.g__law_model T.F__law_model.kp T.b__law_model (a_cons (xv 1) (a_cons (xv 2) (a_cons (x_ix o_ix f_ix (x_lst true (a_cons (x_tup (a_cons x_int (a_cons x_int (a_cons x_int a_nil)))) (a_cons (x_tup (a_cons x_int (a_cons x_int (a_cons x_int a_nil)))) a_nil))) (x_call (ok__law_draw T) (hr.mono (by decide)) (by rfl) T.g__law_draw T.F__law_draw.kp T.b__law_draw (a_cons (xv 1) (a_cons x_int a_nil)))) (a_cons x_int (a_cons x_int (a_cons x_int a_nil))))))))
    (s_cons (s_set (i := 4) sc_law.nd rfl (by first | exact .inl rfl | exact .inr rfl) (x_callB o_len f_len (by rfl) T.m_len bt_len (a_cons (x_call (ok__law_sets T) (hr.mono (by decide)) (by rfl) T.g__law_sets T.F__law_sets.kp T.b__law_sets (a_cons (x_ix o_ix f_ix (xv 3) x_int) a_nil)) a_nil)))
    (s_cons (s_set (i := 5) sc_law.nd rfl (by first | exact .inl rfl | exact .inr rfl) (x_call (ok__law_amounts T) (hr.mono (by decide)) (by rfl) T.g__law_amounts T.F__law_amounts.kp T.b__law_amounts (a_cons (xv 1) (a_cons x_int a_nil))))
    (s_cons (s_set (i := 6) sc_law.nd rfl (by first | exact .inl rfl | exact .inr rfl) (x_bin o_addA (f_addA true) (x_tup (a_cons (x_tupRev rfl (by rfl) T.m_tuple (by rfl) T.m_reversed (x_callT (o_listA rfl) (f_listA true) (by rfl) T.m_list bt_list (a_cons (x_ix o_ix f_ix (xv 3) x_int) a_nil))) a_nil)) (x_sl o_slA (f_slA true) (xv 3) (o1 x_int) o0)))
    (s_cons (s_for PassesOwn.never rfl (i_seq (x_lst true (a_cons x_non (a_cons (x_call (ok__law_draw T) (hr.mono (by decide)) (by rfl) T.g__law_draw T.F__law_draw.kp T.b__law_draw (a_cons (xv 1) (a_cons (xv 4) a_nil))) (a_cons (x_call (ok__law_draw T) (hr.mono (by decide)) (by rfl) T.g__law_draw T.F__law_draw.kp T.b__law_draw (a_cons (xv 1) (a_cons (xv 4) a_nil))) (a_cons x_non a_nil)))))) (g_name (i := 7) sc_law.nd rfl (by first | exact .inl rfl | exact .inr rfl))
    (s_one (s_for PassesOwn.never rfl (i_seq (x_lst true (a_cons (xv 3) (a_cons (xv 6) (a_cons (xv 3) a_nil))))) (g_name (i := 8) sc_law.nd rfl (by first | exact .inl rfl | exact .inr rfl))
    (s_cons (s_set (i := 9) sc_law.nd rfl (by first | exact .inl rfl | exact .inr rfl) (x_callB o_len f_len (by rfl) T.m_len bt_len (a_cons (x_call (ok__law_units T) (hr.mono (by decide)) (by rfl) T.g__law_units T.F__law_units.kp T.b__law_units (a_cons (xv 8) (a_cons (xv 7) a_nil))) a_nil)))
    (s_cons (s_set (i := 10) sc_law.nd rfl (by first | exact .inl rfl | exact .inr rfl) (x_call (ok__law_made T) (hr.mono (by decide)) (by rfl) T.g__law_made T.F__law_made.kp T.b__law_made (a_cons (xv 8) (a_cons (xv 7) (a_cons (x_sl o_slA (f_slA true) (xv 5) o0 (o1 (xv 9))) a_nil)))))
    (s_one (s_if (PW.pt (t_or (t_cmp op_notN f_notN (x_call (ok__law_problem T) (hr.mono (by decide)) (by rfl) T.g__law_problem T.F__law_problem.kp T.b__law_problem (a_cons (xv 8) (a_cons (xv 10) a_nil))) x_non) (t_or1 (t_not (t_tru (x_call (ok__law_same T 24) (hr.mono (by decide)) (by rfl) T.g__law_same T.F__law_same.kp T.b__law_same (a_cons (x_call (ok_made T) (hr.mono (by decide)) (by rfl) T.g_made T.F_made.kp T.b_made (a_cons (xv 8) (a_cons (xv 7) (a_cons (x_sl o_slA (f_slA true) (xv 5) o0 (o1 (xv 9))) a_nil)))) (a_cons (xv 10) a_nil))))))))
    (s_one (s_ret x_bl))
    s_nil)))))))
    (s_cons (s_set (i := 9) sc_law.nd rfl (by first | exact .inl rfl | exact .inr rfl) (x_callB o_len f_len (by rfl) T.m_len bt_len (a_cons (x_call (ok__law_units T) (hr.mono (by decide)) (by rfl) T.g__law_units T.F__law_units.kp T.b__law_units (a_cons (xv 3) (a_cons x_non a_nil))) a_nil)))
    (s_one (s_ret (x_call (ok__law_same T 24) (hr.mono (by decide)) (by rfl) T.g__law_same T.F__law_same.kp T.b__law_same (a_cons (x_call (ok_made T) (hr.mono (by decide)) (by rfl) T.g_made T.F_made.kp T.b_made (a_cons (xv 3) (a_cons x_non (a_cons (x_bin o_mulZ (f_mulZ true) (x_tup (a_cons x_int a_nil)) (xv 9)) a_nil)))) (a_cons (x_tup (a_cons (x_tup a_nil) (a_cons (x_tup a_nil) a_nil))) a_nil)))))))))))))) 0 true
end
structure Tp where
  sc : List Int
  pl : Int
  pd : Int
  sd : Int
def Tp.o (t : Tp) : O := .lst [.lst (t.sc.map T.int), .int t.pl, .int t.pd, .int t.sd]
theorem Tp.clO (t : Tp) : Fx.clO 1 t.o = true := by simp [Tp.o]
theorem draw_raw (t : Tp) (hp : 0 ≤ t.pl) (m : Int) (hm : m < 1073741824) : Ok (runF 4 B__law_draw [.ref 0, .int m] [t.o]) fun r S => ∃ (n : Int) (t' : Tp), r = .int n ∧ S = [t'.o] ∧ 0 ≤ t'.pl ∧ 0 ≤ n ∧ n < max m 1 := by
  have h1 : (0 : Int) < max m 1 := by omega
  have h2 : (0 : Int) < max m 2 ∧ max m 2 < 1073741824 := by omega
  have hb : ∀ i : Int, 0 ≤ i % max m 1 ∧ i % max m 1 < max m 1 := fun i => ⟨Int.emod_nonneg _ (by omega), Int.emod_lt_of_pos _ (by omega)⟩
  have fin : ∀ (i : Int) (t' : Tp), 0 ≤ t'.pl → ∃ (n : Int) (t'' : Tp), T.int (i % max m 1) = .int n ∧ [t'.o] = [t''.o] ∧ 0 ≤ t''.pl ∧ 0 ≤ n ∧ n < max m 1 := fun i t' q => ⟨_, t', rfl, rfl, q, hb i⟩
  by_cases hd : t.pd = 0
  · by_cases hl : t.pl < t.sc.length
    · have hx : L2.atI (t.sc.map T.int) t.pl = some (.int t.sc[t.pl.toNat]) := by
        rw [atI_in _ _ hp (by simpa using hl)]
        simp
      by_cases hn : ((t.sc[t.pl.toNat].natAbs : Nat) : Int) < 1000000000000000000
      · refine Ok.of (a := .int ((((t.sc[t.pl.toNat].natAbs : Nat) : Int) * 48271 + t.pl * 69621 + 5) % 2147483647 * 69621 % 2147483629 % max m 1)) (S := [Tp.o { t with pl := t.pl + 1 }]) ?_ (fin _ _ (by show 0 ≤ t.pl + 1; omega))
        unfold runF B__law_draw
        simp [Tp.o, hd, h1, h2, ixN, hl, hx, hn]
      · refine Ok.of (a := .int (((t.sc[t.pl.toNat].natAbs : Nat) : Int) % max m 1)) (S := [Tp.o { t with pl := t.pl + 1, pd := ((t.sc[t.pl.toNat].natAbs : Nat) : Int) / max m 2 }]) ?_ (fin _ _ (by show 0 ≤ t.pl + 1; omega))
        unfold runF B__law_draw
        simp [Tp.o, hd, h1, h2, ixN, hl, hx, hn]
    · have hn : (t.sd * 48271 + t.pl + 1) % 2147483647 < 1000000000000000000 := by omega
      refine Ok.of (a := .int (((t.sd * 48271 + t.pl + 1) % 2147483647 * 48271 + t.pl * 69621 + 5) % 2147483647 * 69621 % 2147483629 % max m 1)) (S := [Tp.o { t with pl := t.pl + 1, sd := (t.sd * 48271 + t.pl + 1) % 2147483647 }]) ?_ (fin _ _ (by show 0 ≤ t.pl + 1; omega))
      unfold runF B__law_draw
      simp [Tp.o, hd, h1, h2, ixN, hl, hn]
  · refine Ok.of (a := .int (t.pd % max m 1)) (S := [Tp.o { t with pd := t.pd / max m 2 }]) ?_ (fin _ _ hp)
    unfold runF B__law_draw
    simp [Tp.o, hd, h1, h2, ixN]
theorem draw_ok {t : Tp} {m : Int} {rest : Sto} {Q : T → Sto → Prop} (hp : 0 ≤ t.pl) (hm : m < 1073741824) (h : ∀ (n : Int) (t' : Tp), 0 ≤ t'.pl → 0 ≤ n → n < max m 1 → Q (.int n) (t'.o :: rest)) : Ok (F__law_draw [.ref 0, .int m] (t.o :: rest)) Q := by
  unfold F__law_draw
  refine ok_frame1 (by simp) t.clO ((draw_raw t hp m hm).mono ?_)
  rintro r S ⟨n, t', rfl, rfl, h1, h2, h3⟩
  exact ⟨_, [], rfl, t'.clO, by simp, by simpa using h n t' h1 h2 h3⟩
theorem tape_ok {ns : List Int} {Q : T → Sto → Prop} (h : ∀ t : Tp, 0 ≤ t.pl → Q (.ref 0) [t.o]) : Ok (F__law_tape [.kst (ns.map T.int)] []) Q := by
  unfold F__law_tape
  refine ok_run ?_
  unfold B__law_tape
  simp only [List.map_cons, List.map_nil, ev_seq, ev_set, ev_for, ev_it, Ok_bind, ev_C, ev_ok, Ok_ok]
  simp only [List.cons_append, List.nil_append, List.length_cons, List.length_nil, List.replicate, ev_V, List.set_cons_succ, List.set_cons_zero]
  show Ok (sForGo ⟨ns.map T.int, []⟩ (.nm 2) _ (ns.map T.int) [some (.kst (ns.map T.int)), some (.int 7), none] []) _
  refine ok_for (fun _ τ S => ∃ (k : Int) (x : Option T), τ = [some (.kst (ns.map T.int)), some (.int k), x] ∧ S = []) ⟨_, _, rfl, rfl⟩ ?_ ?_
  · rintro i t τ S e ⟨k, x, rfl, rfl⟩
    rw [List.getElem?_map] at e
    obtain ⟨n, _, rfl⟩ := Option.map_eq_some_iff.mp e
    refine ⟨_, bindP_nm _ _ _, ?_⟩
    simp [forQ]
  · rintro τ S ⟨k, x, rfl, rfl⟩
    simp [fListA, seqOf, endQ]
    exact h ⟨ns, 0, 0, k⟩ (Int.le_refl 0)
theorem letters_ok {S : Sto} {Q : T → Sto → Prop} (h : Q (.str "abcdefghijklmnopqrstuvwxyz") S) : Ok (F__law_letters [] S) Q := by
  unfold F__law_letters
  refine ok_frame0 (by simp) (ok_run ?_)
  unfold B__law_letters
  simpa [endQ] using h
def cs (w : Str) : List Nat := w.cps.toList
theorem cs_app (a b : Str) : cs (a ++ b) = cs a ++ cs b := Array.toList_append
theorem cs_len (a : Str) : (cs a).length = a.length := Array.length_toList
theorem cs_inj {a b : Str} (h : cs a = cs b) : a = b := by
  cases a
  cases b
  congr 1
  exact Array.ext' h
theorem cs_one (c : Nat) : cs ⟨#[c]⟩ = [c] := rfl
theorem cs_empty : cs ("" : Str) = [] := by decide +kernel
theorem cs_join0 : ∀ ys : List Str, cs (Txt.join "" ys) = (ys.map cs).flatten
  | [] => by
    show cs (Builtin.Str.glued "" []) = _
    rw [StrLaws.glued_eq_join]
    rfl
  | [x] => by
    show cs (Builtin.Str.glued "" [x]) = _
    rw [StrLaws.glued_eq_join]
    simp [Str.join]
  | x :: y :: r => by
    have ih := cs_join0 (y :: r)
    show cs (Builtin.Str.glued "" (x :: y :: r)) = _
    have ih : cs (Builtin.Str.glued "" (y :: r)) = ((y :: r).map cs).flatten := ih
    rw [StrLaws.glued_eq_join] at ih ⊢
    show cs (x ++ "" ++ Str.join "" (y :: r)) = _
    rw [cs_app, cs_app, ih, cs_empty, List.append_nil]
    rfl
/-- a letter a to z -/
def Lt (c : Nat) : Prop := 97 ≤ c ∧ c ≤ 122
def Low (w : Str) : Prop := ∀ c ∈ cs w, Lt c
instance (w : Str) : Decidable (Low w) := by unfold Low Lt; infer_instance
theorem Low.app {a b : Str} (h : Low a) (h' : Low b) : Low (a ++ b) := fun c m => by
  rw [cs_app] at m
  rcases List.mem_append.mp m with m | m
  · exact h c m
  · exact h' c m
theorem abc : cs ("abcdefghijklmnopqrstuvwxyz" : Str) = (List.range 26).map (97 + ·) := by decide +kernel
def ltr (n : Int) : Str := ⟨#[97 + n.toNat]⟩
theorem ltr_low {n : Int} (h0 : 0 ≤ n) (h : n < 26) : Low (ltr n) := fun c m => by
  have m : c = 97 + n.toNat := by simpa [ltr, cs] using m
  unfold Lt
  omega
theorem ltr_len (n : Int) : (ltr n).length = 1 := rfl
theorem abc_at {n : Int} (h0 : 0 ≤ n) (h : n < 26) (S : Sto) : fIx (.str "abcdefghijklmnopqrstuvwxyz") (.int n) S = .ok (.str (ltr n)) S := by
  have e : L2.atI (("abcdefghijklmnopqrstuvwxyz" : Str).cps.toList) n = some (97 + n.toNat) := by
    have := abc
    unfold cs at this
    rw [this, atI_in _ _ h0 (by simpa using h)]
    rw [List.getElem?_map, List.getElem?_range (by omega)]
    rfl
  have l : ("abcdefghijklmnopqrstuvwxyz" : Str).length ≤ 1000000 := by decide +kernel
  show (match L2.atI ("abcdefghijklmnopqrstuvwxyz" : Str).cps.toList n with
      | some c => if ("abcdefghijklmnopqrstuvwxyz" : Str).length ≤ 1000000 then R.ok (T.str ⟨#[c]⟩) S else .bad
      | none => .bad) = _
  rw [e]
  dsimp only
  rw [if_pos l]
  rfl
theorem strsOf_map (ys : List Str) : strsOf (ys.map T.str) = some ys := by
  induction ys with
  | nil => rfl
  | cons y ys ih =>
    show (strsOf (ys.map T.str)).map (fun l => y :: l) = _
    rw [ih]
    rfl
theorem join0_ev (ys : List Str) (S : Sto) (h : (ys.map Str.length).sum ≤ 1000000) : fJoin (.str "") [.lst (ys.map T.str)] S = .ok (.str (Txt.join "" ys)) S := by
  have l : ("" : Str).length = 0 := by decide +kernel
  show (match seqOf S (.lst (ys.map T.str)) with
    | some us => match strsOf us with
      | some ys => if (ys.map Str.length).sum + ys.length * ("" : Str).length ≤ 1000000 then R.ok (T.str (Txt.join "" ys)) S else .bad
      | none => .bad
    | none => .bad) = _
  show (match strsOf (ys.map T.str) with
      | some ys => if (ys.map Str.length).sum + ys.length * ("" : Str).length ≤ 1000000 then R.ok (T.str (Txt.join "" ys)) S else .bad
      | none => .bad) = _
  rw [strsOf_map]
  dsimp only
  rw [l, Nat.mul_zero, Nat.add_zero, if_pos h]
theorem run_ok {t : Tp} {m : Int} {rest : Sto} {Q : T → Sto → Prop} (hp : 0 ≤ t.pl) (h0 : 0 ≤ m) (hm : m ≤ 1000) (h : ∀ (w : Str) (t' : Tp), 0 ≤ t'.pl → Low w → (w.length : Int) = m → Q (.str w) (t'.o :: rest)) : Ok (F__law_run [.ref 0, .int m] (t.o :: rest)) Q := by
  unfold F__law_run
  refine ok_frame1 (by simp) t.clO (ok_run ?_)
  unfold B__law_run
  simp only [List.map_cons, List.map_nil, List.cons_append, List.nil_append, List.length_cons, List.length_nil, List.replicate, ev_ret, ev_meth, ev_cons, ev_lc, ev_itN, ev_nil, ev_C, ev_ok, ev_V, Ok_bind, Ok_ok, Nat.reduceAdd, Nat.reduceSub, isStr, if_true, List.getElem?_cons_succ, List.getElem?_cons_zero, range1_ev, wipeT, List.set_cons_succ, List.set_cons_zero]
  rw [range1_ev _ _ (by omega)]
  simp only [Ok_ok]
  refine ok_lc (fun k acc S => ∃ (ys : List Str) (t' : Tp), acc = ys.map T.str ∧ S = [t'.o] ∧ 0 ≤ t'.pl ∧ ys.length = k ∧ (∀ y ∈ ys, Low y ∧ y.length = 1)) ⟨[], t, rfl, rfl, hp, rfl, fun _ h => nomatch h⟩ ?_ ?_
  · rintro i x acc S e ⟨ys, t', rfl, rfl, hp', hl, hy⟩
    obtain ⟨hi, rfl⟩ := rangeT_at e
    refine ⟨_, bindP_nm _ _ _, ?_⟩
    simp only [ev_true, Ok_ok, if_true, ev_bin, ev_fn, ev_nil, ev_cons, ev_C, ev_V, ev_ok, Ok_bind, List.set_cons_succ, List.set_cons_zero, List.getElem?_cons_succ, List.getElem?_cons_zero, List.length_cons, List.length_nil, Nat.reduceAdd]
    refine letters_ok ?_
    try simp only [ev_ok, Ok_ok]
    refine draw_ok hp' (by omega) fun n t2 hp2 hn0 hn => ?_
    rw [abc_at hn0 (by omega), Ok_ok]
    refine ⟨by simp; omega, ys ++ [ltr n], t2, by simp, rfl, hp2, by simp [hl], fun y m => ?_⟩
    rcases List.mem_append.mp m with m | m
    · exact hy y m
    · rw [List.mem_singleton.mp m]; exact ⟨ltr_low hn0 (by omega), ltr_len n⟩
  · rintro acc S ⟨ys, t', rfl, rfl, hp', hl, hy⟩
    have hs : (ys.map Str.length).sum = ys.length := by
      clear hl
      induction ys with
      | nil => rfl
      | cons y ys ih =>
        rw [List.map_cons, List.sum_cons, ih fun y m => hy y (List.mem_cons_of_mem _ m), (hy y List.mem_cons_self).2, List.length_cons]
        omega
    have hl' : ys.length = m.toNat := by simpa using hl
    simp only [ev_newT, Ok_ok]
    rw [join0_ev ys _ (by omega)]
    simp only [Ok_ok, endQ]
    have hj : cs (Txt.join "" ys) = (ys.map cs).flatten := cs_join0 ys
    have hlen : (Txt.join "" ys).length = ys.length := by
      rw [← cs_len, hj, List.length_flatten, List.map_map, ← hs]
      congr 1
    refine ⟨_, [], rfl, t'.clO, by simp, ?_⟩
    simp only [thaw_str]
    refine h _ t' hp' (fun c m => ?_) (by rw [hlen]; omega)
    rw [hj, List.mem_flatten] at m
    obtain ⟨l, hl2, hc⟩ := m
    obtain ⟨y, hy2, rfl⟩ := List.mem_map.mp hl2
    exact (hy y hy2).1 c hc
def intsN (xs : List Nat) : List T := xs.map fun i : Nat => T.int (i : Int)
theorem intsN_len (xs : List Nat) : (intsN xs).length = xs.length := List.length_map ..
theorem rangeT_0 (n : Nat) : Fx.rangeT 0 n = intsN (List.range n) := by
  unfold Fx.rangeT intsN
  exact List.map_congr_left fun i _ => by rw [Int.zero_add]
theorem cls_intsN (n : Nat) (xs : List Nat) : cls n (intsN xs) = true := cls_all n _ fun t m => by
  obtain ⟨i, _, rfl⟩ := List.mem_map.mp m
  simp
theorem map_erase {α β : Type} (f : α → β) : ∀ (xs : List α) (i : Nat), (xs.map f).eraseIdx i = (xs.eraseIdx i).map f
  | [], _ => by simp
  | _ :: _, 0 => by simp
  | x :: xs, i + 1 => by simp [map_erase f xs i]
theorem at_erase_perm {α : Type} : ∀ {xs : List α} {i : Nat} (h : i < xs.length), (xs[i] :: xs.eraseIdx i).Perm xs
  | [], _, h => by simp at h
  | x :: xs, 0, _ => by simp
  | x :: xs, i + 1, h => by
    have ih := at_erase_perm (xs := xs) (i := i) (by simpa using h)
    simp only [List.getElem_cons_succ, List.eraseIdx_cons_succ]
    exact (List.Perm.swap _ _ _).trans (ih.cons x)
theorem popAt_ev {S : Sto} {k j : Nat} {us : List T} {n : Int} {t : T} (hk : S[k]? = some (.lst us)) (h0 : 0 ≤ n) (hn : n < us.length) (ht : us[n.toNat]? = some t) (hl : us.length ≤ 100000) : fPopAt (.ref k) [.int n] S = .ok t (S.set k (.lst (us.eraseIdx n.toNat))) := by
  unfold fPopAt
  dsimp only
  rw [hk]
  dsimp only
  rw [ixN_in _ _ h0 hn]
  dsimp only
  rw [ht]
  dsimp only
  rw [if_pos hl]
theorem append_ev {S : Sto} {k : Nat} {us : List T} {t : T} (hk : S[k]? = some (.lst us)) (hl : us.length < 100000) : fAppend (.ref k) [t] S = .ok .non (S.set k (.lst (us ++ [t]))) := by
  unfold fAppend
  dsimp only
  rw [hk]
  dsimp only
  rw [if_pos hl]
def resv : List Str := ["sectors", "accounts", "type", "to", "if", "then", "each", "of", "not", "and", "or", "all", "none", "assume", "claim", "drop", "profiles", "distinguish", "conserved", "obligations", "evaluate", "decide", "bound", "by", "statuses", "core", "verdict", "refutes", "minimize", "types"]
theorem split_resv : Txt.split (("sectors accounts type to if then each of not and or all none assume claim drop profiles distinguish" : Str) ++ (" conserved obligations evaluate decide bound by statuses core verdict refutes minimize types" : Str)) " " = resv := by decide +kernel
theorem ev_split (a b : Str) (S : Sto) : fSplit true (.str a) [.str b] S = if (b.length == 0) = false ∧ a.length ≤ 1000000 then .ok (.lst ((Txt.split a b).map T.str)) S else .bad := id rfl
theorem reserved_gen {a b c : Str} {Q : T → Sto → Prop} (l1 : a.length + b.length ≤ 1000000) (l2 : (c.length == 0) = false ∧ (a ++ b).length ≤ 1000000) (h : Q (.lst ((Txt.split (a ++ b) c).map T.str)) []) :
    Ok ((sSeq (sSet 0 (mC (.str a))) (sSeq (sSet 0 (mBin (fAddA true) (mVar 0) (mC (.str b)))) (sRet (mMeth isStr (fSplit true) (mVar 0) (mCons (mC (.str c)) mNil))))) [none] []) (endQ Q) := by
  have e1 : fAddA true (.str a) (.str b) [] = .ok (.str (a ++ b)) [] := if_pos l1
  have e2 : fSplit true (.str (a ++ b)) [.str c] [] = .ok (.lst ((Txt.split (a ++ b) c).map T.str)) [] := by rw [ev_split, if_pos l2]
  clear l1 l2
  simp only [ev_seq, ev_set, ev_C, ev_ok, ev_bin, ev_V, ev_ret, ev_meth, ev_cons, ev_nil, isStr, Ok_bind, Ok_ok, List.set_cons_zero, List.getElem?_cons_zero, e1, if_true, e2, endQ]
  exact h
theorem reserved_ok {S : Sto} {Q : T → Sto → Prop} (h : Q (.lst (resv.map T.str)) S) : Ok (F__law_reserved [] S) Q := by
  unfold F__law_reserved
  refine ok_frame0 (by simp) (ok_run ?_)
  refine reserved_gen (by decide +kernel) (by decide +kernel) ?_
  rw [split_resv]
  exact ⟨by show cl 0 (.lst (resv.map T.str)) = true; rw [cl_lst]; exact cls_strs 0 resv, h⟩
instance (c : Nat) : Decidable (Lt c) := by unfold Lt; infer_instance
structure Nm (w : Str) : Prop where
  low : Low w
  pos : 1 ≤ w.length
  le : w.length ≤ 12
  nr : w ∉ resv
instance (w : Str) : Decidable (Nm w) := decidable_of_iff (Low w ∧ 1 ≤ w.length ∧ w.length ≤ 12 ∧ w ∉ resv) ⟨fun h => ⟨h.1, h.2.1, h.2.2.1, h.2.2.2⟩, fun h => ⟨h.1, h.2, h.3, h.4⟩⟩
theorem resv_len : ∀ w ∈ resv, w.length ≤ 11 := by decide +kernel
theorem resv_x : ∀ w ∈ resv, w ++ ("x" : Str) ∉ resv := by decide +kernel
theorem inF_strs (w : Str) (xs : List Str) : inF (.str w) (xs.map T.str) = decide (w ∈ xs) := by
  induction xs with
  | nil => rfl
  | cons x xs ih =>
    unfold inF at ih ⊢
    rw [List.map_cons, List.any_cons, ih]
    show ((x == w) || decide (w ∈ xs)) = decide (w ∈ x :: xs)
    by_cases h : x = w
    · rw [beq_iff_eq.mpr h, Bool.true_or, decide_eq_true (by rw [h]; exact List.mem_cons_self)]
    · rw [beq_eq_false_iff_ne.mpr h, Bool.false_or]
      by_cases m : w ∈ xs
      · rw [decide_eq_true m, decide_eq_true (List.mem_cons_of_mem _ m)]
      · rw [decide_eq_false m, decide_eq_false (fun q => (List.mem_cons.mp q).elim (fun e => h e.symm) m)]
theorem flat_strs (xs : List Str) : (xs.map T.str).all flatT = true := by
  rw [List.all_eq_true]
  intro t m
  obtain ⟨w, _, rfl⟩ := List.mem_map.mp m
  rfl
theorem in_ev {S : Sto} {y : T} {w : Str} {xs : List Str} (h : seqOf S y = some (xs.map T.str)) (hy : ∀ z, y ≠ .str z) : fIn false (.str w) y S = .ok (.bl (decide (w ∈ xs))) S := by
  have e : fIn false (.str w) y S = match seqOf S y with
    | some ts => if (flatT (.str w) && ts.all flatT) = true then .ok (.bl (inF (.str w) ts)) S
      else match toD (.str w), toD y with
        | some d, some (.list ds) => if (SeqAt.shaped d && SeqAt.shaped (.list ds)) = true then .ok (.bl (ds.any fun z => PyData.eqv z d)) S else .bad
        | _, _ => .bad
    | none => .bad := by cases y <;> first | rfl | exact absurd rfl (hy _)
  rw [e, h]
  dsimp only
  rw [flat_strs, show flatT (.str w) = true from rfl, inF_strs]
  rfl
theorem ni_ev {S : Sto} {y : T} {w : Str} {xs : List Str} (h : seqOf S y = some (xs.map T.str)) (hy : ∀ z, y ≠ .str z) : fIn true (.str w) y S = .ok (.bl (!decide (w ∈ xs))) S := by
  have e : fIn true (.str w) y S = match seqOf S y with
    | some ts => if (flatT (.str w) && ts.all flatT) = true then .ok (.bl (!inF (.str w) ts)) S
      else match toD (.str w), toD y with
        | some d, some (.list ds) => if (SeqAt.shaped d && SeqAt.shaped (.list ds)) = true then .ok (.bl (!ds.any fun z => PyData.eqv z d)) S else .bad
        | _, _ => .bad
    | none => .bad := by cases y <;> first | rfl | exact absurd rfl (hy _)
  rw [e, h]
  dsimp only
  rw [flat_strs, show flatT (.str w) = true from rfl, inF_strs]
  rfl
/-- what stands behind a stem tells the names apart -/
def keyOf (stem w : Str) : Option Nat := (cs w)[stem.length]?
theorem keyOf_app {stem a b : Str} {c : Nat} (h : cs a = [c]) : keyOf stem (stem ++ a ++ b) = some c := by
  unfold keyOf
  rw [cs_app, cs_app, h, ← cs_len stem, List.append_assoc, List.getElem?_append_right (Nat.le_refl _), Nat.sub_self]
  rfl
theorem len_app (a b : Str) : (a ++ b).length = a.length + b.length := by rw [← cs_len, cs_app, List.length_append, cs_len, cs_len]
def chT (c : Nat) : T := .str ⟨#[c]⟩
theorem nodup_set {α : Type} [DecidableEq α] {xs : List α} (h : xs.Nodup) {w : α} (hw : w ∉ xs) (i : Nat) : (xs.set i w).Nodup := by
  induction xs generalizing i with
  | nil => simp
  | cons x xs ih =>
    rw [List.nodup_cons] at h
    rw [List.mem_cons, not_or] at hw
    cases i with
    | zero =>
      rw [List.set_cons_zero, List.nodup_cons]
      exact ⟨hw.2, h.2⟩
    | succ i =>
      rw [List.set_cons_succ, List.nodup_cons]
      refine ⟨fun m => ?_, ih h.2 hw.2 i⟩
      rcases List.mem_or_eq_of_mem_set m with m | m
      · exact h.1 m
      · exact hw.1 m.symm
theorem strT_abc : strT "abcdefghijklmnopqrstuvwxyz" = ((List.range 26).map (97 + ·)).map chT := by
  have := abc
  unfold cs at this
  unfold strT
  rw [this]
  rfl
theorem names_ok {t : Tp} {m : Int} {rest : Sto} {Q : T → Sto → Prop} (hp : 0 ≤ t.pl) (h0 : 0 ≤ m) (hm : m ≤ 26) (h : ∀ (ns : List Str) (t' : Tp), 0 ≤ t'.pl → ns.length = m.toNat → ns.Nodup → (∀ w ∈ ns, Nm w) → Q (.lst (ns.map T.str)) (t'.o :: rest)) : Ok (F__law_names [.ref 0, .int m] (t.o :: rest)) Q := by
  unfold F__law_names
  refine ok_frame1 (by simp) t.clO (ok_run ?_)
  unfold B__law_names
  try simp_arith only []
  refine draw_ok hp (by omega) fun n1 t1 hp1 hn1 hn1' => ?_
  try simp_arith only []
  refine run_ok hp1 hn1 (by omega) fun w1 t2 hp2 hw1 hl1 => ?_
  try simp_arith only []
  refine run_ok hp2 (by omega) (by omega) fun w2 t3 hp3 hw2 hl2 => ?_
  try simp_arith only []
  refine draw_ok hp3 (by omega) fun n2 t4 hp4 hn2 hn2' => ?_
  try simp_arith only []
  -- the stem
  have hstem : ∃ stem : Str, L2.atI [T.str "", .str "", .str "", .str "al", .str "no", .str "claim", .str "sector", .str w1, .str w2] n2 = some (.str stem) ∧ Low stem ∧ stem.length ≤ 9 := by
    have hs : ∀ i : Nat, i < 9 → ∃ stem : Str, [T.str "", .str "", .str "", .str "al", .str "no", .str "claim", .str "sector", .str w1, .str w2][i]? = some (.str stem) ∧ Low stem ∧ stem.length ≤ 9 := by
      intro i hi9
      match i, hi9 with
      | 0, _ => exact ⟨"", rfl, by decide +kernel, by decide +kernel⟩
      | 1, _ => exact ⟨"", rfl, by decide +kernel, by decide +kernel⟩
      | 2, _ => exact ⟨"", rfl, by decide +kernel, by decide +kernel⟩
      | 3, _ => exact ⟨"al", rfl, by decide +kernel, by decide +kernel⟩
      | 4, _ => exact ⟨"no", rfl, by decide +kernel, by decide +kernel⟩
      | 5, _ => exact ⟨"claim", rfl, by decide +kernel, by decide +kernel⟩
      | 6, _ => exact ⟨"sector", rfl, by decide +kernel, by decide +kernel⟩
      | 7, _ => exact ⟨w1, rfl, hw1, by omega⟩
      | 8, _ => exact ⟨w2, rfl, hw2, by omega⟩
      | i + 9, q => exact absurd q (by omega)
    obtain ⟨stem, e, h1, h2⟩ := hs n2.toNat (by omega)
    exact ⟨stem, by rw [atI_in _ _ hn2 (by simp only [List.length_cons, List.length_nil]; omega)]; exact e, h1, h2⟩
  obtain ⟨stem, hstem, hslow, hslen⟩ := hstem
  rw [hstem]
  try simp_arith only []
  refine reserved_ok ?_
  try simp_arith only []
  refine letters_ok ?_
  have labc : ("abcdefghijklmnopqrstuvwxyz" : Str).length ≤ 100000 := by decide +kernel
  try simp_arith only [fListA, labc, strT_abc]
  rw [range1_ev _ _ (by omega)]
  try simp_arith only [rangeT_0]
  refine ok_for (fun k τ S => ∃ (ls us : List Nat) (ns : List Str) (t' : Tp) (x y z : Option T), τ = [some (.ref 0), some (.int m), some (.lst [T.str "", .str "", .str "", .str "al", .str "no", .str "claim", .str "sector", .str w1, .str w2]), some (.str stem), some (.lst [T.str "sector", .str "sum", .str "number", .str "end", .str "name", .str "symbol", .str "invalid", .str "holds"]), some (.lst (resv.map T.str)), some (.ref 1), some (.ref 2), x, y, z]
      ∧ S = [t'.o, .lst (ls.map chT), .lst (ns.map T.str)] ∧ 0 ≤ t'.pl ∧ ns.map (keyOf stem) = us.map some ∧ (us ++ ls).Nodup ∧ (∀ c ∈ ls, Lt c) ∧ ns.length = k ∧ ls.length = 26 - k ∧ ∀ w ∈ ns, Nm w)
    ⟨_, [], [], t4, none, none, none, rfl, rfl, hp4, rfl, by decide +kernel, by decide +kernel, rfl, by simp, fun _ h => nomatch h⟩ ?_ ?_
  · rintro i x0 τ S e ⟨ls, us, ns, t', x, y, z, rfl, rfl, hp', hkey, hnd, hlt, hk, hll, hns⟩
    have hi : i < m.toNat := by
      obtain ⟨q, _⟩ := List.getElem?_eq_some_iff.mp e
      rw [intsN_len, List.length_range] at q
      exact q
    refine ⟨_, bindP_nm _ _ _, ?_⟩
    try simp_arith only [List.length_map]
    refine draw_ok hp' (by omega) fun n t2 hp2 hn0 hn => ?_
    have hx : n.toNat < ls.length := by omega
    try simp_arith only []
    rw [popAt_ev (S := [t2.o, .lst (ls.map chT), .lst (ns.map T.str)]) (k := 1) (j := 0) rfl hn0 (by rw [List.length_map]; omega) (by rw [List.getElem?_map, List.getElem?_eq_getElem hx]; rfl) (by rw [List.length_map]; omega)]
    have hc : Lt ls[n.toNat] := hlt _ (List.getElem_mem hx)
    generalize hcd : ls[n.toNat] = c at hc ⊢
    have hlc : (⟨#[c]⟩ : Str).length = 1 := rfl
    try simp_arith only [chT]
    rw [if_pos (show stem.length + (⟨#[c]⟩ : Str).length ≤ 1000000 by omega)]
    try simp_arith only []
    refine draw_ok hp2 (by omega) fun n3 t3 hp3 hn3 hn3' => ?_
    try simp_arith only []
    have hsz : ∃ k : Int, L2.atI [T.int 0, .int 0, .int 1, .int 2] n3 = some (.int k) ∧ 0 ≤ k ∧ k ≤ 2 := by
      have hs : ∀ i : Nat, i < 4 → ∃ k : Int, [T.int 0, .int 0, .int 1, .int 2][i]? = some (.int k) ∧ 0 ≤ k ∧ k ≤ 2 := by
        intro i hi9
        match i, hi9 with
        | 0, _ => exact ⟨0, rfl, by decide, by decide⟩
        | 1, _ => exact ⟨0, rfl, by decide, by decide⟩
        | 2, _ => exact ⟨1, rfl, by decide, by decide⟩
        | 3, _ => exact ⟨2, rfl, by decide, by decide⟩
        | i + 4, q => exact absurd q (by omega)
      obtain ⟨k, e, h1⟩ := hs n3.toNat (by omega)
      exact ⟨k, by rw [atI_in _ _ hn3 (by simp only [List.length_cons, List.length_nil]; omega)]; exact e, h1⟩
    obtain ⟨k3, hk3, hk30, hk31⟩ := hsz
    rw [hk3]
    try simp_arith only []
    refine run_ok hp3 hk30 (by omega) fun w4 t5 hp5 hw4 hl4 => ?_
    have hl5 : (stem ++ ⟨#[c]⟩ : Str).length = stem.length + 1 := by rw [len_app]; rfl
    try simp_arith only []
    rw [if_pos (show (stem ++ ⟨#[c]⟩ : Str).length + w4.length ≤ 1000000 by omega)]
    try simp_arith only []
    rw [in_ev (y := .lst (resv.map T.str)) (xs := resv) rfl (fun z h => nomatch h)]
    have hlow : Low (stem ++ ⟨#[c]⟩ ++ w4) := (hslow.app (fun d md => by rw [cs_one] at md; rw [List.mem_singleton.mp md]; exact hc)).app hw4
    have hl6 : (stem ++ ⟨#[c]⟩ ++ w4).length = stem.length + 1 + w4.length := by rw [len_app, hl5]
    have hperm : (us ++ [c] ++ ls.eraseIdx n.toNat).Perm (us ++ ls) := by
      rw [List.append_assoc]
      refine List.Perm.append_left us ?_
      rw [← hcd]
      exact at_erase_perm hx
    have fin : ∀ (w : Str) (y z : Option T), Nm w → keyOf stem w = some c → ∃ (ls' us' : List Nat) (ns' : List Str) (t' : Tp) (x y' z' : Option T), [some (.ref 0), some (.int m), some (.lst [T.str "", .str "", .str "", .str "al", .str "no", .str "claim", .str "sector", .str w1, .str w2]), some (.str stem), some (.lst [T.str "sector", .str "sum", .str "number", .str "end", .str "name", .str "symbol", .str "invalid", .str "holds"]), some (.lst (resv.map T.str)), some (.ref 1), some (.ref 2), some x0, y, z] = [some (.ref 0), some (.int m), some (.lst [T.str "", .str "", .str "", .str "al", .str "no", .str "claim", .str "sector", .str w1, .str w2]), some (.str stem), some (.lst [T.str "sector", .str "sum", .str "number", .str "end", .str "name", .str "symbol", .str "invalid", .str "holds"]), some (.lst (resv.map T.str)), some (.ref 1), some (.ref 2), x, y', z']
      ∧ [t5.o, .lst ((ls.eraseIdx n.toNat).map chT), .lst (ns.map T.str ++ [.str w])] = [t'.o, .lst (ls'.map chT), .lst (ns'.map T.str)] ∧ 0 ≤ t'.pl ∧ ns'.map (keyOf stem) = us'.map some ∧ (us' ++ ls').Nodup ∧ (∀ c ∈ ls', Lt c) ∧ ns'.length = i + 1 ∧ ls'.length = 26 - (i + 1) ∧ ∀ w ∈ ns', Nm w := fun w y z hw hkw =>
      ⟨ls.eraseIdx n.toNat, us ++ [c], ns ++ [w], t5, _, y, z, rfl, by simp, hp5, by simp [hkey, hkw], hperm.nodup_iff.mpr hnd, fun d md => hlt d (List.mem_of_mem_eraseIdx md), by simp [hk], by rw [List.length_eraseIdx_of_lt hx]; omega, fun v mv => by
        rcases List.mem_append.mp mv with mv | mv
        · exact hns v mv
        · rw [List.mem_singleton.mp mv]; exact hw⟩
    by_cases hr : (stem ++ ⟨#[c]⟩ ++ w4) ∈ resv
    · have hlr := resv_len _ hr
      have lx : ("x" : Str).length = 1 := by decide +kernel
      rw [decide_eq_true hr]
      try simp_arith only []
      rw [if_pos (show (stem ++ ⟨#[c]⟩ ++ w4).length + ("x" : Str).length ≤ 1000000 by omega)]
      try simp_arith only []
      rw [append_ev (k := 2) rfl (by rw [List.length_map]; omega)]
      try simp_arith only [forQ, map_erase]
      refine fin _ _ _ ⟨hlow.app (by decide +kernel), by rw [len_app]; omega, by rw [len_app]; omega, resv_x _ hr⟩ ?_
      have : stem ++ ⟨#[c]⟩ ++ w4 ++ ("x" : Str) = stem ++ ⟨#[c]⟩ ++ (w4 ++ ("x" : Str)) := cs_inj (by simp only [cs_app, List.append_assoc])
      rw [this]
      exact keyOf_app (cs_one c)
    · rw [decide_eq_false hr]
      try simp_arith only []
      rw [append_ev (k := 2) rfl (by rw [List.length_map]; omega)]
      try simp_arith only [forQ, map_erase]
      exact fin _ _ _ ⟨hlow, by omega, by omega, hr⟩ (keyOf_app (cs_one c))
  · rintro τ S ⟨ls, us, ns, t', x, y, z, rfl, rfl, hp', hkey, hnd, hlt, hk, hll, hns⟩
    rw [intsN_len, List.length_range] at hk
    have hnd1 : ns.Nodup := by
      have : (ns.map (keyOf stem)).Nodup := by
        rw [hkey]
        exact List.Pairwise.map some (fun a b e q => e (Option.some.inj q)) (List.nodup_append.mp hnd).1
      exact List.Pairwise.of_map (keyOf stem) (fun a b e q => e (by rw [q])) this
    try simp_arith only []
    refine draw_ok hp' (by omega) fun n t2 hp2 hn0 hn => ?_
    try simp_arith only []
    have hthen : ∀ (ns : List Str) (t' : Tp), 0 ≤ t'.pl → ns.length = m.toNat → ns.Nodup → (∀ w ∈ ns, Nm w) → endQ (fun t S1 => ∃ o' g, S1 = o' :: g ∧ Fx.clO 1 o' = true ∧ cl 1 (thaw 1 true t S1) = true ∧ Q (thaw 1 true t S1) (o' :: rest)) (.rt (.ref 2)) [t'.o, .lst (ls.map chT), .lst (ns.map T.str)] := by
      intro ns t' hp' hk hnd hns
      refine ⟨_, _, rfl, t'.clO, ?_, ?_⟩
      · show cl 1 (.lst (ns.map T.str)) = true
        rw [cl_lst]
        exact cls_strs 1 ns
      · exact h ns t' hp' hk hnd hns
    by_cases hz : n = 0
    · subst hz
      try simp_arith only []
      rw [range1_ev _ _ (by omega)]
      try simp_arith only [rangeT_0]
      refine ok_for (fun k τ S => ∃ (ns : List Str) (t' : Tp) (x y z : Option T), τ = [some (.ref 0), some (.int m), some (.lst [T.str "", .str "", .str "", .str "al", .str "no", .str "claim", .str "sector", .str w1, .str w2]), some (.str stem), some (.lst [T.str "sector", .str "sum", .str "number", .str "end", .str "name", .str "symbol", .str "invalid", .str "holds"]), some (.lst (resv.map T.str)), some (.ref 1), some (.ref 2), x, y, z]
        ∧ S = [t'.o, .lst (ls.map chT), .lst (ns.map T.str)] ∧ 0 ≤ t'.pl ∧ ns.length = m.toNat ∧ ns.Nodup ∧ ∀ w ∈ ns, Nm w) ⟨ns, t2, x, y, z, rfl, rfl, hp2, hk, hnd1, hns⟩ ?_ ?_
      · rintro i x0 τ S e ⟨ns, t', x, y, z, rfl, rfl, hp', hk, hnd, hns⟩
        obtain ⟨hi, e⟩ := List.getElem?_eq_some_iff.mp e
        have hi' : i < (min m 4).toNat := by
          have := hi
          rw [intsN_len, List.length_range] at this
          exact this
        have e : x0 = .int (i : Int) := by
          rw [← e]
          simp [intsN]
        subst e
        refine ⟨_, bindP_nm _ _ _, ?_⟩
        try simp_arith only []
        refine draw_ok hp' (by omega) fun n t2 hp2 hn0 hn => ?_
        try simp_arith only []
        have hwd : ∃ w : Str, L2.atI [T.str "sector", .str "sum", .str "number", .str "end", .str "name", .str "symbol", .str "invalid", .str "holds"] n = some (.str w) ∧ Nm w := by
          have hs : ∀ i : Nat, i < 8 → ∃ w : Str, [T.str "sector", .str "sum", .str "number", .str "end", .str "name", .str "symbol", .str "invalid", .str "holds"][i]? = some (.str w) ∧ Nm w := by
            intro i hi9
            match i, hi9 with
            | 0, _ => exact ⟨_, rfl, by decide +kernel⟩
            | 1, _ => exact ⟨_, rfl, by decide +kernel⟩
            | 2, _ => exact ⟨_, rfl, by decide +kernel⟩
            | 3, _ => exact ⟨_, rfl, by decide +kernel⟩
            | 4, _ => exact ⟨_, rfl, by decide +kernel⟩
            | 5, _ => exact ⟨_, rfl, by decide +kernel⟩
            | 6, _ => exact ⟨_, rfl, by decide +kernel⟩
            | 7, _ => exact ⟨_, rfl, by decide +kernel⟩
            | i + 8, q => exact absurd q (by omega)
          obtain ⟨w, e, h1⟩ := hs n.toNat (by omega)
          exact ⟨w, by rw [atI_in _ _ hn0 (by simp only [List.length_cons, List.length_nil]; omega)]; exact e, h1⟩
        obtain ⟨w, hw, hnw⟩ := hwd
        rw [hw]
        try simp_arith only []
        rw [ni_ev (S := [t2.o, .lst (ls.map chT), .lst (ns.map T.str)]) (y := .ref 2) (xs := ns) rfl (fun z h => nomatch h)]
        try simp_arith only []
        by_cases hin : w ∈ ns
        · rw [decide_eq_true hin]
          try simp_arith only [forQ]
          exact ⟨ns, t2, _, _, _, rfl, rfl, hp2, hk, hnd, hns⟩
        · rw [decide_eq_false hin]
          try simp_arith only [List.length_map]
          rw [ixN_in _ _ (by omega) (by omega)]
          try simp_arith only [forQ]
          refine ⟨ns.set i w, t2, _, _, _, rfl, by simp, hp2, by simp [hk], nodup_set hnd hin i, fun v mv => ?_⟩
          rcases List.mem_or_eq_of_mem_set mv with mv | mv
          · exact hns v mv
          · rw [mv]; exact hnw
      · rintro τ S ⟨ns, t', x, y, z, rfl, rfl, hp', hk, hnd, hns⟩
        try simp_arith only []
        exact hthen ns t' hp' hk hnd hns
    · rw [decide_eq_false hz]
      try simp_arith only []
      exact hthen ns t2 hp2 hk hnd1 hns
inductive Pl : Nat → T → Prop
  | non (n : Nat) : Pl n .non
  | bl (n : Nat) (b : Bool) : Pl n (.bl b)
  | int (n : Nat) (i : Int) : Pl n (.int i)
  | str (n : Nat) (x : Str) : Pl n (.str x)
  | tup {n : Nat} {ts : List T} : ts.length ≤ 1000000 → (∀ t ∈ ts, Pl n t) → Pl (n + 1) (.tup ts)
theorem Pl.cl {n m : Nat} {t : T} (h : Pl n t) : Fx.cl m t = true := by
  induction h with
  | non => simp
  | bl => simp
  | int => simp
  | str => simp
  | tup _ _ ih => rw [cl_tup]; exact cls_all m _ ih
theorem Pl.up {n : Nat} {t : T} (h : Pl n t) : ∀ k, Pl (n + k) t := by
  induction h with
  | non => exact fun k => .non _
  | bl => exact fun k => .bl _ _
  | int => exact fun k => .int _ _
  | str => exact fun k => .str _ _
  | tup q _ ih =>
    intro k
    rw [Nat.add_right_comm]
    exact .tup q fun t m => ih t m k
theorem Pl.le {n m : Nat} {t : T} (h : Pl n t) (hm : n ≤ m) : Pl m t := by
  rw [show m = n + (m - n) by omega]
  exact h.up _
theorem isi_ev {S : Sto} {x : T} {a n : String} {b : Bool} (h1 : tyN S x = some a) (h2 : kitB a n = some b) : fIsi [x, .ty n] S = .ok (.bl b) S := by
  show (match tyN S x with
    | some a => match kitB a n with
      | some b => R.ok (T.bl b) S
      | none => .bad
    | none => .bad) = _
  rw [h1]
  dsimp only
  rw [h2]
section
variable {S : Sto}
theorem isi_nt : fIsi [.non, .ty "tuple"] S = .ok (.bl false) S := isi_ev (a := "NoneType") rfl (by decide +kernel)
theorem isi_bt {b} : fIsi [.bl b, .ty "tuple"] S = .ok (.bl false) S := isi_ev (a := "bool") rfl (by decide +kernel)
theorem isi_it {b} : fIsi [.int b, .ty "tuple"] S = .ok (.bl false) S := isi_ev (a := "int") rfl (by decide +kernel)
theorem isi_st {b} : fIsi [.str b, .ty "tuple"] S = .ok (.bl false) S := isi_ev (a := "str") rfl (by decide +kernel)
theorem isi_tt {b} : fIsi [.tup b, .ty "tuple"] S = .ok (.bl true) S := isi_ev (a := "tuple") rfl (by decide +kernel)
theorem isi_nb : fIsi [.non, .ty "bool"] S = .ok (.bl false) S := isi_ev (a := "NoneType") rfl (by decide +kernel)
theorem isi_bb {b} : fIsi [.bl b, .ty "bool"] S = .ok (.bl true) S := isi_ev (a := "bool") rfl (by decide +kernel)
theorem isi_ib {b} : fIsi [.int b, .ty "bool"] S = .ok (.bl false) S := isi_ev (a := "int") rfl (by decide +kernel)
theorem isi_sb {b} : fIsi [.str b, .ty "bool"] S = .ok (.bl false) S := isi_ev (a := "str") rfl (by decide +kernel)
theorem isi_tb {b} : fIsi [.tup b, .ty "bool"] S = .ok (.bl false) S := isi_ev (a := "tuple") rfl (by decide +kernel)
theorem isi_ns : fIsi [.non, .ty "str"] S = .ok (.bl false) S := isi_ev (a := "NoneType") rfl (by decide +kernel)
theorem isi_bs {b} : fIsi [.bl b, .ty "str"] S = .ok (.bl false) S := isi_ev (a := "bool") rfl (by decide +kernel)
theorem isi_is {b} : fIsi [.int b, .ty "str"] S = .ok (.bl false) S := isi_ev (a := "int") rfl (by decide +kernel)
theorem isi_ss {b} : fIsi [.str b, .ty "str"] S = .ok (.bl true) S := isi_ev (a := "str") rfl (by decide +kernel)
theorem isi_ts {b} : fIsi [.tup b, .ty "str"] S = .ok (.bl false) S := isi_ev (a := "tuple") rfl (by decide +kernel)
theorem isi_ni : fIsi [.non, .ty "int"] S = .ok (.bl false) S := isi_ev (a := "NoneType") rfl (by decide +kernel)
theorem isi_bi {b} : fIsi [.bl b, .ty "int"] S = .ok (.bl true) S := isi_ev (a := "bool") rfl (by decide +kernel)
theorem isi_ii {b} : fIsi [.int b, .ty "int"] S = .ok (.bl true) S := isi_ev (a := "int") rfl (by decide +kernel)
theorem isi_si {b} : fIsi [.str b, .ty "int"] S = .ok (.bl false) S := isi_ev (a := "str") rfl (by decide +kernel)
theorem isi_ti {b} : fIsi [.tup b, .ty "int"] S = .ok (.bl false) S := isi_ev (a := "tuple") rfl (by decide +kernel)
theorem ev_isN (x : T) : fIsN false x .non S = .ok (.bl (isN x)) S := id rfl
theorem fTru_bl (b : Bool) : fTru (.bl b) S = .ok b S := id rfl
theorem ev_eqB (i j : Bool) : fEq (.bl i) (.bl j) S = .ok (.bl (decide (i = j))) S := id rfl
end
theorem same_step {d : Nat} {x y : T} {e : Nat} {S : Sto} {Q : T → Sto → Prop} (ih : ∀ {x y : T} {e d' : Nat} {S : Sto} {Q : T → Sto → Prop}, d' + 1 = d → Pl e x → Pl d' y → (∀ b : Bool, (b = true ↔ x = y) → Q (.bl b) S) → Ok (F__law_same d [x, y] S) Q)
    (hx : Pl e x) (hy : Pl d y) (h : ∀ b : Bool, (b = true ↔ x = y) → Q (.bl b) S) : Ok (F__law_same (d + 1) [x, y] S) Q := by
  rw [F__law_same]
  refine ok_frame0 (by simp [hx.cl, hy.cl]) (ok_run ?_)
  have fin : ∀ (b : Bool) (S1 : Sto), (b = true ↔ x = y) → endQ (fun t S1 => cl 0 (thaw 0 true t S1) = true ∧ Q (thaw 0 true t S1) S) (.rt (.bl b)) S1 := fun b S1 hb => ⟨by simp, by simpa using h b hb⟩
  unfold B__law_same
  cases hy with
  | non =>
    try simp_arith! only [ev_isN, isN]
    refine fin _ _ ?_
    cases hx <;> simp [isN]
  | bl _ b =>
    try simp_arith! only [ev_isN, isN, isi_bt, isi_bb, fTru_bl]
    cases hx with
    | bl _ c =>
      try simp_arith! only [isi_bb, ev_eqB]
      exact fin _ _ (by simp)
    | non => try simp_arith! only [isi_nb]; exact fin _ _ (by simp)
    | int => try simp_arith! only [isi_ib]; exact fin _ _ (by simp)
    | str => try simp_arith! only [isi_sb]; exact fin _ _ (by simp)
    | tup => try simp_arith! only [isi_tb]; exact fin _ _ (by simp)
  | int _ b =>
    try simp_arith! only [ev_isN, isN, isi_it, isi_ib, isi_is, fTru_bl]
    cases hx with
    | bl _ c => try simp_arith! only [isi_bi, isi_bb]; exact fin _ _ (by simp)
    | non => try simp_arith! only [isi_ni]; exact fin _ _ (by simp)
    | int => try simp_arith! only [isi_ii, isi_ib]; exact fin _ _ (by simp)
    | str => try simp_arith! only [isi_si]; exact fin _ _ (by simp)
    | tup => try simp_arith! only [isi_ti]; exact fin _ _ (by simp)
  | str _ b =>
    try simp_arith! only [ev_isN, isN, isi_st, isi_sb, isi_ss, fTru_bl]
    cases hx with
    | bl _ c => try simp_arith! only [isi_bs]; exact fin _ _ (by simp)
    | non => try simp_arith! only [isi_ns]; exact fin _ _ (by simp)
    | int => try simp_arith! only [isi_is]; exact fin _ _ (by simp)
    | str => try simp_arith! only [isi_ss]; exact fin _ _ (by simp)
    | tup => try simp_arith! only [isi_ts]; exact fin _ _ (by simp)
  | tup hlen hys =>
    rename_i d' ys
    try simp_arith! only [ev_isN, isN, isi_tt, fTru_bl]
    cases hx with
    | bl _ c => try simp_arith! only [isi_bt, fTru_bl]; exact fin _ _ (by simp)
    | non => try simp_arith! only [isi_nt, fTru_bl]; exact fin _ _ (by simp)
    | int => try simp_arith! only [isi_it, fTru_bl]; exact fin _ _ (by simp)
    | str => try simp_arith! only [isi_st, fTru_bl]; exact fin _ _ (by simp)
    | tup hxl hxs =>
      rename_i e' xs
      try simp_arith! only [isi_tt, fTru_bl]
      by_cases hl : (xs.length : Int) = (ys.length : Int)
      · rw [decide_eq_true hl]
        try simp_arith! only []
        · rw [range1_ev _ _ (by omega)]
          try simp_arith! only [rangeT_0]
          refine ok_for (fun k τ S => S = [] ∧ (∃ z : Option T, τ = [some (.tup xs), some (.tup ys), z]) ∧ ∀ j, j < k → xs[j]? = ys[j]?) ⟨rfl, ⟨_, rfl⟩, fun j h => absurd h (Nat.not_lt_zero j)⟩ ?_ ?_
          · rintro i t τ S1 e ⟨rfl, ⟨z, rfl⟩, hj⟩
            obtain ⟨hi, e⟩ := List.getElem?_eq_some_iff.mp e
            have hi' : i < ys.length := by simpa [intsN] using hi
            have e : t = .int (i : Int) := by
              rw [← e]
              simp [intsN]
            subst e
            have hix : i < xs.length := by omega
            refine ⟨_, bindP_nm _ _ _, ?_⟩
            try simp_arith! only []
            rw [atI_in _ _ (by omega) (by omega), atI_in _ _ (by omega) (by omega)]
            rw [Int.toNat_natCast, List.getElem?_eq_getElem hix, List.getElem?_eq_getElem hi']
            try simp_arith! only []
            refine ih rfl (hxs _ (List.getElem_mem hix)) (hys _ (List.getElem_mem hi')) fun b hbb => ?_
            try simp_arith! only [fTru_bl]
            cases b with
            | true =>
              try simp_arith! only [forQ]
              refine ⟨trivial, ⟨_, rfl⟩, fun j h => ?_⟩
              by_cases hji : j = i
              · rw [hji, List.getElem?_eq_getElem hix, List.getElem?_eq_getElem hi', hbb.mp rfl]
              · exact hj j (by omega)
            | false =>
              try simp_arith! only [forQ]
              refine fin _ _ ⟨fun h => (nomatch h), fun h => ?_⟩
              injection h with h
              subst h
              exact absurd (hbb.mpr rfl) Bool.false_ne_true
          · rintro τ S1 ⟨rfl, ⟨z, rfl⟩, hj⟩
            try simp_arith! only []
            refine fin _ _ ⟨fun _ => ?_, fun _ => rfl⟩
            congr 1
            apply List.ext_getElem?
            intro j
            by_cases hjl : j < ys.length
            · exact hj j (by simpa [intsN] using hjl)
            · rw [List.getElem?_eq_none (by omega), List.getElem?_eq_none (by omega)]
      · rw [decide_eq_false hl]
        try simp_arith! only []
        refine fin _ _ ⟨fun h => (nomatch h), fun h => ?_⟩
        injection h with h
        rw [h] at hl
        exact absurd rfl hl
theorem same_ok : ∀ {d : Nat} {x y : T} {e : Nat} {S : Sto} {Q : T → Sto → Prop}, Pl e x → Pl d y → (∀ b : Bool, (b = true ↔ x = y) → Q (.bl b) S) → Ok (F__law_same (d + 1) [x, y] S) Q
  | 0, _, _, _, _, _, hx, hy, h => same_step (fun e _ _ _ => by cases e) hx hy h
  | d + 1, _, _, _, _, _, hx, hy, h => same_step (fun e hx hy h => by cases e; exact same_ok hx hy h) hx hy h
def strsT (xs : List Str) : T := .tup (xs.map T.str)
def bitN (p k : Nat) : Bool := decide (p / 2 ^ k % 2 = 1)
def namesN : Nat → Nat → List Str → List Str
  | _, _, [] => []
  | k, p, s :: ss => if bitN p k = true then s :: namesN (k + 1) p ss else namesN (k + 1) p ss
theorem namesN_snoc (n : Str) (p : Nat) : ∀ (k : Nat) (ss : List Str), namesN k p (ss ++ [n]) = namesN k p ss ++ (if bitN p (k + ss.length) = true then [n] else [])
  | k, [] => by
    show (if bitN p k = true then n :: namesN (k + 1) p [] else namesN (k + 1) p []) = _
    simp [namesN]
  | k, s :: ss => by
    show (if bitN p k = true then s :: namesN (k + 1) p (ss ++ [n]) else namesN (k + 1) p (ss ++ [n])) = (if bitN p k = true then s :: namesN (k + 1) p ss else namesN (k + 1) p ss) ++ _
    rw [namesN_snoc n p (k + 1) ss, List.length_cons, show k + 1 + ss.length = k + (ss.length + 1) by omega]
    split <;> rfl
theorem bit_low {m p k : Nat} (h : k < m) : bitN (2 ^ m + p) k = bitN p k := by
  unfold bitN
  have e : 2 ^ m = 2 ^ (m - k - 1) * 2 * 2 ^ k := by
    rw [Nat.mul_assoc, ← Nat.pow_succ', ← Nat.pow_add]
    congr 1
    omega
  rw [e, Nat.add_comm, Nat.add_mul_div_right _ _ (Nat.two_pow_pos k), Nat.add_mod, Nat.mul_mod_left, Nat.add_zero, Nat.mod_mod]
theorem bit_top {m p : Nat} (h : p < 2 ^ m) : bitN (2 ^ m + p) m = true ∧ bitN p m = false := by
  unfold bitN
  constructor
  · rw [Nat.add_div_left _ (Nat.two_pow_pos m), Nat.div_eq_of_lt h]
    rfl
  · rw [Nat.div_eq_of_lt h]
    rfl
theorem namesN_low {m p : Nat} : ∀ (k : Nat) (ss : List Str), k + ss.length ≤ m → namesN k (2 ^ m + p) ss = namesN k p ss
  | _, [], _ => rfl
  | k, s :: ss, h => by
    rw [List.length_cons] at h
    show (if bitN (2 ^ m + p) k = true then s :: namesN (k + 1) (2 ^ m + p) ss else namesN (k + 1) (2 ^ m + p) ss) = _
    rw [bit_low (by omega), namesN_low (k + 1) ss (by omega)]
    rfl
theorem enum_in {k : Nat} {ss : List Str} {t : T} (h : t ∈ enumT k (ss.map T.str)) : ∃ (i : Nat) (s : Str), t = .wt [.int (i : Int), .str s] ∧ i < k + ss.length ∧ s ∈ ss := by
  induction ss generalizing k with
  | nil => cases h
  | cons s ss ih =>
    have h : t ∈ T.wt [.int (k : Int), .str s] :: enumT (k + 1) (ss.map T.str) := h
    rcases List.mem_cons.mp h with h | h
    · exact ⟨k, s, h, by rw [List.length_cons]; omega, List.mem_cons_self⟩
    · obtain ⟨i, s', e, hi, m⟩ := ih h
      exact ⟨i, s', e, by rw [List.length_cons]; omega, List.mem_cons_of_mem _ m⟩
theorem bindP_pair (i j : Nat) (x y : T) (τ : Fx.Env) : bindP (.tp [.nm i, .nm j]) (.wt [x, y]) τ = some ((τ.set i (some x)).set j (some y)) := by
  simp [bindP, bindPs]
theorem ev_enum (xs : List T) (S : Sto) : fEnum [.tup xs] S = .ok ⟨enumT 0 xs, []⟩ S := id rfl
theorem shl_ev {k : Nat} (h : k ≤ 1000000) (S : Sto) : fShl (.int 1) (.int (k : Int)) S = .ok (.int ((2 ^ k : Nat) : Int)) S := by
  have c : cPow 1 (k : Int) = true := by
    unfold cPow
    simp only [Bool.and_eq_true, decide_eq_true_eq]
    refine ⟨by omega, by omega, by decide⟩
  show (if cPow 1 (k : Int) = true then R.ok (T.int (1 * 2 ^ (k : Int).toNat)) S else .bad) = _
  rw [if_pos c, Int.one_mul, Int.toNat_natCast, Int.natCast_pow]
  rfl
theorem shr_ev {p k : Nat} (S : Sto) : fShr (.int (p : Int)) (.int (k : Int)) S = .ok (.int ((p / 2 ^ k : Nat) : Int)) S := by
  show (if decide (0 ≤ (k : Int)) = true then R.ok (T.int ((p : Int) / 2 ^ (k : Int).toNat)) S else .bad) = _
  rw [if_pos (by rw [decide_eq_true_eq]; omega), Int.toNat_natCast, Int.natCast_ediv, Int.natCast_pow]
  rfl
theorem band_ev {p : Nat} (S : Sto) : fBand (.int (p : Int)) (.int 1) S = .ok (.int ((p % 2 : Nat) : Int)) S := by
  show R.ok (T.int (Builtin.bitAnd (p : Int) 1)) S = _
  rw [bitAnd_pp (by omega) (by decide)]
  show R.ok (T.int ((p &&& 1 : Nat) : Int)) S = _
  rw [Nat.and_one_is_mod]
def bitT (p : Nat) (t : T) : Bool := match t with
  | .wt [.int i, _] => bitN p i.toNat
  | _ => false
def sndT (t : T) : T := match t with
  | .wt [_, s] => s
  | _ => .non
theorem names_bits (p : Nat) : ∀ (k : Nat) (ss : List Str), ((enumT k (ss.map T.str)).filter (bitT p)).map sndT = (namesN k p ss).map T.str
  | k, [] => rfl
  | k, s :: ss => by
    have ih := names_bits p (k + 1) ss
    show ((T.wt [.int (k : Int), .str s] :: enumT (k + 1) (ss.map T.str)).filter (bitT p)).map sndT = (if bitN p k = true then s :: namesN (k + 1) p ss else namesN (k + 1) p ss).map T.str
    have e : bitT p (T.wt [.int (k : Int), .str s]) = bitN p k := by
      show bitN p (k : Int).toNat = _
      rw [Int.toNat_natCast]
    by_cases c : bitN p k = true
    · rw [List.filter_cons_of_pos (e.trans c), if_pos c, List.map_cons, ih]
      rfl
    · rw [List.filter_cons_of_neg (by rw [e]; exact c), if_neg c, ih]
theorem names_of_ok {ss : List Str} {p : Nat} {rest : List T} {S : Sto} {Q : T → Sto → Prop} (hc : cls 0 rest = true) (hl : ss.length ≤ 1000) (h : Q (strsT (namesN 0 p ss)) S) : Ok (F_names_of [.tup (strsT ss :: rest), .int (p : Int)] S) Q := by
  unfold F_names_of
  refine ok_frame0 (by simp [strsT, hc]) (ok_run ?_)
  unfold B_names_of
  try simp_arith only [strsT, ev_enum]
  rw [lc_pure (bitT p) sndT _ [] (by rw [enumT_length, List.length_map]; simpa using Nat.le_trans hl (by decide)) fun t m => ?_]
  · try simp_arith only []
    rw [names_bits]
    try simp_arith only [endQ]
    exact ⟨by show cl 0 (.tup _) = true; rw [cl_tup]; exact cls_strs 0 _, h⟩
  · obtain ⟨i, s, rfl, hi, ms⟩ := enum_in m
    refine ⟨_, bindP_pair _ _ _ _ _, ?_, fun _ => ?_⟩
    · try simp_arith only []
      rw [shr_ev]
      try simp_arith only []
      rw [band_ev]
      try simp_arith only []
      show R.ok (((p / 2 ^ i % 2 : Nat) : Int) != 0) [] = R.ok (bitN p (i : Int).toNat) []
      rw [Int.toNat_natCast]
      unfold bitN
      congr 1
      rcases Nat.mod_two_eq_zero_or_one (p / 2 ^ i) with z | z <;> rw [z] <;> rfl
    · try simp_arith only []
      rfl
theorem cut_to (xs : List T) {i : Int} (h : 0 ≤ i) : cutT xs none (some i) = xs.take i.toNat := by
  obtain ⟨n, rfl⟩ := Int.eq_ofNat_of_zero_le h
  unfold cutT
  rw [HT.sIx_none, HT.sIx_nat, List.drop_zero, Nat.sub_zero, Int.toNat_natCast]
  rcases Nat.le_total n xs.length with c | c
  · rw [Nat.min_eq_left c]
  · rw [Nat.min_eq_right c, List.take_of_length_le (Nat.le_refl _), List.take_of_length_le c]
theorem cut_from (xs : List T) {i : Int} (h : 0 ≤ i) : cutT xs (some i) none = xs.drop i.toNat := by
  obtain ⟨n, rfl⟩ := Int.eq_ofNat_of_zero_le h
  unfold cutT
  rw [HT.sIx_none, HT.sIx_nat, Int.toNat_natCast]
  rcases Nat.le_total n xs.length with c | c
  · rw [Nat.min_eq_left c, List.take_of_length_le (by rw [List.length_drop]; exact Nat.le_refl _)]
  · rw [Nat.min_eq_right c, List.drop_length, List.drop_eq_nil_of_le c, List.take_nil]
theorem cut_mid (xs : List T) {i j : Int} (h : 0 ≤ i) (hj : 0 ≤ j) : cutT xs (some i) (some j) = (xs.drop i.toNat).take (j.toNat - i.toNat) := by
  obtain ⟨n, rfl⟩ := Int.eq_ofNat_of_zero_le h
  obtain ⟨m, rfl⟩ := Int.eq_ofNat_of_zero_le hj
  unfold cutT
  rw [HT.sIx_nat, HT.sIx_nat, Int.toNat_natCast, Int.toNat_natCast]
  rcases Nat.le_total n xs.length with c | c
  · rw [Nat.min_eq_left c]
    rcases Nat.le_total m xs.length with c2 | c2
    · rw [Nat.min_eq_left c2]
    · rw [Nat.min_eq_right c2, List.take_of_length_le (by rw [List.length_drop]; exact Nat.le_refl _), List.take_of_length_le (by rw [List.length_drop]; omega)]
  · rw [Nat.min_eq_right c, List.drop_length, List.drop_eq_nil_of_le c, List.take_nil, List.take_nil]
theorem ev_slL (xs : List T) (lo hi : Option Int) (S : Sto) : fSlA true (.lst xs) lo hi S = .ok (.lst (cutT xs lo hi)) S := id rfl
theorem ev_slT (xs : List T) (lo hi : Option Int) (S : Sto) : fSlA true (.tup xs) lo hi S = .ok (.tup (cutT xs lo hi)) S := id rfl
theorem atI_strs {ns : List Str} {i : Int} (h0 : 0 ≤ i) (h : i < ns.length) : L2.atI (ns.map T.str) i = some (.str (ns.getD i.toNat "")) := by
  have hi : i.toNat < ns.length := by omega
  rw [atI_in _ _ h0 (by rw [List.length_map]; exact h), List.getElem?_map, List.getElem?_eq_getElem hi, List.getD_eq_getElem?_getD, List.getElem?_eq_getElem hi]
  rfl
inductive SE where
  | all
  | none
  | sec (s : Str)
  | not (e : SE)
  | and (a b : SE)
  | or (a b : SE)
def SE.t : SE → T
  | .all => .tup [.str "all"]
  | .none => .tup [.str "none"]
  | .sec s => .tup [.str "sector", .str s]
  | .not e => .tup [.str "not", e.t]
  | .and a b => .tup [.str "and", a.t, b.t]
  | .or a b => .tup [.str "or", a.t, b.t]
def SE.mem (ns : List Str) : SE → Bool
  | .all => true
  | .none => false
  | .sec s => decide (s ∈ ns)
  | .not e => !e.mem ns
  | .and a b => a.mem ns && b.mem ns
  | .or a b => a.mem ns || b.mem ns
def SE.dep : SE → Nat
  | .not e => e.dep + 1
  | .and a b => max a.dep b.dep + 1
  | .or a b => max a.dep b.dep + 1
  | _ => 0
def SE.sz : SE → Nat
  | .not e => e.sz
  | .and a b => a.sz + b.sz
  | .or a b => a.sz + b.sz
  | _ => 1
def SE.over (ss : List Str) : SE → Prop
  | .sec s => s ∈ ss
  | .not e => e.over ss
  | .and a b => a.over ss ∧ b.over ss
  | .or a b => a.over ss ∧ b.over ss
  | _ => True
theorem SE.cl (n : Nat) : ∀ e : SE, Fx.cl n e.t = true
  | .all => by simp [SE.t]
  | .none => by simp [SE.t]
  | .sec s => by simp [SE.t]
  | .not e => by simp [SE.t, SE.cl n e]
  | .and a b => by simp [SE.t, SE.cl n a, SE.cl n b]
  | .or a b => by simp [SE.t, SE.cl n a, SE.cl n b]
theorem SE.head (e : SE) : ∃ (k : Str) (r : List T), e.t = .tup (.str k :: r) := by cases e <;> exact ⟨_, _, rfl⟩
theorem SE.thaw (e : SE) (n : Nat) (S : Sto) : thaw n true e.t S = e.t := by cases e <;> simp [SE.t]
theorem Pl.l1 {n : Nat} {x : T} (a : Pl n x) : ∀ t ∈ [x], Pl n t := fun t m => by rw [List.mem_singleton.mp m]; exact a
theorem Pl.l2 {n : Nat} {x y : T} (a : Pl n x) (b : Pl n y) : ∀ t ∈ [x, y], Pl n t := fun t m => by
  rcases List.mem_cons.mp m with rfl | m
  · exact a
  · exact Pl.l1 b t m
theorem Pl.l3 {n : Nat} {x y z : T} (a : Pl n x) (b : Pl n y) (c : Pl n z) : ∀ t ∈ [x, y, z], Pl n t := fun t m => by
  rcases List.mem_cons.mp m with rfl | m
  · exact a
  · exact Pl.l2 b c t m
theorem SE.pl : ∀ e : SE, Pl (e.dep + 1) e.t
  | .all => .tup (by simp) (Pl.l1 (.str _ _))
  | .none => .tup (by simp) (Pl.l1 (.str _ _))
  | .sec s => .tup (by simp) (Pl.l2 (.str _ _) (.str _ _))
  | .not e => .tup (by simp) (Pl.l2 (.str _ _) e.pl)
  | .and a b => .tup (by simp) (Pl.l3 (.str _ _) (a.pl.le (Nat.succ_le_succ (Nat.le_max_left _ _))) (b.pl.le (Nat.succ_le_succ (Nat.le_max_right _ _))))
  | .or a b => .tup (by simp) (Pl.l3 (.str _ _) (a.pl.le (Nat.succ_le_succ (Nat.le_max_left _ _))) (b.pl.le (Nat.succ_le_succ (Nat.le_max_right _ _))))
section
theorem kd_self (a : Str) : decide (a = a) = true := decide_eq_true rfl
theorem kd_as : decide (("all" : Str) = "sector") = false := by decide +kernel
theorem kd_an : decide (("all" : Str) = "not") = false := by decide +kernel
theorem kd_aa : decide (("all" : Str) = "and") = false := by decide +kernel
theorem kd_ao : decide (("all" : Str) = "or") = false := by decide +kernel
theorem kd_aN : decide (("all" : Str) = "none") = false := by decide +kernel
theorem kd_Na : decide (("none" : Str) = "all") = false := by decide +kernel
theorem kd_Ns : decide (("none" : Str) = "sector") = false := by decide +kernel
theorem kd_Nn : decide (("none" : Str) = "not") = false := by decide +kernel
theorem kd_NA : decide (("none" : Str) = "and") = false := by decide +kernel
theorem kd_No : decide (("none" : Str) = "or") = false := by decide +kernel
theorem kd_sa : decide (("sector" : Str) = "all") = false := by decide +kernel
theorem kd_sN : decide (("sector" : Str) = "none") = false := by decide +kernel
theorem kd_sn : decide (("sector" : Str) = "not") = false := by decide +kernel
theorem kd_sA : decide (("sector" : Str) = "and") = false := by decide +kernel
theorem kd_so : decide (("sector" : Str) = "or") = false := by decide +kernel
theorem kd_na : decide (("not" : Str) = "all") = false := by decide +kernel
theorem kd_nN : decide (("not" : Str) = "none") = false := by decide +kernel
theorem kd_ns : decide (("not" : Str) = "sector") = false := by decide +kernel
theorem kd_nA : decide (("not" : Str) = "and") = false := by decide +kernel
theorem kd_no : decide (("not" : Str) = "or") = false := by decide +kernel
theorem kd_nl : decide (("not" : Str) = "leaf") = false := by decide +kernel
theorem kd_Aa : decide (("and" : Str) = "all") = false := by decide +kernel
theorem kd_AN : decide (("and" : Str) = "none") = false := by decide +kernel
theorem kd_As : decide (("and" : Str) = "sector") = false := by decide +kernel
theorem kd_An : decide (("and" : Str) = "not") = false := by decide +kernel
theorem kd_Ao : decide (("and" : Str) = "or") = false := by decide +kernel
theorem kd_Al : decide (("and" : Str) = "leaf") = false := by decide +kernel
theorem kd_oa : decide (("or" : Str) = "all") = false := by decide +kernel
theorem kd_oN : decide (("or" : Str) = "none") = false := by decide +kernel
theorem kd_os : decide (("or" : Str) = "sector") = false := by decide +kernel
theorem kd_on : decide (("or" : Str) = "not") = false := by decide +kernel
theorem kd_oA : decide (("or" : Str) = "and") = false := by decide +kernel
theorem kd_ol : decide (("or" : Str) = "leaf") = false := by decide +kernel
theorem kd_ln : decide (("leaf" : Str) = "not") = false := by decide +kernel
end
theorem pick3 (a b c : Int) {n : Int} (h0 : 0 ≤ n) (h : n < 3) : ∃ k : Int, L2.atI [T.int a, .int b, .int c] n = some (.int k) ∧ (k = a ∨ k = b ∨ k = c) := by
  have : n = 0 ∨ n = 1 ∨ n = 2 := by omega
  rcases this with rfl | rfl | rfl
  · exact ⟨a, atI_0 .., .inl rfl⟩
  · exact ⟨b, atI_1 .., .inr (.inl rfl)⟩
  · exact ⟨c, atI_2 .., .inr (.inr rfl)⟩
def setsL : List Str → List (List Str) → List (List Str)
  | [], rows => rows
  | n :: ss, rows => setsL ss (rows ++ rows.map fun row => row ++ [n])
def sets (ss : List Str) : List (List Str) := setsL ss [[]]
theorem setsL_len : ∀ (ss : List Str) (rows : List (List Str)), (setsL ss rows).length = rows.length * 2 ^ ss.length
  | [], rows => by simp [setsL]
  | n :: ss, rows => by
    show (setsL ss (rows ++ rows.map fun row => row ++ [n])).length = _
    rw [setsL_len ss, List.length_append, List.length_map, List.length_cons, Nat.pow_succ, ← Nat.two_mul]
    rw [Nat.mul_comm 2, Nat.mul_assoc, Nat.mul_comm 2]
theorem setsL_at (pre : List Str) : ∀ (ss : List Str) (rows : List (List Str)), rows.length = 2 ^ pre.length → (∀ p, p < 2 ^ pre.length → rows[p]? = some (namesN 0 p pre)) → ∀ p, p < 2 ^ (pre ++ ss).length → (setsL ss rows)[p]? = some (namesN 0 p (pre ++ ss)) := by
  intro ss
  induction ss generalizing pre with
  | nil => intro rows _ h p hp; rw [List.append_nil] at hp ⊢; exact h p hp
  | cons n ss ih =>
    intro rows hl h p hp
    show (setsL ss (rows ++ rows.map fun row => row ++ [n]))[p]? = _
    have e : pre ++ n :: ss = (pre ++ [n]) ++ ss := by simp
    rw [e] at hp ⊢
    refine ih (pre ++ [n]) _ (by rw [List.length_append, List.length_map, hl, List.length_append, List.length_singleton, Nat.pow_succ]; omega) (fun q hq => ?_) p hp
    rw [List.length_append, List.length_singleton, Nat.pow_succ] at hq
    rw [namesN_snoc, Nat.zero_add]
    by_cases c : q < 2 ^ pre.length
    · rw [List.getElem?_append_left (by rw [hl]; exact c), h q c, (bit_top c).2]
      simp
    · obtain ⟨r, rfl⟩ : ∃ r, q = 2 ^ pre.length + r := ⟨q - 2 ^ pre.length, by omega⟩
      have hr : r < 2 ^ pre.length := by omega
      rw [List.getElem?_append_right (by omega), hl, Nat.add_sub_cancel_left, List.getElem?_map, h r hr, (bit_top hr).1, namesN_low 0 pre (by omega)]
      rfl
theorem sets_at (ss : List Str) {p : Nat} (h : p < 2 ^ ss.length) : (sets ss)[p]? = some (namesN 0 p ss) :=
  setsL_at [] ss [[]] rfl (fun p hp => by
    have : p = 0 := by simpa using hp
    rw [this]
    rfl) p h
theorem sets_len (ss : List Str) : (sets ss).length = 2 ^ ss.length := by
  unfold sets
  rw [setsL_len]
  simp
theorem cls_strsT (n : Nat) (xss : List (List Str)) : cls n (xss.map strsT) = true := cls_all n _ fun t m => by
  obtain ⟨xs, _, rfl⟩ := List.mem_map.mp m
  unfold strsT
  rw [cl_tup]
  exact cls_strs n xs
theorem sets_ok {ss : List Str} {S : Sto} {Q : T → Sto → Prop} (hl : ss.length ≤ 10) (h : Q (.lst ((sets ss).map strsT)) S) : Ok (F__law_sets [strsT ss] S) Q := by
  unfold F__law_sets
  refine ok_frame0 (by simp [strsT]) (ok_run ?_)
  unfold B__law_sets
  try simp_arith only [strsT]
  refine ok_for (fun k τ S => S = [] ∧ ∃ (rows : List (List Str)) (x y : Option T), τ = [some (.tup (ss.map T.str)), some (.lst (rows.map strsT)), x, y] ∧ rows.length = 2 ^ k ∧ (∀ row ∈ rows, row.length ≤ k) ∧ setsL (ss.drop k) rows = sets ss) ⟨rfl, [[]], none, none, rfl, rfl, (fun row m => by rw [List.mem_singleton.mp m]; exact Nat.le_refl _), rfl⟩ ?_ ?_
  · rintro i t τ S1 e ⟨rfl, rows, x, y, rfl, hr, hrl, hs⟩
    rw [List.getElem?_map] at e
    obtain ⟨n, hn, rfl⟩ := Option.map_eq_some_iff.mp e
    obtain ⟨hi, hn⟩ := List.getElem?_eq_some_iff.mp hn
    have hp : 2 ^ i ≤ 2 ^ 10 := Nat.pow_le_pow_right (by decide) (by omega)
    refine ⟨_, bindP_nm _ _ _, ?_⟩
    try simp_arith only [lstOf, lstD, srcOf]
    rw [lc_map (fun t => match t with
      | .tup xs => .tup (xs ++ [.str n])
      | _ => .non) _ (by rw [List.length_map]; omega) fun t m => ?_]
    · try simp_arith only [List.length_map]
      rw [if_pos (by omega)]
      try simp_arith only [forQ]
      have e3 : rows.map strsT ++ (rows.map strsT).map (fun t => match t with
          | .tup xs => T.tup (xs ++ [.str n])
          | _ => .non) = (rows ++ rows.map fun row => row ++ [n]).map strsT := by
        rw [List.map_append, List.map_map, List.map_map]
        congr 1
        refine List.map_congr_left fun row _ => ?_
        simp [strsT]
      refine ⟨trivial, rows ++ rows.map fun row => row ++ [n], some (.str n), y, by rw [e3], by rw [List.length_append, List.length_map, hr, Nat.pow_succ]; omega, fun row m => ?_, ?_⟩
      · rcases List.mem_append.mp m with m | m
        · exact Nat.le_succ_of_le (hrl row m)
        · obtain ⟨r, mr, rfl⟩ := List.mem_map.mp m
          rw [List.length_append, List.length_singleton]
          exact Nat.succ_le_succ (hrl r mr)
      · rw [← hs, List.drop_eq_getElem_cons hi, hn]
        rfl
    · obtain ⟨row, hrow, rfl⟩ := List.mem_map.mp m
      refine ⟨_, bindP_nm _ _ _, ?_⟩
      have hrow' := hrl row hrow
      try simp_arith only [strsT, List.length_map]
      rw [if_pos (by omega)]
  · rintro τ S1 ⟨rfl, rows, x, y, rfl, hr, hrl, hs⟩
    rw [List.length_map] at hs
    rw [List.drop_length] at hs
    have hs : rows = sets ss := hs
    try simp_arith only [endQ]
    rw [hs]
    exact ⟨by show cl 0 (.lst _) = true; rw [cl_lst]; exact cls_strsT 0 _, h⟩
theorem member_ok : ∀ {d : Nat} (e : SE) {ns : List Str} {S : Sto} {Q : T → Sto → Prop}, e.dep < d → Q (.bl (e.mem ns)) S → Ok (F__law_member d [e.t, strsT ns] S) Q
  | 0, e, _, _, _, h, _ => absurd h (Nat.not_lt_zero _)
  | d + 1, e, ns, S, Q, hd, h => by
    rw [F__law_member]
    refine ok_frame0 (by simp [SE.cl, strsT]) (ok_run ?_)
    have fin : ∀ (b : Bool) (S1 : Sto), b = e.mem ns → endQ (fun t S1 => cl 0 (thaw 0 true t S1) = true ∧ Q (thaw 0 true t S1) S) (.rt (.bl b)) S1 := fun b S1 hb => ⟨by simp, by rw [hb]; simpa using h⟩
    unfold B__law_member
    cases e with
    | all => try simp_arith only [SE.t, kd_self, kd_as, kd_an, kd_aa, kd_ao, kd_aN, kd_Na, kd_Ns, kd_Nn, kd_NA, kd_No, kd_sa, kd_sN, kd_sn, kd_sA, kd_so, kd_na, kd_nN, kd_ns, kd_nA, kd_no, kd_nl, kd_Aa, kd_AN, kd_As, kd_An, kd_Ao, kd_Al, kd_oa, kd_oN, kd_os, kd_on, kd_oA, kd_ol, kd_ln]; exact fin _ _ rfl
    | none => try simp_arith only [SE.t, kd_self, kd_as, kd_an, kd_aa, kd_ao, kd_aN, kd_Na, kd_Ns, kd_Nn, kd_NA, kd_No, kd_sa, kd_sN, kd_sn, kd_sA, kd_so, kd_na, kd_nN, kd_ns, kd_nA, kd_no, kd_nl, kd_Aa, kd_AN, kd_As, kd_An, kd_Ao, kd_Al, kd_oa, kd_oN, kd_os, kd_on, kd_oA, kd_ol, kd_ln]; exact fin _ _ rfl
    | sec s =>
      try simp_arith only [SE.t, kd_self, kd_as, kd_an, kd_aa, kd_ao, kd_aN, kd_Na, kd_Ns, kd_Nn, kd_NA, kd_No, kd_sa, kd_sN, kd_sn, kd_sA, kd_so, kd_na, kd_nN, kd_ns, kd_nA, kd_no, kd_nl, kd_Aa, kd_AN, kd_As, kd_An, kd_Ao, kd_Al, kd_oa, kd_oN, kd_os, kd_on, kd_oA, kd_ol, kd_ln]
      rw [in_ev (y := strsT ns) rfl (fun z h => nomatch h)]
      try simp_arith only []
      exact fin _ _ rfl
    | not e =>
      try simp_arith only [SE.t, kd_self, kd_as, kd_an, kd_aa, kd_ao, kd_aN, kd_Na, kd_Ns, kd_Nn, kd_NA, kd_No, kd_sa, kd_sN, kd_sn, kd_sA, kd_so, kd_na, kd_nN, kd_ns, kd_nA, kd_no, kd_nl, kd_Aa, kd_AN, kd_As, kd_An, kd_Ao, kd_Al, kd_oa, kd_oN, kd_os, kd_on, kd_oA, kd_ol, kd_ln]
      refine member_ok e (Nat.lt_of_succ_lt_succ hd) ?_
      try simp_arith only []
      exact fin _ _ rfl
    | and a b =>
      have ha : a.dep < d := by have : max a.dep b.dep + 1 < d + 1 := hd; omega
      have hb : b.dep < d := by have : max a.dep b.dep + 1 < d + 1 := hd; omega
      try simp_arith only [SE.t, kd_self, kd_as, kd_an, kd_aa, kd_ao, kd_aN, kd_Na, kd_Ns, kd_Nn, kd_NA, kd_No, kd_sa, kd_sN, kd_sn, kd_sA, kd_so, kd_na, kd_nN, kd_ns, kd_nA, kd_no, kd_nl, kd_Aa, kd_AN, kd_As, kd_An, kd_Ao, kd_Al, kd_oa, kd_oN, kd_os, kd_on, kd_oA, kd_ol, kd_ln]
      refine member_ok a ha ?_
      try simp_arith only []
      cases hm : a.mem ns with
      | false => try simp_arith only []; exact fin _ _ (by simp [SE.mem, hm])
      | true =>
        try simp_arith only []
        refine member_ok b hb ?_
        exact fin _ _ (by simp [SE.mem, hm])
    | or a b =>
      have ha : a.dep < d := by have : max a.dep b.dep + 1 < d + 1 := hd; omega
      have hb : b.dep < d := by have : max a.dep b.dep + 1 < d + 1 := hd; omega
      try simp_arith only [SE.t, kd_self, kd_as, kd_an, kd_aa, kd_ao, kd_aN, kd_Na, kd_Ns, kd_Nn, kd_NA, kd_No, kd_sa, kd_sN, kd_sn, kd_sA, kd_so, kd_na, kd_nN, kd_ns, kd_nA, kd_no, kd_nl, kd_Aa, kd_AN, kd_As, kd_An, kd_Ao, kd_Al, kd_oa, kd_oN, kd_os, kd_on, kd_oA, kd_ol, kd_ln]
      refine member_ok a ha ?_
      try simp_arith only []
      cases hm : a.mem ns with
      | true => try simp_arith only []; exact fin _ _ (by simp [SE.mem, hm])
      | false =>
        try simp_arith only []
        refine member_ok b hb ?_
        exact fin _ _ (by simp [SE.mem, hm])
theorem belongs_ok : ∀ {d : Nat} (e : SE) {ss : List Str} {p : Nat} {rest : List T} {S : Sto} {Q : T → Sto → Prop}, cls 0 rest = true → ss.length ≤ 1000 → e.dep < d → Q (.bl (e.mem (namesN 0 p ss))) S → Ok (F_belongs d [.tup (strsT ss :: rest), .int (p : Int), e.t] S) Q
  | 0, e, _, _, _, _, _, _, _, h, _ => absurd h (Nat.not_lt_zero _)
  | d + 1, e, ss, p, rest, S, Q, hc, hl, hd, h => by
    rw [F_belongs]
    refine ok_frame0 (by simp [SE.cl, strsT, hc]) (ok_run ?_)
    have fin : ∀ (b : Bool) (S1 : Sto), b = e.mem (namesN 0 p ss) → endQ (fun t S1 => cl 0 (thaw 0 true t S1) = true ∧ Q (thaw 0 true t S1) S) (.rt (.bl b)) S1 := fun b S1 hb => ⟨by simp, by rw [hb]; simpa using h⟩
    unfold B_belongs
    cases e with
    | all => try simp_arith! only [SE.t, kd_self, kd_as, kd_an, kd_aa, kd_ao, kd_aN, kd_Na, kd_Ns, kd_Nn, kd_NA, kd_No, kd_sa, kd_sN, kd_sn, kd_sA, kd_so, kd_na, kd_nN, kd_ns, kd_nA, kd_no, kd_nl, kd_Aa, kd_AN, kd_As, kd_An, kd_Ao, kd_Al, kd_oa, kd_oN, kd_os, kd_on, kd_oA, kd_ol, kd_ln]; exact fin _ _ rfl
    | none => try simp_arith! only [SE.t, kd_self, kd_as, kd_an, kd_aa, kd_ao, kd_aN, kd_Na, kd_Ns, kd_Nn, kd_NA, kd_No, kd_sa, kd_sN, kd_sn, kd_sA, kd_so, kd_na, kd_nN, kd_ns, kd_nA, kd_no, kd_nl, kd_Aa, kd_AN, kd_As, kd_An, kd_Ao, kd_Al, kd_oa, kd_oN, kd_os, kd_on, kd_oA, kd_ol, kd_ln]; exact fin _ _ rfl
    | sec s =>
      try simp_arith! only [SE.t, kd_self, kd_as, kd_an, kd_aa, kd_ao, kd_aN, kd_Na, kd_Ns, kd_Nn, kd_NA, kd_No, kd_sa, kd_sN, kd_sn, kd_sA, kd_so, kd_na, kd_nN, kd_ns, kd_nA, kd_no, kd_nl, kd_Aa, kd_AN, kd_As, kd_An, kd_Ao, kd_Al, kd_oa, kd_oN, kd_os, kd_on, kd_oA, kd_ol, kd_ln]
      refine names_of_ok hc hl ?_
      rw [in_ev (y := strsT (namesN 0 p ss)) rfl (fun z h => nomatch h)]
      try simp_arith! only []
      exact fin _ _ rfl
    | not e =>
      try simp_arith! only [SE.t, kd_self, kd_as, kd_an, kd_aa, kd_ao, kd_aN, kd_Na, kd_Ns, kd_Nn, kd_NA, kd_No, kd_sa, kd_sN, kd_sn, kd_sA, kd_so, kd_na, kd_nN, kd_ns, kd_nA, kd_no, kd_nl, kd_Aa, kd_AN, kd_As, kd_An, kd_Ao, kd_Al, kd_oa, kd_oN, kd_os, kd_on, kd_oA, kd_ol, kd_ln]
      refine belongs_ok e hc hl (Nat.lt_of_succ_lt_succ hd) ?_
      try simp_arith! only []
      exact fin _ _ rfl
    | and a b =>
      have ha : a.dep < d := by have : max a.dep b.dep + 1 < d + 1 := hd; omega
      have hb : b.dep < d := by have : max a.dep b.dep + 1 < d + 1 := hd; omega
      try simp_arith! only [SE.t, kd_self, kd_as, kd_an, kd_aa, kd_ao, kd_aN, kd_Na, kd_Ns, kd_Nn, kd_NA, kd_No, kd_sa, kd_sN, kd_sn, kd_sA, kd_so, kd_na, kd_nN, kd_ns, kd_nA, kd_no, kd_nl, kd_Aa, kd_AN, kd_As, kd_An, kd_Ao, kd_Al, kd_oa, kd_oN, kd_os, kd_on, kd_oA, kd_ol, kd_ln]
      refine belongs_ok a hc hl ha ?_
      try simp_arith! only []
      cases hm : a.mem (namesN 0 p ss) with
      | false => try simp_arith! only []; exact fin _ _ (by simp [SE.mem, hm])
      | true =>
        try simp_arith! only []
        refine belongs_ok b hc hl hb ?_
        exact fin _ _ (by simp [SE.mem, hm])
    | or a b =>
      have ha : a.dep < d := by have : max a.dep b.dep + 1 < d + 1 := hd; omega
      have hb : b.dep < d := by have : max a.dep b.dep + 1 < d + 1 := hd; omega
      try simp_arith! only [SE.t, kd_self, kd_as, kd_an, kd_aa, kd_ao, kd_aN, kd_Na, kd_Ns, kd_Nn, kd_NA, kd_No, kd_sa, kd_sN, kd_sn, kd_sA, kd_so, kd_na, kd_nN, kd_ns, kd_nA, kd_no, kd_nl, kd_Aa, kd_AN, kd_As, kd_An, kd_Ao, kd_Al, kd_oa, kd_oN, kd_os, kd_on, kd_oA, kd_ol, kd_ln]
      refine belongs_ok a hc hl ha ?_
      try simp_arith! only []
      cases hm : a.mem (namesN 0 p ss) with
      | true => try simp_arith! only []; exact fin _ _ (by simp [SE.mem, hm])
      | false =>
        try simp_arith! only []
        refine belongs_ok b hc hl hb ?_
        exact fin _ _ (by simp [SE.mem, hm])
theorem count_ok {ss : List Str} {rest : List T} {S : Sto} {Q : T → Sto → Prop} (hc : cls 0 rest = true) (hl : ss.length ≤ 1000) (h : Q (.int (2 ^ ss.length : Nat)) S) : Ok (F_profile_count [.tup (strsT ss :: rest)] S) Q := by
  unfold F_profile_count
  refine ok_frame0 (by simp [strsT, hc]) ?_
  generalize hB : B_profile_count = B
  refine ok_run ?_
  subst hB
  unfold B_profile_count
  try simp_arith only [strsT, List.length_map]
  rw [shl_ev (by omega)]
  try simp_arith only [endQ]
  exact ⟨by simp, by simpa using h⟩
theorem belongs_ev {d : Nat} {e : SE} {ss : List Str} {p : Nat} {rest : List T} {S : Sto} (hc : cls 0 rest = true) (hl : ss.length ≤ 1000) (hd : e.dep < d) : F_belongs d [.tup (strsT ss :: rest), .int (p : Int), e.t] S = .ok (.bl (e.mem (namesN 0 p ss))) S := by
  have : Ok (F_belongs d [.tup (strsT ss :: rest), .int (p : Int), e.t] S) fun r S1 => r = .bl (e.mem (namesN 0 p ss)) ∧ S1 = S := belongs_ok e hc hl hd ⟨rfl, rfl⟩
  obtain ⟨a, S1, h1, h2, h3⟩ := this.get
  rw [h1, h2, h3]
theorem member_ev {d : Nat} {e : SE} {ns : List Str} {S : Sto} (hd : e.dep < d) : F__law_member d [e.t, strsT ns] S = .ok (.bl (e.mem ns)) S := by
  have : Ok (F__law_member d [e.t, strsT ns] S) fun r S1 => r = .bl (e.mem ns) ∧ S1 = S := member_ok e hd ⟨rfl, rfl⟩
  obtain ⟨a, S1, h1, h2, h3⟩ := this.get
  rw [h1, h2, h3]
structure SEok (ss : List Str) (f n : Int) (e : SE) : Prop where
  dep : (e.dep : Int) < f
  over : e.over ss
  sz : (e.sz : Int) ≤ n
theorem leaf_ok {t : Tp} {ss : List Str} {rest : Sto} {Q : T → Sto → Prop} (hp : 0 ≤ t.pl) (hl : ss.length ≤ 1000) (h : ∀ (e : SE) (t' : Tp), 0 ≤ t'.pl → SEok ss 1 1 e → Q e.t (t'.o :: rest)) : Ok (F__law_leaf [.ref 0, strsT ss] (t.o :: rest)) Q := by
  unfold F__law_leaf
  refine ok_frame1 (by simp [strsT]) t.clO (ok_run ?_)
  unfold B__law_leaf
  have fin : ∀ (e : SE) (t1 : Tp), 0 ≤ t1.pl → SEok ss 1 1 e → endQ (fun t S1 => ∃ o' g, S1 = o' :: g ∧ clO 1 o' = true ∧ cl 1 (thaw 1 true t S1) = true ∧ Q (thaw 1 true t S1) (o' :: rest)) (.rt e.t) [t1.o] := fun e t1 hp1 he => by
    have he1 : ∀ S, thaw 1 true e.t S = e.t := fun S => by cases e <;> simp [SE.t]
    exact ⟨t1.o, [], rfl, t1.clO, by rw [he1]; exact e.cl 1, by rw [he1]; exact h e t1 hp1 he⟩
  try simp_arith only [strsT, List.length_map]
  have em := ev_mul (i := 2) (j := (ss.length : Int)) (S := [t.o]) (by omega)
  try simp_arith only [em]
  refine draw_ok hp (by omega) fun n t1 hp1 hn0 hn => ?_
  try simp_arith only []
  by_cases c : n < 2
  · rw [decide_eq_true c]
    try simp_arith only []
    have : n = 0 ∨ n = 1 := by omega
    rcases this with rfl | rfl
    · try simp_arith only []
      exact fin .all t1 hp1 ⟨by decide, trivial, by decide⟩
    · try simp_arith only []
      exact fin .none t1 hp1 ⟨by decide, trivial, by decide⟩
  · rw [decide_eq_false c]
    try simp_arith only []
    have ed := ev_div (i := n) (j := 2) (S := [t1.o]) (by decide)
    try simp_arith only [ed]
    have hi : n / 2 - 1 < ss.length := by omega
    rw [atI_strs (by omega) hi]
    try simp_arith only []
    refine fin (.sec (ss.getD (n / 2 - 1).toNat "")) t1 hp1 ⟨by show (0 : Int) < 1; decide, ?_, by show (1 : Int) ≤ 1; decide⟩
    show _ ∈ ss
    rw [List.getD_eq_getElem?_getD, List.getElem?_eq_getElem (by omega)]
    exact List.getElem_mem _
theorem kind_at {n : Int} (h0 : 0 ≤ n) (h : n < 8) : ∃ k : Str, L2.atI [T.str "or", .str "and", .str "not", .str "or", .str "and", .str "or", .str "and", .str "leaf"] n = some (.str k) ∧ (k = "or" ∨ k = "and" ∨ k = "not" ∨ k = "leaf") := by
  have : n = 0 ∨ n = 1 ∨ n = 2 ∨ n = 3 ∨ n = 4 ∨ n = 5 ∨ n = 6 ∨ n = 7 := by omega
  rcases this with rfl | rfl | rfl | rfl | rfl | rfl | rfl | rfl
  · exact ⟨"or", rfl, .inl rfl⟩
  · exact ⟨"and", rfl, .inr (.inl rfl)⟩
  · exact ⟨"not", rfl, .inr (.inr (.inl rfl))⟩
  · exact ⟨"or", rfl, .inl rfl⟩
  · exact ⟨"and", rfl, .inr (.inl rfl)⟩
  · exact ⟨"or", rfl, .inl rfl⟩
  · exact ⟨"and", rfl, .inr (.inl rfl)⟩
  · exact ⟨"leaf", rfl, .inr (.inr (.inr rfl))⟩
theorem rank_or (S : Sto) : fIndex (.lst [.str "or", .str "and", .str "not"]) [.str "or"] S = .ok (.int 0) S := by rfl
theorem rank_and (S : Sto) : fIndex (.lst [.str "or", .str "and", .str "not"]) [.str "and"] S = .ok (.int 1) S := by rfl
theorem rank_not (S : Sto) : fIndex (.lst [.str "or", .str "and", .str "not"]) [.str "not"] S = .ok (.int 2) S := by rfl
theorem sector_ok : ∀ {f : Nat} {t : Tp} {ss : List Str} {size depth level : Int} {rest : Sto} {Q : T → Sto → Prop}, 0 ≤ t.pl → ss.length ≤ 1000 → 1 ≤ size → size ≤ 1000 → 0 ≤ depth → 0 ≤ level → level ≤ 3 → size + depth + (if level ≤ 2 then 1 else 0) < f →
    (∀ (e : SE) (t' : Tp), 0 ≤ t'.pl → SEok ss (size + depth + (if level ≤ 2 then 1 else 0)) size e → Q e.t (t'.o :: rest)) → Ok (F__law_sector f [.ref 0, strsT ss, .int size, .int depth, .int level] (t.o :: rest)) Q
  | 0, _, _, _, _, _, _, _, _, _, _, _, _, _, _, hf, _ => by split at hf <;> omega
  | f + 1, t, ss, size, depth, level, rest, Q, hp, hl, hs1, hs2, hd, hv0, hv, hf, h => by
    rw [F__law_sector]
    refine ok_frame1 (by simp [strsT]) t.clO (ok_run ?_)
    have fin : ∀ (e : SE) (t1 : Tp), 0 ≤ t1.pl → SEok ss (size + depth + (if level ≤ 2 then 1 else 0)) size e → endQ (fun t S1 => ∃ o' g, S1 = o' :: g ∧ clO 1 o' = true ∧ cl 1 (thaw 1 true t S1) = true ∧ Q (thaw 1 true t S1) (o' :: rest)) (.rt e.t) [t1.o] := fun e t1 hp1 he => by
      have he1 : ∀ S, thaw 1 true e.t S = e.t := fun S => by cases e <;> simp [SE.t]
      exact ⟨t1.o, [], rfl, t1.clO, by rw [he1]; exact e.cl 1, by rw [he1]; exact h e t1 hp1 he⟩
    have hMM : ∃ M : Int, M = size + depth + (if level ≤ 2 then 1 else 0) ∧ (level ≤ 2 ∧ M = size + depth + 1 ∨ level = 3 ∧ M = size + depth) := by
      refine ⟨_, rfl, ?_⟩
      by_cases c : level ≤ 2
      · rw [if_pos c]; omega
      · rw [if_neg c]; omega
    obtain ⟨M, hM, hM2⟩ := hMM
    rw [← hM] at hf fin
    have hf : M < (f : Int) + 1 := by omega
    clear h hM
    have finL : ∀ (e : SE) (t1 : Tp), 0 ≤ t1.pl → SEok ss 1 1 e → endQ (fun t S1 => ∃ o' g, S1 = o' :: g ∧ clO 1 o' = true ∧ cl 1 (thaw 1 true t S1) = true ∧ Q (thaw 1 true t S1) (o' :: rest)) (.rt e.t) [t1.o] := fun e t1 hp1 he =>
      fin e t1 hp1 ⟨by have := he.dep; omega, he.over, by have := he.sz; omega⟩
    unfold B__law_sector
    try simp_arith only []
    refine draw_ok hp (by decide) fun n t1 hp1 hn0 hn => ?_
    obtain ⟨k, hk, hkk⟩ := kind_at hn0 (by omega)
    try simp_arith only [hk]
    rcases hkk with rfl | rfl | rfl | rfl
    · by_cases c0 : size < 2
      · try simp_arith only [kd_self, kd_as, kd_an, kd_aa, kd_ao, kd_aN, kd_Na, kd_Ns, kd_Nn, kd_NA, kd_No, kd_sa, kd_sN, kd_sn, kd_sA, kd_so, kd_na, kd_nN, kd_ns, kd_nA, kd_no, kd_nl, kd_Aa, kd_AN, kd_As, kd_An, kd_Ao, kd_Al, kd_oa, kd_oN, kd_os, kd_on, kd_oA, kd_ol, kd_ln, rank_or, rank_and, rank_not, decide_eq_true c0]
        refine leaf_ok hp1 hl fun e t2 hp2 he => finL e t2 hp2 he
      · try simp_arith only [kd_self, kd_as, kd_an, kd_aa, kd_ao, kd_aN, kd_Na, kd_Ns, kd_Nn, kd_NA, kd_No, kd_sa, kd_sN, kd_sn, kd_sA, kd_so, kd_na, kd_nN, kd_ns, kd_nA, kd_no, kd_nl, kd_Aa, kd_AN, kd_As, kd_An, kd_Ao, kd_Al, kd_oa, kd_oN, kd_os, kd_on, kd_oA, kd_ol, kd_ln, rank_or, rank_and, rank_not, decide_eq_false c0]
        by_cases c1 : (0 : Int) < level
        · by_cases c2 : depth = 0
          · try simp_arith only [kd_self, kd_as, kd_an, kd_aa, kd_ao, kd_aN, kd_Na, kd_Ns, kd_Nn, kd_NA, kd_No, kd_sa, kd_sN, kd_sn, kd_sA, kd_so, kd_na, kd_nN, kd_ns, kd_nA, kd_no, kd_nl, kd_Aa, kd_AN, kd_As, kd_An, kd_Ao, kd_Al, kd_oa, kd_oN, kd_os, kd_on, kd_oA, kd_ol, kd_ln, rank_or, rank_and, rank_not, decide_eq_true c1, decide_eq_true c2]
            refine leaf_ok hp1 hl fun e t2 hp2 he => finL e t2 hp2 he
          · try simp_arith only [kd_self, kd_as, kd_an, kd_aa, kd_ao, kd_aN, kd_Na, kd_Ns, kd_Nn, kd_NA, kd_No, kd_sa, kd_sN, kd_sn, kd_sA, kd_so, kd_na, kd_nN, kd_ns, kd_nA, kd_no, kd_nl, kd_Aa, kd_AN, kd_As, kd_An, kd_Ao, kd_Al, kd_oa, kd_oN, kd_os, kd_on, kd_oA, kd_ol, kd_ln, rank_or, rank_and, rank_not, decide_eq_true c1, decide_eq_false c2]
            try simp_arith only [kd_self, kd_as, kd_an, kd_aa, kd_ao, kd_aN, kd_Na, kd_Ns, kd_Nn, kd_NA, kd_No, kd_sa, kd_sN, kd_sn, kd_sA, kd_so, kd_na, kd_nN, kd_ns, kd_nA, kd_no, kd_nl, kd_Aa, kd_AN, kd_As, kd_An, kd_Ao, kd_Al, kd_oa, kd_oN, kd_os, kd_on, kd_oA, kd_ol, kd_ln, rank_or, rank_and, rank_not]
            refine draw_ok hp1 (by omega) fun n2 t2 hp2 hn20 hn2 => ?_
            try simp_arith only [kd_self, kd_as, kd_an, kd_aa, kd_ao, kd_aN, kd_Na, kd_Ns, kd_Nn, kd_NA, kd_No, kd_sa, kd_sN, kd_sn, kd_sA, kd_so, kd_na, kd_nN, kd_ns, kd_nA, kd_no, kd_nl, kd_Aa, kd_AN, kd_As, kd_An, kd_Ao, kd_Al, kd_oa, kd_oN, kd_os, kd_on, kd_oA, kd_ol, kd_ln, rank_or, rank_and, rank_not]
            refine sector_ok hp2 hl (by omega) (by omega) (by omega) (by omega) (by omega) (by rw [if_pos (by decide)]; omega) fun a t3 hp3 ha => ?_
            try simp_arith only [kd_self, kd_as, kd_an, kd_aa, kd_ao, kd_aN, kd_Na, kd_Ns, kd_Nn, kd_NA, kd_No, kd_sa, kd_sN, kd_sn, kd_sA, kd_so, kd_na, kd_nN, kd_ns, kd_nA, kd_no, kd_nl, kd_Aa, kd_AN, kd_As, kd_An, kd_Ao, kd_Al, kd_oa, kd_oN, kd_os, kd_on, kd_oA, kd_ol, kd_ln, rank_or, rank_and, rank_not]
            refine sector_ok hp3 hl (by omega) (by omega) (by omega) (by omega) (by omega) (by rw [if_pos (by decide)]; omega) fun b t4 hp4 hb => ?_
            try simp_arith only [kd_self, kd_as, kd_an, kd_aa, kd_ao, kd_aN, kd_Na, kd_Ns, kd_Nn, kd_NA, kd_No, kd_sa, kd_sN, kd_sn, kd_sA, kd_so, kd_na, kd_nN, kd_ns, kd_nA, kd_no, kd_nl, kd_Aa, kd_AN, kd_As, kd_An, kd_Ao, kd_Al, kd_oa, kd_oN, kd_os, kd_on, kd_oA, kd_ol, kd_ln, rank_or, rank_and, rank_not]
            have hd1 := ha.dep
            have hd2 := hb.dep
            have hz1 := ha.sz
            have hz2 := hb.sz
            rw [if_pos (by decide)] at hd1 hd2
            refine fin (.or a b) t4 hp4 ⟨?_, ⟨ha.over, hb.over⟩, ?_⟩
            · show ((max a.dep b.dep + 1 : Nat) : Int) < M; omega
            · show ((a.sz + b.sz : Nat) : Int) ≤ size; omega
        · try simp_arith only [kd_self, kd_as, kd_an, kd_aa, kd_ao, kd_aN, kd_Na, kd_Ns, kd_Nn, kd_NA, kd_No, kd_sa, kd_sN, kd_sn, kd_sA, kd_so, kd_na, kd_nN, kd_ns, kd_nA, kd_no, kd_nl, kd_Aa, kd_AN, kd_As, kd_An, kd_Ao, kd_Al, kd_oa, kd_oN, kd_os, kd_on, kd_oA, kd_ol, kd_ln, rank_or, rank_and, rank_not, decide_eq_false c1]
          try simp_arith only [kd_self, kd_as, kd_an, kd_aa, kd_ao, kd_aN, kd_Na, kd_Ns, kd_Nn, kd_NA, kd_No, kd_sa, kd_sN, kd_sn, kd_sA, kd_so, kd_na, kd_nN, kd_ns, kd_nA, kd_no, kd_nl, kd_Aa, kd_AN, kd_As, kd_An, kd_Ao, kd_Al, kd_oa, kd_oN, kd_os, kd_on, kd_oA, kd_ol, kd_ln, rank_or, rank_and, rank_not]
          refine draw_ok hp1 (by omega) fun n2 t2 hp2 hn20 hn2 => ?_
          try simp_arith only [kd_self, kd_as, kd_an, kd_aa, kd_ao, kd_aN, kd_Na, kd_Ns, kd_Nn, kd_NA, kd_No, kd_sa, kd_sN, kd_sn, kd_sA, kd_so, kd_na, kd_nN, kd_ns, kd_nA, kd_no, kd_nl, kd_Aa, kd_AN, kd_As, kd_An, kd_Ao, kd_Al, kd_oa, kd_oN, kd_os, kd_on, kd_oA, kd_ol, kd_ln, rank_or, rank_and, rank_not]
          refine sector_ok hp2 hl (by omega) (by omega) (by omega) (by omega) (by omega) (by rw [if_pos (by decide)]; omega) fun a t3 hp3 ha => ?_
          try simp_arith only [kd_self, kd_as, kd_an, kd_aa, kd_ao, kd_aN, kd_Na, kd_Ns, kd_Nn, kd_NA, kd_No, kd_sa, kd_sN, kd_sn, kd_sA, kd_so, kd_na, kd_nN, kd_ns, kd_nA, kd_no, kd_nl, kd_Aa, kd_AN, kd_As, kd_An, kd_Ao, kd_Al, kd_oa, kd_oN, kd_os, kd_on, kd_oA, kd_ol, kd_ln, rank_or, rank_and, rank_not]
          refine sector_ok hp3 hl (by omega) (by omega) (by omega) (by omega) (by omega) (by rw [if_pos (by decide)]; omega) fun b t4 hp4 hb => ?_
          try simp_arith only [kd_self, kd_as, kd_an, kd_aa, kd_ao, kd_aN, kd_Na, kd_Ns, kd_Nn, kd_NA, kd_No, kd_sa, kd_sN, kd_sn, kd_sA, kd_so, kd_na, kd_nN, kd_ns, kd_nA, kd_no, kd_nl, kd_Aa, kd_AN, kd_As, kd_An, kd_Ao, kd_Al, kd_oa, kd_oN, kd_os, kd_on, kd_oA, kd_ol, kd_ln, rank_or, rank_and, rank_not]
          have hd1 := ha.dep
          have hd2 := hb.dep
          have hz1 := ha.sz
          have hz2 := hb.sz
          rw [if_pos (by decide)] at hd1 hd2
          refine fin (.or a b) t4 hp4 ⟨?_, ⟨ha.over, hb.over⟩, ?_⟩
          · show ((max a.dep b.dep + 1 : Nat) : Int) < M; omega
          · show ((a.sz + b.sz : Nat) : Int) ≤ size; omega
    · by_cases c0 : size < 2
      · try simp_arith only [kd_self, kd_as, kd_an, kd_aa, kd_ao, kd_aN, kd_Na, kd_Ns, kd_Nn, kd_NA, kd_No, kd_sa, kd_sN, kd_sn, kd_sA, kd_so, kd_na, kd_nN, kd_ns, kd_nA, kd_no, kd_nl, kd_Aa, kd_AN, kd_As, kd_An, kd_Ao, kd_Al, kd_oa, kd_oN, kd_os, kd_on, kd_oA, kd_ol, kd_ln, rank_or, rank_and, rank_not, decide_eq_true c0]
        refine leaf_ok hp1 hl fun e t2 hp2 he => finL e t2 hp2 he
      · try simp_arith only [kd_self, kd_as, kd_an, kd_aa, kd_ao, kd_aN, kd_Na, kd_Ns, kd_Nn, kd_NA, kd_No, kd_sa, kd_sN, kd_sn, kd_sA, kd_so, kd_na, kd_nN, kd_ns, kd_nA, kd_no, kd_nl, kd_Aa, kd_AN, kd_As, kd_An, kd_Ao, kd_Al, kd_oa, kd_oN, kd_os, kd_on, kd_oA, kd_ol, kd_ln, rank_or, rank_and, rank_not, decide_eq_false c0]
        by_cases c1 : (1 : Int) < level
        · by_cases c2 : depth = 0
          · try simp_arith only [kd_self, kd_as, kd_an, kd_aa, kd_ao, kd_aN, kd_Na, kd_Ns, kd_Nn, kd_NA, kd_No, kd_sa, kd_sN, kd_sn, kd_sA, kd_so, kd_na, kd_nN, kd_ns, kd_nA, kd_no, kd_nl, kd_Aa, kd_AN, kd_As, kd_An, kd_Ao, kd_Al, kd_oa, kd_oN, kd_os, kd_on, kd_oA, kd_ol, kd_ln, rank_or, rank_and, rank_not, decide_eq_true c1, decide_eq_true c2]
            refine leaf_ok hp1 hl fun e t2 hp2 he => finL e t2 hp2 he
          · try simp_arith only [kd_self, kd_as, kd_an, kd_aa, kd_ao, kd_aN, kd_Na, kd_Ns, kd_Nn, kd_NA, kd_No, kd_sa, kd_sN, kd_sn, kd_sA, kd_so, kd_na, kd_nN, kd_ns, kd_nA, kd_no, kd_nl, kd_Aa, kd_AN, kd_As, kd_An, kd_Ao, kd_Al, kd_oa, kd_oN, kd_os, kd_on, kd_oA, kd_ol, kd_ln, rank_or, rank_and, rank_not, decide_eq_true c1, decide_eq_false c2]
            try simp_arith only [kd_self, kd_as, kd_an, kd_aa, kd_ao, kd_aN, kd_Na, kd_Ns, kd_Nn, kd_NA, kd_No, kd_sa, kd_sN, kd_sn, kd_sA, kd_so, kd_na, kd_nN, kd_ns, kd_nA, kd_no, kd_nl, kd_Aa, kd_AN, kd_As, kd_An, kd_Ao, kd_Al, kd_oa, kd_oN, kd_os, kd_on, kd_oA, kd_ol, kd_ln, rank_or, rank_and, rank_not]
            refine draw_ok hp1 (by omega) fun n2 t2 hp2 hn20 hn2 => ?_
            try simp_arith only [kd_self, kd_as, kd_an, kd_aa, kd_ao, kd_aN, kd_Na, kd_Ns, kd_Nn, kd_NA, kd_No, kd_sa, kd_sN, kd_sn, kd_sA, kd_so, kd_na, kd_nN, kd_ns, kd_nA, kd_no, kd_nl, kd_Aa, kd_AN, kd_As, kd_An, kd_Ao, kd_Al, kd_oa, kd_oN, kd_os, kd_on, kd_oA, kd_ol, kd_ln, rank_or, rank_and, rank_not]
            refine sector_ok hp2 hl (by omega) (by omega) (by omega) (by omega) (by omega) (by rw [if_pos (by decide)]; omega) fun a t3 hp3 ha => ?_
            try simp_arith only [kd_self, kd_as, kd_an, kd_aa, kd_ao, kd_aN, kd_Na, kd_Ns, kd_Nn, kd_NA, kd_No, kd_sa, kd_sN, kd_sn, kd_sA, kd_so, kd_na, kd_nN, kd_ns, kd_nA, kd_no, kd_nl, kd_Aa, kd_AN, kd_As, kd_An, kd_Ao, kd_Al, kd_oa, kd_oN, kd_os, kd_on, kd_oA, kd_ol, kd_ln, rank_or, rank_and, rank_not]
            refine sector_ok hp3 hl (by omega) (by omega) (by omega) (by omega) (by omega) (by rw [if_pos (by decide)]; omega) fun b t4 hp4 hb => ?_
            try simp_arith only [kd_self, kd_as, kd_an, kd_aa, kd_ao, kd_aN, kd_Na, kd_Ns, kd_Nn, kd_NA, kd_No, kd_sa, kd_sN, kd_sn, kd_sA, kd_so, kd_na, kd_nN, kd_ns, kd_nA, kd_no, kd_nl, kd_Aa, kd_AN, kd_As, kd_An, kd_Ao, kd_Al, kd_oa, kd_oN, kd_os, kd_on, kd_oA, kd_ol, kd_ln, rank_or, rank_and, rank_not]
            have hd1 := ha.dep
            have hd2 := hb.dep
            have hz1 := ha.sz
            have hz2 := hb.sz
            rw [if_pos (by decide)] at hd1 hd2
            refine fin (.and a b) t4 hp4 ⟨?_, ⟨ha.over, hb.over⟩, ?_⟩
            · show ((max a.dep b.dep + 1 : Nat) : Int) < M; omega
            · show ((a.sz + b.sz : Nat) : Int) ≤ size; omega
        · try simp_arith only [kd_self, kd_as, kd_an, kd_aa, kd_ao, kd_aN, kd_Na, kd_Ns, kd_Nn, kd_NA, kd_No, kd_sa, kd_sN, kd_sn, kd_sA, kd_so, kd_na, kd_nN, kd_ns, kd_nA, kd_no, kd_nl, kd_Aa, kd_AN, kd_As, kd_An, kd_Ao, kd_Al, kd_oa, kd_oN, kd_os, kd_on, kd_oA, kd_ol, kd_ln, rank_or, rank_and, rank_not, decide_eq_false c1]
          try simp_arith only [kd_self, kd_as, kd_an, kd_aa, kd_ao, kd_aN, kd_Na, kd_Ns, kd_Nn, kd_NA, kd_No, kd_sa, kd_sN, kd_sn, kd_sA, kd_so, kd_na, kd_nN, kd_ns, kd_nA, kd_no, kd_nl, kd_Aa, kd_AN, kd_As, kd_An, kd_Ao, kd_Al, kd_oa, kd_oN, kd_os, kd_on, kd_oA, kd_ol, kd_ln, rank_or, rank_and, rank_not]
          refine draw_ok hp1 (by omega) fun n2 t2 hp2 hn20 hn2 => ?_
          try simp_arith only [kd_self, kd_as, kd_an, kd_aa, kd_ao, kd_aN, kd_Na, kd_Ns, kd_Nn, kd_NA, kd_No, kd_sa, kd_sN, kd_sn, kd_sA, kd_so, kd_na, kd_nN, kd_ns, kd_nA, kd_no, kd_nl, kd_Aa, kd_AN, kd_As, kd_An, kd_Ao, kd_Al, kd_oa, kd_oN, kd_os, kd_on, kd_oA, kd_ol, kd_ln, rank_or, rank_and, rank_not]
          refine sector_ok hp2 hl (by omega) (by omega) (by omega) (by omega) (by omega) (by rw [if_pos (by decide)]; omega) fun a t3 hp3 ha => ?_
          try simp_arith only [kd_self, kd_as, kd_an, kd_aa, kd_ao, kd_aN, kd_Na, kd_Ns, kd_Nn, kd_NA, kd_No, kd_sa, kd_sN, kd_sn, kd_sA, kd_so, kd_na, kd_nN, kd_ns, kd_nA, kd_no, kd_nl, kd_Aa, kd_AN, kd_As, kd_An, kd_Ao, kd_Al, kd_oa, kd_oN, kd_os, kd_on, kd_oA, kd_ol, kd_ln, rank_or, rank_and, rank_not]
          refine sector_ok hp3 hl (by omega) (by omega) (by omega) (by omega) (by omega) (by rw [if_pos (by decide)]; omega) fun b t4 hp4 hb => ?_
          try simp_arith only [kd_self, kd_as, kd_an, kd_aa, kd_ao, kd_aN, kd_Na, kd_Ns, kd_Nn, kd_NA, kd_No, kd_sa, kd_sN, kd_sn, kd_sA, kd_so, kd_na, kd_nN, kd_ns, kd_nA, kd_no, kd_nl, kd_Aa, kd_AN, kd_As, kd_An, kd_Ao, kd_Al, kd_oa, kd_oN, kd_os, kd_on, kd_oA, kd_ol, kd_ln, rank_or, rank_and, rank_not]
          have hd1 := ha.dep
          have hd2 := hb.dep
          have hz1 := ha.sz
          have hz2 := hb.sz
          rw [if_pos (by decide)] at hd1 hd2
          refine fin (.and a b) t4 hp4 ⟨?_, ⟨ha.over, hb.over⟩, ?_⟩
          · show ((max a.dep b.dep + 1 : Nat) : Int) < M; omega
          · show ((a.sz + b.sz : Nat) : Int) ≤ size; omega
    · by_cases c0 : size < 2
      · skip
        by_cases c1 : (2 : Int) < level
        · by_cases c2 : depth = 0
          · try simp_arith only [kd_self, kd_as, kd_an, kd_aa, kd_ao, kd_aN, kd_Na, kd_Ns, kd_Nn, kd_NA, kd_No, kd_sa, kd_sN, kd_sn, kd_sA, kd_so, kd_na, kd_nN, kd_ns, kd_nA, kd_no, kd_nl, kd_Aa, kd_AN, kd_As, kd_An, kd_Ao, kd_Al, kd_oa, kd_oN, kd_os, kd_on, kd_oA, kd_ol, kd_ln, rank_or, rank_and, rank_not, decide_eq_true c0, decide_eq_true c1, decide_eq_true c2]
            refine leaf_ok hp1 hl fun e t2 hp2 he => finL e t2 hp2 he
          · try simp_arith only [kd_self, kd_as, kd_an, kd_aa, kd_ao, kd_aN, kd_Na, kd_Ns, kd_Nn, kd_NA, kd_No, kd_sa, kd_sN, kd_sn, kd_sA, kd_so, kd_na, kd_nN, kd_ns, kd_nA, kd_no, kd_nl, kd_Aa, kd_AN, kd_As, kd_An, kd_Ao, kd_Al, kd_oa, kd_oN, kd_os, kd_on, kd_oA, kd_ol, kd_ln, rank_or, rank_and, rank_not, decide_eq_true c0, decide_eq_true c1, decide_eq_false c2]
            refine sector_ok hp1 hl (by omega) (by omega) (by omega) (by omega) (by omega) (by rw [if_neg (by decide)]; omega) fun a t3 hp3 ha => ?_
            try simp_arith only [kd_self, kd_as, kd_an, kd_aa, kd_ao, kd_aN, kd_Na, kd_Ns, kd_Nn, kd_NA, kd_No, kd_sa, kd_sN, kd_sn, kd_sA, kd_so, kd_na, kd_nN, kd_ns, kd_nA, kd_no, kd_nl, kd_Aa, kd_AN, kd_As, kd_An, kd_Ao, kd_Al, kd_oa, kd_oN, kd_os, kd_on, kd_oA, kd_ol, kd_ln, rank_or, rank_and, rank_not]
            have hd1 := ha.dep
            have hz1 := ha.sz
            rw [if_neg (by decide)] at hd1
            refine fin (.not a) t3 hp3 ⟨?_, ha.over, hz1⟩
            show ((a.dep + 1 : Nat) : Int) < M; omega
        · try simp_arith only [kd_self, kd_as, kd_an, kd_aa, kd_ao, kd_aN, kd_Na, kd_Ns, kd_Nn, kd_NA, kd_No, kd_sa, kd_sN, kd_sn, kd_sA, kd_so, kd_na, kd_nN, kd_ns, kd_nA, kd_no, kd_nl, kd_Aa, kd_AN, kd_As, kd_An, kd_Ao, kd_Al, kd_oa, kd_oN, kd_os, kd_on, kd_oA, kd_ol, kd_ln, rank_or, rank_and, rank_not, decide_eq_true c0, decide_eq_false c1]
          refine sector_ok hp1 hl (by omega) (by omega) (by omega) (by omega) (by omega) (by rw [if_neg (by decide)]; omega) fun a t3 hp3 ha => ?_
          try simp_arith only [kd_self, kd_as, kd_an, kd_aa, kd_ao, kd_aN, kd_Na, kd_Ns, kd_Nn, kd_NA, kd_No, kd_sa, kd_sN, kd_sn, kd_sA, kd_so, kd_na, kd_nN, kd_ns, kd_nA, kd_no, kd_nl, kd_Aa, kd_AN, kd_As, kd_An, kd_Ao, kd_Al, kd_oa, kd_oN, kd_os, kd_on, kd_oA, kd_ol, kd_ln, rank_or, rank_and, rank_not]
          have hd1 := ha.dep
          have hz1 := ha.sz
          rw [if_neg (by decide)] at hd1
          refine fin (.not a) t3 hp3 ⟨?_, ha.over, hz1⟩
          show ((a.dep + 1 : Nat) : Int) < M; omega
      · skip
        by_cases c1 : (2 : Int) < level
        · by_cases c2 : depth = 0
          · try simp_arith only [kd_self, kd_as, kd_an, kd_aa, kd_ao, kd_aN, kd_Na, kd_Ns, kd_Nn, kd_NA, kd_No, kd_sa, kd_sN, kd_sn, kd_sA, kd_so, kd_na, kd_nN, kd_ns, kd_nA, kd_no, kd_nl, kd_Aa, kd_AN, kd_As, kd_An, kd_Ao, kd_Al, kd_oa, kd_oN, kd_os, kd_on, kd_oA, kd_ol, kd_ln, rank_or, rank_and, rank_not, decide_eq_false c0, decide_eq_true c1, decide_eq_true c2]
            refine leaf_ok hp1 hl fun e t2 hp2 he => finL e t2 hp2 he
          · try simp_arith only [kd_self, kd_as, kd_an, kd_aa, kd_ao, kd_aN, kd_Na, kd_Ns, kd_Nn, kd_NA, kd_No, kd_sa, kd_sN, kd_sn, kd_sA, kd_so, kd_na, kd_nN, kd_ns, kd_nA, kd_no, kd_nl, kd_Aa, kd_AN, kd_As, kd_An, kd_Ao, kd_Al, kd_oa, kd_oN, kd_os, kd_on, kd_oA, kd_ol, kd_ln, rank_or, rank_and, rank_not, decide_eq_false c0, decide_eq_true c1, decide_eq_false c2]
            refine sector_ok hp1 hl (by omega) (by omega) (by omega) (by omega) (by omega) (by rw [if_neg (by decide)]; omega) fun a t3 hp3 ha => ?_
            try simp_arith only [kd_self, kd_as, kd_an, kd_aa, kd_ao, kd_aN, kd_Na, kd_Ns, kd_Nn, kd_NA, kd_No, kd_sa, kd_sN, kd_sn, kd_sA, kd_so, kd_na, kd_nN, kd_ns, kd_nA, kd_no, kd_nl, kd_Aa, kd_AN, kd_As, kd_An, kd_Ao, kd_Al, kd_oa, kd_oN, kd_os, kd_on, kd_oA, kd_ol, kd_ln, rank_or, rank_and, rank_not]
            have hd1 := ha.dep
            have hz1 := ha.sz
            rw [if_neg (by decide)] at hd1
            refine fin (.not a) t3 hp3 ⟨?_, ha.over, hz1⟩
            show ((a.dep + 1 : Nat) : Int) < M; omega
        · try simp_arith only [kd_self, kd_as, kd_an, kd_aa, kd_ao, kd_aN, kd_Na, kd_Ns, kd_Nn, kd_NA, kd_No, kd_sa, kd_sN, kd_sn, kd_sA, kd_so, kd_na, kd_nN, kd_ns, kd_nA, kd_no, kd_nl, kd_Aa, kd_AN, kd_As, kd_An, kd_Ao, kd_Al, kd_oa, kd_oN, kd_os, kd_on, kd_oA, kd_ol, kd_ln, rank_or, rank_and, rank_not, decide_eq_false c0, decide_eq_false c1]
          refine sector_ok hp1 hl (by omega) (by omega) (by omega) (by omega) (by omega) (by rw [if_neg (by decide)]; omega) fun a t3 hp3 ha => ?_
          try simp_arith only [kd_self, kd_as, kd_an, kd_aa, kd_ao, kd_aN, kd_Na, kd_Ns, kd_Nn, kd_NA, kd_No, kd_sa, kd_sN, kd_sn, kd_sA, kd_so, kd_na, kd_nN, kd_ns, kd_nA, kd_no, kd_nl, kd_Aa, kd_AN, kd_As, kd_An, kd_Ao, kd_Al, kd_oa, kd_oN, kd_os, kd_on, kd_oA, kd_ol, kd_ln, rank_or, rank_and, rank_not]
          have hd1 := ha.dep
          have hz1 := ha.sz
          rw [if_neg (by decide)] at hd1
          refine fin (.not a) t3 hp3 ⟨?_, ha.over, hz1⟩
          show ((a.dep + 1 : Nat) : Int) < M; omega
    · by_cases c0 : size < 2
      · try simp_arith only [kd_self, kd_as, kd_an, kd_aa, kd_ao, kd_aN, kd_Na, kd_Ns, kd_Nn, kd_NA, kd_No, kd_sa, kd_sN, kd_sn, kd_sA, kd_so, kd_na, kd_nN, kd_ns, kd_nA, kd_no, kd_nl, kd_Aa, kd_AN, kd_As, kd_An, kd_Ao, kd_Al, kd_oa, kd_oN, kd_os, kd_on, kd_oA, kd_ol, kd_ln, rank_or, rank_and, rank_not, decide_eq_true c0]
        refine leaf_ok hp1 hl fun e t2 hp2 he => finL e t2 hp2 he
      · try simp_arith only [kd_self, kd_as, kd_an, kd_aa, kd_ao, kd_aN, kd_Na, kd_Ns, kd_Nn, kd_NA, kd_No, kd_sa, kd_sN, kd_sn, kd_sA, kd_so, kd_na, kd_nN, kd_ns, kd_nA, kd_no, kd_nl, kd_Aa, kd_AN, kd_As, kd_An, kd_Ao, kd_Al, kd_oa, kd_oN, kd_os, kd_on, kd_oA, kd_ol, kd_ln, rank_or, rank_and, rank_not, decide_eq_false c0]
        refine leaf_ok hp1 hl fun e t2 hp2 he => finL e t2 hp2 he
theorem SEok.le {ss : List Str} {f n f' n' : Int} {e : SE} (h : SEok ss f n e) (hf : f ≤ f') (hn : n ≤ n') : SEok ss f' n' e := ⟨by have := h.dep; omega, h.over, by have := h.sz; omega⟩
theorem deep_ok {t : Tp} {ss : List Str} {depth : Int} {rest : Sto} {Q : T → Sto → Prop} (hp : 0 ≤ t.pl) (hl : ss.length ≤ 1000) (h0 : 0 ≤ depth) (h1 : depth ≤ 100) (h : ∀ (e : SE) (t' : Tp), 0 ≤ t'.pl → SEok ss (2 + depth) (2 + depth) e → Q e.t (t'.o :: rest)) : Ok (F__law_deep [.ref 0, strsT ss, .int depth] (t.o :: rest)) Q := by
  unfold F__law_deep
  refine ok_frame1 (by simp [strsT]) t.clO (ok_run ?_)
  unfold B__law_deep
  have fin : ∀ (e : SE) (t1 : Tp), 0 ≤ t1.pl → SEok ss (2 + depth) (2 + depth) e → endQ (fun t S1 => ∃ o' g, S1 = o' :: g ∧ clO 1 o' = true ∧ cl 1 (Fx.thaw 1 true t S1) = true ∧ Q (Fx.thaw 1 true t S1) (o' :: rest)) (.rt e.t) [t1.o] := fun e t1 hp1 he => by
    exact ⟨t1.o, [], rfl, t1.clO, by rw [SE.thaw]; exact e.cl 1, by rw [SE.thaw]; exact h e t1 hp1 he⟩
  try simp_arith! only []
  refine leaf_ok hp hl fun a t1 hp1 ha => ?_
  try simp_arith! only []
  refine leaf_ok hp1 hl fun b t2 hp2 hb => ?_
  try simp_arith! only []
  rw [range1_ev _ _ (by omega)]
  try simp_arith! only []
  have hi : SEok ss (2 + (0 : Nat)) (2 + (0 : Nat)) (.or a b) := by
    have h1 := ha.dep
    have h2 := hb.dep
    have h3 := ha.sz
    have h4 := hb.sz
    refine ⟨?_, ⟨ha.over, hb.over⟩, ?_⟩
    · show ((max a.dep b.dep + 1 : Nat) : Int) < _; omega
    · show ((a.sz + b.sz : Nat) : Int) ≤ _; omega
  refine ok_for (fun k τ S => ∃ (e : SE) (t' : Tp) (x y : Option T), τ = [some (.ref 0), some (strsT ss), some (.int depth), some e.t, x, y] ∧ S = [t'.o] ∧ 0 ≤ t'.pl ∧ SEok ss (2 + (k : Nat)) (2 + (k : Nat)) e) ⟨.or a b, t2, _, _, rfl, rfl, hp2, hi⟩ ?_ ?_
  · rintro i t τ S e ⟨e, t', x, y, rfl, rfl, hp', he⟩
    refine ⟨_, bindP_nm _ _ _, ?_⟩
    obtain ⟨k, r, hk⟩ := e.head
    have q1 := he.dep
    have q2 := he.sz
    try simp_arith! only []
    refine draw_ok hp' (by decide) fun n t3 hp3 hn0 hn => ?_
    try simp_arith! only [hk]
    have mk2 : ∀ (g : SE → SE → SE) (w : Str), (∀ a b, (g a b).t = .tup [.str w, a.t, b.t]) → (∀ a b, (g a b).dep = max a.dep b.dep + 1) → (∀ a b, (g a b).sz = a.sz + b.sz) → (∀ a b, a.over ss → b.over ss → (g a b).over ss) → ∀ (a : SE) (t4 : Tp), 0 ≤ t4.pl → SEok ss 1 1 a →
       (∃ (e' : SE) (t' : Tp) (x y : Option T), [some (.ref 0), some (strsT ss), some (.int depth), some (.tup [.str w, a.t, e.t]), some t, some (.int n)] = [some (.ref 0), some (strsT ss), some (.int depth), some e'.t, x, y] ∧ [t4.o] = [t'.o] ∧ 0 ≤ t'.pl ∧ SEok ss (2 + ((i + 1 : Nat) : Nat)) (2 + ((i + 1 : Nat) : Nat)) e')
       ∧ (∃ (e' : SE) (t' : Tp) (x y : Option T), [some (.ref 0), some (strsT ss), some (.int depth), some (.tup [.str w, e.t, a.t]), some t, some (.int n)] = [some (.ref 0), some (strsT ss), some (.int depth), some e'.t, x, y] ∧ [t4.o] = [t'.o] ∧ 0 ≤ t'.pl ∧ SEok ss (2 + ((i + 1 : Nat) : Nat)) (2 + ((i + 1 : Nat) : Nat)) e') := by
      intro g w g1 g2 g3 g4 a t4 hp4 ha
      have q3 := ha.dep
      have q4 := ha.sz
      refine ⟨⟨g a e, t4, _, _, by rw [g1], rfl, hp4, ?_, g4 _ _ ha.over he.over, ?_⟩, ⟨g e a, t4, _, _, by rw [g1], rfl, hp4, ?_, g4 _ _ he.over ha.over, ?_⟩⟩
      · rw [g2]; omega
      · rw [g3]; omega
      · rw [g2]; omega
      · rw [g3]; omega
    rw [← hk]
    cases e1 : decide (n = 0) <;> cases e2 : decide (k = "or") <;> cases e3 : decide (n < 2) <;> cases e4 : decide (k = "not") <;> cases e5 : decide (n = 2) <;> try simp_arith! only [forQ]
    all_goals first
      | exact ⟨.not e, t3, _, _, rfl, rfl, hp3, by show ((e.dep + 1 : Nat) : Int) < _; omega, he.over, by show ((e.sz : Nat) : Int) ≤ _; omega⟩
      | (refine leaf_ok hp3 hl fun a t4 hp4 ha => ?_
         try simp_arith! only [forQ]
         first
           | exact (mk2 .or "or" (fun _ _ => rfl) (fun _ _ => rfl) (fun _ _ => rfl) (fun _ _ p q => ⟨p, q⟩) a t4 hp4 ha).1
           | exact (mk2 .and "and" (fun _ _ => rfl) (fun _ _ => rfl) (fun _ _ => rfl) (fun _ _ p q => ⟨p, q⟩) a t4 hp4 ha).1
           | exact (mk2 .and "and" (fun _ _ => rfl) (fun _ _ => rfl) (fun _ _ => rfl) (fun _ _ p q => ⟨p, q⟩) a t4 hp4 ha).2)
  · rintro τ S ⟨e, t', x, y, rfl, rfl, hp', he⟩
    try simp_arith! only []
    refine fin e t' hp' ?_
    rw [rangeT_length] at he
    exact he.le (by omega) (by omega)
theorem some_ok2 {t : Tp} {ss : List Str} {size level : Int} {rest : Sto} {Q : T → Sto → Prop} (hp : 0 ≤ t.pl) (hl : ss.length ≤ 1000) (hs1 : 1 ≤ size) (hs2 : size ≤ 12) (hv0 : 0 ≤ level) (hv : level ≤ 3) (h : ∀ (e : SE) (t' : Tp), 0 ≤ t'.pl → SEok ss (if size < 8 then size + 3 else 20) size e → Q e.t (t'.o :: rest)) : Ok (F__law_some_sector [.ref 0, strsT ss, .int size, .int level] (t.o :: rest)) Q := by
  unfold F__law_some_sector
  refine ok_frame1 (by simp [strsT]) t.clO (ok_run ?_)
  unfold B__law_some_sector
  have fin : ∀ (e : SE) (t1 : Tp), 0 ≤ t1.pl → SEok ss (if size < 8 then size + 3 else 20) size e → endQ (fun t S1 => ∃ o' g, S1 = o' :: g ∧ clO 1 o' = true ∧ cl 1 (Fx.thaw 1 true t S1) = true ∧ Q (Fx.thaw 1 true t S1) (o' :: rest)) (.rt e.t) [t1.o] := fun e t1 hp1 he => by
    exact ⟨t1.o, [], rfl, t1.clO, by rw [SE.thaw]; exact e.cl 1, by rw [SE.thaw]; exact h e t1 hp1 he⟩
  try simp_arith only []
  refine draw_ok hp (by decide) fun n t1 hp1 hn0 hn => ?_
  have hn : n < 8 := by omega
  try simp_arith only []
  by_cases c0 : size < 8
  · try simp_arith only [decide_eq_true c0]
    refine sector_ok hp1 hl (by omega) (by omega) (by omega) (by omega) (by omega) (by split <;> omega) fun e t2 hp2 he => fin e t2 hp2 (he.le (by rw [if_pos c0]; split <;> omega) (by omega))
  · try simp_arith only [decide_eq_false c0]
    by_cases c1 : n = 7
    · try simp_arith only [decide_eq_true c1]
      have ei : ∀ (b : Bool) (S : Sto), fInt [.bl b] S = .ok (.int (if b then 1 else 0)) S := fun b S => rfl
      try simp_arith only [ei]
      refine draw_ok hp1 (by split <;> omega) fun m t2 hp2 hm0 hm => ?_
      have hm : m ≤ 6 := by split at hm <;> omega
      try simp_arith only []
      exact deep_ok hp2 hl hm0 (by omega) fun e t3 hp3 he => fin e t3 hp3 (he.le (by rw [if_neg c0]; omega) (by omega))
    · try simp_arith only [decide_eq_false c1]
      by_cases c2 : 3 < n
      · try simp_arith only [decide_eq_true c2]
        refine sector_ok hp1 hl (by omega) (by omega) (by omega) (by omega) (by omega) (by split <;> omega) fun e t2 hp2 he => fin e t2 hp2 (he.le (by rw [if_neg c0]; split <;> omega) (by omega))
      · try simp_arith only [decide_eq_false c2]
        refine sector_ok hp1 hl (by omega) (by omega) (by omega) (by omega) (by omega) (by split <;> omega) fun e t2 hp2 he => fin e t2 hp2 (he.le (by rw [if_neg c0]; split <;> omega) (by omega))
theorem tupR {S : Sto} {k : Nat} {ts : List T} (h : S[k]? = some (.lst ts)) : fTuple [.ref k] S = .ok (.tup ts) S := by
  show (match (match S[k]? with
    | some (.lst ts) => some ts
    | _ => none) with
    | some ts => R.ok (T.tup ts) S
    | none => .bad) = _
  rw [h]
theorem itR {S : Sto} {k : Nat} {ts : List T} (h : S[k]? = some (.lst ts)) : itOf (.ref k) S = .ok ⟨ts, [(k, ts)]⟩ S := by
  show (match (match S[k]? with
    | some (.lst ts) => some ts
    | _ => none) with
    | some ts => R.ok (⟨ts, match S[k]? with
      | some (.lst ts) => [(k, ts)]
      | _ => []⟩ : Its) S
    | none => .bad) = _
  rw [h]
def numOk (n : Int) : Prop := 1 ≤ n ∧ n ≤ 9999 ∨ -9999 ≤ n ∧ n ≤ -1
theorem pick_pos {m : Int} (h0 : 0 ≤ m) (xs : List Int) (hx : ∀ x ∈ xs, 1 ≤ x ∧ x ≤ 9999) (h : m < xs.length) : ∃ x, L2.atI (xs.map T.int) m = some (.int x) ∧ 1 ≤ x ∧ x ≤ 9999 := by
  have hi : m.toNat < xs.length := by omega
  refine ⟨xs[m.toNat], ?_, hx _ (List.getElem_mem hi)⟩
  rw [atI_in _ _ h0 (by rw [List.length_map]; exact h), List.getElem?_map, List.getElem?_eq_getElem hi]
  rfl
theorem number_ok {t : Tp} {wide : Int} {rest : Sto} {Q : T → Sto → Prop} (hp : 0 ≤ t.pl) (h : ∀ (n : Int) (t' : Tp), 0 ≤ t'.pl → numOk n → Q (.int n) (t'.o :: rest)) : Ok (F__law_number [.ref 0, .int wide] (t.o :: rest)) Q := by
  unfold F__law_number
  refine ok_frame1 (by simp) t.clO (ok_run ?_)
  unfold B__law_number
  have fin : ∀ (n : Int) (t1 : Tp), 0 ≤ t1.pl → numOk n → endQ (fun t S1 => ∃ o' g, S1 = o' :: g ∧ clO 1 o' = true ∧ cl 1 (Fx.thaw 1 true t S1) = true ∧ Q (Fx.thaw 1 true t S1) (o' :: rest)) (.rt (.int n)) [t1.o] := fun n t1 hp1 hn => by
    exact ⟨t1.o, [], rfl, t1.clO, by simp, by simpa using h n t1 hp1 hn⟩
  try simp_arith only []
  have last : ∀ (x : Int) (t1 : Tp), 0 ≤ t1.pl → 1 ≤ x ∧ x ≤ 9999 → Ok (F__law_draw [.ref 0, .int 2] [t1.o]) fun a S => Ok (fIx (.lst [.int x, .int (-x)]) a S) fun a S => endQ (fun t S1 => ∃ o' g, S1 = o' :: g ∧ clO 1 o' = true ∧ cl 1 (Fx.thaw 1 true t S1) = true ∧ Q (Fx.thaw 1 true t S1) (o' :: rest)) (.rt a) S := fun x t1 hp1 hx => by
    refine draw_ok hp1 (by decide) fun m t2 hp2 hm0 hm => ?_
    have : m = 0 ∨ m = 1 := by omega
    rcases this with rfl | rfl
    · try simp_arith only []
      exact fin x t2 hp2 (.inl hx)
    · try simp_arith only []
      exact fin (-x) t2 hp2 (.inr (by omega))
  by_cases c : 0 < wide
  · try simp_arith only [decide_eq_true c]
    refine draw_ok hp (by decide) fun d t1 hp1 hd0 hd => ?_
    try simp_arith only []
    refine draw_ok hp1 (by decide) fun m t2 hp2 hm0 hm => ?_
    obtain ⟨x, hx, hx2⟩ := pick_pos hm0 [1, 1, 1, 2, 10, 9999, 100, 1 + d] (by
      intro x m
      simp only [List.mem_cons, List.not_mem_nil, or_false] at m
      omega) (by simp only [List.length_cons, List.length_nil]; omega)
    simp only [List.map_cons, List.map_nil] at hx
    try simp_arith only [hx]
    exact last x t2 hp2 hx2
  · try simp_arith only [decide_eq_false c]
    refine draw_ok hp (by decide) fun m t2 hp2 hm0 hm => ?_
    obtain ⟨x, hx, hx2⟩ := pick_pos hm0 [1, 1, 1, 2, 2, 3] (by
      intro x m
      simp only [List.mem_cons, List.not_mem_nil, or_false] at m
      omega) (by simp only [List.length_cons, List.length_nil]; omega)
    simp only [List.map_cons, List.map_nil] at hx
    try simp_arith only [hx]
    exact last x t2 hp2 hx2
inductive Con where
  | each (e : SE) (ts : List (Int × Str)) (rel : Str)
  | sum (ts : List ((Int × Str) × SE)) (rel : Str)
def pT (p : Int × Str) : T := .tup [.int p.1, .str p.2]
def qT (p : (Int × Str) × SE) : T := .tup [.int p.1.1, .str p.1.2, p.2.t]
def Con.t : Con → T
  | .each e ts rel => .tup [.str "each", e.t, .tup (ts.map pT), .str rel]
  | .sum ts rel => .tup [.str "sum", .tup (ts.map qT), .str rel]
def termOk (as : List Str) (p : Int × Str) : Prop := numOk p.1 ∧ p.2 ∈ as
def relOk (r : Str) : Prop := r = ">=" ∨ r = "="
def Con.good (ss as : List Str) (many f size : Int) : Con → Prop
  | .each e ts rel => SEok ss f size e ∧ 1 ≤ ts.length ∧ (ts.length : Int) ≤ many ∧ (∀ p ∈ ts, termOk as p) ∧ relOk rel
  | .sum ts rel => 1 ≤ ts.length ∧ (ts.length : Int) ≤ many ∧ (∀ p ∈ ts, termOk as p.1 ∧ SEok ss f size p.2) ∧ relOk rel
theorem cls_pT (n : Nat) (ts : List (Int × Str)) : cls n (ts.map pT) = true := cls_all n _ fun t m => by
  obtain ⟨p, _, rfl⟩ := List.mem_map.mp m
  simp [pT]
theorem cls_qT (n : Nat) (ts : List ((Int × Str) × SE)) : cls n (ts.map qT) = true := cls_all n _ fun t m => by
  obtain ⟨p, _, rfl⟩ := List.mem_map.mp m
  simp [qT, SE.cl]
theorem Con.cl (n : Nat) (c : Con) : Fx.cl n c.t = true := by
  cases c with
  | each e ts rel => simp [Con.t, SE.cl, cls_pT]
  | sum ts rel => simp [Con.t, cls_qT]
theorem Con.thaw (c : Con) (n : Nat) (S : Sto) : Fx.thaw n true c.t S = c.t := by cases c <;> simp [Con.t]
theorem Con.head (c : Con) : ∃ (k : Str) (r : List T), c.t = .tup (.str k :: r) := by cases c <;> exact ⟨_, _, rfl⟩
theorem Pl.l4 {n : Nat} {x y z u : T} (a : Pl n x) (b : Pl n y) (c : Pl n z) (d : Pl n u) : ∀ t ∈ [x, y, z, u], Pl n t := fun t m => by
  rcases List.mem_cons.mp m with rfl | m
  · exact a
  · exact Pl.l3 b c d t m
theorem Con.pl {ss as : List Str} {many f size : Int} {c : Con} (h : c.good ss as many f size) {d : Nat} (hf : f ≤ d) (hm : many ≤ 1000) : Pl (d + 3) c.t := by
  cases c with
  | each e ts rel =>
    obtain ⟨h1, h2, h3, h4, h5⟩ := h
    have := h1.dep
    refine .tup (by simp) (Pl.l4 (.str _ _) (e.pl.le (by omega)) (.tup (n := d + 1) (by rw [List.length_map]; omega) fun t m => ?_) (.str _ _))
    obtain ⟨p, _, rfl⟩ := List.mem_map.mp m
    exact .tup (by simp) (Pl.l2 (.int _ _) (.str _ _))
  | sum ts rel =>
    obtain ⟨h2, h3, h4, h5⟩ := h
    refine .tup (by simp) (Pl.l3 (.str _ _) (.tup (n := d + 1) (by rw [List.length_map]; omega) fun t m => ?_) (.str _ _))
    obtain ⟨p, mp, rfl⟩ := List.mem_map.mp m
    have := (h4 p mp).2.dep
    exact .tup (by simp) (Pl.l3 (.int _ _) (.str _ _) (p.2.pl.le (by omega)))
theorem con_ok {t : Tp} {ss as : List Str} {many size wide : Int} {rest : Sto} {Q : T → Sto → Prop} (hp : 0 ≤ t.pl) (hl : ss.length ≤ 1000) (ha : 1 ≤ as.length) (ha2 : as.length ≤ 1000) (hm1 : 1 ≤ many) (hm2 : many ≤ 1000) (hs1 : 1 ≤ size) (hs2 : size ≤ 12)
    (h : ∀ (c : Con) (t' : Tp), 0 ≤ t'.pl → c.good ss as many (if size < 8 then size + 3 else 20) size → Q c.t (t'.o :: rest)) : Ok (F__law_constraint [.ref 0, strsT ss, strsT as, .int many, .int size, .int wide] (t.o :: rest)) Q := by
  unfold F__law_constraint
  refine ok_frame1 (by simp [strsT]) t.clO (ok_run ?_)
  unfold B__law_constraint
  generalize hF : (if size < 8 then size + 3 else 20 : Int) = F at h
  have fin : ∀ (c : Con) (t1 : Tp) (g : Sto), 0 ≤ t1.pl → c.good ss as many F size → endQ (fun t S1 => ∃ o' g, S1 = o' :: g ∧ clO 1 o' = true ∧ cl 1 (Fx.thaw 1 true t S1) = true ∧ Q (Fx.thaw 1 true t S1) (o' :: rest)) (.rt c.t) (t1.o :: g) := fun c t1 g hp1 hc => by
    exact ⟨t1.o, g, rfl, t1.clO, by rw [Con.thaw]; exact c.cl 1, by rw [Con.thaw]; exact h c t1 hp1 hc⟩
  try simp_arith only []
  refine draw_ok hp (by decide) fun m t1 hp1 hm0 hm => ?_
  have hrel : ∃ r : Str, L2.atI [T.str ">=", .str ">=", .str "="] m = some (.str r) ∧ relOk r := by
    have : m = 0 ∨ m = 1 ∨ m = 2 := by omega
    rcases this with rfl | rfl | rfl
    · exact ⟨_, atI_0 .., .inl rfl⟩
    · exact ⟨_, atI_1 .., .inl rfl⟩
    · exact ⟨_, atI_2 .., .inr rfl⟩
  obtain ⟨rel, hrel, hrk⟩ := hrel
  try simp_arith only [hrel]
  refine draw_ok hp1 (by omega) fun n t2 hp2 hn0 hn => ?_
  try simp_arith only []
  rw [range1_ev _ _ (by omega)]
  try simp_arith only [rangeT_0]
  refine ok_for (fun k τ S => ∃ (ts : List (Int × Str)) (t' : Tp) (x y : Option T), τ = [some (.ref 0), some (strsT ss), some (strsT as), some (.int many), some (.int size), some (.int wide), some (.str rel), some (.ref 1), x, y, none, none] ∧ S = [t'.o, .lst (ts.map pT)] ∧ 0 ≤ t'.pl ∧ ts.length = k ∧ ∀ p ∈ ts, termOk as p) ⟨[], t2, _, _, rfl, rfl, hp2, rfl, fun p m => nomatch m⟩ ?_ ?_
  · rintro i u τ S e ⟨ts, t', x, y, rfl, rfl, hp', hlen, hts⟩
    have hi : i < (1 + n).toNat := by
      obtain ⟨q, _⟩ := List.getElem?_eq_some_iff.mp e
      simpa [intsN] using q
    refine ⟨_, bindP_nm _ _ _, ?_⟩
    try simp_arith only []
    refine number_ok hp' fun num t3 hp3 hnum => ?_
    try simp_arith only [strsT, List.length_map]
    refine draw_ok hp3 (by omega) fun j t4 hp4 hj0 hj => ?_
    have hj2 : j < as.length := by omega
    try simp_arith only [atI_strs hj0 hj2]
    rw [append_ev (k := 1) rfl (by rw [List.length_map]; omega)]
    try simp_arith only [forQ]
    refine ⟨ts ++ [(num, as.getD j.toNat "")], t4, some u, some (.int num), rfl, by rw [List.map_append]; rfl, hp4, by rw [List.length_append, hlen]; rfl, fun p m => ?_⟩
    rcases List.mem_append.mp m with m | m
    · exact hts p m
    · rw [List.mem_singleton.mp m]
      refine ⟨hnum, ?_⟩
      show as.getD j.toNat "" ∈ as
      rw [List.getD_eq_getElem?_getD, List.getElem?_eq_getElem (by omega)]
      exact List.getElem_mem _
  · rintro τ S ⟨ts, t', x, y, rfl, rfl, hp', hlen, hts⟩
    rw [intsN_len, List.length_range] at hlen
    have hl1 : 1 ≤ ts.length := by omega
    have hl2 : (ts.length : Int) ≤ many := by omega
    try simp_arith only []
    refine draw_ok hp' (by decide) fun j t4 hp4 hj0 hj => ?_
    try simp_arith only []
    by_cases c : j = 0
    · try simp_arith only [decide_eq_true c]
      refine some_ok2 hp4 hl hs1 hs2 (by decide) (by decide) fun e t5 hp5 he => ?_
      have ht := tupR (S := [t5.o, .lst (ts.map pT)]) (k := 1) rfl
      try simp_arith only [ht]
      exact fin (.each e ts rel) t5 _ hp5 ⟨by rw [← hF]; exact he, hl1, hl2, hts, hrk⟩
    · have hi1 := itR (S := [t4.o, .lst (ts.map pT)]) (k := 1) rfl
      try simp_arith only [decide_eq_false c, hi1]
      refine ok_lcGo (fun k acc S => ∃ (qs : List ((Int × Str) × SE)) (t5 : Tp), acc = qs.map qT ∧ S = [t5.o, .lst (ts.map pT)] ∧ 0 ≤ t5.pl ∧ qs.map (·.1) = ts.take k ∧ ∀ p ∈ qs, SEok ss F size p.2) ?_ _ 0 [] _ ?_ ?_ ⟨[], t4, rfl, rfl, hp4, rfl, fun p m => nomatch m⟩
      · rintro k acc S ⟨qs, t5, _, rfl, _⟩ p m
        rw [List.mem_singleton.mp m]
        rfl
      · rintro i u acc S e ⟨qs, t5, rfl, rfl, hp5, hq, hqs⟩
        rw [Nat.zero_add] at hq
        rw [List.getElem?_map] at e
        obtain ⟨p, hpp, rfl⟩ := Option.map_eq_some_iff.mp e
        obtain ⟨hi, hpp⟩ := List.getElem?_eq_some_iff.mp hpp
        refine ⟨_, bindP_nm _ _ _, ?_⟩
        have hql : qs.length ≤ ts.length := by
          have := congrArg List.length hq
          rw [List.length_map, List.length_take] at this
          omega
        try simp_arith only [wipeT]
        refine some_ok2 hp5 hl hs1 hs2 (by decide) (by decide) fun e1 t6 hp6 he1 => ?_
        have hadd : fAddA true (pT p) (.tup [e1.t]) [t6.o, .lst (ts.map pT)] = .ok (qT (p, e1)) [t6.o, .lst (ts.map pT)] := rfl
        try simp_arith only [hadd]
        refine ⟨by rw [List.length_map]; omega, qs ++ [(p, e1)], t6, by rw [List.map_append]; rfl, rfl, hp6, ?_, fun r m => ?_⟩
        · rw [List.map_append, hq, List.take_succ_eq_append_getElem hi, hpp]
          rfl
        · rcases List.mem_append.mp m with m | m
          · exact hqs r m
          · rw [List.mem_singleton.mp m, ← hF]
            exact he1
      · rintro acc S ⟨qs, t5, rfl, rfl, hp5, hq, hqs⟩
        rw [Nat.zero_add, List.length_map, List.take_length] at hq
        have hql : qs.length = ts.length := by rw [← hq, List.length_map]
        try simp_arith only []
        refine fin (.sum qs rel) t5 _ hp5 ⟨by omega, by omega, fun r m => ⟨hts r.1 ?_, hqs r m⟩, hrk⟩
        rw [← hq]
        exact List.mem_map.mpr ⟨r, m, rfl⟩
structure Clm where
  ps : List Con
  c : Con
def Clm.t (x : Clm) : T := .tup [.tup (x.ps.map Con.t), x.c.t]
theorem cls_cons' (n : Nat) (cs : List Con) : cls n (cs.map Con.t) = true := cls_all n _ fun t m => by
  obtain ⟨p, _, rfl⟩ := List.mem_map.mp m
  exact p.cl n
theorem Clm.cl (n : Nat) (x : Clm) : Fx.cl n x.t = true := by simp [Clm.t, cls_cons', Con.cl]
def Clm.good (ss as : List Str) (premises many f size : Int) (x : Clm) : Prop := (x.ps.length : Int) ≤ premises ∧ (∀ c ∈ x.ps, c.good ss as many f size) ∧ x.c.good ss as many f size
theorem clm_ok {t : Tp} {ss as : List Str} {premises many size wide : Int} {rest : Sto} {Q : T → Sto → Prop} (hp : 0 ≤ t.pl) (hl : ss.length ≤ 1000) (ha : 1 ≤ as.length) (ha2 : as.length ≤ 1000) (hr1 : 0 ≤ premises) (hr2 : premises ≤ 1000) (hm1 : 1 ≤ many) (hm2 : many ≤ 1000) (hs1 : 1 ≤ size) (hs2 : size ≤ 12)
    (h : ∀ (c : Clm) (t' : Tp), 0 ≤ t'.pl → c.good ss as premises many (if size < 8 then size + 3 else 20) size → Q c.t (t'.o :: rest)) : Ok (F__law_claim [.ref 0, strsT ss, strsT as, .int premises, .int many, .int size, .int wide] (t.o :: rest)) Q := by
  unfold F__law_claim
  refine ok_frame1 (by simp [strsT]) t.clO (ok_run ?_)
  unfold B__law_claim
  generalize hF : (if size < 8 then size + 3 else 20 : Int) = F at h
  try simp_arith only []
  refine draw_ok hp (by omega) fun n t1 hp1 hn0 hn => ?_
  try simp_arith only []
  rw [range1_ev _ _ (by omega)]
  try simp_arith only [rangeT_0]
  refine ok_for (fun k τ S => ∃ (cs : List Con) (t' : Tp) (x : Option T), τ = [some (.ref 0), some (strsT ss), some (strsT as), some (.int premises), some (.int many), some (.int size), some (.int wide), some (.ref 1), x] ∧ S = [t'.o, .lst (cs.map Con.t)] ∧ 0 ≤ t'.pl ∧ cs.length = k ∧ ∀ c ∈ cs, c.good ss as many F size) ⟨[], t1, _, rfl, rfl, hp1, rfl, fun p m => nomatch m⟩ ?_ ?_
  · rintro i u τ S e ⟨cs, t', x, rfl, rfl, hp', hlen, hcs⟩
    have hi : i < n.toNat := by
      obtain ⟨q, _⟩ := List.getElem?_eq_some_iff.mp e
      simpa [intsN] using q
    refine ⟨_, bindP_nm _ _ _, ?_⟩
    try simp_arith only []
    refine con_ok hp' hl ha ha2 hm1 hm2 hs1 hs2 fun c t3 hp3 hc => ?_
    try simp_arith only []
    rw [append_ev (k := 1) rfl (by rw [List.length_map]; omega)]
    try simp_arith only [forQ]
    refine ⟨cs ++ [c], t3, some u, rfl, by rw [List.map_append]; rfl, hp3, by rw [List.length_append, hlen]; rfl, fun p m => ?_⟩
    rcases List.mem_append.mp m with m | m
    · exact hcs p m
    · rw [List.mem_singleton.mp m, ← hF]
      exact hc
  · rintro τ S ⟨cs, t', x, rfl, rfl, hp', hlen, hcs⟩
    rw [intsN_len, List.length_range] at hlen
    have ht := tupR (S := [t'.o, .lst (cs.map Con.t)]) (k := 1) rfl
    try simp_arith only [ht]
    refine con_ok hp' hl ha ha2 hm1 hm2 hs1 hs2 fun c t3 hp3 hc => ?_
    try simp_arith only [endQ]
    refine ⟨t3.o, _, rfl, t3.clO, ?_, ?_⟩
    · rw [thaw_tup]
      exact Clm.cl 1 ⟨cs, c⟩
    · rw [thaw_tup]
      exact h ⟨cs, c⟩ t3 hp3 ⟨by show (cs.length : Int) ≤ _; omega, hcs, by rw [← hF]; exact hc⟩
def eT (p : Str × Int) : T := .tup [.str p.1, .int p.2]
def entsT (es : List (Str × Int)) : T := .tup (es.map eT)
theorem cls_eT (n : Nat) (es : List (Str × Int)) : cls n (es.map eT) = true := cls_all n _ fun t m => by
  obtain ⟨p, _, rfl⟩ := List.mem_map.mp m
  simp [eT]
def entsOk (as : List Str) (es : List (Str × Int)) : Prop := es.length ≤ as.length ∧ (as.Nodup → (es.map (·.1)).Nodup) ∧ ∀ p ∈ es, p.1 ∈ as ∧ numOk p.2
theorem entries_ok {t : Tp} {as : List Str} {wide : Int} {rest : Sto} {Q : T → Sto → Prop} (hp : 0 ≤ t.pl) (ha2 : as.length ≤ 1000)
    (h : ∀ (es : List (Str × Int)) (t' : Tp), 0 ≤ t'.pl → entsOk as es → Q (entsT es) (t'.o :: rest)) : Ok (F__law_entries [.ref 0, strsT as, .int wide] (t.o :: rest)) Q := by
  unfold F__law_entries
  refine ok_frame1 (by simp [strsT]) t.clO (ok_run ?_)
  unfold B__law_entries
  have hli : ∀ S : Sto, fListA false [strsT as] S = .ok (.ref S.length) (S ++ [.lst (as.map T.str)]) := fun S => rfl
  try simp_arith! only [hli, strsT, List.length_map]
  refine draw_ok hp (by omega) fun n t1 hp1 hn0 hn => ?_
  try simp_arith! only []
  rw [range1_ev _ _ (by omega)]
  try simp_arith! only [rangeT_0]
  refine ok_for (fun k τ S => ∃ (ls : List Str) (es : List (Str × Int)) (t' : Tp) (x y : Option T), τ = [some (.ref 0), some (strsT as), some (.int wide), some (.ref 1), some (.ref 2), x, y] ∧ S = [t'.o, .lst (ls.map T.str), .lst (es.map eT)] ∧ 0 ≤ t'.pl ∧ (es.map (·.1) ++ ls).Perm as ∧ es.length = k ∧ ∀ p ∈ es, numOk p.2) ⟨as, [], t1, _, _, rfl, rfl, hp1, List.Perm.refl _, rfl, fun p m => nomatch m⟩ ?_ ?_
  · rintro i u τ S e ⟨ls, es, t', x, y, rfl, rfl, hp', hperm, hlen, hes⟩
    have hi : i < n.toNat := by
      obtain ⟨q, _⟩ := List.getElem?_eq_some_iff.mp e
      simpa [intsN] using q
    have hpl := hperm.length_eq
    rw [List.length_append, List.length_map] at hpl
    refine ⟨_, bindP_nm _ _ _, ?_⟩
    try simp_arith! only [List.length_map]
    refine draw_ok hp' (by omega) fun j t3 hp3 hj0 hj => ?_
    have hj2 : j.toNat < ls.length := by omega
    try simp_arith! only []
    rw [popAt_ev (S := [t3.o, .lst (ls.map T.str), .lst (es.map eT)]) (k := 1) (j := 0) (t := .str ls[j.toNat]) rfl hj0 (by rw [List.length_map]; omega) (by rw [List.getElem?_map, List.getElem?_eq_getElem hj2]; rfl) (by rw [List.length_map]; omega)]
    try simp_arith! only []
    refine number_ok hp3 fun num t4 hp4 hnum => ?_
    try simp_arith! only []
    rw [append_ev (k := 2) rfl (by rw [List.length_map]; omega)]
    try simp_arith! only [forQ]
    refine ⟨ls.eraseIdx j.toNat, es ++ [(ls[j.toNat], num)], t4, some u, some (.str ls[j.toNat]), rfl, by rw [List.map_append, map_erase]; rfl, hp4, ?_, by rw [List.length_append, hlen]; rfl, fun p m => ?_⟩
    · rw [List.map_append, List.append_assoc]
      refine List.Perm.trans (List.Perm.append_left _ ?_) hperm
      exact at_erase_perm hj2
    · rcases List.mem_append.mp m with m | m
      · exact hes p m
      · rw [List.mem_singleton.mp m]
        exact hnum
  · rintro τ S ⟨ls, es, t', x, y, rfl, rfl, hp', hperm, hlen, hes⟩
    have hpl := hperm.length_eq
    rw [List.length_append, List.length_map] at hpl
    have ht := tupR (S := [t'.o, .lst (ls.map T.str), .lst (es.map eT)]) (k := 2) rfl
    try simp_arith! only [ht, endQ]
    refine ⟨t'.o, _, rfl, t'.clO, ?_, ?_⟩
    · rw [thaw_tup, cl_tup]
      exact cls_eT 1 es
    · rw [thaw_tup]
      refine h es t' hp' ⟨by omega, fun hn => ?_, fun p m => ⟨?_, hes p m⟩⟩
      · exact (List.nodup_append.mp (hperm.nodup_iff.mpr hn)).1
      · exact hperm.mem_iff.mp (List.mem_append_left _ (List.mem_map.mpr ⟨p, m, rfl⟩))
theorem negated_ok {es : List (Str × Int)} {S : Sto} {Q : T → Sto → Prop} (hl : es.length ≤ 1000) (h : Q (entsT (es.map fun p => (p.1, -p.2))) S) : Ok (F__law_negated [entsT es] S) Q := by
  unfold F__law_negated
  refine ok_frame0 (by simp [entsT, cls_eT]) ?_
  generalize hB : B__law_negated = B
  refine ok_run ?_
  subst hB
  unfold B__law_negated
  try simp_arith only [entsT]
  rw [lc_map (fun t => match t with
    | .tup [.str a, .int n] => .tup [.str a, .int (-n)]
    | _ => .non) _ (by rw [List.length_map]; omega) fun t m => ?_]
  · try simp_arith only [endQ]
    have e : (es.map eT).map (fun t => match t with
      | .tup [.str a, .int n] => T.tup [.str a, .int (-n)]
      | _ => .non) = (es.map fun p => (p.1, -p.2)).map eT := by
      rw [List.map_map, List.map_map]
      rfl
    rw [e]
    exact ⟨by rw [thaw_tup, cl_tup]; exact cls_eT 0 _, by rw [thaw_tup]; exact h⟩
  · obtain ⟨p, mp, rfl⟩ := List.mem_map.mp m
    refine ⟨_, bindP_nm _ _ _, ?_⟩
    try simp_arith only [eT, ev_neg]
structure Kd where
  name : Str
  payer : SE
  given : List (Str × Int)
  payee : SE
  taken : List (Str × Int)
def Kd.t (k : Kd) : T := .tup [.str k.name, k.payer.t, entsT k.given, k.payee.t, entsT k.taken]
theorem Kd.cl (n : Nat) (k : Kd) : Fx.cl n k.t = true := by simp [Kd.t, SE.cl, entsT, cls_eT]
structure Kd.good (ss as : List Str) (f size : Int) (k : Kd) : Prop where
  payer : SEok ss f size k.payer
  payee : SEok ss f size k.payee
  given : entsOk as k.given
  taken : entsOk as k.taken
theorem entsOk.neg {as : List Str} {es : List (Str × Int)} (h : entsOk as es) : entsOk as (es.map fun p => (p.1, -p.2)) := by
  refine ⟨by rw [List.length_map]; exact h.1, fun hn => ?_, fun p m => ?_⟩
  · rw [List.map_map]
    exact h.2.1 hn
  · obtain ⟨q, mq, rfl⟩ := List.mem_map.mp m
    have := h.2.2 q mq
    refine ⟨this.1, ?_⟩
    rcases this.2 with z | z
    · exact .inr (by show -9999 ≤ -q.2 ∧ -q.2 ≤ -1; omega)
    · exact .inl (by show 1 ≤ -q.2 ∧ -q.2 ≤ 9999; omega)
theorem kind_ok {t : Tp} {ss as : List Str} {name : Str} {size wide : Int} {rest : Sto} {Q : T → Sto → Prop} (hp : 0 ≤ t.pl) (hl : ss.length ≤ 1000) (ha2 : as.length ≤ 1000) (hs1 : 1 ≤ size) (hs2 : size ≤ 12)
    (h : ∀ (k : Kd) (t' : Tp), 0 ≤ t'.pl → k.name = name → k.good ss as (if size < 8 then size + 3 else 20) size → Q k.t (t'.o :: rest)) : Ok (F__law_kind [.ref 0, .str name, strsT ss, strsT as, .int size, .int wide] (t.o :: rest)) Q := by
  unfold F__law_kind
  refine ok_frame1 (by simp [strsT]) t.clO (ok_run ?_)
  unfold B__law_kind
  have fin : ∀ (k : Kd) (t1 : Tp) (g : Sto), 0 ≤ t1.pl → k.name = name → k.good ss as (if size < 8 then size + 3 else 20) size → endQ (fun t S1 => ∃ o' g, S1 = o' :: g ∧ clO 1 o' = true ∧ cl 1 (Fx.thaw 1 true t S1) = true ∧ Q (Fx.thaw 1 true t S1) (o' :: rest)) (.rt k.t) (t1.o :: g) := fun k t1 g hp1 hn hk => by
    refine ⟨t1.o, g, rfl, t1.clO, ?_, ?_⟩
    · show cl 1 (Fx.thaw 1 true (.tup _) _) = true
      rw [thaw_tup]
      exact k.cl 1
    · show Q (Fx.thaw 1 true (.tup _) _) _
      rw [thaw_tup]
      exact h k t1 hp1 hn hk
  try simp_arith only []
  refine some_ok2 hp hl hs1 hs2 (by decide) (by decide) fun e1 t1 hp1 he1 => ?_
  try simp_arith only []
  refine some_ok2 hp1 hl hs1 hs2 (by decide) (by decide) fun e2 t2 hp2 he2 => ?_
  try simp_arith only []
  refine entries_ok hp2 ha2 fun es1 t3 hp3 h1 => ?_
  try simp_arith only []
  refine entries_ok hp3 ha2 fun es2 t4 hp4 h2 => ?_
  try simp_arith only []
  refine draw_ok hp4 (by decide) fun j t5 hp5 hj0 hj => ?_
  try simp_arith only []
  by_cases c : j = 0
  · try simp_arith only [decide_eq_true c]
    refine negated_ok (by have := h1.1; omega) ?_
    try simp_arith only []
    exact fin ⟨name, e1, es1, e2, es1.map fun p => (p.1, -p.2)⟩ t5 _ hp5 rfl ⟨he1, he2, h1, h1.neg⟩
  · try simp_arith only [decide_eq_false c]
    exact fin ⟨name, e1, es1, e2, es2⟩ t5 _ hp5 rfl ⟨he1, he2, h1, h2⟩
structure Mdl where
  ss : List Str
  as : List Str
  kinds : List Kd
  asm : List (Str × Con)
  clm : List (Str × Clm)
def asmT (p : Str × Con) : T := .tup [.str p.1, p.2.t]
def clmT (p : Str × Clm) : T := .tup [.str p.1, p.2.t]
def Mdl.t (m : Mdl) : T := .tup [strsT m.ss, strsT m.as, .tup (m.kinds.map Kd.t), .tup (m.asm.map asmT), .tup (m.clm.map clmT)]
theorem cls_kinds (n : Nat) (ks : List Kd) : cls n (ks.map Kd.t) = true := cls_all n _ fun t m => by
  obtain ⟨p, _, rfl⟩ := List.mem_map.mp m
  exact p.cl n
theorem cls_asm (n : Nat) (ks : List (Str × Con)) : cls n (ks.map asmT) = true := cls_all n _ fun t m => by
  obtain ⟨p, _, rfl⟩ := List.mem_map.mp m
  simp [asmT, Con.cl]
theorem cls_clm (n : Nat) (ks : List (Str × Clm)) : cls n (ks.map clmT) = true := cls_all n _ fun t m => by
  obtain ⟨p, _, rfl⟩ := List.mem_map.mp m
  simp [clmT, Clm.cl]
theorem Mdl.cl (n : Nat) (m : Mdl) : Fx.cl n m.t = true := by simp [Mdl.t, strsT, cls_kinds, cls_asm, cls_clm]
def Mdl.names (m : Mdl) : List Str := m.kinds.map Kd.name ++ (m.asm.map (·.1) ++ m.clm.map (·.1))
structure Mdl.good (ls : List Str) (a b c many f size : Int) (m : Mdl) : Prop where
  kl : (m.kinds.length : Int) ≤ a
  al : (m.asm.length : Int) ≤ b
  cl_ : (m.clm.length : Int) ≤ c
  kg : ∀ k ∈ m.kinds, k.good m.ss m.as f size
  ag : ∀ p ∈ m.asm, p.2.good m.ss m.as many f size
  cg : ∀ p ∈ m.clm, p.2.good m.ss m.as 2 many f size
  nd : ls.Nodup → m.names.Nodup
  sub : ∀ n ∈ m.names, n ∈ ls
theorem mdl_ok {t : Tp} {ss as ls : List Str} {a b c many size wide : Int} {rest : Sto} {Q : T → Sto → Prop} (hp : 0 ≤ t.pl) (hl : ss.length ≤ 1000) (ha : 1 ≤ as.length) (ha2 : as.length ≤ 1000) (hls : ls.length ≤ 1000)
    (ha0 : 0 ≤ a) (hb0 : 0 ≤ b) (hc0 : 0 ≤ c) (habc : a + b + c ≤ ls.length) (hm1 : 1 ≤ many) (hm2 : many ≤ 1000) (hs1 : 1 ≤ size) (hs2 : size ≤ 12)
    (h : ∀ (m : Mdl) (t' : Tp), 0 ≤ t'.pl → m.ss = ss → m.as = as → m.good ls a b c many (if size < 8 then size + 3 else 20) size → Q m.t (t'.o :: rest)) :
    Ok (F__law_model [.ref 0, .tup [strsT ss, strsT as, .lst (ls.map T.str)], .tup [.int a, .int b, .int c], .int many, .int size, .int wide] (t.o :: rest)) Q := by
  unfold F__law_model
  refine ok_frame1 (by simp [strsT]) t.clO (ok_run ?_)
  unfold B__law_model
  generalize hF : (if size < 8 then size + 3 else 20 : Int) = F at h
  have hli : ∀ S : Sto, fListA false [.lst (ls.map T.str)] S = .ok (.ref S.length) (S ++ [.lst (ls.map T.str)]) := fun S => rfl
  try simp_arith only [hli]
  refine draw_ok hp (by omega) fun n t1 hp1 hn0 hn => ?_
  try simp_arith only []
  rw [range1_ev _ _ (by omega)]
  try simp_arith only [rangeT_0]
  refine ok_for (fun k τ S => ∃ (fs : List Str) (ks : List Kd) (t' : Tp) (x : Option T), τ = [some (.ref 0), some (.tup [strsT ss, strsT as, .lst (ls.map T.str)]), some (.tup [.int a, .int b, .int c]), some (.int many), some (.int size), some (.int wide), some (strsT ss), some (strsT as), some (.ref 1), some (.ref 2), x, none, none, none] ∧ S = [t'.o, .lst (fs.map T.str), .lst (ks.map Kd.t)] ∧ 0 ≤ t'.pl ∧ (ks.map Kd.name ++ fs).Perm ls ∧ ks.length = k ∧ ∀ k ∈ ks, k.good ss as F size) ⟨ls, [], t1, _, rfl, rfl, hp1, List.Perm.refl _, rfl, fun p m => nomatch m⟩ ?_ ?_
  · rintro i u τ S e ⟨fs, ks, t', x, rfl, rfl, hp', hperm, hlen, hks⟩
    have hi : i < n.toNat := by
      obtain ⟨q, _⟩ := List.getElem?_eq_some_iff.mp e
      simpa [intsN] using q
    have hpl := hperm.length_eq
    rw [List.length_append, List.length_map] at hpl
    refine ⟨_, bindP_nm _ _ _, ?_⟩
    try simp_arith only [List.length_map]
    refine draw_ok hp' (by omega) fun j t3 hp3 hj0 hj => ?_
    have hj2 : j.toNat < fs.length := by omega
    try simp_arith only []
    rw [popAt_ev (S := [t3.o, .lst (fs.map T.str), .lst (ks.map Kd.t)]) (k := 1) (j := 0) (t := .str fs[j.toNat]) rfl hj0 (by rw [List.length_map]; omega) (by rw [List.getElem?_map, List.getElem?_eq_getElem hj2]; rfl) (by rw [List.length_map]; omega)]
    try simp_arith only []
    refine kind_ok hp3 hl ha2 hs1 hs2 fun k t4 hp4 hkn hk => ?_
    try simp_arith only []
    rw [append_ev (k := 2) rfl (by rw [List.length_map]; omega)]
    try simp_arith only [forQ]
    refine ⟨fs.eraseIdx j.toNat, ks ++ [k], t4, some u, rfl, by rw [List.map_append, map_erase]; rfl, hp4, ?_, by rw [List.length_append, hlen]; rfl, fun p m => ?_⟩
    · rw [List.map_append, List.append_assoc]
      refine List.Perm.trans (List.Perm.append_left _ ?_) hperm
      show ([k.name] ++ _).Perm _
      rw [hkn]
      exact at_erase_perm hj2
    · rcases List.mem_append.mp m with m | m
      · exact hks p m
      · rw [List.mem_singleton.mp m, ← hF]
        exact hk
  · rintro τ S ⟨fs, ks, t', x, rfl, rfl, hp', hperm, hlen, hks⟩
    rw [intsN_len, List.length_range] at hlen
    have hpl := hperm.length_eq
    rw [List.length_append, List.length_map] at hpl
    have hkl : (ks.length : Int) ≤ a := by omega
    try simp_arith only []
    refine draw_ok hp' (by omega) fun n2 t1 hp1 hn20 hn2 => ?_
    try simp_arith only []
    rw [range1_ev _ _ (by omega)]
    try simp_arith only [rangeT_0]
    refine ok_for (fun k τ S => ∃ (gs : List Str) (ms : List (Str × Con)) (t' : Tp) (x y : Option T), τ = [some (.ref 0), some (.tup [strsT ss, strsT as, .lst (ls.map T.str)]), some (.tup [.int a, .int b, .int c]), some (.int many), some (.int size), some (.int wide), some (strsT ss), some (strsT as), some (.ref 1), some (.ref 2), x, some (.ref 3), y, none] ∧ S = [t'.o, .lst (gs.map T.str), .lst (ks.map Kd.t), .lst (ms.map asmT)] ∧ 0 ≤ t'.pl ∧ (ms.map (·.1) ++ gs).Perm fs ∧ ms.length = k ∧ ∀ p ∈ ms, p.2.good ss as many F size) ⟨fs, [], t1, _, _, rfl, rfl, hp1, List.Perm.refl _, rfl, fun p m => nomatch m⟩ ?_ ?_
    · rintro i u τ S e ⟨gs, ms, t', x, y, rfl, rfl, hp', hperm2, hlen2, hms⟩
      have hi : i < n2.toNat := by
        obtain ⟨q, _⟩ := List.getElem?_eq_some_iff.mp e
        simpa [intsN] using q
      have hpl2 := hperm2.length_eq
      rw [List.length_append, List.length_map] at hpl2
      refine ⟨_, bindP_nm _ _ _, ?_⟩
      try simp_arith only [List.length_map]
      refine draw_ok hp' (by omega) fun j t3 hp3 hj0 hj => ?_
      have hj2 : j.toNat < gs.length := by omega
      try simp_arith only []
      rw [popAt_ev (S := [t3.o, .lst (gs.map T.str), .lst (ks.map Kd.t), .lst (ms.map asmT)]) (k := 1) (j := 0) (t := .str gs[j.toNat]) rfl hj0 (by rw [List.length_map]; omega) (by rw [List.getElem?_map, List.getElem?_eq_getElem hj2]; rfl) (by rw [List.length_map]; omega)]
      try simp_arith only []
      refine con_ok hp3 hl ha ha2 hm1 hm2 hs1 hs2 fun cn t4 hp4 hcn => ?_
      try simp_arith only []
      rw [append_ev (k := 3) rfl (by rw [List.length_map]; omega)]
      try simp_arith only [forQ]
      refine ⟨gs.eraseIdx j.toNat, ms ++ [(gs[j.toNat], cn)], t4, some u, some (.str gs[j.toNat]), rfl, by rw [List.map_append, map_erase]; rfl, hp4, ?_, by rw [List.length_append, hlen2]; rfl, fun p m => ?_⟩
      · rw [List.map_append, List.append_assoc]
        refine List.Perm.trans (List.Perm.append_left _ ?_) hperm2
        exact at_erase_perm hj2
      · rcases List.mem_append.mp m with m | m
        · exact hms p m
        · rw [List.mem_singleton.mp m, ← hF]
          exact hcn
    · rintro τ S ⟨gs, ms, t', x, y, rfl, rfl, hp', hperm2, hlen2, hms⟩
      rw [intsN_len, List.length_range] at hlen2
      have hpl2 := hperm2.length_eq
      rw [List.length_append, List.length_map] at hpl2
      have hal : (ms.length : Int) ≤ b := by omega
      try simp_arith only []
      refine draw_ok hp' (by omega) fun n3 t1 hp1 hn30 hn3 => ?_
      try simp_arith only []
      rw [range1_ev _ _ (by omega)]
      try simp_arith only [rangeT_0]
      refine ok_for (fun k τ S => ∃ (vs : List Str) (cs : List (Str × Clm)) (t' : Tp) (x y : Option T), τ = [some (.ref 0), some (.tup [strsT ss, strsT as, .lst (ls.map T.str)]), some (.tup [.int a, .int b, .int c]), some (.int many), some (.int size), some (.int wide), some (strsT ss), some (strsT as), some (.ref 1), some (.ref 2), x, some (.ref 3), y, some (.ref 4)] ∧ S = [t'.o, .lst (vs.map T.str), .lst (ks.map Kd.t), .lst (ms.map asmT), .lst (cs.map clmT)] ∧ 0 ≤ t'.pl ∧ (cs.map (·.1) ++ vs).Perm gs ∧ cs.length = k ∧ ∀ p ∈ cs, p.2.good ss as 2 many F size) ⟨gs, [], t1, _, _, rfl, rfl, hp1, List.Perm.refl _, rfl, fun p m => nomatch m⟩ ?_ ?_
      · rintro i u τ S e ⟨vs, cs, t', x, y, rfl, rfl, hp', hperm3, hlen3, hcs⟩
        have hi : i < n3.toNat := by
          obtain ⟨q, _⟩ := List.getElem?_eq_some_iff.mp e
          simpa [intsN] using q
        have hpl3 := hperm3.length_eq
        rw [List.length_append, List.length_map] at hpl3
        refine ⟨_, bindP_nm _ _ _, ?_⟩
        try simp_arith only [List.length_map]
        refine draw_ok hp' (by omega) fun j t3 hp3 hj0 hj => ?_
        have hj2 : j.toNat < vs.length := by omega
        try simp_arith only []
        rw [popAt_ev (S := [t3.o, .lst (vs.map T.str), .lst (ks.map Kd.t), .lst (ms.map asmT), .lst (cs.map clmT)]) (k := 1) (j := 0) (t := .str vs[j.toNat]) rfl hj0 (by rw [List.length_map]; omega) (by rw [List.getElem?_map, List.getElem?_eq_getElem hj2]; rfl) (by rw [List.length_map]; omega)]
        try simp_arith only []
        refine clm_ok hp3 hl ha ha2 (by decide) (by decide) hm1 hm2 hs1 hs2 fun cn t4 hp4 hcn => ?_
        try simp_arith only []
        rw [append_ev (k := 4) rfl (by rw [List.length_map]; omega)]
        try simp_arith only [forQ]
        refine ⟨vs.eraseIdx j.toNat, cs ++ [(vs[j.toNat], cn)], t4, some u, some (.str vs[j.toNat]), rfl, by rw [List.map_append, map_erase]; rfl, hp4, ?_, by rw [List.length_append, hlen3]; rfl, fun p m => ?_⟩
        · rw [List.map_append, List.append_assoc]
          refine List.Perm.trans (List.Perm.append_left _ ?_) hperm3
          exact at_erase_perm hj2
        · rcases List.mem_append.mp m with m | m
          · exact hcs p m
          · rw [List.mem_singleton.mp m, ← hF]
            exact hcn
      · rintro τ S ⟨vs, cs, t', x, y, rfl, rfl, hp', hperm3, hlen3, hcs⟩
        rw [intsN_len, List.length_range] at hlen3
        have hpl3 := hperm3.length_eq
        rw [List.length_append, List.length_map] at hpl3
        have k2 := tupR (S := [t'.o, .lst (vs.map T.str), .lst (ks.map Kd.t), .lst (ms.map asmT), .lst (cs.map clmT)]) (k := 2) rfl
        have k3 := tupR (S := [t'.o, .lst (vs.map T.str), .lst (ks.map Kd.t), .lst (ms.map asmT), .lst (cs.map clmT)]) (k := 3) rfl
        have k4 := tupR (S := [t'.o, .lst (vs.map T.str), .lst (ks.map Kd.t), .lst (ms.map asmT), .lst (cs.map clmT)]) (k := 4) rfl
        try simp_arith only [k2, k3, k4, endQ]
        have hall : (ks.map Kd.name ++ (ms.map (·.1) ++ (cs.map (·.1) ++ vs))).Perm ls := (List.Perm.append_left _ ((List.Perm.append_left _ hperm3).trans hperm2)).trans hperm
        refine ⟨t'.o, _, rfl, t'.clO, ?_, ?_⟩
        · rw [thaw_tup]
          exact Mdl.cl 1 ⟨ss, as, ks, ms, cs⟩
        · rw [thaw_tup]
          refine h ⟨ss, as, ks, ms, cs⟩ t' hp' rfl rfl ⟨hkl, hal, by show (cs.length : Int) ≤ c; omega, hks, hms, hcs, fun hn => ?_, fun n m => ?_⟩
          · have := hall.nodup_iff.mpr hn
            rw [← List.append_assoc, ← List.append_assoc] at this
            have := (List.nodup_append.mp this).1
            rw [List.append_assoc] at this
            exact this
          · refine hall.mem_iff.mp ?_
            rw [← List.append_assoc, ← List.append_assoc]
            refine List.mem_append_left _ ?_
            rw [List.append_assoc]
            exact m
theorem lists_ok {t : Tp} {a b : Int} {rest : Sto} {Q : T → Sto → Prop} (hp : 0 ≤ t.pl) (ha0 : 0 ≤ a) (ha : a ≤ 5) (hb1 : 1 ≤ b) (hb : b ≤ 5)
    (h : ∀ (ss as ls : List Str) (t' : Tp), 0 ≤ t'.pl → (ss.length : Int) ≤ a → 1 ≤ as.length → (as.length : Int) ≤ b → 18 ≤ ls.length → ls.length ≤ 22 → ss.Nodup → as.Nodup → ls.Nodup → (∀ n, n ∈ ss ∨ n ∈ as ∨ n ∈ ls → Nm n) → Q (.tup [strsT ss, strsT as, .lst (ls.map T.str)]) (t'.o :: rest)) : Ok (F__law_lists [.ref 0, .tup [.int a, .int b]] (t.o :: rest)) Q := by
  unfold F__law_lists
  refine ok_frame1 (by simp) t.clO (ok_run ?_)
  unfold B__law_lists
  try simp_arith only []
  refine names_ok hp (by decide) (by decide) fun ns t1 hp1 hl hnd hnm => ?_
  have hl : ns.length = 25 := hl
  try simp_arith only []
  refine draw_ok hp1 (by omega) fun many t2 hp2 hm0 hm => ?_
  try simp_arith only []
  refine draw_ok hp2 (by decide) fun j t3 hp3 hj0 hj => ?_
  obtain ⟨first, hf, hf2⟩ := pick3 0 many 1 hj0 (by omega)
  try simp_arith only [hf]
  refine draw_ok hp3 (by omega) fun d t4 hp4 hd0 hd => ?_
  have hfb : 0 ≤ first ∧ first ≤ 5 := by omega
  try simp_arith only [ev_slL, cut_to _ hm0, cut_mid _ hfb.1 (show 0 ≤ first + 1 + d by omega)]
  refine draw_ok hp4 (by decide) fun k t5 hp5 hk0 hk => ?_
  have hlo : ∃ lo : Int, L2.atI [T.int 3, .int 7] k = some (.int lo) ∧ (lo = 3 ∨ lo = 7) := by
    have : k = 0 ∨ k = 1 := by omega
    rcases this with rfl | rfl
    · exact ⟨3, atI_0 .., .inl rfl⟩
    · exact ⟨7, atI_1 .., .inr rfl⟩
  obtain ⟨lo, hlo, hlo2⟩ := hlo
  try simp_arith only [hlo, ev_slL, cut_from _ (show 0 ≤ lo by omega), endQ]
  have e1 : (ns.map T.str).take many.toNat = (ns.take many.toNat).map T.str := List.map_take.symm
  have e2 : ((ns.map T.str).drop first.toNat).take ((first + 1 + d).toNat - first.toNat) = ((ns.drop first.toNat).take ((first + 1 + d).toNat - first.toNat)).map T.str := by
    rw [List.map_take, List.map_drop]
  have e3 : (ns.map T.str).drop lo.toNat = (ns.drop lo.toNat).map T.str := List.map_drop.symm
  rw [e1, e2, e3]
  refine ⟨t5.o, _, rfl, t5.clO, ?_, ?_⟩
  · rw [thaw_tup]
    simp only [cl_tup, cl_lst, Fx.cls_cons, cls_strs, Fx.cls_nil, Bool.and_self]
  · rw [thaw_tup]
    refine h (ns.take many.toNat) ((ns.drop first.toNat).take ((first + 1 + d).toNat - first.toNat)) (ns.drop lo.toNat) t5 hp5 ?_ ?_ ?_ ?_ ?_ ?_ ?_ ?_ ?_
    · rw [List.length_take]; omega
    · rw [List.length_take, List.length_drop]; omega
    · rw [List.length_take, List.length_drop]; omega
    · rw [List.length_drop]; omega
    · rw [List.length_drop]; omega
    · exact hnd.sublist (List.take_sublist _ _)
    · exact (hnd.sublist (List.drop_sublist _ _)).sublist (List.take_sublist _ _)
    · exact hnd.sublist (List.drop_sublist _ _)
    · rintro n (m | m | m)
      · exact hnm n (List.mem_of_mem_take m)
      · exact hnm n (List.mem_of_mem_drop (List.mem_of_mem_take m))
      · exact hnm n (List.mem_of_mem_drop m)
theorem ok_ev {m : R T} {a : T} {S : Sto} (h : ∀ Q : T → Sto → Prop, Q a S → Ok m Q) : m = .ok a S := by
  have : Ok m fun r S1 => r = a ∧ S1 = S := h _ ⟨rfl, rfl⟩
  obtain ⟨a, S1, h1, h2, h3⟩ := this.get
  rw [h1, h2, h3]
def szOf (ss : List Str) : Nat := 2 ^ ss.length
/-- the profile of a group -/
def optT (P : Option Nat) : T := match P with
  | some p => .int (p : Int)
  | none => .non
def grpP (ss : List Str) (P : Option Nat) (g : Nat) : Nat := if g = szOf ss then P.getD 0 else g
def manyG (ss : List Str) (P : Option Nat) : Nat := szOf ss + (if P.isSome then 1 else 0)
def grpsOf (ss : List Str) (P : Option Nat) (e : SE) : List Nat := (List.range (manyG ss P)).filter fun g => e.mem (namesN 0 (grpP ss P g) ss)
theorem szOf_le {ss : List Str} (hl : ss.length ≤ 3) : szOf ss ≤ 8 := Nat.pow_le_pow_right (n := 2) (by decide) hl
abbrev Un := Str × Nat × Nat
def uT (u : Un) : T := .tup [.str u.1, .int (u.2.1 : Int), .int (u.2.2 : Int)]
def unitRow (ss : List Str) (P : Option Nat) (k : Kd) (a : Nat) : List Un := ((grpsOf ss P k.payee).filter fun b => decide (a < szOf ss) || decide (b < szOf ss)).map fun b => (k.name, a, b)
def unitKd (ss : List Str) (P : Option Nat) (k : Kd) : List Un := (grpsOf ss P k.payer).flatMap (unitRow ss P k)
def unitsOf (ss : List Str) (P : Option Nat) (ks : List Kd) : List Un := ks.flatMap (unitKd ss P)
theorem cls_uT (n : Nat) (us : List Un) : cls n (us.map uT) = true := cls_all n _ fun t m => by
  obtain ⟨p, _, rfl⟩ := List.mem_map.mp m
  simp [uT]
theorem take_flat {α β : Type} {L : List α} {i : Nat} {x : α} (f : α → List β) (h : L[i]? = some x) : (L.take (i + 1)).flatMap f = (L.take i).flatMap f ++ f x := by
  obtain ⟨hi, h⟩ := List.getElem?_eq_some_iff.mp h
  rw [List.take_succ_eq_append_getElem hi, List.flatMap_append, h, List.flatMap_cons, List.flatMap_nil, List.append_nil]
theorem flat_len {α β : Type} {f : α → List β} {N : Nat} : ∀ {L : List α}, (∀ x ∈ L, (f x).length ≤ N) → (L.flatMap f).length ≤ N * L.length
  | [], _ => Nat.zero_le _
  | x :: L, h => by
    rw [List.flatMap_cons, List.length_append, List.length_cons, Nat.mul_succ]
    have := h x List.mem_cons_self
    have := flat_len (L := L) fun y m => h y (List.mem_cons_of_mem _ m)
    omega
theorem manyG_le {ss : List Str} {P : Option Nat} (hl : ss.length ≤ 3) : manyG ss P ≤ 9 := by
  have h8 := szOf_le hl
  unfold manyG
  cases P <;> simp <;> omega
theorem grps_len {ss : List Str} {P : Option Nat} {e : SE} (hl : ss.length ≤ 3) : (grpsOf ss P e).length ≤ 9 := by
  refine Nat.le_trans (List.length_filter_le _ _) ?_
  rw [List.length_range]
  exact manyG_le hl
theorem row_len {ss : List Str} {P : Option Nat} {k : Kd} (hl : ss.length ≤ 3) (a : Nat) : (unitRow ss P k a).length ≤ 9 := by
  unfold unitRow
  rw [List.length_map]
  exact Nat.le_trans (List.length_filter_le _ _) (grps_len hl)
theorem kd_len {ss : List Str} {P : Option Nat} {k : Kd} (hl : ss.length ≤ 3) : (unitKd ss P k).length ≤ 81 := by
  refine Nat.le_trans (flat_len (N := 9) fun a _ => row_len hl a) ?_
  have := grps_len (P := P) (e := k.payer) hl
  omega
theorem units_len {ss : List Str} {P : Option Nat} {ks : List Kd} (hl : ss.length ≤ 3) : (unitsOf ss P ks).length ≤ 81 * ks.length := flat_len fun k _ => kd_len hl
structure MdlU (m : Mdl) : Prop where
  sl : m.ss.length ≤ 3
  nd : m.ss.Nodup
  kl : m.kinds.length ≤ 100
  o1 : ∀ k ∈ m.kinds, k.payer.over m.ss ∧ k.payer.dep < 24
  o2 : ∀ k ∈ m.kinds, k.payee.over m.ss ∧ k.payee.dep < 24
theorem lc2_gen {ts0 : List T} {p p1 : Pat} {m1 : Fx.Env → Sto → R Its} {c1 : Fx.Env → Sto → R Bool} {b : Fx.Env → Sto → R T} {vs1 : List Nat} {τ : Fx.Env} {S : Sto} (f : T → List T) (c : T → T → Bool) (g : T → T → T) (N : Nat) : ∀ (ts acc : List T), acc.length + N * ts.length ≤ 100000 →
    (∀ t ∈ ts, (f t).length ≤ N ∧ ∃ τ1, bindP p t τ = some τ1 ∧ m1 τ1 S = .ok ⟨f t, []⟩ S ∧ ∀ u ∈ f t, ∃ τ2, bindP p1 u (wipeT τ1 vs1) = some τ2 ∧ c1 τ2 S = .ok (c t u) S ∧ (c t u = true → b τ2 S = .ok (g t u) S)) →
    mLc2Go ⟨ts0, []⟩ p mTrue m1 p1 c1 b vs1 τ ts acc S = .ok (acc ++ (ts.map fun t => ((f t).filter (c t)).map (g t)).flatten) S
  | [], acc, _, _ => by
    rw [mLc2Go, ifP_t (chk_nil _ _)]
    simp
  | t :: ts, acc, hl, hs => by
    obtain ⟨hn, τ1, h1, h2, h3⟩ := hs t List.mem_cons_self
    rw [List.length_cons, Nat.mul_add, Nat.mul_one] at hl
    rw [mLc2Go, ifP_t (chk_nil _ _), Fx.bound, h1]
    dsimp only
    rw [ev_true, ev_noErr, ev_ok, if_pos rfl, h2, ev_noErr, ev_ok]
    have go : mLcGo ⟨f t, []⟩ p1 c1 b (wipeT τ1 vs1) (f t) acc S = .ok (acc ++ ((f t).filter (c t)).map (g t)) S := lc_pure (c t) (g t) (f t) acc (by omega) fun u m => by
      obtain ⟨τ2, q1, q2, q3⟩ := h3 u m
      exact ⟨τ2, q1, q2, q3⟩
    rw [go, ev_ok, lc2_gen f c g N ts _ (by
      have := List.length_filter_le (c t) (f t)
      rw [List.length_append, List.length_map]; omega) fun u m => hs u (List.mem_cons_of_mem _ m)]
    rw [List.map_cons, List.flatten_cons, List.append_assoc]
def memL (ss : List Str) (P : Option Nat) : List Nat := List.range (szOf ss) ++ P.toList
theorem memL_len (ss : List Str) (P : Option Nat) : (memL ss P).length = manyG ss P := by
  unfold memL manyG
  cases P <;> simp
theorem memL_at {ss : List Str} {P : Option Nat} {g : Nat} (hg : g < manyG ss P) : (memL ss P).getD g 0 = grpP ss P g := by
  unfold memL manyG grpP at *
  rw [List.getD_eq_getElem?_getD]
  by_cases c : g < szOf ss
  · rw [List.getElem?_append_left (by rw [List.length_range]; exact c), List.getElem?_range c, if_neg (by omega)]
    rfl
  · cases P with
    | none => simp at hg; omega
    | some p =>
      have : g = szOf ss := by simp at hg; omega
      subst this
      rw [List.getElem?_append_right (by rw [List.length_range]; exact Nat.le_refl _), List.length_range, Nat.sub_self, if_pos rfl]
      rfl
theorem gprof_ev {ss : List Str} {P : Option Nat} {rest : List T} {S : Sto} (hc : cls 0 rest = true) (hl : ss.length ≤ 3) : F_group_profiles [.tup (strsT ss :: rest), optT P] S = .ok (.lst (intsN (memL ss P))) S := ok_ev fun Q h => by
  unfold F_group_profiles
  refine ok_frame0 (by cases P <;> simp [strsT, hc, optT]) (ok_run ?_)
  unfold B_group_profiles
  have h8 := szOf_le hl
  have fin : ∀ xs : List Nat, xs = memL ss P → endQ (fun t S1 => cl 0 (thaw 0 true t S1) = true ∧ Q (thaw 0 true t S1) S) (.rt (.lst (intsN xs))) [] := fun xs e => by
    rw [e]
    exact ⟨by rw [thaw_lst, cl_lst]; exact cls_intsN 0 _, by rw [thaw_lst]; exact h⟩
  try simp_arith only []
  refine count_ok hc (by omega) ?_
  have hcond : (decide (-(2 ^ 62) ≤ ((2 ^ ss.length : Nat) : Int)) && decide (((2 ^ ss.length : Nat) : Int) ≤ 100000)) = true := by
    have h8' : 2 ^ ss.length ≤ 8 := h8
    rw [Bool.and_eq_true, decide_eq_true_iff, decide_eq_true_iff]
    generalize 2 ^ ss.length = N at h8' ⊢
    omega
  try simp_arith only []
  rw [if_pos hcond]
  try simp_arith only [Int.toNat_natCast, rangeT_0]
  cases P with
  | none =>
    try simp_arith only [optT, ev_isN, isN]
    exact fin _ (by unfold memL szOf; simp)
  | some p =>
    have hst : ∀ (a : List T) (b : Fx.Env → Sto → R (List T)) τ S, mStar (fun τ S => .ok (.lst a) S) b τ S = (b τ S).bind fun ys S2 => .ok (a ++ ys) S2 := fun _ _ _ _ => rfl
    have hq : memL ss (some p) = List.range (2 ^ ss.length) ++ [p] := rfl
    try simp_arith only [optT, ev_isN, isN, mStar, seqOf, lstD]
    have := fin _ hq.symm
    unfold intsN at this ⊢
    rw [List.map_append] at this
    have h8' : 2 ^ ss.length ≤ 8 := h8
    rw [if_pos (by rw [List.length_append, List.length_map, List.length_range]; simp; omega)]
    exact this
theorem enum_ints : ∀ (xs : List Nat) (k : Nat), enumT k (intsN xs) = (List.range xs.length).map fun i => T.wt [.int ((k + i : Nat) : Int), .int ((xs.getD i 0 : Nat) : Int)]
  | [], _ => rfl
  | x :: xs, k => by
    show T.wt [.int (k : Int), .int (x : Int)] :: enumT (k + 1) (intsN xs) = _
    rw [enum_ints xs (k + 1), List.length_cons, List.range_succ_eq_map, List.map_cons, List.map_map]
    congr 1
    refine List.map_congr_left fun i _ => ?_
    show T.wt [.int ((k + 1 + i : Nat) : Int), _] = T.wt [.int ((k + (i + 1) : Nat) : Int), _]
    rw [show k + 1 + i = k + (i + 1) by omega]
    rfl
theorem groupsin_ev {ss : List Str} {P : Option Nat} {e : SE} {rest : List T} {S : Sto} (hc : cls 0 rest = true) (hl : ss.length ≤ 3) (hd : e.dep < 24) : F__groups_in [.tup (strsT ss :: rest), .lst (intsN (memL ss P)), e.t] S = .ok (.lst (intsN (grpsOf ss P e))) S := ok_ev fun Q h => by
  unfold F__groups_in
  refine ok_frame0 (by simp [SE.cl, strsT, hc, cls_intsN]) ?_
  generalize hB : B__groups_in = B
  refine ok_run ?_
  subst hB
  unfold B__groups_in
  have hm9 := manyG_le (P := P) hl
  have hen : ∀ S, fEnum [.lst (intsN (memL ss P))] S = .ok ⟨enumT 0 (intsN (memL ss P)), []⟩ S := fun S => rfl
  try simp_arith only [hen]
  rw [lc_pure (fun t => match t with
    | .wt [_, .int q] => e.mem (namesN 0 q.toNat ss)
    | _ => false) (fun t => match t with
    | .wt [i, _] => i
    | _ => .non) _ [] (by rw [enumT_length, intsN_len, memL_len]; simp; omega) fun t m => ?_]
  · try simp_arith only [endQ]
    have e1 : ((enumT 0 (intsN (memL ss P))).filter fun t => match t with
      | .wt [_, .int q] => e.mem (namesN 0 q.toNat ss)
      | _ => false).map (fun t => match t with
      | .wt [i, _] => i
      | _ => .non) = intsN (grpsOf ss P e) := by
      rw [enum_ints, List.filter_map, List.map_map, memL_len]
      unfold grpsOf intsN
      have : (List.range (manyG ss P)).filter (fun g => e.mem (namesN 0 (grpP ss P g) ss)) = (List.range (manyG ss P)).filter (fun g => e.mem (namesN 0 ((memL ss P).getD g 0) ss)) := List.filter_congr fun g mg => by
        rw [memL_at (List.mem_range.mp mg)]
      rw [this]
      refine List.map_congr_left fun i _ => ?_
      show T.int ((0 + i : Nat) : Int) = T.int (i : Int)
      rw [Nat.zero_add]
    rw [e1]
    exact ⟨by rw [thaw_lst, cl_lst]; exact cls_intsN 0 _, by rw [thaw_lst]; exact h⟩
  · rw [enum_ints] at m
    obtain ⟨q, mq, rfl⟩ := List.mem_map.mp m
    refine ⟨_, bindP_pair _ _ _ _ _, ?_, fun _ => ?_⟩
    · try simp_arith only [belongs_ev hc (show ss.length ≤ 1000 by omega) hd, fTru_bl]
      rfl
    · try simp_arith only []
theorem flat_map {α β γ : Type} (f : α → List β) (g : β → γ) (xs : List α) : (xs.flatMap f).map g = (xs.map fun x => (f x).map g).flatten := by
  induction xs with
  | nil => rfl
  | cons x xs ih => rw [List.flatMap_cons, List.map_append, ih, List.map_cons, List.flatten_cons]
def prT (u : Un) : T := .tup [.int (u.2.1 : Int), .int (u.2.2 : Int)]
theorem units_ev {m : Mdl} {P : Option Nat} {S : Sto} (hm : MdlU m) : F_unit_transactions [m.t, optT P] S = .ok (.tup ((unitsOf m.ss P m.kinds).map uT)) S := ok_ev fun Q h => by
  unfold F_unit_transactions
  refine ok_frame0 (by rw [Fx.cls_cons, Mdl.cl]; cases P <;> simp [optT]) ?_
  generalize hB : B_unit_transactions = B
  refine ok_run ?_
  subst hB
  unfold B_unit_transactions
  have hcr : cls 0 [strsT m.as, .tup (m.kinds.map Kd.t), .tup (m.asm.map asmT), .tup (m.clm.map clmT)] = true := by simp [strsT, cls_kinds, cls_asm, cls_clm]
  have hmt : m.t = .tup (strsT m.ss :: [strsT m.as, .tup (m.kinds.map Kd.t), .tup (m.asm.map asmT), .tup (m.clm.map clmT)]) := rfl
  have hpc : ∀ S, F_profile_count [m.t] S = .ok (.int (szOf m.ss : Nat)) S := fun S => ok_ev fun Q h => by
    rw [hmt]
    exact count_ok hcr (by have := hm.sl; omega) h
  have hkx : ∀ S, fIx m.t (.int 2) S = .ok (.tup (m.kinds.map Kd.t)) S := fun S => rfl
  have hgp := fun S => gprof_ev (P := P) (S := S) hcr hm.sl
  have hgr := fun (S : Sto) (e : SE) (hd : e.dep < 24) => groupsin_ev (P := P) (S := S) hcr hm.sl hd
  rw [← hmt] at hgp hgr
  try simp_arith! only [hgp, hpc, hkx]
  refine ok_for (fun i τ S => ∃ (x5 x6 x7 x8 x9 x10 x11 x12 x13 : Option T), τ = [some m.t, some (optT P), some (.lst (intsN (memL m.ss P))), some (.int (szOf m.ss : Nat)), some (.ref 0), x5, x6, x7, x8, x9, x10, x11, x12, x13] ∧ S = [.lst ((unitsOf m.ss P (m.kinds.take i)).map uT)]) ⟨none, none, none, none, none, none, none, none, none, rfl, rfl⟩ ?_ ?_
  · rintro i t τ S e ⟨x5, x6, x7, x8, x9, x10, x11, x12, x13, rfl, rfl⟩
    rw [List.getElem?_map] at e
    obtain ⟨k, hk, rfl⟩ := Option.map_eq_some_iff.mp e
    have hkm := List.mem_of_getElem? hk
    have hi := (List.getElem?_eq_some_iff.mp hk).1
    have l0 := units_len (P := P) (ks := m.kinds.take i) hm.sl
    rw [List.length_take] at l0
    have hkl := hm.kl
    have l1 := grps_len (P := P) (e := k.payer) hm.sl
    have l2 := grps_len (P := P) (e := k.payee) hm.sl
    refine ⟨[some m.t, some (optT P), some (.lst (intsN (memL m.ss P))), some (.int (szOf m.ss : Nat)), some (.ref 0), some (.str k.name), some k.payer.t, some (entsT k.taken), some k.payee.t, x9, x10, x11, x12, x13], rfl, ?_⟩
    try simp_arith! only [hgr _ _ (hm.o1 k hkm).2, hgr _ _ (hm.o2 k hkm).2]
    rw [lc2_gen (fun _ => intsN (grpsOf m.ss P k.payee)) (fun t u => match t, u with
      | .int a, .int b => decide (a.toNat < szOf m.ss) || decide (b.toNat < szOf m.ss)
      | _, _ => false) (fun t u => .tup [t, u]) 9 _ [] (by rw [intsN_len]; simp; omega) fun t mt => ?_]
    · have hpairs : ((intsN (grpsOf m.ss P k.payer)).map fun t => ((intsN (grpsOf m.ss P k.payee)).filter fun u => match t, u with
        | .int a, .int b => decide (a.toNat < szOf m.ss) || decide (b.toNat < szOf m.ss)
        | _, _ => false).map fun u => T.tup [t, u]).flatten = (unitKd m.ss P k).map prT := by
        unfold unitKd
        rw [flat_map]
        unfold intsN
        rw [List.map_map]
        congr 1
        refine List.map_congr_left fun a _ => ?_
        unfold unitRow
        show ((List.map _ _).filter _).map _ = _
        rw [List.filter_map, List.map_map, List.map_map]
        rfl
      have hprl : ((unitKd m.ss P k).map prT).length ≤ 81 := by rw [List.length_map]; exact kd_len hm.sl
      rw [hpairs]
      try simp_arith! only []
      rw [lc_map (fun t => match t with
        | .tup [a, b] => .tup [.str k.name, a, b]
        | _ => .non) _ (by omega) fun t mt => ?_]
      · have e2 : ((unitKd m.ss P k).map prT).map (fun t => match t with
          | .tup [a, b] => T.tup [.str k.name, a, b]
          | _ => .non) = (unitKd m.ss P k).map uT := by
          rw [List.map_map]
          refine List.map_congr_left fun u mu => ?_
          show T.tup [.str k.name, .int (u.2.1 : Int), .int (u.2.2 : Int)] = uT u
          unfold unitKd at mu
          obtain ⟨a, _, mu⟩ := List.mem_flatMap.mp mu
          unfold unitRow at mu
          obtain ⟨b, _, rfl⟩ := List.mem_map.mp mu
          rfl
        have hkd := kd_len (P := P) (k := k) hm.sl
        have hex : fExtend (.ref 0) [.lst ((unitKd m.ss P k).map uT)] [.lst ((unitsOf m.ss P (m.kinds.take i)).map uT)] = .ok .non [.lst ((unitsOf m.ss P (m.kinds.take (i + 1))).map uT)] := by
          show (if ((unitsOf m.ss P (m.kinds.take i)).map uT).length + ((unitKd m.ss P k).map uT).length ≤ 100000 then R.ok T.non [O.lst ((unitsOf m.ss P (m.kinds.take i)).map uT ++ (unitKd m.ss P k).map uT)] else .bad) = _
          rw [if_pos (by rw [List.length_map, List.length_map]; omega)]
          unfold unitsOf
          rw [take_flat _ hk, List.map_append]
        rw [e2]
        try simp_arith! only [hex, forQ]
        exact ⟨_, _, _, _, _, _, _, _, _, rfl, by trivial⟩
      · obtain ⟨u, mu, rfl⟩ := List.mem_map.mp mt
        refine ⟨_, rfl, ?_⟩
        try simp_arith! only [prT]
    · obtain ⟨a, ma, rfl⟩ := List.mem_map.mp mt
      have ha : a < manyG m.ss P := List.mem_range.mp (List.mem_filter.mp ma).1
      have hN : manyG m.ss P ≤ szOf m.ss + 1 := by
        unfold manyG
        cases P <;> simp
      refine ⟨by rw [intsN_len]; exact l2, _, bindP_nm _ _ _, by try simp_arith! only [], fun u mu => ?_⟩
      obtain ⟨b, mb, rfl⟩ := List.mem_map.mp mu
      have hb : b < manyG m.ss P := List.mem_range.mp (List.mem_filter.mp mb).1
      refine ⟨_, bindP_nm _ _ _, ?_, fun _ => ?_⟩
      · have q : ∀ x : Nat, x < manyG m.ss P → decide ((x : Int) = ((szOf m.ss : Nat) : Int)) = !decide (x < szOf m.ss) := fun x hx => by
          by_cases c : x < szOf m.ss
          · rw [decide_eq_true c, decide_eq_false (by omega)]
            rfl
          · rw [decide_eq_false c, decide_eq_true (by omega)]
            rfl
        try simp_arith! only [q a ha, q b hb, Bool.not_not, Int.toNat_natCast]
        cases decide (a < szOf m.ss) <;> rfl
      · try simp_arith! only []
  · rintro τ S ⟨x5, x6, x7, x8, x9, x10, x11, x12, x13, rfl, rfl⟩
    have ht := tupR (S := [.lst ((unitsOf m.ss P m.kinds).map uT)]) (k := 0) rfl
    rw [List.length_map, List.take_length]
    try simp_arith! only [ht, endQ]
    refine ⟨?_, ?_⟩
    · rw [thaw_tup, cl_tup]
      exact cls_uT 0 _
    · rw [thaw_tup]
      exact h
theorem lc_overF {α : Type} {ts0 : List T} {p : Pat} {c : Fx.Env → Sto → R Bool} {b : Fx.Env → Sto → R T} {τ : Fx.Env} {S : Sto} (f : α → T) (k : α → Bool) (g : α → T) : ∀ (xs : List α) (acc : List T), acc.length + xs.length ≤ 100000 →
    (∀ x ∈ xs, ∃ τ1, bindP p (f x) τ = some τ1 ∧ c τ1 S = .ok (k x) S ∧ (k x = true → b τ1 S = .ok (g x) S)) → mLcGo ⟨ts0, []⟩ p c b τ (xs.map f) acc S = .ok (acc ++ (xs.filter k).map g) S
  | [], acc, _, _ => by rw [List.map_nil, mLcGo, ifP_t (chk_nil _ _)]; simp
  | x :: xs, acc, hl, hs => by
    obtain ⟨τ1, h1, h2, h3⟩ := hs x List.mem_cons_self
    rw [List.length_cons] at hl
    rw [List.map_cons, mLcGo, ifP_t (chk_nil _ _), Fx.bound, h1]
    dsimp only
    rw [h2, ev_noErr, ev_ok, List.filter_cons]
    by_cases hk : k x = true
    · rw [if_pos hk, if_pos hk, h3 hk, ev_noErr, ev_ok, if_pos (by omega), lc_overF f k g xs (acc ++ [g x]) (by simp; omega) fun y m => hs y (List.mem_cons_of_mem _ m)]
      simp
    · rw [if_neg hk, if_neg hk, lc_overF f k g xs acc (by omega) fun y m => hs y (List.mem_cons_of_mem _ m)]
theorem lc_over {α : Type} {ts0 : List T} {p : Pat} {b : Fx.Env → Sto → R T} {τ : Fx.Env} {S : Sto} (f g : α → T) (xs : List α) (hl : xs.length ≤ 100000)
    (hs : ∀ x ∈ xs, ∃ τ1, bindP p (f x) τ = some τ1 ∧ b τ1 S = .ok (g x) S) : mLcGo ⟨ts0, []⟩ p mTrue b τ (xs.map f) [] S = .ok (xs.map g) S := by
  rw [lc_overF f (fun _ => true) g xs [] (by simpa using hl) fun x m => by
    obtain ⟨τ1, h1, h2⟩ := hs x m
    exact ⟨τ1, h1, rfl, fun _ => h2⟩]
  rw [List.nil_append, List.filter_eq_self.mpr fun _ _ => rfl]
theorem cl_opt (n : Nat) (P : Option Nat) : Fx.cl n (optT P) = true := by cases P <;> simp [optT]
theorem mdl_cr (m : Mdl) : cls 0 [strsT m.as, .tup (m.kinds.map Kd.t), .tup (m.asm.map asmT), .tup (m.clm.map clmT)] = true := by simp [strsT, cls_kinds, cls_asm, cls_clm]
theorem mdl_t (m : Mdl) : m.t = .tup (strsT m.ss :: [strsT m.as, .tup (m.kinds.map Kd.t), .tup (m.asm.map asmT), .tup (m.clm.map clmT)]) := rfl
theorem pc_ev {ss : List Str} {rest : List T} (hc : cls 0 rest = true) (hl : ss.length ≤ 3) (S : Sto) : F_profile_count [.tup (strsT ss :: rest)] S = .ok (.int (szOf ss : Nat)) S := ok_ev fun Q h => by
  refine count_ok hc (by omega) ?_
  exact h
theorem pc_m {m : Mdl} (hl : m.ss.length ≤ 3) (S : Sto) : F_profile_count [m.t] S = .ok (.int (szOf m.ss : Nat)) S := by
  rw [mdl_t]
  exact pc_ev (mdl_cr m) hl S
def tupI (xs : List Int) : T := .tup (xs.map T.int)
theorem tupI_cl (n : Nat) (xs : List Int) : Fx.cl n (tupI xs) = true := by
  show Fx.cl n (.tup (xs.map T.int)) = true
  rw [cl_tup]
  exact cls_ints n xs
def kunits (ss : List Str) (P : Option Nat) (ks : List Kd) : List (Kd × Un) := ks.flatMap fun k => (unitKd ss P k).map fun u => (k, u)
theorem kunits_snd (ss : List Str) (P : Option Nat) (ks : List Kd) : (kunits ss P ks).map (·.2) = unitsOf ss P ks := by
  unfold kunits unitsOf
  rw [List.map_flatMap]
  congr 1
  funext k
  rw [List.map_map]
  exact List.map_id' _
theorem zip_map' {α β : Type} (f : α → T) (g : β → T) : ∀ (xs : List α) (ys : List β), zipT (xs.map f) (ys.map g) = (xs.zip ys).map fun p => .wt [f p.1, g p.2]
  | [], _ => by simp [zipT]
  | _ :: _, [] => by simp [zipT]
  | x :: xs, y :: ys => by
    rw [List.map_cons, List.map_cons, zipT, zip_map' f g xs ys]
    rfl
theorem takeT {xs : List T} {i : Int} (h : 0 ≤ i) (S : Sto) : fSlA true (.tup xs) none (some i) S = .ok (.tup (xs.take i.toNat)) S := by
  show R.ok (T.tup (cutT xs none (some i))) S = _
  rw [cut_to _ h]
theorem dropT {xs : List T} {i : Int} (h : 0 ≤ i) (S : Sto) : fSlA true (.tup xs) (some i) none S = .ok (.tup (xs.drop i.toNat)) S := by
  show R.ok (T.tup (cutT xs (some i) none)) S = _
  rw [cut_from _ h]
theorem inF_ints (v : Nat) (N : List Nat) : inF (.int (v : Int)) (intsN N) = decide (v ∈ N) := by
  unfold inF intsN
  rw [List.any_map]
  have : (fun y : T => eqF y (.int (v : Int))) ∘ (fun i : Nat => T.int (i : Int)) = fun i : Nat => decide (i = v) := by
    funext i
    show ((i : Int) == (v : Int)) = decide (i = v)
    by_cases c : i = v
    · subst c; simp
    · rw [decide_eq_false c]
      exact beq_eq_false_iff_ne.mpr fun q => c (by omega)
  rw [this]
  induction N with
  | nil => simp
  | cons x N ih =>
    rw [List.any_cons, ih, Bool.eq_iff_iff]
    simp only [Bool.or_eq_true, decide_eq_true_eq, List.mem_cons]
    constructor
    · rintro (q | q)
      · exact .inl q.symm
      · exact .inr q
    · rintro (q | q)
      · exact .inl q.symm
      · exact .inr q
theorem flat_ints (N : List Nat) : (intsN N).all flatT = true := by
  unfold intsN
  rw [List.all_map, List.all_eq_true]
  intro x _
  rfl
theorem inT_ev {v : Nat} {N : List Nat} (S : Sto) : fIn false (.int (v : Int)) (.tup (intsN N)) S = .ok (.bl (decide (v ∈ N))) S := by
  unfold fIn
  dsimp only [seqOf]
  rw [flat_ints, if_pos (show (flatT (.int (v : Int)) && true) = true from rfl), inF_ints]
  rfl
theorem getD_mem' {α : Type} {xs : List α} {i : Nat} (d : α) (h : i < xs.length) : xs.getD i d ∈ xs := by
  rw [List.getD_eq_getElem?_getD, List.getElem?_eq_getElem h]
  exact List.getElem_mem h
structure Dl where
  k : Kd
  a : Nat
  b : Nat
  n : Int
structure DlOk (m : Mdl) (pf : List Nat) (d : Dl) : Prop where
  k : d.k ∈ m.kinds
  a : d.a < pf.length
  b : d.b < pf.length
  ne : d.a ≠ d.b
  ma : d.k.payer.mem (namesN 0 (pf.getD d.a 0) m.ss) = true
  mb : d.k.payee.mem (namesN 0 (pf.getD d.b 0) m.ss) = true
  n : 0 ≤ d.n
def grI (ss : List Str) (pf : List Nat) (i0 : Option Nat) (i : Nat) : Nat := if i0 = some i then szOf ss else pf.getD i 0
def unD (ss : List Str) (pf : List Nat) (i0 : Option Nat) (d : Dl) : Kd × Un := (d.k, (d.k.name, grI ss pf i0 d.a, grI ss pf i0 d.b))
def peoL (ss : List Str) (pf : List Nat) : List T := pf.map fun p => strsT (namesN 0 p ss)
def Dl.t (d : Dl) : T := .tup [.str d.k.name, .int (d.a : Int), .int (d.b : Int), .int d.n]
def ledT (ss : List Str) (pf : List Nat) (ds : List Dl) : T := .tup [.tup (peoL ss pf), .tup (ds.map Dl.t)]
theorem strs_cl' (n : Nat) (w : List Str) : Fx.cl n (strsT w) = true := by simp [strsT]
theorem peoL_cl (n : Nat) (ss : List Str) (pf : List Nat) : Fx.cls n (peoL ss pf) = true := cls_all _ _ fun t m => by
  obtain ⟨p, _, rfl⟩ := List.mem_map.mp m
  exact strs_cl' n _
theorem dls_cl (n : Nat) (ds : List Dl) : Fx.cls n (ds.map Dl.t) = true := cls_all _ _ fun t m => by
  obtain ⟨d, _, rfl⟩ := List.mem_map.mp m
  simp [Dl.t]
theorem ledT_cl (n : Nat) (ss : List Str) (pf : List Nat) (ds : List Dl) : Fx.cl n (ledT ss pf ds) = true := by simp [ledT, peoL_cl, dls_cl]
theorem peo_len {ss : List Str} {pf : List Nat} (S : Sto) : fLen [.tup (peoL ss pf)] S = .ok (.int (pf.length : Int)) S := by
  unfold peoL
  rw [ev_lenT, List.length_map]
theorem peo_ix {ss : List Str} {pf : List Nat} {i : Nat} (h : i < pf.length) (S : Sto) : fIx (.tup (peoL ss pf)) (.int (i : Int)) S = .ok (strsT (namesN 0 (pf.getD i 0) ss)) S := by
  unfold peoL
  rw [ev_ixT, atI_in _ _ (by omega) (by rw [List.length_map]; omega), Int.toNat_natCast, List.getElem?_map, List.getElem?_eq_getElem h, List.getD_eq_getElem?_getD, List.getElem?_eq_getElem h]
  rfl
def keysN (L : List Nat) : List Key := L.map fun k : Nat => Sum.inl (k : Int)
theorem hasK_keys (k : Nat) : ∀ L : List Nat, hasK (keysN L) (.inl (k : Int)) = decide (k ∈ L)
  | [] => rfl
  | a :: L => by
    show (decide ((Sum.inl (a : Int) : Key) = .inl (k : Int)) || hasK (keysN L) (.inl (k : Int))) = _
    rw [hasK_keys k L]
    by_cases h : a = k
    · subst h
      rw [decide_eq_true rfl, decide_eq_true (List.mem_cons_self)]
      rfl
    · have h1 : ¬ ((Sum.inl (a : Int) : Key) = .inl (k : Int)) := fun e => h (by injection e with e; omega)
      rw [decide_eq_false h1, Bool.false_or]
      congr 1
      rw [List.mem_cons]
      exact propext ⟨.inr, fun o => o.resolve_left fun e => h e.symm⟩
theorem putKk_keys (L : List Nat) (k : Nat) : putKk (keysN L) (.inl (k : Int)) = keysN (if k ∈ L then L else L ++ [k]) := by
  unfold putKk
  rw [hasK_keys]
  by_cases h : k ∈ L
  · rw [decide_eq_true h, if_pos rfl, if_pos h]
  · rw [decide_eq_false h, if_neg Bool.false_ne_true, if_neg h]
    unfold keysN
    rw [List.map_append]
    rfl
abbrev Us := (Kd × Un) × Int
def usedU (ss : List Str) (P : Option Nat) (ks : List Kd) (zs : List Int) : List Us := ((kunits ss P ks).zip zs).filter fun p => decide (0 < p.2)
def Us.a (p : Us) : Nat := p.1.2.2.1
def Us.b (p : Us) : Nat := p.1.2.2.2
def usT (p : Us) : T := .tup [uT p.1.2, .int p.2]
def hitU (us : List Us) (g : Nat) : Bool := us.any fun p => decide (g ∈ [Us.a p, Us.b p])
def grpU (us : List Us) (n : Nat) : List Nat := (List.range n).filter (hitU us)
def twice (G : List Nat) : List Nat := G.flatMap fun g => [g, g]
def pfU (sz : Nat) (P : Option Nat) (us : List Us) : List Nat := twice (grpU us sz) ++ P.toList
def seatP (sz : Nat) (G : List Nat) (g : Nat) : Nat × Nat := if g = sz then (2 * G.length, 2 * G.length) else (2 * G.idxOf g, 2 * G.idxOf g + 1)
def dealU (sz : Nat) (G : List Nat) (p : Us) : List Dl :=
  [⟨p.1.1, (seatP sz G p.a).1, if p.a = p.b then (seatP sz G p.b).2 else (seatP sz G p.b).1, p.2⟩,
   ⟨p.1.1, (seatP sz G p.a).2, if p.a = p.b then (seatP sz G p.b).1 else (seatP sz G p.b).2, p.2⟩]
def dsU (sz : Nat) (us : List Us) : List Dl := us.flatMap (dealU sz (grpU us sz))
def keyU (sz : Nat) (P : Option Nat) (G : List Nat) : List Nat := G ++ (P.map fun _ => sz).toList
def seatT (x y : Nat) : T := .tup [.int (x : Int), .int (y : Int)]
def valU (P : Option Nat) (n : Nat) : List T := ((List.range n).map fun j => seatT (2 * j) (2 * j + 1)) ++ (P.map fun _ => seatT (2 * n) (2 * n)).toList
theorem twice_len (G : List Nat) : (twice G).length = 2 * G.length := by
  unfold twice
  induction G with
  | nil => rfl
  | cons g G ih => rw [List.flatMap_cons, List.length_append, ih]; show 2 + 2 * G.length = 2 * (G.length + 1); omega
theorem get_keys {g : Nat} : ∀ {L : List Nat} {ts : List T}, g ∈ L → ts.length = L.length → getT (keysN L) ts (.inl (g : Int)) = ts[L.idxOf g]?
  | [], _, h, _ => absurd h (by simp)
  | a :: L, [], _, h => by simp at h
  | a :: L, t :: ts, h, hl => by
    show (if (Sum.inl (a : Int) : Key) = .inl (g : Int) then some t else getT (keysN L) ts (.inl (g : Int))) = _
    by_cases e : a = g
    · subst e
      rw [if_pos rfl, List.idxOf_cons_self]
      rfl
    · have h1 : ¬ ((Sum.inl (a : Int) : Key) = .inl (g : Int)) := fun q => e (by injection q with q; omega)
      rw [if_neg h1, get_keys ((List.mem_cons.mp h).resolve_left fun q => e q.symm) (by simpa using hl), List.idxOf_cons, show (a == g) = false from beq_false_of_ne e]
      rfl
theorem any_bl (bs : List Bool) (S : Sto) : fAny [.lst (bs.map T.bl)] S = .ok (.bl (bs.any id)) S := by
  have e : ∀ bs : List Bool, boolsOf (bs.map T.bl) = some bs := fun bs => by
    induction bs with
    | nil => rfl
    | cons b bs ih =>
      show (boolsOf (bs.map T.bl)).map (fun l => b :: l) = _
      rw [ih]
      rfl
  show (match boolsOf (bs.map T.bl) with
    | some ns => R.ok (T.bl (ns.any id)) S
    | none => .bad) = _
  rw [e]
theorem grp_succ (us : List Us) (n : Nat) : grpU us (n + 1) = if hitU us n = true then grpU us n ++ [n] else grpU us n := by
  unfold grpU
  rw [List.range_succ, List.filter_append]
  by_cases h : hitU us n = true
  · rw [if_pos h, List.filter_cons, if_pos h, List.filter_nil]
  · rw [if_neg h, List.filter_cons, if_neg h, List.filter_nil, List.append_nil]
theorem grp_lt {us : List Us} {n g : Nat} (h : g ∈ grpU us n) : g < n := List.mem_range.mp (List.mem_filter.mp h).1
theorem grp_nd (us : List Us) (n : Nat) : (grpU us n).Nodup := List.Pairwise.filter _ List.nodup_range
theorem grp_len (us : List Us) (n : Nat) : (grpU us n).length ≤ n := by
  have := List.length_filter_le (hitU us) (List.range n)
  rw [List.length_range] at this
  exact this
theorem seat_get {sz : Nat} {P : Option Nat} {us : List Us} {g : Nat} (h : g ∈ grpU us sz ∨ (g = sz ∧ P.isSome = true)) : getT (keysN (keyU sz P (grpU us sz))) (valU P (grpU us sz).length) (.inl (g : Int)) = some (seatT (seatP sz (grpU us sz) g).1 (seatP sz (grpU us sz) g).2) := by
  have hno : sz ∉ grpU us sz := fun q => Nat.lt_irrefl _ (grp_lt q)
  have hlen : (valU P (grpU us sz).length).length = (keyU sz P (grpU us sz)).length := by
    unfold valU keyU
    rw [List.length_append, List.length_append, List.length_map, List.length_range]
    cases P <;> rfl
  rcases h with h | ⟨rfl, hP⟩
  · rw [get_keys (by unfold keyU; exact List.mem_append_left _ h) hlen]
    have hne : g ≠ sz := fun e => hno (e ▸ h)
    have hi : (grpU us sz).idxOf g < (grpU us sz).length := List.idxOf_lt_length_iff.mpr h
    have e : (keyU sz P (grpU us sz)).idxOf g = (grpU us sz).idxOf g := by
      unfold keyU
      rw [List.idxOf_append, if_pos h]
    unfold valU seatP
    rw [e, if_neg hne, List.getElem?_append_left (by rw [List.length_map, List.length_range]; exact hi), List.getElem?_map, List.getElem?_range hi]
    rfl
  · obtain ⟨p, rfl⟩ := Option.isSome_iff_exists.mp hP
    rw [get_keys (by unfold keyU; exact List.mem_append_right _ List.mem_cons_self) hlen]
    have e : (keyU g (some p) (grpU us g)).idxOf g = (grpU us g).length := by
      unfold keyU
      rw [List.idxOf_append, if_neg hno]
      show ([g] : List Nat).idxOf g + (grpU us g).length = _
      rw [List.idxOf_cons_self, Nat.zero_add]
    unfold valU seatP
    rw [e, if_pos rfl, List.getElem?_append_right (by rw [List.length_map, List.length_range]; exact Nat.le_refl _), List.length_map, List.length_range, Nat.sub_self]
    rfl
theorem peo_app (ss : List Str) (a b : List Nat) : peoL ss (a ++ b) = peoL ss a ++ peoL ss b := List.map_append
theorem twice_app (a b : List Nat) : twice (a ++ b) = twice a ++ twice b := List.flatMap_append
theorem valU_none (n : Nat) : valU none (n + 1) = valU none n ++ [seatT (2 * n) (2 * n + 1)] := by
  unfold valU
  show _ ++ [] = _ ++ [] ++ _
  rw [List.append_nil, List.append_nil, List.range_succ, List.map_append]
  rfl
structure UnG (m : Mdl) (P : Option Nat) (us : List Us) : Prop where
  len : us.length ≤ 900
  ab : ∀ p ∈ us, (p.a < szOf m.ss ∨ (p.a = szOf m.ss ∧ P.isSome = true)) ∧ (p.b < szOf m.ss ∨ (p.b = szOf m.ss ∧ P.isSome = true))
theorem mem_grp {us : List Us} {p : Us} {sz : Nat} (h : p ∈ us) : (p.a < sz → p.a ∈ grpU us sz) ∧ (p.b < sz → p.b ∈ grpU us sz) := by
  refine ⟨fun hl => List.mem_filter.mpr ⟨List.mem_range.mpr hl, ?_⟩, fun hl => List.mem_filter.mpr ⟨List.mem_range.mpr hl, ?_⟩⟩
  · exact List.any_eq_true.mpr ⟨p, h, decide_eq_true (by simp)⟩
  · exact List.any_eq_true.mpr ⟨p, h, decide_eq_true (by simp)⟩
theorem lc_two {ts0 : List T} {p : Pat} {b : Fx.Env → Sto → R T} {τ : Fx.Env} {S : Sto} {x y u v : T} (h1 : ∃ τ1, bindP p x τ = some τ1 ∧ b τ1 S = .ok u S) (h2 : ∃ τ1, bindP p y τ = some τ1 ∧ b τ1 S = .ok v S) : mLcGo ⟨ts0, []⟩ p mTrue b τ [x, y] [] S = .ok [u, v] S :=
  lc_over (ts0 := ts0) (fun z : Bool => if z = true then x else y) (fun z : Bool => if z = true then u else v) [true, false] (by show 2 ≤ 100000; omega) fun z _ => by
    cases z
    · exact h2
    · exact h1
theorem used_ku {ss : List Str} {P : Option Nat} {ks : List Kd} {zs : List Int} {p : Us} (h : p ∈ usedU ss P ks zs) : p.1 ∈ kunits ss P ks := (List.of_mem_zip (List.mem_filter.mp h).1).1
theorem used_nm {ss : List Str} {P : Option Nat} {ks : List Kd} {zs : List Int} {p : Us} (h : p ∈ usedU ss P ks zs) : p.1.2.1 = p.1.1.name := by
  have h := used_ku h
  obtain ⟨k, _, h⟩ := List.mem_flatMap.mp h
  obtain ⟨u, hu, e⟩ := List.mem_map.mp h
  rw [← e]
  obtain ⟨a, _, hu⟩ := List.mem_flatMap.mp hu
  obtain ⟨b, _, rfl⟩ := List.mem_map.mp hu
  rfl
theorem made_ev {m : Mdl} {P : Option Nat} {zs : List Int} (hm : MdlU m) (hz : (kunits m.ss P m.kinds).length ≤ 900) (hu : UnG m P (usedU m.ss P m.kinds zs)) (S0 : Sto) : F_made [m.t, optT P, tupI zs] S0 = .ok (ledT m.ss (pfU (szOf m.ss) P (usedU m.ss P m.kinds zs)) (dsU (szOf m.ss) (usedU m.ss P m.kinds zs))) S0 := ok_ev fun Q q => by
  unfold F_made
  refine ok_frame0 (by rw [Fx.cls_cons, Fx.cls_cons, Fx.cls_cons, m.cl, cl_opt, tupI_cl, Fx.cls_nil]; rfl) ?_
  generalize hB : B_made = B
  refine ok_run ?_
  subst hB
  unfold B_made
  obtain ⟨T0, hT⟩ : ∃ T0 : Fx.Env → Sto → R Fl, T0 = (sSeq (sSet 10 (mLst false mNil))
    (sSeq (sFor (mIt (mVar 3)) (.tp [(.tp [(.nm 11), (.nm 12), (.nm 13)]), (.nm 5)])
    (sSeq (sSet 14 (mIte (mTst (mBin fEq (mVar 12) (mVar 13))) (mUn fRevTup (mBin fIxK (mVar 7) (mVar 13))) (mBin fIxK (mVar 7) (mVar 13))))
    (sDrop (mMeth isLst fExtend (mVar 10) (mCons (mLc true [15, 16] (mItN fZip (mCons (mBin fIxK (mVar 7) (mVar 12)) (mCons (mVar 14) mNil))) (.tp [(.nm 15), (.nm 16)]) mTrue (mTup (mCons (mVar 11) (mCons (mVar 15) (mCons (mVar 16) (mCons (mVar 5) mNil)))))) mNil)))))
    (sRet (mTup (mCons (mFn fTuple (mCons (mVar 6) mNil)) (mCons (mFn fTuple (mCons (mVar 10) mNil)) mNil)))))) := ⟨_, rfl⟩
  rw [← hT]
  have hsl := hm.sl
  have hun := fun S => units_ev (P := P) (S := S) hm
  have hpc := fun S => pc_m (m := m) hsl S
  have hno : ∀ (p : Nat) S, F_names_of [m.t, .int (p : Int)] S = .ok (strsT (namesN 0 p m.ss)) S := fun p S => ok_ev fun Q h => by
    have := @names_of_ok m.ss p [strsT m.as, .tup (m.kinds.map Kd.t), .tup (m.asm.map asmT), .tup (m.clm.map clmT)] S Q (mdl_cr m) (by omega) h
    rw [← mdl_t m] at this
    exact this
  have hun2 : (unitsOf m.ss P m.kinds).map uT = (kunits m.ss P m.kinds).map fun q => uT q.2 := by rw [← kunits_snd, List.map_map]; rfl
  have hz1 : ∀ (ks : List (Kd × Un)) (rs : List Int) S, fZip [.tup (ks.map fun q => uT q.2), tupI rs] S = .ok ⟨(ks.zip rs).map fun p => .wt [uT p.1.2, .int p.2], []⟩ S := fun ks rs S => by
    show R.ok (⟨zipT (ks.map fun q => uT q.2) (rs.map T.int), []⟩ : Its) S = _
    rw [zip_map']
  have hb1 : ∀ (x y : T) (τ : Fx.Env), bindP (.tp [.nm 4, .nm 5]) (.wt [x, y]) τ = some ((τ.set 4 (some x)).set 5 (some y)) := fun x y τ => rfl
  have hb2 : ∀ (x y : T) (τ : Fx.Env), bindP (.tp [.nm 4, .nm 9]) (.tup [x, y]) τ = some ((τ.set 4 (some x)).set 9 (some y)) := fun x y τ => rfl
  have hzl : ((kunits m.ss P m.kinds).zip zs).length ≤ 900 := by rw [List.length_zip]; omega
  have hul := hu.len
  have hab := hu.ab
  try simp_arith only [hun, hun2, hz1]
  rw [lc_overF (fun p : Us => .wt [uT p.1.2, .int p.2]) (fun p => decide (0 < p.2)) usT _ _ (by rw [List.length_nil]; omega) fun p mp => by
    refine ⟨_, hb1 _ _ _, ?_, fun _ => ?_⟩
    · try simp_arith only []
    · try simp_arith only []
      rfl]
  rw [List.nil_append]
  have hus : ((kunits m.ss P m.kinds).zip zs).filter (fun p => decide (0 < p.2)) = usedU m.ss P m.kinds zs := rfl
  rw [hus]
  have hnames : ∀ p ∈ usedU m.ss P m.kinds zs, p.1.2.1 = p.1.1.name := fun p mp => used_nm mp
  generalize usedU m.ss P m.kinds zs = us at *
  have hsz : szOf m.ss ≤ 8 := szOf_le hsl
  have hil : ∀ (l : List T) S, itOf (.lst l) S = .ok ⟨l, []⟩ S := fun l S => rfl
  have hsi : ∀ (u : Un) S, fSlA true (uT u) (some (1 : Int)) none S = .ok (.tup (intsN [u.2.1, u.2.2])) S := fun u S => by
    unfold uT
    rw [dropT (by decide)]
    rfl
  try simp_arith only [ev_dct0, hpc]
  rw [range1_ev _ _ (by omega)]
  try simp_arith only [Int.toNat_natCast]
  generalize hsz0 : szOf m.ss = sz at *
  refine ok_for (fun i τ S => ∃ x8 : Option T, τ = [some m.t, some (optT P), some (tupI zs), some (.lst (us.map usT)), none, none, some (.ref 0), some (.ref 1), x8, none, none, none, none, none, none, none, none] ∧ S = [.lst (peoL m.ss (twice (grpU us i))), .dct (keysN (grpU us i)) (valU none (grpU us i).length)]) ⟨_, rfl, rfl⟩ ?_ ?_
  · rintro i v τ S e ⟨x8, rfl, rfl⟩
    obtain ⟨hi, rfl⟩ := rangeT_at e
    have ez : (0 : Int) + (i : Int) = (i : Int) := by omega
    refine ⟨_, bindP_nm _ _ _, ?_⟩
    try simp_arith only [ez, hil]
    rw [lc_over usT (fun p : Us => .bl (decide (i ∈ [p.a, p.b]))) us (by omega) fun p mp => by
      refine ⟨_, hb2 _ _ _, ?_⟩
      try simp_arith only [hsi, inT_ev]
      rfl]
    have hbb : us.map (fun p : Us => T.bl (decide (i ∈ [p.a, p.b]))) = (us.map fun p : Us => decide (i ∈ [p.a, p.b])).map T.bl := by rw [List.map_map]; rfl
    have hany : (us.map fun p : Us => decide (i ∈ [p.a, p.b])).any id = hitU us i := by
      unfold hitU
      rw [List.any_map]
      rfl
    have hgl := grp_len us i
    have hpl : (peoL m.ss (twice (grpU us i))).length = 2 * (grpU us i).length := by unfold peoL; rw [List.length_map, twice_len]
    rw [hbb]
    try simp_arith only [any_bl, hany]
    rw [grp_succ]
    by_cases hh : hitU us i = true
    · have hni : i ∉ grpU us i := fun q => Nat.lt_irrefl _ (grp_lt q)
      have hko : keyOf? (.int (i : Int)) = some (.inl (i : Int)) := rfl
      have hk2 : putKk (keysN (grpU us i)) (.inl (i : Int)) = keysN (grpU us i ++ [i]) := by rw [putKk_keys, if_neg hni]
      have hk3 : ∀ t : T, putKt (keysN (grpU us i)) (valU none (grpU us i).length) (.inl (i : Int)) t = valU none (grpU us i).length ++ [t] := fun t => by
        unfold putKt
        rw [hasK_keys, decide_eq_false hni, if_neg Bool.false_ne_true]
      have e1 : ∀ n : Nat, T.tup [.int (n : Int), .int ((n : Int) + 1)] = seatT n (n + 1) := fun n => rfl
      have hex : ∀ (xs : List T) (t u : T) (o : O), xs.length ≤ 16 → fExtend (.ref 0) [.lst [t, u]] [.lst xs, o] = .ok .non [.lst (xs ++ [t, u]), o] := fun xs t u o hx => by
        show (if xs.length + 2 ≤ 100000 then R.ok T.non [.lst (xs ++ [t, u]), o] else .bad) = _
        rw [if_pos (by omega)]
      rw [hh, if_pos rfl]
      try simp_arith only [fTru_bl, hpl, ev_putK, hko]
      rw [if_pos (by unfold keysN; rw [List.length_map]; omega), hk2, hk3, e1]
      try simp_arith only [hno]
      rw [hex _ _ _ _ (by rw [hpl]; omega)]
      try simp_arith only [forQ]
      refine ⟨_, rfl, ?_⟩
      rw [twice_app, peo_app, List.length_append, List.length_singleton, valU_none]
      rfl
    · rw [if_neg hh, Bool.eq_false_iff.mpr hh]
      try simp_arith only [fTru_bl, forQ]
      exact ⟨_, rfl, by trivial⟩
  · rintro τ S ⟨x8, rfl, rfl⟩
    rw [rangeT_length]
    have hgl := grp_len us sz
    have hpl : (peoL m.ss (twice (grpU us sz))).length = 2 * (grpU us sz).length := by unfold peoL; rw [List.length_map, twice_len]
    suffices body : Ok (T0 [some m.t, some (optT P), some (tupI zs), some (.lst (us.map usT)), none, none, some (.ref 0), some (.ref 1), x8, none, none, none, none, none, none, none, none] [.lst (peoL m.ss (pfU sz P us)), .dct (keysN (keyU sz P (grpU us sz))) (valU P (grpU us sz).length)]) (endQ fun t S1 => Fx.cl 0 (thaw 0 true t S1) = true ∧ Q (thaw 0 true t S1) S0) by
      cases P with
      | none =>
        have e0 : pfU sz none us = twice (grpU us sz) := List.append_nil _
        have e1 : keyU sz none (grpU us sz) = grpU us sz := List.append_nil _
        rw [e0, e1] at body
        have hnn : ∀ S, fIsN true (optT none) .non S = .ok (.bl false) S := fun S => rfl
        try simp_arith only [hnn]
        exact body
      | some p =>
        have hnn : ∀ S, fIsN true (optT (some p)) .non S = .ok (.bl true) S := fun S => rfl
        have hni : sz ∉ grpU us sz := fun q => Nat.lt_irrefl _ (grp_lt q)
        have hko : keyOf? (.int (sz : Int)) = some (.inl (sz : Int)) := rfl
        have hk2 : putKk (keysN (grpU us sz)) (.inl (sz : Int)) = keysN (grpU us sz ++ [sz]) := by rw [putKk_keys, if_neg hni]
        have hk3 : ∀ t : T, putKt (keysN (grpU us sz)) (valU none (grpU us sz).length) (.inl (sz : Int)) t = valU none (grpU us sz).length ++ [t] := fun t => by
          unfold putKt
          rw [hasK_keys, decide_eq_false hni, if_neg Bool.false_ne_true]
        have hap : ∀ (xs : List T) (t : T) (o : O), xs.length ≤ 16 → fAppend (.ref 0) [t] [.lst xs, o] = .ok .non [.lst (xs ++ [t]), o] := fun xs t o hx => by
          rw [append_ev (k := 0) rfl (by omega)]
          rfl
        have e0 : peoL m.ss (pfU sz (some p) us) = peoL m.ss (twice (grpU us sz)) ++ [strsT (namesN 0 p m.ss)] := peo_app _ _ _
        have e1 : keyU sz (some p) (grpU us sz) = grpU us sz ++ [sz] := rfl
        have e2 : valU (some p) (grpU us sz).length = valU none (grpU us sz).length ++ [T.tup [.int ((2 * (grpU us sz).length : Nat) : Int), .int ((2 * (grpU us sz).length : Nat) : Int)]] := by
          unfold valU
          show _ ++ [_] = _ ++ [] ++ [_]
          rw [List.append_nil]
          rfl
        have ho : optT (some p) = .int (p : Int) := rfl
        rw [e0, e1, e2] at body
        try simp_arith only [hnn, hpl, hpc, ev_putK, hko]
        rw [if_pos (by unfold keysN; rw [List.length_map]; omega), hk2, hk3]
        rw [ho] at body ⊢
        try simp_arith only [hno]
        rw [hap _ _ _ (by rw [hpl]; omega)]
        try simp_arith only []
        exact body
    subst hT
    have hg := fun g (h : g < sz ∨ (g = sz ∧ P.isSome = true)) (hin : g < sz → g ∈ grpU us sz) => seat_get (us := us) (P := P) (sz := sz) (g := g) (h.elim (fun q => .inl (hin q)) .inr)
    have hix : ∀ (a c : O) (g : Nat), (g < sz ∨ (g = sz ∧ P.isSome = true)) → (g < sz → g ∈ grpU us sz) → fIxK (.ref 1) (.int (g : Int)) [a, .dct (keysN (keyU sz P (grpU us sz))) (valU P (grpU us sz).length), c] = .ok (seatT (seatP sz (grpU us sz) g).1 (seatP sz (grpU us sz) g).2) [a, .dct (keysN (keyU sz P (grpU us sz))) (valU P (grpU us sz).length), c] := fun a c g h1 h2 => by
      show (match getT (keysN (keyU sz P (grpU us sz))) (valU P (grpU us sz).length) (.inl (g : Int)) with
        | some t => R.ok t [a, .dct (keysN (keyU sz P (grpU us sz))) (valU P (grpU us sz).length), c]
        | none => .bad) = _
      rw [hg g h1 h2]
    try simp_arith only [hil]
    have hdl : ∀ i, ((us.take i).flatMap (dealU sz (grpU us sz))).length ≤ 2 * i := fun i => by
      have : ∀ l : List Us, (l.flatMap (dealU sz (grpU us sz))).length = 2 * l.length := fun l => by
        induction l with
        | nil => rfl
        | cons p l ih => rw [List.flatMap_cons, List.length_append, ih]; show 2 + 2 * l.length = 2 * (l.length + 1); omega
      rw [this, List.length_take]
      omega
    refine ok_for (fun i τ S => ∃ x5 x11 x12 x13 x14 x15 x16 : Option T, τ = [some m.t, some (optT P), some (tupI zs), some (.lst (us.map usT)), none, x5, some (.ref 0), some (.ref 1), x8, none, some (.ref 2), x11, x12, x13, x14, x15, x16] ∧ S = [.lst (peoL m.ss (pfU sz P us)), .dct (keysN (keyU sz P (grpU us sz))) (valU P (grpU us sz).length), .lst (((us.take i).flatMap (dealU sz (grpU us sz))).map Dl.t)]) ⟨_, _, _, _, _, _, _, rfl, rfl⟩ ?_ ?_
    · rintro i v τ S e ⟨x5, x11, x12, x13, x14, x15, x16, rfl, rfl⟩
      rw [List.getElem?_map] at e
      obtain ⟨p, hp, rfl⟩ := Option.map_eq_some_iff.mp e
      obtain ⟨hi, hpe⟩ := List.getElem?_eq_some_iff.mp hp
      have mp := List.mem_of_getElem? hp
      obtain ⟨hpa, hpb⟩ := hab p mp
      obtain ⟨hga, hgb⟩ := mem_grp (sz := sz) mp
      have hbd : ∀ τ : Fx.Env, bindP (.tp [.tp [.nm 11, .nm 12, .nm 13], .nm 5]) (usT p) τ = some ((((τ.set 11 (some (.str p.1.2.1))).set 12 (some (.int (p.a : Int)))).set 13 (some (.int (p.b : Int)))).set 5 (some (.int p.2))) := fun τ => rfl
      have hxa := fun a c => hix a c p.a hpa hga
      have hxb := fun a c => hix a c p.b hpb hgb
      have heq : decide ((p.a : Int) = (p.b : Int)) = decide (p.a = p.b) := by rw [decide_eq_decide]; omega
      have hzz : ∀ (x1 x2 y1 y2 : Nat) S, fZip [seatT x1 x2, seatT y1 y2] S = .ok ⟨[(x1, y1), (x2, y2)].map fun q : Nat × Nat => .wt [.int (q.1 : Int), .int (q.2 : Int)], []⟩ S := fun x1 x2 y1 y2 S => rfl
      have hrv : ∀ (x1 x2 : Nat) S, fRevTup (seatT x1 x2) S = .ok (seatT x2 x1) S := fun x1 x2 S => rfl
      have hb3 : ∀ (x y : T) (τ : Fx.Env), bindP (.tp [.nm 15, .nm 16]) (.wt [x, y]) τ = some ((τ.set 15 (some x)).set 16 (some y)) := fun x y τ => rfl
      have hnx : (us.take (i + 1)).flatMap (dealU sz (grpU us sz)) = (us.take i).flatMap (dealU sz (grpU us sz)) ++ dealU sz (grpU us sz) p := by
        rw [List.take_succ_eq_append_getElem hi, hpe, List.flatMap_append, List.flatMap_cons, List.flatMap_nil, List.append_nil]
      have hd := hdl i
      have hex : ∀ (xs ys : List T) (a b : O), xs.length + ys.length ≤ 100000 → fExtend (.ref 2) [.lst ys] [a, b, .lst xs] = .ok .non [a, b, .lst (xs ++ ys)] := fun xs ys a b hx => by
        show (if xs.length + ys.length ≤ 100000 then R.ok T.non [a, b, .lst (xs ++ ys)] else .bad) = _
        rw [if_pos hx]
      have hkey : ∀ y1 y2 : Nat, ([((seatP sz (grpU us sz) p.a).1, y1), ((seatP sz (grpU us sz) p.a).2, y2)].map fun q : Nat × Nat => T.tup [.str p.1.2.1, .int (q.1 : Int), .int (q.2 : Int), .int p.2]) = [T.tup [.str p.1.2.1, .int ((seatP sz (grpU us sz) p.a).1 : Int), .int (y1 : Int), .int p.2], T.tup [.str p.1.2.1, .int ((seatP sz (grpU us sz) p.a).2 : Int), .int (y2 : Int), .int p.2]] := fun y1 y2 => rfl
      refine ⟨_, hbd _, ?_⟩
      have fin : ∀ (y1 y2 : Nat) (x14 : Option T), dealU sz (grpU us sz) p = [⟨p.1.1, (seatP sz (grpU us sz) p.a).1, y1, p.2⟩, ⟨p.1.1, (seatP sz (grpU us sz) p.a).2, y2, p.2⟩] → ([T.tup [.str p.1.2.1, .int ((seatP sz (grpU us sz) p.a).1 : Int), .int (y1 : Int), .int p.2], T.tup [.str p.1.2.1, .int ((seatP sz (grpU us sz) p.a).2 : Int), .int (y2 : Int), .int p.2]] : List T) = (dealU sz (grpU us sz) p).map Dl.t := fun y1 y2 x14 e => by
        rw [e]
        have hnm : p.1.2.1 = p.1.1.name := hnames p mp
        rw [hnm]
        rfl
      by_cases hq : p.a = p.b
      · have e1 : dealU sz (grpU us sz) p = [⟨p.1.1, (seatP sz (grpU us sz) p.a).1, (seatP sz (grpU us sz) p.b).2, p.2⟩, ⟨p.1.1, (seatP sz (grpU us sz) p.a).2, (seatP sz (grpU us sz) p.b).1, p.2⟩] := by
          unfold dealU
          rw [if_pos hq, if_pos hq]
        try simp_arith only [heq, decide_eq_true hq, hxb, hrv, hxa, hzz]
        rw [lc_two (u := T.tup [.str p.1.2.1, .int ((seatP sz (grpU us sz) p.a).1 : Int), .int ((seatP sz (grpU us sz) p.b).2 : Int), .int p.2]) (v := T.tup [.str p.1.2.1, .int ((seatP sz (grpU us sz) p.a).2 : Int), .int ((seatP sz (grpU us sz) p.b).1 : Int), .int p.2]) ⟨_, hb3 _ _ _, by try simp_arith only []⟩ ⟨_, hb3 _ _ _, by try simp_arith only []⟩]
        rw [fin _ _ none e1]
        try simp_arith only []
        rw [hex _ _ _ _ (by rw [List.length_map]; show _ + 2 ≤ 100000; omega)]
        try simp_arith only [forQ]
        refine ⟨_, _, _, _, _, _, _, rfl, ?_⟩
        rw [hnx, List.map_append]
      · have e1 : dealU sz (grpU us sz) p = [⟨p.1.1, (seatP sz (grpU us sz) p.a).1, (seatP sz (grpU us sz) p.b).1, p.2⟩, ⟨p.1.1, (seatP sz (grpU us sz) p.a).2, (seatP sz (grpU us sz) p.b).2, p.2⟩] := by
          unfold dealU
          rw [if_neg hq, if_neg hq]
        try simp_arith only [heq, decide_eq_false hq, hxb, hxa, hzz]
        rw [lc_two (u := T.tup [.str p.1.2.1, .int ((seatP sz (grpU us sz) p.a).1 : Int), .int ((seatP sz (grpU us sz) p.b).1 : Int), .int p.2]) (v := T.tup [.str p.1.2.1, .int ((seatP sz (grpU us sz) p.a).2 : Int), .int ((seatP sz (grpU us sz) p.b).2 : Int), .int p.2]) ⟨_, hb3 _ _ _, by try simp_arith only []⟩ ⟨_, hb3 _ _ _, by try simp_arith only []⟩]
        rw [fin _ _ none e1]
        try simp_arith only []
        rw [hex _ _ _ _ (by rw [List.length_map]; show _ + 2 ≤ 100000; omega)]
        try simp_arith only [forQ]
        refine ⟨_, _, _, _, _, _, _, rfl, ?_⟩
        rw [hnx, List.map_append]
    · rintro τ S ⟨x5, x11, x12, x13, x14, x15, x16, rfl, rfl⟩
      rw [List.length_map, List.take_length]
      have h0 : ∀ (a c : List T) (o : O), fTuple [.ref 0] [.lst a, o, .lst c] = .ok (.tup a) [.lst a, o, .lst c] := fun a c o => rfl
      have h2 : ∀ (a c : List T) (o : O), fTuple [.ref 2] [.lst a, o, .lst c] = .ok (.tup c) [.lst a, o, .lst c] := fun a c o => rfl
      have hled : T.tup [.tup (peoL m.ss (pfU sz P us)), .tup ((us.flatMap (dealU sz (grpU us sz))).map Dl.t)] = ledT m.ss (pfU sz P us) (dsU sz us) := rfl
      try simp_arith only [h0, h2, hled, endQ]
      exact ⟨by unfold ledT; rw [thaw_tup]; exact ledT_cl 0 _ _ _, by unfold ledT; rw [thaw_tup]; exact q⟩
theorem twice_get : ∀ (G : List Nat) (i : Nat), (twice G)[i]? = G[i / 2]?
  | [], i => by simp [twice]
  | g :: G, 0 => rfl
  | g :: G, 1 => rfl
  | g :: G, i + 2 => by
    show (twice G)[i]? = (g :: G)[(i + 2) / 2]?
    rw [twice_get G i, show (i + 2) / 2 = i / 2 + 1 by omega]
    rfl
def i0U (P : Option Nat) (n : Nat) : Option Nat := P.map fun _ => 2 * n
structure UsG (ss : List Str) (P : Option Nat) (ks : List Kd) (us : List Us) : Prop where
  ku : ∀ p ∈ us, p.1 ∈ kunits ss P ks
  pos : ∀ p ∈ us, 0 < p.2
  P : ∀ q, P = some q → q < szOf ss
theorem ku_ab {ss : List Str} {P : Option Nat} {ks : List Kd} {q : Kd × Un} (h : q ∈ kunits ss P ks) : q.1 ∈ ks ∧ q.2.1 = q.1.name ∧ q.2.2.1 ∈ grpsOf ss P q.1.payer ∧ q.2.2.2 ∈ grpsOf ss P q.1.payee ∧ (q.2.2.1 < szOf ss ∨ q.2.2.2 < szOf ss) := by
  obtain ⟨k, mk, h⟩ := List.mem_flatMap.mp h
  obtain ⟨u, hu, rfl⟩ := List.mem_map.mp h
  obtain ⟨a, ma, hu⟩ := List.mem_flatMap.mp hu
  obtain ⟨b, mb, rfl⟩ := List.mem_map.mp hu
  obtain ⟨mb, hab⟩ := List.mem_filter.mp mb
  refine ⟨mk, rfl, ma, mb, ?_⟩
  rw [Bool.or_eq_true, decide_eq_true_eq, decide_eq_true_eq] at hab
  exact hab
theorem grps_lt {ss : List Str} {P : Option Nat} {e : SE} {g : Nat} (h : g ∈ grpsOf ss P e) : (g < szOf ss ∨ (g = szOf ss ∧ P.isSome = true)) ∧ e.mem (namesN 0 (grpP ss P g) ss) = true := by
  have h := List.mem_filter.mp h
  refine ⟨?_, h.2⟩
  have := List.mem_range.mp h.1
  unfold manyG at this
  cases P with
  | none => left; simpa using this
  | some p =>
    have : g < szOf ss + 1 := this
    rcases Nat.lt_or_ge g (szOf ss) with q | q
    · exact .inl q
    · exact .inr ⟨by omega, rfl⟩
/-- the groups that have seats -/
def SeatG (sz : Nat) (P : Option Nat) (G : List Nat) (g : Nat) : Prop := g ∈ G ∨ (g = sz ∧ P.isSome = true)
structure GrG (sz : Nat) (P : Option Nat) (G : List Nat) : Prop where
  nd : G.Nodup
  lt : ∀ g ∈ G, g < sz
  P : ∀ q, P = some q → q < sz
def pfG (P : Option Nat) (G : List Nat) : List Nat := twice G ++ P.toList
theorem pfG_len (P : Option Nat) (G : List Nat) : (pfG P G).length = 2 * G.length + (if P.isSome = true then 1 else 0) := by
  unfold pfG
  rw [List.length_append, twice_len]
  cases P <;> rfl
theorem pfG_lo {P : Option Nat} {G : List Nat} {i : Nat} (h : i < 2 * G.length) : (pfG P G).getD i 0 = G.getD (i / 2) 0 := by
  unfold pfG
  rw [List.getD_eq_getElem?_getD, List.getElem?_append_left (by rw [twice_len]; exact h), twice_get, List.getD_eq_getElem?_getD]
theorem pfG_hi {p : Nat} {G : List Nat} : (pfG (some p) G).getD (2 * G.length) 0 = p := by
  unfold pfG
  rw [List.getD_eq_getElem?_getD, List.getElem?_append_right (by rw [twice_len]; exact Nat.le_refl _), twice_len, Nat.sub_self]
  rfl
theorem seat_at {ss : List Str} {P : Option Nat} {G : List Nat} (h : GrG (szOf ss) P G) {a : Nat} (ha : SeatG (szOf ss) P G a) (j : Nat) (hj : j = (seatP (szOf ss) G a).1 ∨ j = (seatP (szOf ss) G a).2) : j < (pfG P G).length ∧ (pfG P G).getD j 0 = grpP ss P a ∧ grI ss (pfG P G) (i0U P G.length) j = a := by
  rw [pfG_len]
  rcases ha with ha | ⟨rfl, hP⟩
  · have hlt := h.lt a ha
    have hia := List.idxOf_lt_length_iff.mpr ha
    have hj2 : j < 2 * G.length ∧ j / 2 = G.idxOf a := by
      unfold seatP at hj
      rw [if_neg (by omega)] at hj
      rcases hj with rfl | rfl
      · exact ⟨by show 2 * _ < _; omega, by show 2 * _ / 2 = _; omega⟩
      · exact ⟨by show 2 * _ + 1 < _; omega, by show (2 * _ + 1) / 2 = _; omega⟩
    have hv : (pfG P G).getD j 0 = a := by
      rw [pfG_lo hj2.1, hj2.2, List.getD_eq_getElem?_getD, List.getElem?_eq_getElem hia]
      exact List.getElem_idxOf hia
    refine ⟨by omega, ?_, ?_⟩
    · rw [hv]
      unfold grpP
      rw [if_neg (by omega)]
    · unfold grI
      rw [if_neg fun q => by
        cases P with
        | none => cases q
        | some p => have q2 : 2 * G.length = j := Option.some.inj q; omega, hv]
  · obtain ⟨p, rfl⟩ := Option.isSome_iff_exists.mp hP
    have hj2 : j = 2 * G.length := by
      unfold seatP at hj
      rw [if_pos rfl] at hj
      exact hj.elim id id
    subst hj2
    refine ⟨by show _ < _ + 1; omega, ?_, ?_⟩
    · rw [pfG_hi]
      unfold grpP
      rw [if_pos rfl]
      rfl
    · have hyes : i0U (some p) G.length = some (2 * G.length) := rfl
      unfold grI
      rw [if_pos hyes]
theorem us_gr {ss : List Str} {P : Option Nat} {ks : List Kd} {us : List Us} (h : UsG ss P ks us) : GrG (szOf ss) P (grpU us (szOf ss)) := ⟨grp_nd _ _, fun g mg => grp_lt mg, h.P⟩
theorem us_seat {ss : List Str} {P : Option Nat} {ks : List Kd} {us : List Us} (h : UsG ss P ks us) {p : Us} (mp : p ∈ us) : SeatG (szOf ss) P (grpU us (szOf ss)) p.a ∧ SeatG (szOf ss) P (grpU us (szOf ss)) p.b ∧ (p.a < szOf ss ∨ p.b < szOf ss) := by
  obtain ⟨-, -, ha, hb, hab⟩ := ku_ab (h.ku p mp)
  obtain ⟨m1, m2⟩ := mem_grp (sz := szOf ss) mp
  exact ⟨(grps_lt ha).1.elim (fun q => .inl (m1 q)) .inr, (grps_lt hb).1.elim (fun q => .inl (m2 q)) .inr, hab⟩
structure DealG (m : Mdl) (P : Option Nat) (us : List Us) (p : Us) (d : Dl) : Prop where
  un : unD m.ss (pfG P (grpU us (szOf m.ss))) (i0U P (grpU us (szOf m.ss)).length) d = p.1
  n : d.n = p.2
  ok : DlOk m (pfG P (grpU us (szOf m.ss))) d
theorem deal_g {m : Mdl} {P : Option Nat} {us : List Us} (h : UsG m.ss P m.kinds us) {p : Us} (mp : p ∈ us) : ∀ d ∈ dealU (szOf m.ss) (grpU us (szOf m.ss)) p, DealG m P us p d := fun d md => by
  obtain ⟨sa, sb, hab⟩ := us_seat h mp
  have gr := us_gr h
  obtain ⟨hk, hnm, ha, hb, -⟩ := ku_ab (h.ku p mp)
  have hma := (grps_lt ha).2
  have hmb := (grps_lt hb).2
  have hn := h.pos p mp
  generalize hG : grpU us (szOf m.ss) = G at *
  have core : ∀ (x y : Nat), d = ⟨p.1.1, x, y, p.2⟩ → (x = (seatP (szOf m.ss) G p.a).1 ∨ x = (seatP (szOf m.ss) G p.a).2) → (y = (seatP (szOf m.ss) G p.b).1 ∨ y = (seatP (szOf m.ss) G p.b).2) → x ≠ y → DealG m P us p d := fun x y e hx hy hne => by
    obtain ⟨x1, x2, x3⟩ := seat_at gr sa x hx
    obtain ⟨y1, y2, y3⟩ := seat_at gr sb y hy
    subst e
    refine ⟨?_, rfl, ?_⟩
    · rw [hG]
      unfold unD
      dsimp only
      rw [x3, y3, ← hnm]
      rfl
    · rw [hG]
      exact ⟨hk, x1, y1, hne, by rw [x2]; exact hma, by rw [y2]; exact hmb, by show 0 ≤ p.2; omega⟩
  have hdiff : p.a ≠ p.b → ∀ x y, (x = (seatP (szOf m.ss) G p.a).1 ∨ x = (seatP (szOf m.ss) G p.a).2) → (y = (seatP (szOf m.ss) G p.b).1 ∨ y = (seatP (szOf m.ss) G p.b).2) → x ≠ y := fun hne x y hx hy e => by
    have x3 := (seat_at gr sa x hx).2.2
    have y3 := (seat_at gr sb y hy).2.2
    rw [e, y3] at x3
    exact hne x3.symm
  unfold dealU at md
  simp only [List.mem_cons, List.not_mem_nil, or_false] at md
  by_cases hq : p.a = p.b
  · have hlt : p.a < szOf m.ss := by omega
    have e1 : seatP (szOf m.ss) G p.a = (2 * G.idxOf p.a, 2 * G.idxOf p.a + 1) := by unfold seatP; rw [if_neg (by omega)]
    rw [if_pos hq, if_pos hq] at md
    rw [← hq] at core md
    rcases md with e | e
    · exact core _ _ e (.inl rfl) (.inr rfl) (by rw [e1]; show 2 * _ ≠ 2 * _ + 1; omega)
    · exact core _ _ e (.inr rfl) (.inl rfl) (by rw [e1]; show 2 * _ + 1 ≠ 2 * _; omega)
  · rw [if_neg hq, if_neg hq] at md
    rcases md with e | e
    · exact core _ _ e (.inl rfl) (.inl rfl) (hdiff hq _ _ (.inl rfl) (.inl rfl))
    · exact core _ _ e (.inr rfl) (.inr rfl) (hdiff hq _ _ (.inr rfl) (.inr rfl))
theorem ds_ok {m : Mdl} {P : Option Nat} {us : List Us} (h : UsG m.ss P m.kinds us) : ∀ d ∈ dsU (szOf m.ss) us, DlOk m (pfG P (grpU us (szOf m.ss))) d := fun d md => by
  obtain ⟨p, mp, md⟩ := List.mem_flatMap.mp md
  exact (deal_g h mp d md).ok
theorem used_g {m : Mdl} {P : Option Nat} {zs : List Int} (hP : ∀ q, P = some q → q < szOf m.ss) : UsG m.ss P m.kinds (usedU m.ss P m.kinds zs) := ⟨fun p mp => used_ku mp, fun p mp => of_decide_eq_true (List.mem_filter.mp mp).2, hP⟩
theorem strs_cl (n : Nat) (ns : List Str) : Fx.cl n (strsT ns) = true := by
  show Fx.cl n (.tup (ns.map T.str)) = true
  rw [cl_tup]
  exact cls_strs n ns
def memsOf (e : SE) (ps : List (List Str)) : List Nat := (List.range ps.length).filter fun i => e.mem (ps.getD i [])
def inPs (e : SE) (ps : List (List Str)) (t : T) : Bool := match t with
  | .int i => e.mem (ps.getD i.toNat [])
  | _ => false
theorem ps_at {ps : List (List Str)} {i : Nat} (h : i < ps.length) : L2.atI (ps.map strsT) (i : Int) = some (strsT (ps.getD i [])) := by
  rw [atI_in _ _ (by omega) (by rw [List.length_map]; omega), Int.toNat_natCast, List.getElem?_map, List.getD_eq_getElem?_getD, List.getElem?_eq_getElem h]
  rfl
theorem rows_cl (n : Nat) (ps : List (List Str)) : cls n (ps.map strsT) = true := cls_all _ _ fun t m => by
  obtain ⟨p, _, rfl⟩ := List.mem_map.mp m
  exact strs_cl n p
theorem ints_cl (n : Nat) (xs : List Nat) : cls n (intsN xs) = true := cls_intsN n xs
theorem members_ok {e : SE} {ps : List (List Str)} {S : Sto} {Q : T → Sto → Prop} (hd : e.dep < 24) (hl : ps.length ≤ 1000) (h : Q (.lst (intsN (memsOf e ps))) S) : Ok (F__law_members [.lst (ps.map strsT), e.t] S) Q := by
  unfold F__law_members
  refine ok_frame0 (by simp [rows_cl, SE.cl]) ?_
  generalize hB : B__law_members = B
  refine ok_run ?_
  subst hB
  unfold B__law_members
  try simp_arith only [List.length_map]
  rw [range1_ev _ _ (by omega)]
  try simp_arith only [rangeT_0]
  rw [lc_pure (inPs e ps) (fun t => t) _ [] (by rw [intsN_len, List.length_range]; simp; omega) fun t mt => ?_]
  · have e1 : ((intsN (List.range (ps.length : Int).toNat)).filter (inPs e ps)).map (fun t => t) = intsN (memsOf e ps) := by
      rw [List.map_id', Int.toNat_natCast]
      unfold intsN memsOf
      rw [List.filter_map]
      rfl
    try simp_arith only []
    rw [e1]
    try simp_arith only [endQ]
    exact ⟨by rw [thaw_lst, cl_lst]; exact ints_cl 0 _, by rw [thaw_lst]; exact h⟩
  · obtain ⟨i, hi, rfl⟩ := List.mem_map.mp mt
    have hi : i < ps.length := by
      have := List.mem_range.mp hi
      omega
    refine ⟨_, bindP_nm _ _ _, ?_, fun _ => ?_⟩
    · try simp_arith only [ps_at hi, member_ev hd, fTru_bl]
      rfl
    · try simp_arith only []
theorem zipIdx_at {α : Type} {l : List α} {p : α × Nat} (h : p ∈ l.zipIdx) : l[p.2]? = some p.1 := List.mem_zipIdx_iff_getElem?.mp h
theorem zipIdx_ints {α : Type} (l : List α) : l.zipIdx.map (fun p => T.int (p.2 : Int)) = intsN (List.range l.length) := by
  have h : l.zipIdx.map Prod.snd = List.range l.length := by
    rw [List.range_eq_range', ← List.zipIdx_map_snd 0 l]
  unfold intsN
  rw [← h, List.map_map]
  rfl
theorem zipIdx_filter {α : Type} (l : List α) (k : α → Bool) {β : Type} (g : α → β) : (l.zipIdx.filter fun p => k p.1).map (fun p => g p.1) = (l.filter k).map g := by
  have h : l.zipIdx.map Prod.fst = l := List.zipIdx_map_fst 0 l
  conv => rhs; rw [← h]
  rw [List.filter_map, List.map_map]
  rfl
theorem add_refG {S : Sto} {k : Nat} {ts us : List T} (h : S[k]? = some (.lst ts)) (hl : ts.length + us.length ≤ 100000) : fAddA false (.ref k) (.lst us) S = .ok (.ref S.length) (S ++ [.lst (ts ++ us)]) := by
  show fCat false (.ref k) (.lst us) S = _
  have e1 : lstD S (.ref k) = some ts := by
    show (match S[k]? with
    | some (.lst ts) => some ts
    | _ => none) = _
    rw [h]
  have e2 : lstD S (.lst us) = some us := rfl
  unfold fCat
  rw [e1, e2]
  dsimp only
  rw [if_pos hl]
  rfl
theorem len_refG {S : Sto} {k : Nat} {ts : List T} (h : S[k]? = some (.lst ts)) : fLen [.ref k] S = .ok (.int ts.length) S := by
  rw [ev_lenR, ev_seqR, h]
theorem app_old {S : Sto} {x o : O} {k : Nat} (h : S[k]? = some o) : (S ++ [x])[k]? = some o := by
  rw [List.getElem?_append_left (List.getElem?_eq_some_iff.mp h).1]
  exact h
theorem app_new {S : Sto} {x : O} : (S ++ [x])[S.length]? = some x := List.getElem?_concat_length
theorem set_old {S : Sto} {o x : O} {k j : Nat} (h : S[k]? = some o) (hne : j ≠ k) : (S.set j x)[k]? = some o := by
  rw [List.getElem?_set_ne hne]
  exact h
theorem set_new {S : Sto} {o x : O} {k : Nat} (h : S[k]? = some o) : (S.set k x)[k]? = some x := by
  rw [List.getElem?_set_self (List.getElem?_eq_some_iff.mp h).1]
theorem lt_of {S : Sto} {o : O} {k : Nat} (h : S[k]? = some o) : k < S.length := (List.getElem?_eq_some_iff.mp h).1
theorem isl_ref {S : Sto} {k : Nat} {ts : List T} (h : S[k]? = some (.lst ts)) : isLst (.ref k) S = true := by
  unfold isLst
  rw [ev_lstR, h]
  rfl
theorem inL_ev {v : Nat} {N : List Nat} (S : Sto) : fIn false (.int (v : Int)) (.lst (intsN N)) S = .ok (.bl (decide (v ∈ N))) S := by
  unfold fIn
  dsimp only [seqOf, lstD]
  rw [flat_ints, if_pos (show (flatT (.int (v : Int)) && true) = true from rfl), inF_ints]
  rfl
theorem eqF_nat (a b : Nat) : eqF (.int (a : Int)) (.int (b : Int)) = decide (a = b) := by
  show decide ((a : Int) = (b : Int)) = _
  rw [decide_eq_decide]
  omega
theorem index_nats {o : List Nat} {p : Nat} (h : p ∈ o) (S : Sto) : fIndex (.lst (intsN o)) [.int (p : Int)] S = .ok (.int (o.idxOf p : Nat)) S := by
  have hfl : (intsN o).all flatT = true := List.all_eq_true.mpr fun t mt => by
    obtain ⟨i, _, rfl⟩ := List.mem_map.mp mt
    rfl
  have hx : ixF (.int (p : Int)) (intsN o) = some (o.idxOf p) := by
    unfold ixF intsN
    rw [List.findIdx?_map]
    have e : ((fun y => eqF y (.int (p : Int))) ∘ fun i : Nat => T.int (i : Int)) = fun i => i == p := by
      funext i
      show eqF (.int (i : Int)) (.int (p : Int)) = _
      rw [eqF_nat]
      rfl
    rw [e]
    rw [List.findIdx?_eq_some_iff_findIdx_eq]
    exact ⟨List.idxOf_lt_length_of_mem h, rfl⟩
  show (if (flatT (.int (p : Int)) && (intsN o).all flatT) = true then match ixF (.int (p : Int)) (intsN o) with
    | some j => R.ok (T.int j) S
    | none => .bad else .bad) = _
  rw [hfl, if_pos (by rfl), hx]
theorem mulL {i j : Int} (h : -18446744073709551616 < i ∧ i < 18446744073709551616) (S : Sto) : fMul (.int i) (.int j) S = .ok (.int (i * j)) S := by
  have c : cMul i j = true := by
    unfold cMul
    simp only [Bool.or_eq_true, Bool.and_eq_true, decide_eq_true_eq]
    exact .inl ⟨by omega, by omega⟩
  show (if cMul i j = true then R.ok (T.int (i * j)) S else .bad) = _
  rw [if_pos c]
theorem names_in {w : Str} : ∀ (k p : Nat) (ss : List Str), w ∈ namesN k p ss → w ∈ ss
  | _, _, [], h => by simp [namesN] at h
  | k, p, s :: ss, h => by
    unfold namesN at h
    split at h
    · rcases List.mem_cons.mp h with rfl | h
      · exact List.mem_cons_self
      · exact List.mem_cons_of_mem _ (names_in _ _ _ h)
    · exact List.mem_cons_of_mem _ (names_in _ _ _ h)
theorem names_filterK (p : Nat) : ∀ (k : Nat) (ss : List Str), ss.Nodup → ss.filter (fun w => decide (w ∈ namesN k p ss)) = namesN k p ss
  | _, [], _ => by simp [namesN]
  | k, s :: ss, h => by
    have h := List.nodup_cons.mp h
    have ih := names_filterK p (k + 1) ss h.2
    have hs : s ∉ namesN (k + 1) p ss := fun q => h.1 (names_in _ _ _ q)
    unfold namesN
    split
    · rw [List.filter_cons, if_pos (decide_eq_true List.mem_cons_self)]
      congr 1
      rw [← ih]
      refine List.filter_congr fun w mw => ?_
      have hne : w ≠ s := fun e => h.1 (e ▸ mw)
      rw [ih, decide_eq_decide, List.mem_cons]
      exact ⟨fun q => q.resolve_left hne, .inr⟩
    · rw [List.filter_cons, if_neg (by rw [decide_eq_false hs]; exact Bool.false_ne_true)]
      exact ih
theorem names_filter {ss : List Str} (h : ss.Nodup) (p : Nat) : ss.filter (fun w => decide (w ∈ namesN 0 p ss)) = namesN 0 p ss := names_filterK p 0 ss h
def lastK (name : Str) (ks : List Kd) : Option Kd := ks.foldl (fun a k => if k.name = name then some k else a) none
theorem lastK_snoc (name : Str) (ks : List Kd) (k : Kd) : lastK name (ks ++ [k]) = if k.name = name then some k else lastK name ks := by
  unfold lastK
  rw [List.foldl_append]
  rfl
theorem foldl_none {name : Str} : ∀ {ks : List Kd} {a : Option Kd}, name ∉ ks.map Kd.name → ks.foldl (fun a k => if k.name = name then some k else a) a = a
  | [], _, _ => rfl
  | k :: ks, a, h => by
    rw [List.map_cons, List.mem_cons, not_or] at h
    rw [List.foldl_cons, if_neg fun e => h.1 e.symm]
    exact foldl_none h.2
theorem lastK_mem {k : Kd} : ∀ {ks : List Kd}, k ∈ ks → (ks.map Kd.name).Nodup → lastK k.name ks = some k := by
  intro ks
  unfold lastK
  generalize (none : Option Kd) = a
  induction ks generalizing a with
  | nil => intro h; cases h
  | cons q ks ih =>
    intro hm hn
    rw [List.map_cons, List.nodup_cons] at hn
    rw [List.foldl_cons]
    rcases List.mem_cons.mp hm with rfl | hm
    · rw [if_pos rfl]
      exact foldl_none hn.1
    · exact ih _ hm hn.2
theorem Pl_led (ss : List Str) (pf : List Nat) (ds : List Dl) (h1 : pf.length ≤ 1000) (h2 : ds.length ≤ 1000000) (h3 : ss.length ≤ 3) (hn : ss.Nodup) : Pl 3 (ledT ss pf ds) := .tup (show 2 ≤ 1000000 by decide) fun t mt => by
  simp only [List.mem_cons, List.not_mem_nil, or_false] at mt
  rcases mt with rfl | rfl
  · refine .tup (by unfold peoL; rw [List.length_map]; omega) fun t mt => ?_
    obtain ⟨p, _, rfl⟩ := List.mem_map.mp mt
    refine .tup ?_ fun t mt => ?_
    · rw [List.length_map, ← names_filter hn p]
      exact Nat.le_trans (List.length_filter_le _ _) (by omega)
    · obtain ⟨w, _, rfl⟩ := List.mem_map.mp mt
      exact .str _ _
  · refine .tup (by rw [List.length_map]; omega) fun t mt => ?_
    obtain ⟨d, _, rfl⟩ := List.mem_map.mp mt
    refine .tup (show 4 ≤ 1000000 by decide) fun t mt => ?_
    simp only [List.mem_cons, List.not_mem_nil, or_false] at mt
    rcases mt with rfl | rfl | rfl | rfl
    · exact .str _ _
    · exact .int _ _
    · exact .int _ _
    · exact .int _ _
theorem pow59 (S : Sto) : fPow (.int 10) (.int 59) S = .ok (.int 100000000000000000000000000000000000000000000000000000000000) S := id rfl
theorem amount_ok {t : Tp} {rest : Sto} {Q : T → Sto → Prop} (hp : 0 ≤ t.pl) (h : ∀ (n : Int) (t' : Tp), 0 ≤ t'.pl → Q (.int n) (t'.o :: rest)) : Ok (F__law_amount [.ref 0] (t.o :: rest)) Q := by
  unfold F__law_amount
  refine ok_frame1 (by simp) t.clO ?_
  generalize hB : B__law_amount = B
  refine ok_run ?_
  subst hB
  unfold B__law_amount
  try simp_arith only [pow59]
  refine draw_ok hp (by decide) fun n t1 hp1 h0 h1 => ?_
  try simp_arith only []
  refine draw_ok hp1 (by decide) fun j t2 hp2 hj0 hj => ?_
  have : ∃ k : Int, L2.atI [T.int 1, .int 1, .int 2, .int 3, .int 5, .int 1000, .int (100000000000000000000000000000000000000000000000000000000000 + 1), .int (1 + n)] j = some (.int k) := by
    have hi : j.toNat < ([1, 1, 2, 3, 5, 1000, 100000000000000000000000000000000000000000000000000000000000 + 1, 1 + n] : List Int).length := by show j.toNat < 8; omega
    refine ⟨([1, 1, 2, 3, 5, 1000, 100000000000000000000000000000000000000000000000000000000000 + 1, 1 + n] : List Int)[j.toNat], ?_⟩
    show L2.atI (([1, 1, 2, 3, 5, 1000, 100000000000000000000000000000000000000000000000000000000000 + 1, 1 + n] : List Int).map T.int) j = _
    rw [atI_in _ _ hj0 (by rw [List.length_map]; omega), List.getElem?_map, List.getElem?_eq_getElem hi]
    rfl
  obtain ⟨k, hk⟩ := this
  try simp_arith only [hk, endQ]
  refine ⟨t2.o, _, rfl, t2.clO, by simp, ?_⟩
  rw [thaw_int]
  exact h k t2 hp2
theorem same_yes {d : Nat} {x : T} {e : Nat} {S : Sto} {Q : T → Sto → Prop} (hx : Pl e x) (he : e ≤ d) (h : Q (.bl true) S) : Ok (F__law_same (d + 1) [x, x] S) Q := same_ok hx (hx.le he) fun b hb => by
  rw [hb.mpr rfl]
  exact h
theorem SE.over_rev {ss : List Str} : ∀ {e : SE}, e.over ss → e.over ss.reverse
  | .all, _ => trivial
  | .none, _ => trivial
  | .sec s, h => List.mem_reverse.mpr h
  | .not e, h => SE.over_rev (e := e) h
  | .and a b, h => ⟨SE.over_rev (e := a) h.1, SE.over_rev (e := b) h.2⟩
  | .or a b, h => ⟨SE.over_rev (e := a) h.1, SE.over_rev (e := b) h.2⟩
theorem sets_ev {ss : List Str} (hl : ss.length ≤ 10) (S : Sto) : F__law_sets [strsT ss] S = .ok (.lst ((sets ss).map strsT)) S := ok_ev fun Q h => sets_ok hl h
theorem members_ev {e : SE} {ps : List (List Str)} (hd : e.dep < 24) (hl : ps.length ≤ 1000) (S : Sto) : F__law_members [.lst (ps.map strsT), e.t] S = .ok (.lst (intsN (memsOf e ps))) S := ok_ev fun Q h => members_ok hd hl h
def grpS (ss : List Str) (P : Option Nat) : List (List Str) := sets ss ++ P.toList.map fun p => namesN 0 p ss
theorem grpS_len (ss : List Str) (P : Option Nat) : (grpS ss P).length = manyG ss P := by
  unfold grpS manyG
  rw [List.length_append, List.length_map, sets_len]
  cases P <;> rfl
theorem grpS_at {ss : List Str} {P : Option Nat} {g : Nat} (h : g < manyG ss P) : (grpS ss P).getD g [] = namesN 0 (grpP ss P g) ss := by
  unfold grpS grpP
  rw [List.getD_eq_getElem?_getD]
  by_cases c : g < 2 ^ ss.length
  · rw [List.getElem?_append_left (by rw [sets_len]; exact c), sets_at ss c, if_neg (fun e : g = szOf ss => by unfold szOf at e; omega)]
    rfl
  · unfold manyG szOf at h
    cases P with
    | none => exact absurd h (by simpa using c)
    | some p =>
      have h : g < 2 ^ ss.length + 1 := h
      have e : g = 2 ^ ss.length := by omega
      rw [List.getElem?_append_right (by rw [sets_len]; omega), sets_len, e, Nat.sub_self, if_pos (show 2 ^ ss.length = szOf ss from rfl)]
      rfl
theorem mems_grp (ss : List Str) (P : Option Nat) (e : SE) : memsOf e (grpS ss P) = grpsOf ss P e := by
  unfold memsOf grpsOf
  rw [grpS_len]
  exact List.filter_congr fun g mg => by rw [grpS_at (List.mem_range.mp mg)]
theorem lun3_ok {m : Mdl} {P : Option Nat} {Q : Fl → Sto → Prop} (hm : MdlU m) (h : Q (.rt (.ref 0)) [.lst ((unitsOf m.ss P m.kinds).map uT)]) :
    Ok (B__law_units_t3 [some m.t, some (optT P), some (.lst ((grpS m.ss P).map strsT)), some (.int (szOf m.ss : Nat)), none, none, none, none, none] []) Q := by
  unfold B__law_units_t3
  have hkx : ∀ S, fIx m.t (.int 2) S = .ok (.tup (m.kinds.map Kd.t)) S := fun S => rfl
  have h9 := manyG_le (P := P) hm.sl
  have hgr := fun (S : Sto) (e : SE) (hd : e.dep < 24) => members_ev (ps := grpS m.ss P) hd (by rw [grpS_len]; omega) S
  simp only [mems_grp] at hgr
  have hk0 : ∀ (k : Kd) S, fIx k.t (.int 0) S = .ok (.str k.name) S := fun k S => rfl
  have hk1 : ∀ (k : Kd) S, fIx k.t (.int 1) S = .ok k.payer.t S := fun k S => rfl
  have hk3 : ∀ (k : Kd) S, fIx k.t (.int 3) S = .ok k.payee.t S := fun k S => rfl
  have hil : ∀ (l : List T) S, itOf (.lst l) S = .ok ⟨l, []⟩ S := fun l S => rfl
  have hit : ∀ (l : List T) S, itOf (.tup l) S = .ok ⟨l, []⟩ S := fun l S => rfl
  try simp_arith only [hkx, hit]
  refine ok_for (fun i τ S => ∃ (x w y z : Option T), τ = [some m.t, some (optT P), some (.lst ((grpS m.ss P).map strsT)), some (.int (szOf m.ss : Nat)), some (.ref 0), x, w, y, z] ∧ S = [.lst ((unitsOf m.ss P (m.kinds.take i)).map uT)]) ⟨none, none, none, none, rfl, rfl⟩ ?_ ?_
  · rintro i t τ S e ⟨x, w, y, z, rfl, rfl⟩
    rw [List.getElem?_map] at e
    obtain ⟨k, hk, rfl⟩ := Option.map_eq_some_iff.mp e
    have hkm := List.mem_of_getElem? hk
    have hi := (List.getElem?_eq_some_iff.mp hk).1
    refine ⟨_, bindP_nm _ _ _, ?_⟩
    have l0 := units_len (P := P) (ks := m.kinds.take i) hm.sl
    rw [List.length_take] at l0
    have hkl := hm.kl
    have hg1 := fun S => hgr S _ (hm.o1 k hkm).2
    have hg3 := fun S => hgr S _ (hm.o2 k hkm).2
    try simp_arith only [hk1, hk3, hg1, hg3, hil]
    refine ok_for (fun j τ S => ∃ (y z : Option T), τ = [some m.t, some (optT P), some (.lst ((grpS m.ss P).map strsT)), some (.int (szOf m.ss : Nat)), some (.ref 0), some k.t, some (.lst (intsN (grpsOf m.ss P k.payee))), y, z] ∧ S = [.lst ((unitsOf m.ss P (m.kinds.take i) ++ ((grpsOf m.ss P k.payer).take j).flatMap (unitRow m.ss P k)).map uT)]) ⟨_, _, rfl, by rw [List.take_zero, List.flatMap_nil, List.append_nil]⟩ ?_ ?_
    · rintro j t τ S e ⟨y, z, rfl, rfl⟩
      unfold intsN at e
      rw [List.getElem?_map] at e
      obtain ⟨a, ha, rfl⟩ := Option.map_eq_some_iff.mp e
      refine ⟨_, bindP_nm _ _ _, ?_⟩
      have l1 : (((grpsOf m.ss P k.payer).take j).flatMap (unitRow m.ss P k)).length ≤ 81 := by
        refine Nat.le_trans (flat_len (N := 9) fun a _ => row_len hm.sl a) ?_
        have := grps_len (P := P) (e := k.payer) hm.sl
        rw [List.length_take]
        omega
      try simp_arith only [hil]
      refine ok_for (fun l τ S => ∃ (z : Option T), τ = [some m.t, some (optT P), some (.lst ((grpS m.ss P).map strsT)), some (.int (szOf m.ss : Nat)), some (.ref 0), some k.t, some (.lst (intsN (grpsOf m.ss P k.payee))), some (.int (a : Int)), z] ∧ S = [.lst ((unitsOf m.ss P (m.kinds.take i) ++ ((grpsOf m.ss P k.payer).take j).flatMap (unitRow m.ss P k) ++ (((grpsOf m.ss P k.payee).take l).filter fun b => decide (a < szOf m.ss) || decide (b < szOf m.ss)).map fun b => (k.name, a, b)).map uT)]) ⟨_, rfl, by rw [List.take_zero, List.filter_nil, List.map_nil, List.append_nil]⟩ ?_ ?_
      · rintro l t τ S e ⟨z, rfl, rfl⟩
        unfold intsN at e
        rw [List.getElem?_map] at e
        obtain ⟨b, hb, rfl⟩ := Option.map_eq_some_iff.mp e
        have hbl := (List.getElem?_eq_some_iff.mp hb)
        refine ⟨_, bindP_nm _ _ _, ?_⟩
        have l2 : ((((grpsOf m.ss P k.payee).take l).filter fun b => decide (a < szOf m.ss) || decide (b < szOf m.ss)).map fun b => (k.name, a, b)).length ≤ 9 := by
          rw [List.length_map]
          refine Nat.le_trans (List.length_filter_le _ _) ?_
          have := grps_len (P := P) (e := k.payee) hm.sl
          rw [List.length_take]
          omega
        have tk : (grpsOf m.ss P k.payee).take (l + 1) = (grpsOf m.ss P k.payee).take l ++ [b] := by
          rw [List.take_succ_eq_append_getElem hbl.1, hbl.2]
        have st : (decide (a < szOf m.ss) || decide (b < szOf m.ss)) = true → (((grpsOf m.ss P k.payee).take (l + 1)).filter fun b => decide (a < szOf m.ss) || decide (b < szOf m.ss)).map (fun b => (k.name, a, b)) = (((grpsOf m.ss P k.payee).take l).filter fun b => decide (a < szOf m.ss) || decide (b < szOf m.ss)).map (fun b => (k.name, a, b)) ++ [(k.name, a, b)] := fun c => by
          rw [tk, List.filter_append, List.map_append, List.filter_cons_of_pos (p := fun b => decide (a < szOf m.ss) || decide (b < szOf m.ss)) c]
          rfl
        have app : ∀ S : List Un, S.length ≤ 99999 → fAppend (.ref 0) [.tup [.str k.name, .int (a : Int), .int (b : Int)]] [.lst (S.map uT)] = .ok .non [.lst ((S ++ [(k.name, a, b)]).map uT)] := fun S hS => by
          rw [append_ev (k := 0) rfl (by rw [List.length_map]; omega), List.map_append]
          rfl
        have hS : (unitsOf m.ss P (m.kinds.take i) ++ ((grpsOf m.ss P k.payer).take j).flatMap (unitRow m.ss P k) ++ (((grpsOf m.ss P k.payee).take l).filter fun b => decide (a < szOf m.ss) || decide (b < szOf m.ss)).map fun b => (k.name, a, b)).length ≤ 99999 := by
          rw [List.length_append, List.length_append]
          omega
        by_cases c1 : a < szOf m.ss
        · have c1' : (a : Int) < ((szOf m.ss : Nat) : Int) := by omega
          try simp_arith only [decide_eq_true c1', hk0, app _ hS, forQ]
          refine ⟨_, rfl, ?_⟩
          rw [st (by rw [decide_eq_true c1]; rfl), ← List.append_assoc]
        · have c1' : ¬ (a : Int) < ((szOf m.ss : Nat) : Int) := by omega
          by_cases c2 : b < szOf m.ss
          · have c2' : (b : Int) < ((szOf m.ss : Nat) : Int) := by omega
            try simp_arith only [decide_eq_false c1', decide_eq_true c2', hk0, app _ hS, forQ]
            refine ⟨_, rfl, ?_⟩
            rw [st (by rw [decide_eq_true c2, Bool.or_true]), ← List.append_assoc]
          · have c2' : ¬ (b : Int) < ((szOf m.ss : Nat) : Int) := by omega
            try simp_arith only [decide_eq_false c1', decide_eq_false c2', forQ]
            refine ⟨_, rfl, ?_⟩
            rw [tk, List.filter_append, List.filter_cons_of_neg (by rw [decide_eq_false c1, decide_eq_false c2]; decide), List.filter_nil, List.append_nil]
      · rintro τ S ⟨z, rfl, rfl⟩
        try simp_arith only [forQ]
        refine ⟨_, _, rfl, ?_⟩
        rw [take_flat _ ha, intsN_len, List.take_length, ← List.append_assoc]
        rfl
    · rintro τ S ⟨y, z, rfl, rfl⟩
      try simp_arith only [forQ]
      refine ⟨_, _, _, _, rfl, ?_⟩
      rw [intsN_len, List.take_length]
      unfold unitsOf
      rw [take_flat _ hk]
      rfl
  · rintro τ S ⟨x, w, y, z, rfl, rfl⟩
    rw [List.length_map, List.take_length]
    try simp_arith only []
    exact h
theorem sets_ix {ss : List Str} {p : Nat} (h : p < szOf ss) (S : Sto) : fIx (.lst ((sets ss).map strsT)) (.int (p : Int)) S = .ok (strsT (namesN 0 p ss)) S := by
  have e : L2.atI ((sets ss).map strsT) (p : Int) = some (strsT (namesN 0 p ss)) := by
    rw [atI_in _ _ (by omega) (by rw [List.length_map, sets_len]; unfold szOf at h; omega), Int.toNat_natCast, List.getElem?_map, sets_at ss h]
    rfl
  try simp_arith only [e]
theorem lunits35 {m : Mdl} {P : Option Nat} (hm : MdlU m) (hP : ∀ p, P = some p → p < szOf m.ss) (S : Sto) : F__law_units [m.t, optT P] S = .ok (.lst ((unitsOf m.ss P m.kinds).map uT)) S := ok_ev fun Q h => by
  unfold F__law_units
  refine ok_frame0 (by rw [Fx.cls_cons, Mdl.cl]; cases P <;> simp [optT]) ?_
  have key := fun (Q : Fl → Sto → Prop) => @lun3_ok m P Q hm
  generalize hB3 : B__law_units_t3 = B3 at key
  generalize hB : B__law_units = B
  refine ok_run ?_
  subst hB
  unfold B__law_units
  rw [hB3]
  have hsl := hm.sl
  have m0 : ∀ S, fIx m.t (.int 0) S = .ok (strsT m.ss) S := fun S => rfl
  have hse := fun S => sets_ev (ss := m.ss) (by omega) S
  have hln : ∀ S, fLen [.lst ((sets m.ss).map strsT)] S = .ok (.int (szOf m.ss : Nat)) S := fun S => by
    show R.ok (T.int (((sets m.ss).map strsT).length : Int)) S = _
    rw [List.length_map, sets_len]
    rfl
  have h8 := szOf_le hm.sl
  have fin : endQ (fun t S1 => Fx.cl 0 (thaw 0 true t S1) = true ∧ Q (thaw 0 true t S1) S) (.rt (.ref 0)) [.lst ((unitsOf m.ss P m.kinds).map uT)] := by
    refine ⟨?_, ?_⟩
    · show cl 0 (.lst ((unitsOf m.ss P m.kinds).map uT)) = true
      rw [cl_lst]
      exact cls_uT 0 _
    · exact h
  cases P with
  | none =>
    have e : (sets m.ss).map strsT = (grpS m.ss none).map strsT := by
      unfold grpS
      rw [show (Option.none : Option Nat).toList = [] from rfl, List.map_nil, List.append_nil]
    have hno : ∀ S, fIsN true (optT none) .non S = .ok (.bl false) S := fun S => rfl
    try simp_arith only [m0, hse, hln, hno]
    rw [e]
    exact key _ fin
  | some p =>
    have hno : ∀ S, fIsN true (.int (p : Int)) .non S = .ok (.bl true) S := fun S => rfl
    have hix := fun S => sets_ix (hP p rfl) S
    have op : optT (some p) = .int (p : Int) := rfl
    have e : (sets m.ss).map strsT ++ [strsT (namesN 0 p m.ss)] = (grpS m.ss (some p)).map strsT := by
      unfold grpS
      rw [List.map_append]
      rfl
    have hln2 : ((sets m.ss).map strsT).length ≤ 8 := by rw [List.length_map, sets_len]; exact h8
    try simp_arith only [m0, hse, hln, hno, op, hix]
    rw [if_pos (by omega), e]
    try simp_arith only []
    exact key _ fin
def twoP (G : List Nat) (a : Nat) (n : Int) : Int × Int := if a ∈ G then (2 * ((G.idxOf a : Nat) : Int), 2 * ((G.idxOf a : Nat) : Int) + 1) else (n - 1, n - 1)
theorem ltwo_ev {G : List Nat} (a : Nat) (n : Int) (hG : G.length ≤ 1000) (S : Sto) : F__law_two [.lst (intsN G), .int (a : Int), .int n] S = .ok (.tup [.int (twoP G a n).1, .int (twoP G a n).2]) S := ok_ev fun Q h => by
  unfold F__law_two
  refine ok_frame0 (by rw [Fx.cls_cons, cl_lst, cls_intsN, Fx.cls_cons, cl_int, Fx.cls_cons, cl_int, Fx.cls_nil]; rfl) ?_
  generalize hB : B__law_two = B
  refine ok_run ?_
  subst hB
  unfold B__law_two
  have hin := fun S => inL_ev (v := a) (N := G) S
  have hsub : ∀ (i j : Int) (S : Sto), fSub (.int i) (.int j) S = .ok (.int (i - j)) S := fun _ _ _ => rfl
  unfold twoP at h
  by_cases c : a ∈ G
  · have hi := List.idxOf_lt_length_iff.mpr c
    have hix := fun S => index_nats c S
    have hm := fun S => mulL (i := 2) (j := ((G.idxOf a : Nat) : Int)) (by decide) S
    rw [if_pos c] at h
    try simp_arith only [hin, decide_eq_true c, hix, hm, endQ]
    exact ⟨by simp, by rw [thaw_tup]; exact h⟩
  · rw [if_neg c] at h
    try simp_arith only [hin, decide_eq_false c, hsub, endQ]
    exact ⟨by simp, by rw [thaw_tup]; exact h⟩
theorem two_seat {sz : Nat} {P : Option Nat} {us : List Us} {a : Nat} (h : a ∈ grpU us sz ∨ (a = sz ∧ P.isSome = true)) : twoP (grpU us sz) a (((pfU sz P us).length : Nat) : Int) = ((((seatP sz (grpU us sz) a).1 : Nat) : Int), (((seatP sz (grpU us sz) a).2 : Nat) : Int)) := by
  unfold twoP seatP
  rcases h with h | ⟨rfl, hP⟩
  · have := grp_lt h
    rw [if_pos h, if_neg (by omega)]
    rfl
  · rw [if_neg (fun q => Nat.lt_irrefl _ (grp_lt q)), if_pos rfl]
    have e : (pfU a P us).length = 2 * (grpU us a).length + 1 := by
      unfold pfU
      rw [List.length_append, twice_len]
      obtain ⟨p, rfl⟩ := Option.isSome_iff_exists.mp hP
      rfl
    rw [e]
    congr 1 <;> omega
theorem lm_in {S : Sto} {d : Nat} {us2 : List T} {x y u v z : Int} {i a b : Nat} {nm : Str} {sh U : T} {Q : Fl → Sto → Prop} {v0 v1 v3 v5 v7 v8 v9 v10 v11 v15 : Option T}
    (hd : S[d]? = some (.lst us2)) (hul : us2.length ≤ 90000) (hz : ∀ S, fIx sh (.int (i : Int)) S = .ok (.int z) S) (hu : ∀ S, fIx U (.int (i : Int)) S = .ok (uT (nm, a, b)) S)
    (h : ∀ v15, Q (.nx [v0, v1, some sh, v3, some U, v5, some (.int (i : Int)), v7, v8, v9, v10, v11, some (.ref d), some (.tup [.int x, .int y]), some (.tup [.int u, .int v]), v15]) ((S.set d (.lst (us2 ++ [.tup [.str nm, .int x, .int u, .int z]]))).set d (.lst ((us2 ++ [.tup [.str nm, .int x, .int u, .int z]]) ++ [.tup [.str nm, .int y, .int v, .int z]])))) :
    Ok ((sFor (mItN fRange1 (mCons (mC (.int 2)) mNil)) (.nm 15)
    (sDrop (mMeth isLst fAppend (mVar 12) (mCons (mTup (mCons (mBin fIx (mBin fIx (mVar 4) (mVar 6)) (mC (.int 0))) (mCons (mBin fIx (mVar 13) (mVar 15)) (mCons (mBin fIx (mVar 14) (mVar 15)) (mCons (mBin fIx (mVar 2) (mVar 6)) mNil))))) mNil)))) [v0, v1, some sh, v3, some U, v5, some (.int (i : Int)), v7, v8, v9, v10, v11, some (.ref d), some (.tup [.int x, .int y]), some (.tup [.int u, .int v]), v15] S) Q := by
  have u0 : ∀ S, fIx (uT (nm, a, b)) (.int 0) S = .ok (.str nm) S := fun S => rfl
  have x0 : ∀ S, fIx (.tup [.int x, .int y]) (.int 0) S = .ok (.int x) S := fun S => rfl
  have x1 : ∀ S, fIx (.tup [.int x, .int y]) (.int 1) S = .ok (.int y) S := fun S => rfl
  have y0 : ∀ S, fIx (.tup [.int u, .int v]) (.int 0) S = .ok (.int u) S := fun S => rfl
  have y1 : ∀ S, fIx (.tup [.int u, .int v]) (.int 1) S = .ok (.int v) S := fun S => rfl
  have a1 := append_ev (t := .tup [.str nm, .int x, .int u, .int z]) hd (by omega)
  have l1 := isl_ref hd
  have hd3 := set_new (x := .lst (us2 ++ [.tup [.str nm, .int x, .int u, .int z]])) hd
  generalize S.set d (.lst (us2 ++ [.tup [.str nm, .int x, .int u, .int z]])) = S3 at *
  have l2 := isl_ref hd3
  have a2 := append_ev (t := .tup [.str nm, .int y, .int v, .int z]) hd3 (by rw [List.length_append, List.length_singleton]; omega)
  generalize S3.set d (.lst ((us2 ++ [.tup [.str nm, .int x, .int u, .int z]]) ++ [.tup [.str nm, .int y, .int v, .int z]])) = S4 at *
  try simp_arith only []
  rw [range1_ev _ _ (by decide)]
  try simp_arith only []
  refine ok_for (fun j τ S' => ∃ v15, τ = [v0, v1, some sh, v3, some U, v5, some (.int (i : Int)), v7, v8, v9, v10, v11, some (.ref d), some (.tup [.int x, .int y]), some (.tup [.int u, .int v]), v15] ∧ S' = (match j with | 0 => S | 1 => S3 | _ => S4)) ⟨v15, rfl, rfl⟩ ?_ ?_
  · rintro j t τ S' e ⟨v15, rfl, hS'⟩
    obtain ⟨hj, rfl⟩ := rangeT_at e
    refine ⟨_, bindP_nm _ _ _, ?_⟩
    match j, hj with
    | 0, _ =>
      have hS' : S' = S := hS'
      subst hS'
      have e0 : (0 : Int) + ((0 : Nat) : Int) = 0 := rfl
      try simp_arith only [e0, hu, u0, x0, y0, hz, hd, a1, forQ]
      exact ⟨_, rfl, by trivial⟩
    | 1, _ =>
      have hS' : S' = S3 := hS'
      subst hS'
      have e0 : (0 : Int) + ((1 : Nat) : Int) = 1 := rfl
      try simp_arith only [e0, hu, u0, x1, y1, hz, hd3, a2, forQ]
      exact ⟨_, rfl, by trivial⟩
    | j + 2, hj => exact absurd hj (by have : (2 : Int).toNat = 2 := rfl; omega)
  · rintro τ S' ⟨v15, rfl, hS'⟩
    rw [rangeT_length] at hS'
    have hS' : S' = S4 := hS'
    rw [hS']
    exact h v15
theorem lm8_ok {m : Mdl} {P : Option Nat} {zs : List Int} {x0 x1 x3 x5 x6 x7 x8 x10 : Option T} {Q : T → Sto → Prop} (hsl : m.ss.length ≤ 3) (L : List (Kd × Un)) (hl : L.length ≤ 900) (hzl : zs.length = L.length)
    (us : List Us) (hus : us = (L.zip zs).filter fun p => decide (0 < p.2)) (hab : ∀ p ∈ us, (p.a ∈ grpU us (szOf m.ss) ∨ (p.a = szOf m.ss ∧ P.isSome = true)) ∧ (p.b ∈ grpU us (szOf m.ss) ∨ (p.b = szOf m.ss ∧ P.isSome = true))) (hnm : ∀ p ∈ us, p.1.2.1 = p.1.1.name)
    {r : Nat} {S1 : Sto} (hr : S1[r]? = some (.lst (peoL m.ss (pfU (szOf m.ss) P us)))) (h : Q (ledT m.ss (pfU (szOf m.ss) P us) (dsU (szOf m.ss) us)) []) :
    Ok (B__law_made_t8 [x0, x1, some (tupI zs), x3, some (.lst (L.map fun q => uT q.2)), x5, x6, x7, x8, some (.lst (intsN (grpU us (szOf m.ss)))), x10, some (.ref r), none, none, none, none] S1) (endQ fun t S2 => Fx.cl 0 (thaw 0 true t S2) = true ∧ Q (thaw 0 true t S2) []) := by
  have hin := fun {S : Sto} {d : Nat} {us2 : List T} {x y u v z : Int} {i a b : Nat} {nm : Str} {sh U : T} {Q : Fl → Sto → Prop} {v0 v1 v3 v5 v7 v8 v9 v10 v11 v15 : Option T} => @lm_in S d us2 x y u v z i a b nm sh U Q v0 v1 v3 v5 v7 v8 v9 v10 v11 v15
  generalize hB1 : B__law_made_t8 = B1
  obtain ⟨T0, hT⟩ : ∃ T0 : Fx.Env → Sto → R Fl, T0 = (sFor (mItN fRange1 (mCons (mC (.int 2)) mNil)) (.nm 15)
    (sDrop (mMeth isLst fAppend (mVar 12) (mCons (mTup (mCons (mBin fIx (mBin fIx (mVar 4) (mVar 6)) (mC (.int 0))) (mCons (mBin fIx (mVar 13) (mVar 15)) (mCons (mBin fIx (mVar 14) (mVar 15)) (mCons (mBin fIx (mVar 2) (mVar 6)) mNil))))) mNil)))) := ⟨_, rfl⟩
  rw [← hT] at hin
  subst hB1
  unfold B__law_made_t8
  rw [← hT]
  clear hT
  have hzz : (L.zip zs).length = L.length := by rw [List.length_zip]; omega
  have ll : ∀ S, fLen [.lst (L.map fun q => uT q.2)] S = .ok (.int (L.length : Int)) S := fun S => by rw [ev_lenL, List.length_map]
  have hd0 := app_new (S := S1) (x := .lst [])
  have hr0 := app_old (x := .lst []) hr
  have hdr : S1.length ≠ r := by have := lt_of hr; omega
  try simp_arith only [ll]
  generalize S1.length = d at *
  generalize S1 ++ [.lst []] = S2 at *
  rw [range1_ev _ _ (by omega)]
  try simp_arith only [Int.toNat_natCast]
  have hdl : ∀ i, (((L.zip zs).take i).filter fun p => decide (0 < p.2)).length ≤ 900 := fun i => Nat.le_trans (List.length_filter_le _ _) (by rw [List.length_take]; omega)
  have hdd : ∀ l : List Us, (l.flatMap (dealU (szOf m.ss) (grpU us (szOf m.ss)))).length = 2 * l.length := fun l => by
    induction l with
    | nil => rfl
    | cons p l ih => rw [List.flatMap_cons, List.length_append, ih]; show 2 + 2 * l.length = 2 * (l.length + 1); omega
  have h8 := szOf_le hsl
  have hgl := grp_len us (szOf m.ss)
  have hplen : ∀ {S : Sto}, S[r]? = some (.lst (peoL m.ss (pfU (szOf m.ss) P us))) → fLen [.ref r] S = .ok (.int (((pfU (szOf m.ss) P us).length : Nat) : Int)) S := fun h => by
    rw [len_refG h]
    unfold peoL
    rw [List.length_map]
  refine ok_for (fun i τ S => (∃ x6 x13 x14 x15 : Option T, τ = [x0, x1, some (tupI zs), x3, some (.lst (L.map fun q => uT q.2)), x5, x6, x7, x8, some (.lst (intsN (grpU us (szOf m.ss)))), x10, some (.ref r), some (.ref d), x13, x14, x15]) ∧ S[r]? = some (.lst (peoL m.ss (pfU (szOf m.ss) P us))) ∧ S[d]? = some (.lst (((((L.zip zs).take i).filter fun p => decide (0 < p.2)).flatMap (dealU (szOf m.ss) (grpU us (szOf m.ss)))).map Dl.t))) ⟨⟨_, _, _, _, rfl⟩, hr0, hd0⟩ ?_ ?_
  · rintro i v τ S e ⟨⟨x6, x13, x14, x15, rfl⟩, sr, sd⟩
    obtain ⟨hi, rfl⟩ := rangeT_at e
    have hi : i < L.length := hi
    have ez : (0 : Int) + (i : Int) = (i : Int) := by omega
    obtain ⟨p, hp⟩ : ∃ p : Us, (L.zip zs)[i]? = some p := ⟨_, List.getElem?_eq_getElem (by omega)⟩
    obtain ⟨hpi, hpe⟩ := List.getElem?_eq_some_iff.mp hp
    have hzi : zs[i]? = some p.2 := by
      rw [List.getElem_zip] at hpe
      rw [List.getElem?_eq_getElem (by omega), ← hpe]
    have hli : L[i]? = some p.1 := by
      rw [List.getElem_zip] at hpe
      rw [List.getElem?_eq_getElem hi, ← hpe]
    have hz : ∀ S, fIx (tupI zs) (.int (i : Int)) S = .ok (.int p.2) S := fun S => by
      show fIx (.tup (zs.map T.int)) _ S = _
      rw [ev_ixT, atI_in _ _ (by omega) (by rw [List.length_map]; omega), Int.toNat_natCast, List.getElem?_map, hzi]
      rfl
    have hu : ∀ S, fIx (.lst (L.map fun q => uT q.2)) (.int (i : Int)) S = .ok (uT (p.1.2.1, p.a, p.b)) S := fun S => by
      rw [ev_ixL, atI_in _ _ (by omega) (by rw [List.length_map]; omega), Int.toNat_natCast, List.getElem?_map, hli]
      rfl
    have u1 : ∀ S, fIx (uT (p.1.2.1, p.a, p.b)) (.int 1) S = .ok (.int (p.a : Int)) S := fun S => rfl
    have u2 : ∀ S, fIx (uT (p.1.2.1, p.a, p.b)) (.int 2) S = .ok (.int (p.b : Int)) S := fun S => rfl
    have hpl := hplen sr
    have ht1 := fun S => ltwo_ev (G := grpU us (szOf m.ss)) p.a (((pfU (szOf m.ss) P us).length : Nat) : Int) (by omega) S
    have ht2 := fun S => ltwo_ev (G := grpU us (szOf m.ss)) p.b (((pfU (szOf m.ss) P us).length : Nat) : Int) (by omega) S
    have htk : (L.zip zs).take (i + 1) = (L.zip zs).take i ++ [p] := by rw [List.take_succ_eq_append_getElem hpi, hpe]
    have hlen := hdd (((L.zip zs).take i).filter fun p => decide (0 < p.2))
    have hll := hdl i
    refine ⟨_, bindP_nm _ _ _, ?_⟩
    have y0 : ∀ (a b : T) S, fIx (.tup [a, b]) (.int 0) S = .ok a S := fun a b S => rfl
    have y1 : ∀ (a b : T) S, fIx (.tup [a, b]) (.int 1) S = .ok b S := fun a b S => rfl
    by_cases hpos : 0 < p.2
    · have mp : p ∈ us := by
        rw [hus]
        exact List.mem_filter.mpr ⟨List.mem_of_getElem? hp, decide_eq_true hpos⟩
      obtain ⟨sa, sb⟩ := hab p mp
      rw [two_seat sa] at ht1
      rw [two_seat sb] at ht2
      have hnxt : (((((L.zip zs).take (i + 1)).filter fun p => decide (0 < p.2)).flatMap (dealU (szOf m.ss) (grpU us (szOf m.ss)))).map Dl.t) = ((((L.zip zs).take i).filter fun p => decide (0 < p.2)).flatMap (dealU (szOf m.ss) (grpU us (szOf m.ss)))).map Dl.t ++ (dealU (szOf m.ss) (grpU us (szOf m.ss)) p).map Dl.t := by
        rw [htk, List.filter_append, List.filter_cons_of_pos (p := fun p : Us => decide (0 < p.2)) (decide_eq_true hpos), List.flatMap_append, List.map_append, List.filter_nil, List.flatMap_cons, List.flatMap_nil, List.append_nil]
      have hul : (((((L.zip zs).take i).filter fun p => decide (0 < p.2)).flatMap (dealU (szOf m.ss) (grpU us (szOf m.ss)))).map Dl.t).length ≤ 90000 := by rw [List.length_map, hdd]; have := hdl i; omega
      by_cases hq : p.a = p.b
      · have hq' : (p.a : Int) = (p.b : Int) := by rw [hq]
        try simp_arith only [ez, hu, u1, u2, hpl, ht1, ht2, decide_eq_true hq', y0, y1, hz, decide_eq_true hpos]
        refine hin sd hul hz hu fun v15 => ?_
        try simp_arith only [forQ]
        refine ⟨⟨_, _, _, _, rfl⟩, set_old (set_old sr hdr) hdr, ?_⟩
        rw [set_new (set_new sd), hnxt, hnm p mp]
        unfold dealU
        rw [if_pos hq, if_pos hq, List.append_assoc]
        rfl
      · have hq' : ¬ (p.a : Int) = (p.b : Int) := by omega
        try simp_arith only [ez, hu, u1, u2, hpl, ht1, ht2, decide_eq_false hq', y0, y1, hz, decide_eq_true hpos]
        refine hin sd hul hz hu fun v15 => ?_
        try simp_arith only [forQ]
        refine ⟨⟨_, _, _, _, rfl⟩, set_old (set_old sr hdr) hdr, ?_⟩
        rw [set_new (set_new sd), hnxt, hnm p mp]
        unfold dealU
        rw [if_neg hq, if_neg hq, List.append_assoc]
        rfl
    · have hnxt : ((L.zip zs).take (i + 1)).filter (fun p => decide (0 < p.2)) = ((L.zip zs).take i).filter fun p => decide (0 < p.2) := by
        rw [htk, List.filter_append, List.filter_cons_of_neg (p := fun p : Us => decide (0 < p.2)) (by rw [decide_eq_false hpos]; exact Bool.false_ne_true), List.filter_nil, List.append_nil]
      rw [hnxt]
      by_cases hq : p.a = p.b
      · have hq' : (p.a : Int) = (p.b : Int) := by rw [hq]
        try simp_arith only [ez, hu, u1, u2, hpl, ht1, ht2, decide_eq_true hq', y0, y1, hz, decide_eq_false hpos, forQ]
        exact ⟨⟨_, _, _, _, rfl⟩, sr, sd⟩
      · have hq' : ¬ (p.a : Int) = (p.b : Int) := by omega
        try simp_arith only [ez, hu, u1, u2, hpl, ht1, ht2, decide_eq_false hq', y0, y1, hz, decide_eq_false hpos, forQ]
        exact ⟨⟨_, _, _, _, rfl⟩, sr, sd⟩
  · rintro τ S ⟨⟨x6, x13, x14, x15, rfl⟩, sr, sd⟩
    have hrl : (Fx.rangeT 0 L.length).length = L.length := rangeT_length _ _
    rw [hrl, ← hzz, List.take_length, ← hus] at sd
    have t1 := tupR sr
    have t2 := tupR sd
    have hled : T.tup [.tup (peoL m.ss (pfU (szOf m.ss) P us)), .tup ((us.flatMap (dealU (szOf m.ss) (grpU us (szOf m.ss)))).map Dl.t)] = ledT m.ss (pfU (szOf m.ss) P us) (dsU (szOf m.ss) us) := rfl
    try simp_arith only [t1, t2, hled, endQ]
    have hth : ∀ S, thaw 0 true (ledT m.ss (pfU (szOf m.ss) P us) (dsU (szOf m.ss) us)) S = ledT m.ss (pfU (szOf m.ss) P us) (dsU (szOf m.ss) us) := fun S => thaw_tup ..
    rw [hth]
    exact ⟨ledT_cl _ _ _ _, h⟩
theorem lm5_ok {m : Mdl} {P : Option Nat} {zs : List Int} {x5 x6 x7 x8 : Option T} {Q : T → Sto → Prop} (hsl : m.ss.length ≤ 3) (hP : ∀ p, P = some p → p < szOf m.ss) (L : List (Kd × Un)) (hl : L.length ≤ 900) (hzl : zs.length = L.length)
    (us : List Us) (hus : us = (L.zip zs).filter fun p => decide (0 < p.2)) (hab : ∀ p ∈ us, (p.a ∈ grpU us (szOf m.ss) ∨ (p.a = szOf m.ss ∧ P.isSome = true)) ∧ (p.b ∈ grpU us (szOf m.ss) ∨ (p.b = szOf m.ss ∧ P.isSome = true))) (hnm : ∀ p ∈ us, p.1.2.1 = p.1.1.name)
    (h : Q (ledT m.ss (pfU (szOf m.ss) P us) (dsU (szOf m.ss) us)) []) :
    Ok (B__law_made_t5 [some m.t, some (optT P), some (tupI zs), some (.lst ((sets m.ss).map strsT)), some (.lst (L.map fun q => uT q.2)), x5, x6, x7, x8, some (.lst (intsN (grpU us (szOf m.ss)))), none, none, none, none, none, none] []) (endQ fun t S2 => Fx.cl 0 (thaw 0 true t S2) = true ∧ Q (thaw 0 true t S2) []) := by
  have key := fun (r : Nat) (S1 : Sto) (x10 : Option T) => @lm8_ok m P zs (some m.t) (some (optT P)) (some (.lst ((sets m.ss).map strsT))) x5 x6 x7 x8 x10 Q hsl L hl hzl us hus hab hnm r S1
  generalize hB8 : B__law_made_t8 = B8 at key
  unfold B__law_made_t5
  rw [hB8]
  have h8 := szOf_le hsl
  have hgl := grp_len us (szOf m.ss)
  have hil : ∀ (l : List T) S, itOf (.lst l) S = .ok ⟨l, []⟩ S := fun l S => rfl
  have ptl : ∀ G : List Nat, (peoL m.ss (twice G)).length = 2 * G.length := fun G => by
    unfold peoL
    rw [List.length_map, twice_len]
  try simp_arith only [hil]
  refine ok_for (fun i τ S => ∃ (r : Nat) (x10 : Option T), τ = [some m.t, some (optT P), some (tupI zs), some (.lst ((sets m.ss).map strsT)), some (.lst (L.map fun q => uT q.2)), x5, x6, x7, x8, some (.lst (intsN (grpU us (szOf m.ss)))), x10, some (.ref r), none, none, none, none] ∧ S[r]? = some (.lst (peoL m.ss (twice ((grpU us (szOf m.ss)).take i))))) ⟨0, none, rfl, rfl⟩ ?_ ?_
  · rintro i t τ S e ⟨r, x10, rfl, sr⟩
    unfold intsN at e
    rw [List.getElem?_map] at e
    obtain ⟨g, hg, rfl⟩ := Option.map_eq_some_iff.mp e
    obtain ⟨hi, hge⟩ := List.getElem?_eq_some_iff.mp hg
    have hglt := grp_lt (List.mem_of_getElem? hg)
    have hix := fun S => sets_ix hglt S
    have ha := add_refG (us := [strsT (namesN 0 g m.ss), strsT (namesN 0 g m.ss)]) sr (by rw [ptl, List.length_take]; show _ + 2 ≤ _; omega)
    refine ⟨_, bindP_nm _ _ _, ?_⟩
    try simp_arith only [hix, ha, forQ]
    refine ⟨_, _, rfl, ?_⟩
    rw [app_new, List.take_succ_eq_append_getElem hi, hge, twice_app, peo_app]
    rfl
  · rintro τ S ⟨r, x10, rfl, sr⟩
    rw [intsN_len, List.take_length] at sr
    cases P with
    | none =>
      have hno : ∀ S, fIsN true (optT none) .non S = .ok (.bl false) S := fun S => rfl
      try simp_arith only [hno]
      refine key r S _ ?_ h
      rw [sr]
      unfold pfU
      rw [show (Option.none : Option Nat).toList = [] from rfl, List.append_nil]
    | some p =>
      have hno : ∀ S, fIsN true (.int (p : Int)) .non S = .ok (.bl true) S := fun S => rfl
      have op : optT (some p) = .int (p : Int) := rfl
      have hix := fun S => sets_ix (hP p rfl) S
      have ha := append_ev (t := strsT (namesN 0 p m.ss)) sr (by rw [ptl]; omega)
      try simp_arith only [op, hno, hix, sr, ha]
      refine key r _ _ ?_ h
      rw [set_new sr]
      unfold pfU
      rw [peo_app]
      rfl
theorem lmade35 {m : Mdl} {P : Option Nat} {zs : List Int} (hm : MdlU m) (hP : ∀ p, P = some p → p < szOf m.ss) (hz : (kunits m.ss P m.kinds).length ≤ 900) (hzl : zs.length = (kunits m.ss P m.kinds).length) (hu : UnG m P (usedU m.ss P m.kinds zs)) (S0 : Sto) : F__law_made [m.t, optT P, tupI zs] S0 = .ok (ledT m.ss (pfU (szOf m.ss) P (usedU m.ss P m.kinds zs)) (dsU (szOf m.ss) (usedU m.ss P m.kinds zs))) S0 := ok_ev fun Q0 h0 => by
  unfold F__law_made
  refine ok_frame0 (by rw [Fx.cls_cons, Fx.cls_cons, Fx.cls_cons, m.cl, cl_opt, tupI_cl, Fx.cls_nil]; rfl) ?_
  have hab : ∀ p ∈ usedU m.ss P m.kinds zs, (p.a ∈ grpU (usedU m.ss P m.kinds zs) (szOf m.ss) ∨ (p.a = szOf m.ss ∧ P.isSome = true)) ∧ (p.b ∈ grpU (usedU m.ss P m.kinds zs) (szOf m.ss) ∨ (p.b = szOf m.ss ∧ P.isSome = true)) := fun p mp => by
    obtain ⟨h1, h2⟩ := hu.ab p mp
    obtain ⟨q1, q2⟩ := mem_grp (sz := szOf m.ss) mp
    exact ⟨h1.elim (fun q => .inl (q1 q)) .inr, h2.elim (fun q => .inl (q2 q)) .inr⟩
  have key := fun (x5 x6 x7 x8 : Option T) (Q : T → Sto → Prop) => @lm5_ok m P zs x5 x6 x7 x8 Q hm.sl hP (kunits m.ss P m.kinds) hz hzl (usedU m.ss P m.kinds zs) rfl hab fun p mp => used_nm mp
  generalize hB5 : B__law_made_t5 = B5 at key
  generalize hB : B__law_made = B
  refine ok_run ?_
  subst hB
  unfold B__law_made
  rw [hB5]
  clear hB5
  have hun : ∀ S, F__law_units [m.t, optT P] S = .ok (.lst ((kunits m.ss P m.kinds).map fun q => uT q.2)) S := fun S => by
    rw [lunits35 hm hP, ← kunits_snd, List.map_map]
    rfl
  have hsl := hm.sl
  have h8 := szOf_le hm.sl
  have m0 : ∀ S, fIx m.t (.int 0) S = .ok (strsT m.ss) S := fun S => rfl
  have hse := fun S => sets_ev (ss := m.ss) (by omega) S
  have ll : ∀ S, fLen [.lst ((kunits m.ss P m.kinds).map fun q => uT q.2)] S = .ok (.int ((kunits m.ss P m.kinds).length : Int)) S := fun S => by rw [ev_lenL, List.length_map]
  have hln : ∀ S, fLen [.lst ((sets m.ss).map strsT)] S = .ok (.int (szOf m.ss : Nat)) S := fun S => by
    rw [ev_lenL, List.length_map, sets_len]
    rfl
  have hus : (((kunits m.ss P m.kinds).zip zs).filter fun p => decide (0 < p.2)) = usedU m.ss P m.kinds zs := rfl
  have hul := hu.len
  have fin := key
  generalize hL : kunits m.ss P m.kinds = L at *
  generalize hU : usedU m.ss P m.kinds zs = us at *
  have hzz : (L.zip zs).length = L.length := by rw [List.length_zip]; omega
  have hrg : Fx.rangeT 0 L.length = (L.zip zs).zipIdx.map fun p => T.int (p.2 : Int) := by
    rw [zipIdx_ints, hzz, rangeT_0]
  have at1 : ∀ p ∈ (L.zip zs).zipIdx, (∀ S, fIx (.lst (L.map fun q => uT q.2)) (.int (p.2 : Int)) S = .ok (uT p.1.1.2) S) ∧ ∀ S, fIx (tupI zs) (.int (p.2 : Int)) S = .ok (.int p.1.2) S := fun p mp => by
    have hp := zipIdx_at mp
    obtain ⟨hpi, hpe⟩ := List.getElem?_eq_some_iff.mp hp
    rw [List.getElem_zip] at hpe
    have hi : p.2 < L.length := by omega
    refine ⟨fun S => ?_, fun S => ?_⟩
    · rw [ev_ixL, atI_in _ _ (by omega) (by rw [List.length_map]; omega), Int.toNat_natCast, List.getElem?_map, List.getElem?_eq_getElem hi, ← hpe]
      rfl
    · show fIx (.tup (zs.map T.int)) _ S = _
      rw [ev_ixT, atI_in _ _ (by omega) (by rw [List.length_map]; omega), Int.toNat_natCast, List.getElem?_map, List.getElem?_eq_getElem (by omega), ← hpe]
      rfl
  have hil : ∀ (l : List T) S, itOf (.lst l) S = .ok ⟨l, []⟩ S := fun l S => rfl
  try simp_arith only [m0, hse, hun, ll]
  rw [range1_ev _ _ (by omega)]
  try simp_arith only [Int.toNat_natCast]
  rw [hrg, lc_overF (fun p : Us × Nat => T.int (p.2 : Int)) (fun p => decide (0 < p.1.2)) (fun p => uT p.1.1.2) (L.zip zs).zipIdx [] (by rw [List.length_zipIdx, hzz, List.length_nil]; omega) fun p mp => by
    obtain ⟨f1, f2⟩ := at1 p mp
    exact ⟨_, bindP_nm _ _ _, by try simp_arith only [f2], fun _ => by try simp_arith only [f1]⟩]
  rw [List.nil_append, zipIdx_filter (L.zip zs) (fun p : Us => decide (0 < p.2)) (fun p : Us => uT p.1.2), hus]
  have u1 : ∀ (p : Us) S, fIx (uT p.1.2) (.int 1) S = .ok (.int (p.a : Int)) S := fun p S => rfl
  have u2 : ∀ (p : Us) S, fIx (uT p.1.2) (.int 2) S = .ok (.int (p.b : Int)) S := fun p S => rfl
  try simp_arith only [hil]
  rw [lc_over (fun p : Us => uT p.1.2) (fun p => T.int (p.a : Int)) us (by omega) fun p mp => ⟨_, bindP_nm _ _ _, by try simp_arith only [u1]⟩]
  try simp_arith only [hil]
  rw [lc_over (fun p : Us => uT p.1.2) (fun p => T.int (p.b : Int)) us (by omega) fun p mp => ⟨_, bindP_nm _ _ _, by try simp_arith only [u2]⟩]
  have hg : us.map (fun p => T.int (p.a : Int)) ++ us.map (fun p => T.int (p.b : Int)) = intsN (us.map Us.a ++ us.map Us.b) := by
    unfold intsN
    rw [List.map_append, List.map_map, List.map_map]
    rfl
  try simp_arith only [hln]
  rw [if_pos (by rw [List.length_map, List.length_map]; omega), hg]
  try simp_arith only [hln]
  rw [range1_ev _ _ (by omega)]
  try simp_arith only [Int.toNat_natCast]
  have hrs : Fx.rangeT 0 (szOf m.ss) = (List.range (szOf m.ss)).map fun k : Nat => T.int (k : Int) := by rw [rangeT_0]; rfl
  have hkin : ∀ (k : Nat) S, fIn false (.int (k : Int)) (.lst (intsN (us.map Us.a ++ us.map Us.b))) S = .ok (.bl (hitU us k)) S := fun k S => by
    rw [inL_ev]
    congr 2
    unfold hitU
    by_cases c : k ∈ us.map Us.a ++ us.map Us.b
    · rw [decide_eq_true c]
      symm
      rw [List.any_eq_true]
      rcases List.mem_append.mp c with c | c
      · obtain ⟨p, mp, rfl⟩ := List.mem_map.mp c
        exact ⟨p, mp, decide_eq_true (by simp)⟩
      · obtain ⟨p, mp, rfl⟩ := List.mem_map.mp c
        exact ⟨p, mp, decide_eq_true (by simp)⟩
    · rw [decide_eq_false c]
      symm
      rw [Bool.eq_false_iff]
      intro hany
      obtain ⟨p, mp, hp⟩ := List.any_eq_true.mp hany
      have hp := of_decide_eq_true hp
      simp only [List.mem_cons, List.not_mem_nil, or_false] at hp
      rcases hp with rfl | rfl
      · exact c (List.mem_append_left _ (List.mem_map.mpr ⟨p, mp, rfl⟩))
      · exact c (List.mem_append_right _ (List.mem_map.mpr ⟨p, mp, rfl⟩))
  rw [hrs, lc_overF (fun k : Nat => T.int (k : Int)) (hitU us) (fun k : Nat => T.int (k : Int)) (List.range (szOf m.ss)) [] (by rw [List.length_range, List.length_nil]; omega) fun k mk => ⟨_, bindP_nm _ _ _, by try simp_arith only [hkin], fun _ => by try simp_arith only []⟩]
  rw [List.nil_append]
  try simp_arith only []
  exact fin _ _ _ _ (fun t _ => Q0 t S0) h0
theorem names_sl {ss : List Str} (hn : ss.Nodup) (p : Nat) : (namesN 0 p ss).Nodup ∧ (namesN 0 p ss).length ≤ ss.length := by
  rw [← names_filter hn p]
  exact ⟨List.Pairwise.filter _ hn, List.length_filter_le _ _⟩
theorem nd_take {l : List Str} (hn : l.Nodup) {i : Nat} (hi : i < l.length) : l.getD i "" ∉ l.take i := fun h => by
  rw [List.getD_eq_getElem?_getD, List.getElem?_eq_getElem hi] at h
  obtain ⟨j, hj, e⟩ := List.mem_iff_getElem.mp h
  rw [List.length_take] at hj
  rw [List.getElem_take] at e
  have := (List.nodup_iff_pairwise_ne.mp hn)
  rw [List.pairwise_iff_getElem] at this
  exact this j i (by omega) hi (by omega) e
theorem lkind_ev {m : Mdl} {k : Kd} (hk : m.kinds.length ≤ 100) (hn : (m.kinds.map Kd.name).Nodup) (mk : k ∈ m.kinds) (S : Sto) : F__law_kind_of [m.t, .str k.name] S = .ok k.t S := ok_ev fun Q h => by
  unfold F__law_kind_of
  refine ok_frame0 (by rw [Fx.cls_cons, m.cl, Fx.cls_cons, cl_str, Fx.cls_nil]; rfl) ?_
  generalize hB : B__law_kind_of = B
  refine ok_run ?_
  subst hB
  unfold B__law_kind_of
  have m2 : ∀ S, fIx m.t (.int 2) S = .ok (.tup (m.kinds.map Kd.t)) S := fun S => rfl
  have k0 : ∀ (k : Kd) S, fIx k.t (.int 0) S = .ok (.str k.name) S := fun k S => rfl
  have hit : ∀ (l : List T) S, itOf (.tup l) S = .ok ⟨l, []⟩ S := fun l S => rfl
  try simp_arith only [m2, hit]
  refine ok_for (fun i τ S => ∃ x3 : Option T, τ = [some m.t, some (.str k.name), some (match lastK k.name (m.kinds.take i) with | some q => q.t | none => .non), x3] ∧ S = []) ⟨_, rfl, rfl⟩ ?_ ?_
  · rintro i t τ S e ⟨x3, rfl, rfl⟩
    rw [List.getElem?_map] at e
    obtain ⟨q, hq, rfl⟩ := Option.map_eq_some_iff.mp e
    obtain ⟨hi, hqe⟩ := List.getElem?_eq_some_iff.mp hq
    have hs := lastK_snoc k.name (m.kinds.take i) q
    rw [← hqe, ← List.take_succ_eq_append_getElem hi, hqe] at hs
    refine ⟨_, bindP_nm _ _ _, ?_⟩
    by_cases c : q.name = k.name
    · rw [if_pos c] at hs
      try simp_arith only [k0, decide_eq_true c, forQ]
      exact ⟨_, by rw [hs], by trivial⟩
    · rw [if_neg c] at hs
      try simp_arith only [k0, decide_eq_false c, forQ]
      exact ⟨_, by rw [hs], by trivial⟩
  · rintro τ S ⟨x3, rfl, rfl⟩
    rw [List.length_map, List.take_length, lastK_mem mk hn]
    try simp_arith only [endQ]
    have e : ∀ S, thaw 0 true k.t S = k.t := fun S => thaw_tup ..
    rw [e]
    exact ⟨Kd.cl 0 k, h⟩
theorem prob2_ok {m : Mdl} {pf : List Nat} {ds : List Dl} {x3 x4 : Option T} {Q : Fl → Sto → Prop} (hm : MdlU m) (hn : (m.kinds.map Kd.name).Nodup) (hp : pf.length ≤ 100) (hdl : ds.length ≤ 90000) (hd : ∀ d ∈ ds, DlOk m pf d ∧ 1 ≤ d.n) (h : Q (.rt .non) []) :
    Ok (B__law_problem_t2 [some m.t, some (ledT m.ss pf ds), some (.tup (peoL m.ss pf)), x3, x4, none, none] []) Q := by
  unfold B__law_problem_t2
  have l1 : ∀ S, fIx (ledT m.ss pf ds) (.int 1) S = .ok (.tup (ds.map Dl.t)) S := fun S => rfl
  have ll : ∀ S, fLen [.tup (ds.map Dl.t)] S = .ok (.int (ds.length : Int)) S := fun S => by rw [ev_lenT, List.length_map]
  have pl := fun S => peo_len (ss := m.ss) (pf := pf) S
  try simp_arith only [l1, ll]
  rw [range1_ev _ _ (by omega)]
  try simp_arith only [Int.toNat_natCast]
  refine ok_for (fun i τ S => ∃ x3 x5 x6 : Option T, τ = [some m.t, some (ledT m.ss pf ds), some (.tup (peoL m.ss pf)), x3, x4, x5, x6] ∧ S = []) ⟨_, _, _, rfl, rfl⟩ ?_ ?_
  · rintro i t τ S e ⟨x3, x5, x6, rfl, rfl⟩
    obtain ⟨hi, rfl⟩ := rangeT_at e
    have hi : i < ds.length := hi
    obtain ⟨d, hde⟩ : ∃ d, d = ds[i] := ⟨_, rfl⟩
    obtain ⟨ok, hn1⟩ := hd d (by rw [hde]; exact List.getElem_mem hi)
    have ez : (0 : Int) + (i : Int) = (i : Int) := by omega
    have hx : ∀ S, fIx (.tup (ds.map Dl.t)) (.int (i : Int)) S = .ok d.t S := fun S => by
      rw [ev_ixT, atI_in _ _ (by omega) (by rw [List.length_map]; omega), Int.toNat_natCast, List.getElem?_map, List.getElem?_eq_getElem hi, hde]
      rfl
    have d0 : ∀ S, fIx d.t (.int 0) S = .ok (.str d.k.name) S := fun S => rfl
    have d1 : ∀ S, fIx d.t (.int 1) S = .ok (.int (d.a : Int)) S := fun S => rfl
    have d2 : ∀ S, fIx d.t (.int 2) S = .ok (.int (d.b : Int)) S := fun S => rfl
    have d3 : ∀ S, fIx d.t (.int 3) S = .ok (.int d.n) S := fun S => rfl
    have hk := fun S => lkind_ev hm.kl hn ok.k S
    have k1 : ∀ S, fIx d.k.t (.int 1) S = .ok d.k.payer.t S := fun S => rfl
    have k3 : ∀ S, fIx d.k.t (.int 3) S = .ok d.k.payee.t S := fun S => rfl
    have hnn : ∀ S, fIsN false d.k.t .non S = .ok (.bl false) S := fun S => rfl
    have ha := ok.a
    have hb := ok.b
    have c1 : ¬ (d.a : Int) < 0 := by omega
    have c2 : ¬ (d.b : Int) < 0 := by omega
    have c3 : ¬ ((pf.length : Nat) : Int) ≤ (d.a : Int) := by omega
    have c4 : ¬ ((pf.length : Nat) : Int) ≤ (d.b : Int) := by omega
    have c5 : ¬ (d.a : Int) = (d.b : Int) := fun e => ok.ne (by omega)
    have c6 : ¬ d.n < 1 := by omega
    have pa := fun S => peo_ix (ss := m.ss) ha S
    have pb := fun S => peo_ix (ss := m.ss) hb S
    have ma := fun S => member_ev (d := 24) (e := d.k.payer) (ns := namesN 0 (pf.getD d.a 0) m.ss) (S := S) (hm.o1 _ ok.k).2
    have mb := fun S => member_ev (d := 24) (e := d.k.payee) (ns := namesN 0 (pf.getD d.b 0) m.ss) (S := S) (hm.o2 _ ok.k).2
    rw [ok.ma] at ma
    rw [ok.mb] at mb
    refine ⟨_, bindP_nm _ _ _, ?_⟩
    try simp_arith only [ez, l1, hx, d0, d1, d2, d3, hk, hnn, pl, decide_eq_false c1, decide_eq_false c2, decide_eq_false c3, decide_eq_false c4, decide_eq_false c5, decide_eq_false c6, pa, pb, k1, k3, ma, mb, fTru_bl, forQ]
    exact ⟨_, _, _, rfl, by trivial⟩
  · rintro τ S ⟨x3, x5, x6, rfl, rfl⟩
    try simp_arith only []
    exact h
theorem lproblem_ev {m : Mdl} {pf : List Nat} {ds : List Dl} (hm : MdlU m) (hn : (m.kinds.map Kd.name).Nodup) (hp : pf.length ≤ 100) (hdl : ds.length ≤ 90000) (hd : ∀ d ∈ ds, DlOk m pf d ∧ 1 ≤ d.n) (S : Sto) : F__law_problem [m.t, ledT m.ss pf ds] S = .ok .non S := ok_ev fun Q h => by
  unfold F__law_problem
  refine ok_frame0 (by rw [Fx.cls_cons, m.cl, Fx.cls_cons, ledT_cl, Fx.cls_nil]; rfl) ?_
  have key := fun (x3 x4 : Option T) (Q : Fl → Sto → Prop) => @prob2_ok m pf ds x3 x4 Q hm hn hp hdl hd
  generalize hB2 : B__law_problem_t2 = B2 at key
  generalize hB : B__law_problem = B
  refine ok_run ?_
  subst hB
  unfold B__law_problem
  rw [hB2]
  have hsl := hm.sl
  have l0 : ∀ S, fIx (ledT m.ss pf ds) (.int 0) S = .ok (.tup (peoL m.ss pf)) S := fun S => rfl
  have m0 : ∀ S, fIx m.t (.int 0) S = .ok (strsT m.ss) S := fun S => rfl
  have pl := fun S => peo_len (ss := m.ss) (pf := pf) S
  try simp_arith only [l0, pl]
  rw [range1_ev _ _ (by omega)]
  try simp_arith only [Int.toNat_natCast]
  refine ok_for (fun i τ S => ∃ x3 x4 : Option T, τ = [some m.t, some (ledT m.ss pf ds), some (.tup (peoL m.ss pf)), x3, x4, none, none] ∧ S = []) ⟨_, _, rfl, rfl⟩ ?_ ?_
  · rintro i t τ S e ⟨x3, x4, rfl, rfl⟩
    obtain ⟨hi, rfl⟩ := rangeT_at e
    have hi : i < pf.length := hi
    have ez : (0 : Int) + (i : Int) = (i : Int) := by omega
    have px := fun S => peo_ix (ss := m.ss) hi S
    obtain ⟨hnd, hle⟩ := names_sl hm.nd (pf.getD i 0)
    have hin := fun w => names_in (w := w) 0 (pf.getD i 0) m.ss
    generalize namesN 0 (pf.getD i 0) m.ss = ns at *
    have ln : ∀ S, fLen [strsT ns] S = .ok (.int (ns.length : Int)) S := fun S => by
      show fLen [.tup (ns.map T.str)] S = _
      rw [ev_lenT, List.length_map]
    refine ⟨_, bindP_nm _ _ _, ?_⟩
    try simp_arith only [ez, px, ln]
    rw [range1_ev _ _ (by omega)]
    try simp_arith only [Int.toNat_natCast]
    refine ok_for (fun j τ S => ∃ x4 : Option T, τ = [some m.t, some (ledT m.ss pf ds), some (.tup (peoL m.ss pf)), some (.int (i : Int)), x4, none, none] ∧ S = []) ⟨_, rfl, rfl⟩ ?_ ?_
    · rintro j t τ S e ⟨x4, rfl, rfl⟩
      obtain ⟨hj, rfl⟩ := rangeT_at e
      have hj : j < ns.length := hj
      have ez2 : (0 : Int) + (j : Int) = (j : Int) := by omega
      have nx : ∀ S, fIx (strsT ns) (.int (j : Int)) S = .ok (.str (ns.getD j "")) S := fun S => by
        have e := atI_strs (ns := ns) (i := (j : Int)) (by omega) (by omega)
        rw [Int.toNat_natCast] at e
        show fIx (.tup (ns.map T.str)) _ S = _
        try simp_arith only [e]
      have h1 : ∀ S, fIn true (.str (ns.getD j "")) (strsT m.ss) S = .ok (.bl false) S := fun S => by
        rw [ni_ev (xs := m.ss) rfl (fun z h => by cases h), decide_eq_true (hin _ (getD_mem' (xs := ns) "" hj))]
        rfl
      have sl : ∀ S, fSlA true (strsT ns) none (some (j : Int)) S = .ok (strsT (ns.take j)) S := fun S => by
        show fSlA true (.tup (ns.map T.str)) none (some (j : Int)) S = _
        rw [takeT (by omega), ← List.map_take, Int.toNat_natCast]
        rfl
      have h2 : ∀ S, fIn false (.str (ns.getD j "")) (strsT (ns.take j)) S = .ok (.bl false) S := fun S => by
        rw [in_ev (xs := ns.take j) rfl (fun z h => by cases h), decide_eq_false (nd_take hnd hj)]
      refine ⟨_, bindP_nm _ _ _, ?_⟩
      try simp_arith only [ez2, px, nx, m0, h1, sl, h2, forQ]
      exact ⟨_, rfl, by trivial⟩
    · rintro τ S ⟨x4, rfl, rfl⟩
      try simp_arith only [forQ]
      exact ⟨_, _, rfl, by trivial⟩
  · rintro τ S ⟨x3, x4, rfl, rfl⟩
    try simp_arith only []
    refine key _ _ _ ?_
    try simp only [endQ]
    exact ⟨by simp, by rw [thaw_non]; exact h⟩
theorem amounts35_ok {t : Tp} {rest : Sto} {Q : T → Sto → Prop} (hp : 0 ≤ t.pl) (h : ∀ (zs : List Int) (t' : Tp), 0 ≤ t'.pl → zs.length = 324 → Q (tupI zs) (t'.o :: rest)) : Ok (F__law_amounts [.ref 0, .int 324] (t.o :: rest)) Q := by
  unfold F__law_amounts
  refine ok_frame1 (by simp) t.clO ?_
  generalize hB : B__law_amounts = B
  refine ok_run ?_
  subst hB
  unfold B__law_amounts
  try simp_arith only []
  refine draw_ok hp (by decide) fun j t1 hp1 hj0 hj => ?_
  obtain ⟨rare, hr, hr2⟩ := pick3 2 6 40 hj0 (by omega)
  have hrr : rare ≤ 1000 := by omega
  try simp_arith only [hr]
  rw [range1_ev _ _ (by decide)]
  try simp_arith only []
  refine ok_for (fun i τ S => ∃ (zs : List Int) (t' : Tp) (x4 : Option T), τ = [some (.ref 0), some (.int 324), some (.int rare), some (.ref 1), x4] ∧ S = [t'.o, .lst (zs.map T.int)] ∧ 0 ≤ t'.pl ∧ zs.length = i) ⟨[], t1, none, rfl, rfl, hp1, rfl⟩ ?_ ?_
  · rintro i u τ S e ⟨zs, t', x4, rfl, rfl, hp', hlen⟩
    obtain ⟨hi, rfl⟩ := rangeT_at e
    have hi : i < 324 := hi
    refine ⟨_, bindP_nm _ _ _, ?_⟩
    try simp_arith only []
    refine amount_ok hp' fun n t2 hp2 => ?_
    try simp_arith only []
    refine draw_ok hp2 (by omega) fun d t3 hp3 hd0 hd1 => ?_
    have hfi : ∀ (b : Bool) S, fInt [.bl b] S = .ok (.int (if b = true then 1 else 0)) S := fun b S => by cases b <;> rfl
    have hap : ∀ z : Int, fAppend (.ref 1) [.int z] [t3.o, .lst (zs.map T.int)] = .ok .non [t3.o, .lst ((zs ++ [z]).map T.int)] := fun z => by
      rw [append_ev (k := 1) rfl (by rw [List.length_map]; omega), List.map_append]
      rfl
    by_cases c : d = 0
    · try simp_arith only [decide_eq_true c, hfi, hap, forQ]
      exact ⟨_, _, _, rfl, by trivial, hp3, by rw [List.length_append, hlen]; rfl⟩
    · try simp_arith only [decide_eq_false c, hfi, hap, forQ]
      exact ⟨_, _, _, rfl, by trivial, hp3, by rw [List.length_append, hlen]; rfl⟩
  · rintro τ S ⟨zs, t', x4, rfl, rfl, hp', hlen⟩
    rw [rangeT_length] at hlen
    have hlen : zs.length = 324 := hlen
    have ht : fTuple [.ref 1] [t'.o, .lst (zs.map T.int)] = .ok (.tup (zs.map T.int)) [t'.o, .lst (zs.map T.int)] := tupR rfl
    try simp_arith only [ht, endQ]
    refine ⟨t'.o, _, rfl, t'.clO, ?_, ?_⟩
    · rw [thaw_tup]
      exact tupI_cl 1 zs
    · rw [thaw_tup]
      exact h zs t' hp' hlen
def Mdl.revS (m : Mdl) : Mdl := { m with ss := m.ss.reverse }
theorem MdlU.revS {m : Mdl} (h : MdlU m) : MdlU m.revS := ⟨by show m.ss.reverse.length ≤ 3; rw [List.length_reverse]; exact h.sl, by show m.ss.reverse.Nodup; exact (List.reverse_perm _).nodup_iff.mpr h.nd, h.kl, fun k mk => ⟨SE.over_rev (h.o1 k mk).1, (h.o1 k mk).2⟩, fun k mk => ⟨SE.over_rev (h.o2 k mk).1, (h.o2 k mk).2⟩⟩
theorem sz_rev (m : Mdl) : szOf m.revS.ss = szOf m.ss := by
  show 2 ^ m.ss.reverse.length = 2 ^ m.ss.length
  rw [List.length_reverse]
theorem un_g {m : Mdl} {P : Option Nat} {zs : List Int} (hl : (kunits m.ss P m.kinds).length ≤ 900) : UnG m P (usedU m.ss P m.kinds zs) where
  len := by
    unfold usedU
    refine Nat.le_trans (List.length_filter_le _ _) ?_
    rw [List.length_zip]
    omega
  ab := fun p mp => by
    obtain ⟨-, -, ha, hb, -⟩ := ku_ab (used_ku mp)
    exact ⟨(grps_lt ha).1, (grps_lt hb).1⟩
theorem kun_len {m : Mdl} {P : Option Nat} (hm : MdlU m) : (kunits m.ss P m.kinds).length ≤ 81 * m.kinds.length := by
  have := units_len (P := P) (ks := m.kinds) hm.sl
  rw [← kunits_snd, List.length_map] at this
  exact this
theorem round35 {m : Mdl} {P : Option Nat} {zs : List Int} (hm : MdlU m) (hk : m.kinds.length ≤ 4) (hn : (m.kinds.map Kd.name).Nodup) (hP : ∀ p, P = some p → p < szOf m.ss) (hz : zs.length = (unitsOf m.ss P m.kinds).length) :
    ∃ L : T, (∀ S, F__law_made [m.t, optT P, tupI zs] S = .ok L S) ∧ (∀ S, F_made [m.t, optT P, tupI zs] S = .ok L S) ∧ (∀ S, F__law_problem [m.t, L] S = .ok .non S) ∧ ∀ S, F__law_same 24 [L, L] S = .ok (.bl true) S := by
  have hkl := kun_len (P := P) hm
  have hz2 : zs.length = (kunits m.ss P m.kinds).length := by rw [hz, ← kunits_snd, List.length_map]
  have ug := un_g (m := m) (P := P) (zs := zs) (by omega)
  have us := used_g (m := m) (zs := zs) hP
  have h8 := szOf_le hm.sl
  have hul : (usedU m.ss P m.kinds zs).length ≤ 324 := by
    unfold usedU
    refine Nat.le_trans (List.length_filter_le _ _) ?_
    rw [List.length_zip]
    omega
  have hpl : (pfU (szOf m.ss) P (usedU m.ss P m.kinds zs)).length ≤ 100 := by
    have := pfG_len P (grpU (usedU m.ss P m.kinds zs) (szOf m.ss))
    have hg := grp_len (usedU m.ss P m.kinds zs) (szOf m.ss)
    show (pfG P (grpU _ _)).length ≤ 100
    rw [this]
    split <;> omega
  have hdl : (dsU (szOf m.ss) (usedU m.ss P m.kinds zs)).length ≤ 90000 := by
    have e : ∀ (G : List Nat) (l : List Us), (l.flatMap (dealU (szOf m.ss) G)).length = 2 * l.length := fun G l => by
      induction l with
      | nil => rfl
      | cons p l ih => rw [List.flatMap_cons, List.length_append, ih]; show 2 + 2 * l.length = 2 * (l.length + 1); omega
    unfold dsU
    rw [e]
    omega
  refine ⟨_, fun S => lmade35 hm hP (by omega) hz2 ug S, fun S => made_ev hm (by omega) ug S, fun S => lproblem_ev hm hn hpl hdl (fun d md => ⟨ds_ok us d md, ?_⟩) S, fun S => ok_ev fun Q q => same_yes (d := 23) (Pl_led _ _ _ (by omega) (by omega) hm.sl hm.nd) (by decide) q⟩
  obtain ⟨p, mp, md⟩ := List.mem_flatMap.mp md
  rw [(deal_g us mp d md).n]
  have := us.pos p mp
  omega
theorem none35 {m : Mdl} (hm : MdlU m) (hk : m.kinds.length ≤ 4) (S : Sto) : F_made [m.t, .non, tupI (List.replicate (unitsOf m.ss none m.kinds).length 0)] S = .ok (.tup [.tup [], .tup []]) S := by
  have hkl := kun_len (P := none) hm
  have e := made_ev (zs := List.replicate (unitsOf m.ss none m.kinds).length 0) hm (by omega) (un_g (P := none) (by omega)) S
  have hu : usedU m.ss none m.kinds (List.replicate (unitsOf m.ss none m.kinds).length 0) = [] := List.filter_eq_nil_iff.mpr fun p mp => by
    have := List.eq_of_mem_replicate (List.of_mem_zip mp).2
    rw [this]
    decide
  rw [hu] at e
  have hg : ∀ n, grpU [] n = [] := fun n => List.filter_eq_nil_iff.mpr fun g _ => by
    show ¬ false = true
    exact Bool.false_ne_true
  have e2 : ledT m.ss (pfU (szOf m.ss) none []) (dsU (szOf m.ss) []) = .tup [.tup [], .tup []] := by
    unfold pfU
    rw [hg]
    rfl
  rw [e2] at e
  exact e
theorem zeros_ev (n : Nat) (hn : n ≤ 1000) (S : Sto) : fMulZ true (.tup [.int 0]) (.int (n : Int)) S = .ok (tupI (List.replicate n 0)) S := by
  match n, hn with
  | 0, _ => rfl
  | 1, _ => rfl
  | n + 2, hn =>
    show (if (decide (((n + 2 : Nat) : Int) = 0) && !([T.int 0].isEmpty)) = true then R.ok (T.tup []) S else fMulA true (.tup [.int 0]) (.int ((n + 2 : Nat) : Int)) S) = _
    rw [if_neg (by rw [decide_eq_false (by omega)]; simp)]
    show (if (decide (((n + 2 : Nat) : Int) = 1) && !([T.int 0].isEmpty)) = true then R.ok (T.tup [.int 0]) S else fRepT (.tup [.int 0]) (.int ((n + 2 : Nat) : Int)) S) = _
    rw [if_neg (by rw [decide_eq_false (by omega)]; simp)]
    show (if (decide (2 ≤ ((n + 2 : Nat) : Int)) && (decide (((n + 2 : Nat) : Int) ≤ 1000) && (decide ([T.int 0].length ≤ 100) && !([T.int 0].isEmpty)))) = true then R.ok (T.tup (List.replicate ((n + 2 : Nat) : Int).toNat [T.int 0]).flatten) S else .bad) = _
    rw [if_pos (by simp; omega), Int.toNat_natCast]
    unfold tupI
    rw [List.map_replicate]
    congr 2
    exact List.flatten_replicate_singleton
theorem t6_35 {m : Mdl} {zs : List Int} {x0 x2 : Option T} {t : Tp} (hp : 0 ≤ t.pl) (hm : MdlU m) (hk : m.kinds.length ≤ 4) (hn : (m.kinds.map Kd.name).Nodup) (hz : zs.length = 324) :
    Ok (B_law_t6 [x0, some (.ref 0), x2, some m.t, some (.int (szOf m.ss : Nat)), some (tupI zs), some m.revS.t, none, none, none, none] [t.o]) (endQ fun t S1 => Fx.cl 0 (thaw 0 true t S1) = true ∧ thaw 0 true t S1 = .bl true) := by
  unfold B_law_t6
  have h8 := szOf_le hm.sl
  have hs1 : 1 ≤ szOf m.ss := Nat.one_le_two_pow
  have hil : ∀ (l : List T) S, itOf (.lst l) S = .ok ⟨l, []⟩ S := fun l S => rfl
  have hnw : ∀ (l : List T) S, newL true l S = .ok (.lst l) S := fun l S => rfl
  have hMs : ∀ q ∈ [m, m.revS, m], MdlU q ∧ q.kinds.length ≤ 4 ∧ (q.kinds.map Kd.name).Nodup ∧ szOf q.ss = szOf m.ss := fun q mq => by
    simp only [List.mem_cons, List.not_mem_nil, or_false] at mq
    rcases mq with rfl | rfl | rfl
    · exact ⟨hm, hk, hn, rfl⟩
    · exact ⟨hm.revS, hk, hn, sz_rev m⟩
    · exact ⟨hm, hk, hn, rfl⟩
  have hM0 : ([m.t, m.revS.t, m.t] : List T) = [m, m.revS, m].map Mdl.t := rfl
  generalize hMM : [m, m.revS, m] = MM at *
  try simp_arith only []
  refine draw_ok hp (by omega) fun a t1 hp1 ha0 ha1 => ?_
  obtain ⟨a, rfl⟩ : ∃ k : Nat, a = (k : Int) := ⟨a.toNat, by omega⟩
  try simp_arith only []
  refine draw_ok hp1 (by omega) fun b t2 hp2 hb0 hb1 => ?_
  obtain ⟨b, rfl⟩ : ∃ k : Nat, b = (k : Int) := ⟨b.toNat, by omega⟩
  have hPs : ∀ P ∈ [Option.none, some a, some b, Option.none], ∀ p, P = some p → p < szOf m.ss := fun P mP p e => by
    simp only [List.mem_cons, List.not_mem_nil, or_false] at mP
    rcases mP with rfl | rfl | rfl | rfl
    · cases e
    · cases e; omega
    · cases e; omega
    · cases e
  have hP0 : ([T.non, .int (a : Int), .int (b : Int), T.non] : List T) = [Option.none, some a, some b, Option.none].map optT := rfl
  generalize hPP : [Option.none, some a, some b, Option.none] = PP at *
  try simp_arith only [hnw, hil]
  rw [hP0]
  refine ok_for (fun i τ S => ∃ (x7 x8 x9 x10 : Option T), τ = [x0, some (.ref 0), x2, some m.t, some (.int (szOf m.ss : Nat)), some (tupI zs), some m.revS.t, x7, x8, x9, x10] ∧ S = [t2.o]) ⟨_, _, _, _, rfl, rfl⟩ ?_ ?_
  · rintro i u τ S e ⟨x7, x8, x9, x10, rfl, rfl⟩
    rw [List.getElem?_map] at e
    obtain ⟨P, hP, rfl⟩ := Option.map_eq_some_iff.mp e
    have hPlt := hPs P (List.mem_of_getElem? hP)
    refine ⟨_, bindP_nm _ _ _, ?_⟩
    try simp_arith only [hnw, hil]
    rw [hM0]
    refine ok_for (fun j τ S => ∃ (x8 x9 x10 : Option T), τ = [x0, some (.ref 0), x2, some m.t, some (.int (szOf m.ss : Nat)), some (tupI zs), some m.revS.t, some (optT P), x8, x9, x10] ∧ S = [t2.o]) ⟨_, _, _, rfl, rfl⟩ ?_ ?_
    · rintro j u τ S e ⟨x8, x9, x10, rfl, rfl⟩
      rw [List.getElem?_map] at e
      obtain ⟨q, hq, rfl⟩ := Option.map_eq_some_iff.mp e
      obtain ⟨qm, qk, qn, qs⟩ := hMs q (List.mem_of_getElem? hq)
      have hPq : ∀ p, P = some p → p < szOf q.ss := fun p e => by rw [qs]; exact hPlt p e
      have hun := fun S => lunits35 qm hPq S
      have hul := units_len (P := P) (ks := q.kinds) qm.sl
      have ll : ∀ S, fLen [.lst ((unitsOf q.ss P q.kinds).map uT)] S = .ok (.int ((unitsOf q.ss P q.kinds).length : Int)) S := fun S => by rw [ev_lenL, List.length_map]
      have hsl : ∀ S, fSlA true (tupI zs) none (some ((unitsOf q.ss P q.kinds).length : Int)) S = .ok (tupI (zs.take (unitsOf q.ss P q.kinds).length)) S := fun S => by
        show fSlA true (.tup (zs.map T.int)) none (some ((unitsOf q.ss P q.kinds).length : Int)) S = _
        rw [takeT (by omega), Int.toNat_natCast, ← List.map_take]
        rfl
      obtain ⟨L, r1, r2, r3, r4⟩ := round35 (zs := zs.take (unitsOf q.ss P q.kinds).length) qm qk qn hPq (by rw [List.length_take]; omega)
      have hno : ∀ S, fIsN true .non .non S = .ok (.bl false) S := fun S => rfl
      refine ⟨_, bindP_nm _ _ _, ?_⟩
      try simp_arith only [hun, ll, hsl, r1, r2, r3, r4, hno, fTru_bl, forQ]
      exact ⟨_, _, _, rfl, by trivial⟩
    · rintro τ S ⟨x8, x9, x10, rfl, rfl⟩
      try simp_arith only [forQ]
      exact ⟨_, _, _, _, rfl, by trivial⟩
  · rintro τ S ⟨x7, x8, x9, x10, rfl, rfl⟩
    have on : optT Option.none = .non := rfl
    have hun := fun S => lunits35 (P := Option.none) hm (fun p e => nomatch e) S
    rw [on] at hun
    have hul := units_len (P := Option.none) (ks := m.kinds) hm.sl
    have ll : ∀ S, fLen [.lst ((unitsOf m.ss Option.none m.kinds).map uT)] S = .ok (.int ((unitsOf m.ss Option.none m.kinds).length : Int)) S := fun S => by rw [ev_lenL, List.length_map]
    have hmz := fun S => zeros_ev (unitsOf m.ss Option.none m.kinds).length (by omega) S
    have hmade := fun S => none35 hm hk S
    have hsame : ∀ S, F__law_same 24 [.tup [.tup [], .tup []], .tup [.tup [], .tup []]] S = .ok (.bl true) S := fun S => ok_ev fun Q q => same_yes (d := 23) (e := 2) (.tup (by decide) fun t mt => by
      have : t = .tup [] := by simpa using mt
      rw [this]
      exact .tup (by decide) fun _ h => nomatch h) (by decide) q
    try simp_arith only [hun, ll, hmz, hmade, hsame, endQ]
    exact ⟨by simp, by simp⟩
theorem law_true : ∀ ns : List Int, ns.length ≤ 63 → ∃ S, F_law [.kst (ns.map T.int)] [] = .ok (.bl true) S := by
  intro scr _
  suffices h : Ok (F_law [.kst (scr.map T.int)] []) fun r _ => r = .bl true by
    obtain ⟨a, S, e, rfl⟩ := h.get
    exact ⟨S, e⟩
  unfold F_law
  refine ok_frame0 (by simp) ?_
  generalize hB6 : B_law_t6 = B6
  have key := fun (m : Mdl) (zs : List Int) (x0 x2 : Option T) (t : Tp) => @t6_35 m zs x0 x2 t
  rw [hB6] at key
  generalize hB : B_law = B
  refine ok_run ?_
  subst hB
  unfold B_law
  rw [hB6]
  try simp_arith only []
  refine tape_ok fun t hp => ?_
  try simp_arith only []
  refine lists_ok hp (by decide) (by decide) (by decide) (by decide) fun ss as ls t1 hp1 hss has1 has1' hls1 hls hsn han hln hnm => ?_
  try simp_arith only []
  refine draw_ok hp1 (by decide) fun d t2 hp2 hd0 hd1 => ?_
  obtain ⟨c, hc, hc2⟩ : ∃ c : Int, L2.atI [T.tup [.int 2, .int 0, .int 0], .tup [.int 4, .int 0, .int 0]] d = some (.tup [.int c, .int 0, .int 0]) ∧ (c = 2 ∨ c = 4) := by
    have : d = 0 ∨ d = 1 := by omega
    rcases this with rfl | rfl
    · exact ⟨2, atI_0 .., .inl rfl⟩
    · exact ⟨4, atI_1 .., .inr rfl⟩
  try simp_arith only [hc]
  refine mdl_ok hp2 (by omega) has1 (by omega) (by omega) (by omega) (by decide) (by decide) (by omega) (by decide) (by decide) (by decide) (by decide) fun m t3 hp3 hmss hmas hmg => ?_
  rw [if_pos (by decide)] at hmg
  have hkl := hmg.kl
  have hn : (m.kinds.map Kd.name).Nodup := (hmg.nd hln).sublist (List.sublist_append_left _ _)
  have hm : MdlU m := ⟨by rw [hmss]; omega, by rw [hmss]; exact hsn, by omega, fun k mk => ⟨(hmg.kg k mk).payer.over, by have := (hmg.kg k mk).payer.dep; omega⟩, fun k mk => ⟨(hmg.kg k mk).payee.over, by have := (hmg.kg k mk).payee.dep; omega⟩⟩
  have hse := fun S => sets_ev (ss := m.ss) (by have := hm.sl; omega) S
  have hln : ∀ S, fLen [.lst ((sets m.ss).map strsT)] S = .ok (.int (szOf m.ss : Nat)) S := fun S => by
    rw [ev_lenL, List.length_map, sets_len]
    rfl
  have m0 : ∀ S, fIx m.t (.int 0) S = .ok (strsT m.ss) S := fun S => rfl
  try simp_arith only [m0, hse, hln]
  refine amounts35_ok hp3 fun zs t4 hp4 hz => ?_
  have hl0 : ∀ S, fListA true [strsT m.ss] S = .ok (.lst (m.ss.map T.str)) S := fun S => rfl
  have hcut : ∀ S, fSlA true m.t (some 1) none S = .ok (.tup [strsT m.as, .tup (m.kinds.map Kd.t), .tup (m.asm.map asmT), .tup (m.clm.map clmT)]) S := fun S => by
    unfold Mdl.t
    rw [ev_slT, cut_from _ (by decide)]
    rfl
  have er : T.tup [.tup (m.ss.map T.str).reverse, strsT m.as, .tup (m.kinds.map Kd.t), .tup (m.asm.map asmT), .tup (m.clm.map clmT)] = m.revS.t := by
    unfold Mdl.t Mdl.revS strsT
    rw [List.map_reverse]
  try simp_arith only [m0, hl0, ev_tupRev, hcut]
  rw [er]
  exact key m zs _ _ t4 hp4 hm (by omega) hn hz
set_option maxHeartbeats 0 in
theorem all_mk {l : PySem.W.OpenLaw} {w : World} {K : PySem.W.Frag} {h : Heap} {mg : Str → Option Value} {fa : Addr} (law_true : ∀ ns : List Int, ns.length ≤ 63 → ∃ S, F_law [.kst (ns.map T.int)] [] = .ok (.bl true) S) (X : K.In h) (G : h.Ns mainGlobals mg) (hfa : mg "law" = some (.ref fa))
    {f0 : Addr} {od0 an0 : Option Addr} {sl0 : Array (Option Value)} {oc0 kV0 dc0 pm0 cd0 ct0 : Value}
    (a0 : PySem.W.nsIn K mainGlobals "names_of" = some (some (.ref f0))) (l0 : K.lookup f0 = some ⟨oc0, od0, .func (PySem.W.fnOf "names_of" "names_of" (defArgs st_names_of) (defBody st_names_of) (defScope st_names_of) .none kV0 dc0 pm0 an0 cd0 ct0), sl0⟩) (c0 : PySem.W.codeIn K cd0 "names_of" = true) (k0 : PySem.W.keepIn K (.ref f0) = true)
    {f1 : Addr} {od1 an1 : Option Addr} {sl1 : Array (Option Value)} {oc1 kV1 dc1 pm1 cd1 ct1 : Value}
    (a1 : PySem.W.nsIn K mainGlobals "profile_count" = some (some (.ref f1))) (l1 : K.lookup f1 = some ⟨oc1, od1, .func (PySem.W.fnOf "profile_count" "profile_count" (defArgs st_profile_count) (defBody st_profile_count) (defScope st_profile_count) .none kV1 dc1 pm1 an1 cd1 ct1), sl1⟩) (c1 : PySem.W.codeIn K cd1 "profile_count" = true) (k1 : PySem.W.keepIn K (.ref f1) = true)
    {f2 : Addr} {od2 an2 : Option Addr} {sl2 : Array (Option Value)} {oc2 kV2 dc2 pm2 cd2 ct2 : Value}
    (a2 : PySem.W.nsIn K mainGlobals "group_profiles" = some (some (.ref f2))) (l2 : K.lookup f2 = some ⟨oc2, od2, .func (PySem.W.fnOf "group_profiles" "group_profiles" (defArgs st_group_profiles) (defBody st_group_profiles) (defScope st_group_profiles) .none kV2 dc2 pm2 an2 cd2 ct2), sl2⟩) (c2 : PySem.W.codeIn K cd2 "group_profiles" = true) (k2 : PySem.W.keepIn K (.ref f2) = true)
    {f3 : Addr} {od3 an3 : Option Addr} {sl3 : Array (Option Value)} {oc3 kV3 dc3 pm3 cd3 ct3 : Value}
    (a3 : PySem.W.nsIn K mainGlobals "belongs" = some (some (.ref f3))) (l3 : K.lookup f3 = some ⟨oc3, od3, .func (PySem.W.fnOf "belongs" "belongs" (defArgs st_belongs) (defBody st_belongs) (defScope st_belongs) .none kV3 dc3 pm3 an3 cd3 ct3), sl3⟩) (c3 : PySem.W.codeIn K cd3 "belongs" = true) (k3 : PySem.W.keepIn K (.ref f3) = true)
    {f4 : Addr} {od4 an4 : Option Addr} {sl4 : Array (Option Value)} {oc4 kV4 dc4 pm4 cd4 ct4 : Value}
    (a4 : PySem.W.nsIn K mainGlobals "_groups_in" = some (some (.ref f4))) (l4 : K.lookup f4 = some ⟨oc4, od4, .func (PySem.W.fnOf "_groups_in" "_groups_in" (defArgs st__groups_in) (defBody st__groups_in) (defScope st__groups_in) .none kV4 dc4 pm4 an4 cd4 ct4), sl4⟩) (c4 : PySem.W.codeIn K cd4 "_groups_in" = true) (k4 : PySem.W.keepIn K (.ref f4) = true)
    {f5 : Addr} {od5 an5 : Option Addr} {sl5 : Array (Option Value)} {oc5 kV5 dc5 pm5 cd5 ct5 : Value}
    (a5 : PySem.W.nsIn K mainGlobals "unit_transactions" = some (some (.ref f5))) (l5 : K.lookup f5 = some ⟨oc5, od5, .func (PySem.W.fnOf "unit_transactions" "unit_transactions" (defArgs st_unit_transactions) (defBody st_unit_transactions) (defScope st_unit_transactions) .none kV5 dc5 pm5 an5 cd5 ct5), sl5⟩) (c5 : PySem.W.codeIn K cd5 "unit_transactions" = true) (k5 : PySem.W.keepIn K (.ref f5) = true)
    {f6 : Addr} {od6 an6 : Option Addr} {sl6 : Array (Option Value)} {oc6 kV6 dc6 pm6 cd6 ct6 : Value}
    (a6 : PySem.W.nsIn K mainGlobals "made" = some (some (.ref f6))) (l6 : K.lookup f6 = some ⟨oc6, od6, .func (PySem.W.fnOf "made" "made" (defArgs st_made) (defBody st_made) (defScope st_made) .none kV6 dc6 pm6 an6 cd6 ct6), sl6⟩) (c6 : PySem.W.codeIn K cd6 "made" = true) (k6 : PySem.W.keepIn K (.ref f6) = true)
    {f7 : Addr} {od7 an7 : Option Addr} {sl7 : Array (Option Value)} {oc7 kV7 dc7 pm7 cd7 ct7 : Value}
    (a7 : PySem.W.nsIn K mainGlobals "_law_tape" = some (some (.ref f7))) (l7 : K.lookup f7 = some ⟨oc7, od7, .func (PySem.W.fnOf "_law_tape" "_law_tape" (defArgs st__law_tape) (defBody st__law_tape) (defScope st__law_tape) .none kV7 dc7 pm7 an7 cd7 ct7), sl7⟩) (c7 : PySem.W.codeIn K cd7 "_law_tape" = true) (k7 : PySem.W.keepIn K (.ref f7) = true)
    {f8 : Addr} {od8 an8 : Option Addr} {sl8 : Array (Option Value)} {oc8 kV8 dc8 pm8 cd8 ct8 : Value}
    (a8 : PySem.W.nsIn K mainGlobals "_law_draw" = some (some (.ref f8))) (l8 : K.lookup f8 = some ⟨oc8, od8, .func (PySem.W.fnOf "_law_draw" "_law_draw" (defArgs st__law_draw) (defBody st__law_draw) (defScope st__law_draw) .none kV8 dc8 pm8 an8 cd8 ct8), sl8⟩) (c8 : PySem.W.codeIn K cd8 "_law_draw" = true) (k8 : PySem.W.keepIn K (.ref f8) = true)
    {f9 : Addr} {od9 an9 : Option Addr} {sl9 : Array (Option Value)} {oc9 kV9 dc9 pm9 cd9 ct9 : Value}
    (a9 : PySem.W.nsIn K mainGlobals "_law_same" = some (some (.ref f9))) (l9 : K.lookup f9 = some ⟨oc9, od9, .func (PySem.W.fnOf "_law_same" "_law_same" (defArgs st__law_same) (defBody st__law_same) (defScope st__law_same) .none kV9 dc9 pm9 an9 cd9 ct9), sl9⟩) (c9 : PySem.W.codeIn K cd9 "_law_same" = true) (k9 : PySem.W.keepIn K (.ref f9) = true)
    {f10 : Addr} {od10 an10 : Option Addr} {sl10 : Array (Option Value)} {oc10 kV10 dc10 pm10 cd10 ct10 : Value}
    (a10 : PySem.W.nsIn K mainGlobals "_law_sets" = some (some (.ref f10))) (l10 : K.lookup f10 = some ⟨oc10, od10, .func (PySem.W.fnOf "_law_sets" "_law_sets" (defArgs st__law_sets) (defBody st__law_sets) (defScope st__law_sets) .none kV10 dc10 pm10 an10 cd10 ct10), sl10⟩) (c10 : PySem.W.codeIn K cd10 "_law_sets" = true) (k10 : PySem.W.keepIn K (.ref f10) = true)
    {f11 : Addr} {od11 an11 : Option Addr} {sl11 : Array (Option Value)} {oc11 kV11 dc11 pm11 cd11 ct11 : Value}
    (a11 : PySem.W.nsIn K mainGlobals "_law_letters" = some (some (.ref f11))) (l11 : K.lookup f11 = some ⟨oc11, od11, .func (PySem.W.fnOf "_law_letters" "_law_letters" (defArgs st__law_letters) (defBody st__law_letters) (defScope st__law_letters) .none kV11 dc11 pm11 an11 cd11 ct11), sl11⟩) (c11 : PySem.W.codeIn K cd11 "_law_letters" = true) (k11 : PySem.W.keepIn K (.ref f11) = true)
    {f12 : Addr} {od12 an12 : Option Addr} {sl12 : Array (Option Value)} {oc12 kV12 dc12 pm12 cd12 ct12 : Value}
    (a12 : PySem.W.nsIn K mainGlobals "_law_reserved" = some (some (.ref f12))) (l12 : K.lookup f12 = some ⟨oc12, od12, .func (PySem.W.fnOf "_law_reserved" "_law_reserved" (defArgs st__law_reserved) (defBody st__law_reserved) (defScope st__law_reserved) .none kV12 dc12 pm12 an12 cd12 ct12), sl12⟩) (c12 : PySem.W.codeIn K cd12 "_law_reserved" = true) (k12 : PySem.W.keepIn K (.ref f12) = true)
    {f13 : Addr} {od13 an13 : Option Addr} {sl13 : Array (Option Value)} {oc13 kV13 dc13 pm13 cd13 ct13 : Value}
    (a13 : PySem.W.nsIn K mainGlobals "_law_run" = some (some (.ref f13))) (l13 : K.lookup f13 = some ⟨oc13, od13, .func (PySem.W.fnOf "_law_run" "_law_run" (defArgs st__law_run) (defBody st__law_run) (defScope st__law_run) .none kV13 dc13 pm13 an13 cd13 ct13), sl13⟩) (c13 : PySem.W.codeIn K cd13 "_law_run" = true) (k13 : PySem.W.keepIn K (.ref f13) = true)
    {f14 : Addr} {od14 an14 : Option Addr} {sl14 : Array (Option Value)} {oc14 kV14 dc14 pm14 cd14 ct14 : Value}
    (a14 : PySem.W.nsIn K mainGlobals "_law_names" = some (some (.ref f14))) (l14 : K.lookup f14 = some ⟨oc14, od14, .func (PySem.W.fnOf "_law_names" "_law_names" (defArgs st__law_names) (defBody st__law_names) (defScope st__law_names) .none kV14 dc14 pm14 an14 cd14 ct14), sl14⟩) (c14 : PySem.W.codeIn K cd14 "_law_names" = true) (k14 : PySem.W.keepIn K (.ref f14) = true)
    {f15 : Addr} {od15 an15 : Option Addr} {sl15 : Array (Option Value)} {oc15 kV15 dc15 pm15 cd15 ct15 : Value}
    (a15 : PySem.W.nsIn K mainGlobals "_law_lists" = some (some (.ref f15))) (l15 : K.lookup f15 = some ⟨oc15, od15, .func (PySem.W.fnOf "_law_lists" "_law_lists" (defArgs st__law_lists) (defBody st__law_lists) (defScope st__law_lists) .none kV15 dc15 pm15 an15 cd15 ct15), sl15⟩) (c15 : PySem.W.codeIn K cd15 "_law_lists" = true) (k15 : PySem.W.keepIn K (.ref f15) = true)
    {f16 : Addr} {od16 an16 : Option Addr} {sl16 : Array (Option Value)} {oc16 kV16 dc16 pm16 cd16 ct16 : Value}
    (a16 : PySem.W.nsIn K mainGlobals "_law_leaf" = some (some (.ref f16))) (l16 : K.lookup f16 = some ⟨oc16, od16, .func (PySem.W.fnOf "_law_leaf" "_law_leaf" (defArgs st__law_leaf) (defBody st__law_leaf) (defScope st__law_leaf) .none kV16 dc16 pm16 an16 cd16 ct16), sl16⟩) (c16 : PySem.W.codeIn K cd16 "_law_leaf" = true) (k16 : PySem.W.keepIn K (.ref f16) = true)
    {f17 : Addr} {od17 an17 : Option Addr} {sl17 : Array (Option Value)} {oc17 kV17 dc17 pm17 cd17 ct17 : Value}
    (a17 : PySem.W.nsIn K mainGlobals "_law_sector" = some (some (.ref f17))) (l17 : K.lookup f17 = some ⟨oc17, od17, .func (PySem.W.fnOf "_law_sector" "_law_sector" (defArgs st__law_sector) (defBody st__law_sector) (defScope st__law_sector) .none kV17 dc17 pm17 an17 cd17 ct17), sl17⟩) (c17 : PySem.W.codeIn K cd17 "_law_sector" = true) (k17 : PySem.W.keepIn K (.ref f17) = true)
    {f18 : Addr} {od18 an18 : Option Addr} {sl18 : Array (Option Value)} {oc18 kV18 dc18 pm18 cd18 ct18 : Value}
    (a18 : PySem.W.nsIn K mainGlobals "_law_deep" = some (some (.ref f18))) (l18 : K.lookup f18 = some ⟨oc18, od18, .func (PySem.W.fnOf "_law_deep" "_law_deep" (defArgs st__law_deep) (defBody st__law_deep) (defScope st__law_deep) .none kV18 dc18 pm18 an18 cd18 ct18), sl18⟩) (c18 : PySem.W.codeIn K cd18 "_law_deep" = true) (k18 : PySem.W.keepIn K (.ref f18) = true)
    {f19 : Addr} {od19 an19 : Option Addr} {sl19 : Array (Option Value)} {oc19 kV19 dc19 pm19 cd19 ct19 : Value}
    (a19 : PySem.W.nsIn K mainGlobals "_law_some_sector" = some (some (.ref f19))) (l19 : K.lookup f19 = some ⟨oc19, od19, .func (PySem.W.fnOf "_law_some_sector" "_law_some_sector" (defArgs st__law_some_sector) (defBody st__law_some_sector) (defScope st__law_some_sector) .none kV19 dc19 pm19 an19 cd19 ct19), sl19⟩) (c19 : PySem.W.codeIn K cd19 "_law_some_sector" = true) (k19 : PySem.W.keepIn K (.ref f19) = true)
    {f20 : Addr} {od20 an20 : Option Addr} {sl20 : Array (Option Value)} {oc20 kV20 dc20 pm20 cd20 ct20 : Value}
    (a20 : PySem.W.nsIn K mainGlobals "_law_number" = some (some (.ref f20))) (l20 : K.lookup f20 = some ⟨oc20, od20, .func (PySem.W.fnOf "_law_number" "_law_number" (defArgs st__law_number) (defBody st__law_number) (defScope st__law_number) .none kV20 dc20 pm20 an20 cd20 ct20), sl20⟩) (c20 : PySem.W.codeIn K cd20 "_law_number" = true) (k20 : PySem.W.keepIn K (.ref f20) = true)
    {f21 : Addr} {od21 an21 : Option Addr} {sl21 : Array (Option Value)} {oc21 kV21 dc21 pm21 cd21 ct21 : Value}
    (a21 : PySem.W.nsIn K mainGlobals "_law_entries" = some (some (.ref f21))) (l21 : K.lookup f21 = some ⟨oc21, od21, .func (PySem.W.fnOf "_law_entries" "_law_entries" (defArgs st__law_entries) (defBody st__law_entries) (defScope st__law_entries) .none kV21 dc21 pm21 an21 cd21 ct21), sl21⟩) (c21 : PySem.W.codeIn K cd21 "_law_entries" = true) (k21 : PySem.W.keepIn K (.ref f21) = true)
    {f22 : Addr} {od22 an22 : Option Addr} {sl22 : Array (Option Value)} {oc22 kV22 dc22 pm22 cd22 ct22 : Value}
    (a22 : PySem.W.nsIn K mainGlobals "_law_negated" = some (some (.ref f22))) (l22 : K.lookup f22 = some ⟨oc22, od22, .func (PySem.W.fnOf "_law_negated" "_law_negated" (defArgs st__law_negated) (defBody st__law_negated) (defScope st__law_negated) .none kV22 dc22 pm22 an22 cd22 ct22), sl22⟩) (c22 : PySem.W.codeIn K cd22 "_law_negated" = true) (k22 : PySem.W.keepIn K (.ref f22) = true)
    {f23 : Addr} {od23 an23 : Option Addr} {sl23 : Array (Option Value)} {oc23 kV23 dc23 pm23 cd23 ct23 : Value}
    (a23 : PySem.W.nsIn K mainGlobals "_law_kind" = some (some (.ref f23))) (l23 : K.lookup f23 = some ⟨oc23, od23, .func (PySem.W.fnOf "_law_kind" "_law_kind" (defArgs st__law_kind) (defBody st__law_kind) (defScope st__law_kind) .none kV23 dc23 pm23 an23 cd23 ct23), sl23⟩) (c23 : PySem.W.codeIn K cd23 "_law_kind" = true) (k23 : PySem.W.keepIn K (.ref f23) = true)
    {f24 : Addr} {od24 an24 : Option Addr} {sl24 : Array (Option Value)} {oc24 kV24 dc24 pm24 cd24 ct24 : Value}
    (a24 : PySem.W.nsIn K mainGlobals "_law_constraint" = some (some (.ref f24))) (l24 : K.lookup f24 = some ⟨oc24, od24, .func (PySem.W.fnOf "_law_constraint" "_law_constraint" (defArgs st__law_constraint) (defBody st__law_constraint) (defScope st__law_constraint) .none kV24 dc24 pm24 an24 cd24 ct24), sl24⟩) (c24 : PySem.W.codeIn K cd24 "_law_constraint" = true) (k24 : PySem.W.keepIn K (.ref f24) = true)
    {f25 : Addr} {od25 an25 : Option Addr} {sl25 : Array (Option Value)} {oc25 kV25 dc25 pm25 cd25 ct25 : Value}
    (a25 : PySem.W.nsIn K mainGlobals "_law_claim" = some (some (.ref f25))) (l25 : K.lookup f25 = some ⟨oc25, od25, .func (PySem.W.fnOf "_law_claim" "_law_claim" (defArgs st__law_claim) (defBody st__law_claim) (defScope st__law_claim) .none kV25 dc25 pm25 an25 cd25 ct25), sl25⟩) (c25 : PySem.W.codeIn K cd25 "_law_claim" = true) (k25 : PySem.W.keepIn K (.ref f25) = true)
    {f26 : Addr} {od26 an26 : Option Addr} {sl26 : Array (Option Value)} {oc26 kV26 dc26 pm26 cd26 ct26 : Value}
    (a26 : PySem.W.nsIn K mainGlobals "_law_model" = some (some (.ref f26))) (l26 : K.lookup f26 = some ⟨oc26, od26, .func (PySem.W.fnOf "_law_model" "_law_model" (defArgs st__law_model) (defBody st__law_model) (defScope st__law_model) .none kV26 dc26 pm26 an26 cd26 ct26), sl26⟩) (c26 : PySem.W.codeIn K cd26 "_law_model" = true) (k26 : PySem.W.keepIn K (.ref f26) = true)
    {f27 : Addr} {od27 an27 : Option Addr} {sl27 : Array (Option Value)} {oc27 kV27 dc27 pm27 cd27 ct27 : Value}
    (a27 : PySem.W.nsIn K mainGlobals "_law_member" = some (some (.ref f27))) (l27 : K.lookup f27 = some ⟨oc27, od27, .func (PySem.W.fnOf "_law_member" "_law_member" (defArgs st__law_member) (defBody st__law_member) (defScope st__law_member) .none kV27 dc27 pm27 an27 cd27 ct27), sl27⟩) (c27 : PySem.W.codeIn K cd27 "_law_member" = true) (k27 : PySem.W.keepIn K (.ref f27) = true)
    {f28 : Addr} {od28 an28 : Option Addr} {sl28 : Array (Option Value)} {oc28 kV28 dc28 pm28 cd28 ct28 : Value}
    (a28 : PySem.W.nsIn K mainGlobals "_law_kind_of" = some (some (.ref f28))) (l28 : K.lookup f28 = some ⟨oc28, od28, .func (PySem.W.fnOf "_law_kind_of" "_law_kind_of" (defArgs st__law_kind_of) (defBody st__law_kind_of) (defScope st__law_kind_of) .none kV28 dc28 pm28 an28 cd28 ct28), sl28⟩) (c28 : PySem.W.codeIn K cd28 "_law_kind_of" = true) (k28 : PySem.W.keepIn K (.ref f28) = true)
    {f29 : Addr} {od29 an29 : Option Addr} {sl29 : Array (Option Value)} {oc29 kV29 dc29 pm29 cd29 ct29 : Value}
    (a29 : PySem.W.nsIn K mainGlobals "_law_problem" = some (some (.ref f29))) (l29 : K.lookup f29 = some ⟨oc29, od29, .func (PySem.W.fnOf "_law_problem" "_law_problem" (defArgs st__law_problem) (defBody st__law_problem) (defScope st__law_problem) .none kV29 dc29 pm29 an29 cd29 ct29), sl29⟩) (c29 : PySem.W.codeIn K cd29 "_law_problem" = true) (k29 : PySem.W.keepIn K (.ref f29) = true)
    {f30 : Addr} {od30 an30 : Option Addr} {sl30 : Array (Option Value)} {oc30 kV30 dc30 pm30 cd30 ct30 : Value}
    (a30 : PySem.W.nsIn K mainGlobals "_law_members" = some (some (.ref f30))) (l30 : K.lookup f30 = some ⟨oc30, od30, .func (PySem.W.fnOf "_law_members" "_law_members" (defArgs st__law_members) (defBody st__law_members) (defScope st__law_members) .none kV30 dc30 pm30 an30 cd30 ct30), sl30⟩) (c30 : PySem.W.codeIn K cd30 "_law_members" = true) (k30 : PySem.W.keepIn K (.ref f30) = true)
    {f31 : Addr} {od31 an31 : Option Addr} {sl31 : Array (Option Value)} {oc31 kV31 dc31 pm31 cd31 ct31 : Value}
    (a31 : PySem.W.nsIn K mainGlobals "_law_units" = some (some (.ref f31))) (l31 : K.lookup f31 = some ⟨oc31, od31, .func (PySem.W.fnOf "_law_units" "_law_units" (defArgs st__law_units) (defBody st__law_units) (defScope st__law_units) .none kV31 dc31 pm31 an31 cd31 ct31), sl31⟩) (c31 : PySem.W.codeIn K cd31 "_law_units" = true) (k31 : PySem.W.keepIn K (.ref f31) = true)
    {f32 : Addr} {od32 an32 : Option Addr} {sl32 : Array (Option Value)} {oc32 kV32 dc32 pm32 cd32 ct32 : Value}
    (a32 : PySem.W.nsIn K mainGlobals "_law_two" = some (some (.ref f32))) (l32 : K.lookup f32 = some ⟨oc32, od32, .func (PySem.W.fnOf "_law_two" "_law_two" (defArgs st__law_two) (defBody st__law_two) (defScope st__law_two) .none kV32 dc32 pm32 an32 cd32 ct32), sl32⟩) (c32 : PySem.W.codeIn K cd32 "_law_two" = true) (k32 : PySem.W.keepIn K (.ref f32) = true)
    {f33 : Addr} {od33 an33 : Option Addr} {sl33 : Array (Option Value)} {oc33 kV33 dc33 pm33 cd33 ct33 : Value}
    (a33 : PySem.W.nsIn K mainGlobals "_law_made" = some (some (.ref f33))) (l33 : K.lookup f33 = some ⟨oc33, od33, .func (PySem.W.fnOf "_law_made" "_law_made" (defArgs st__law_made) (defBody st__law_made) (defScope st__law_made) .none kV33 dc33 pm33 an33 cd33 ct33), sl33⟩) (c33 : PySem.W.codeIn K cd33 "_law_made" = true) (k33 : PySem.W.keepIn K (.ref f33) = true)
    {f34 : Addr} {od34 an34 : Option Addr} {sl34 : Array (Option Value)} {oc34 kV34 dc34 pm34 cd34 ct34 : Value}
    (a34 : PySem.W.nsIn K mainGlobals "_law_amount" = some (some (.ref f34))) (l34 : K.lookup f34 = some ⟨oc34, od34, .func (PySem.W.fnOf "_law_amount" "_law_amount" (defArgs st__law_amount) (defBody st__law_amount) (defScope st__law_amount) .none kV34 dc34 pm34 an34 cd34 ct34), sl34⟩) (c34 : PySem.W.codeIn K cd34 "_law_amount" = true) (k34 : PySem.W.keepIn K (.ref f34) = true)
    {f35 : Addr} {od35 an35 : Option Addr} {sl35 : Array (Option Value)} {oc35 kV35 dc35 pm35 cd35 ct35 : Value}
    (a35 : PySem.W.nsIn K mainGlobals "_law_amounts" = some (some (.ref f35))) (l35 : K.lookup f35 = some ⟨oc35, od35, .func (PySem.W.fnOf "_law_amounts" "_law_amounts" (defArgs st__law_amounts) (defBody st__law_amounts) (defScope st__law_amounts) .none kV35 dc35 pm35 an35 cd35 ct35), sl35⟩) (c35 : PySem.W.codeIn K cd35 "_law_amounts" = true) (k35 : PySem.W.keepIn K (.ref f35) = true)
    {f36 : Addr} {od36 an36 : Option Addr} {sl36 : Array (Option Value)} {oc36 kV36 dc36 pm36 cd36 ct36 : Value}
    (a36 : PySem.W.nsIn K mainGlobals "law" = some (some (.ref f36))) (l36 : K.lookup f36 = some ⟨oc36, od36, .func (PySem.W.fnOf "law" "law" (defArgs st_law) (defBody st_law) (defScope st_law) .none kV36 dc36 pm36 an36 cd36 ct36), sl36⟩) (c36 : PySem.W.codeIn K cd36 "law" = true) (k36 : PySem.W.keepIn K (.ref f36) = true)
    (z0 : PySem.W.nsIn K mainGlobals "abs" = some none)
    (z1 : PySem.W.nsIn K mainGlobals "any" = some none)
    (z2 : PySem.W.nsIn K mainGlobals "bool" = some none)
    (z3 : PySem.W.nsIn K mainGlobals "enumerate" = some none)
    (z4 : PySem.W.nsIn K mainGlobals "int" = some none)
    (z5 : PySem.W.nsIn K mainGlobals "isinstance" = some none)
    (z6 : PySem.W.nsIn K mainGlobals "len" = some none)
    (z7 : PySem.W.nsIn K mainGlobals "list" = some none)
    (z8 : PySem.W.nsIn K mainGlobals "max" = some none)
    (z9 : PySem.W.nsIn K mainGlobals "min" = some none)
    (z10 : PySem.W.nsIn K mainGlobals "range" = some none)
    (z11 : PySem.W.nsIn K mainGlobals "reversed" = some none)
    (z12 : PySem.W.nsIn K mainGlobals "str" = some none)
    (z13 : PySem.W.nsIn K mainGlobals "tuple" = some none)
    (z14 : PySem.W.nsIn K mainGlobals "zip" = some none)
    : ∃ fd : FuncData, (∀ (s : Shared) (v : Value), BindsTo s fd ⟨[v], []⟩ [("script", v)]) ∧ ∀ base : Heap, K.In base → base.Ns mainGlobals mg → FnOk l.prog w K mg base CX0 32 fa fd ["script"] (spLaw K) := by
  have e := hfa.symm.trans (PySem.W.mg_of X G a36)
  cases e
  let T : Facts K mg := {
    a_names_of := f0
    d_names_of := _
    F_names_of := fun_mk (st := st_names_of) l0 c0 k0
    g_names_of := PySem.W.mg_of X G a0
    b_names_of := (fun_mk (st := st_names_of) l0 c0 k0).binds (ps := ["model", "profile"]) fun _ _ _ _ _ _ us hl => match us, hl with | [_, _], _ => rfl
    a_profile_count := f1
    d_profile_count := _
    F_profile_count := fun_mk (st := st_profile_count) l1 c1 k1
    g_profile_count := PySem.W.mg_of X G a1
    b_profile_count := (fun_mk (st := st_profile_count) l1 c1 k1).binds (ps := ["model"]) fun _ _ _ _ _ _ us hl => match us, hl with | [_], _ => rfl
    a_group_profiles := f2
    d_group_profiles := _
    F_group_profiles := fun_mk (st := st_group_profiles) l2 c2 k2
    g_group_profiles := PySem.W.mg_of X G a2
    b_group_profiles := (fun_mk (st := st_group_profiles) l2 c2 k2).binds (ps := ["model", "profile"]) fun _ _ _ _ _ _ us hl => match us, hl with | [_, _], _ => rfl
    a_belongs := f3
    d_belongs := _
    F_belongs := fun_mk (st := st_belongs) l3 c3 k3
    g_belongs := PySem.W.mg_of X G a3
    b_belongs := (fun_mk (st := st_belongs) l3 c3 k3).binds (ps := ["model", "profile", "sector"]) fun _ _ _ _ _ _ us hl => match us, hl with | [_, _, _], _ => rfl
    a__groups_in := f4
    d__groups_in := _
    F__groups_in := fun_mk (st := st__groups_in) l4 c4 k4
    g__groups_in := PySem.W.mg_of X G a4
    b__groups_in := (fun_mk (st := st__groups_in) l4 c4 k4).binds (ps := ["model", "members", "sector"]) fun _ _ _ _ _ _ us hl => match us, hl with | [_, _, _], _ => rfl
    a_unit_transactions := f5
    d_unit_transactions := _
    F_unit_transactions := fun_mk (st := st_unit_transactions) l5 c5 k5
    g_unit_transactions := PySem.W.mg_of X G a5
    b_unit_transactions := (fun_mk (st := st_unit_transactions) l5 c5 k5).binds (ps := ["model", "profile"]) fun _ _ _ _ _ _ us hl => match us, hl with | [_, _], _ => rfl
    a_made := f6
    d_made := _
    F_made := fun_mk (st := st_made) l6 c6 k6
    g_made := PySem.W.mg_of X G a6
    b_made := (fun_mk (st := st_made) l6 c6 k6).binds (ps := ["model", "profile", "amounts"]) fun _ _ _ _ _ _ us hl => match us, hl with | [_, _, _], _ => rfl
    a__law_tape := f7
    d__law_tape := _
    F__law_tape := fun_mk (st := st__law_tape) l7 c7 k7
    g__law_tape := PySem.W.mg_of X G a7
    b__law_tape := (fun_mk (st := st__law_tape) l7 c7 k7).binds (ps := ["script"]) fun _ _ _ _ _ _ us hl => match us, hl with | [_], _ => rfl
    a__law_draw := f8
    d__law_draw := _
    F__law_draw := fun_mk (st := st__law_draw) l8 c8 k8
    g__law_draw := PySem.W.mg_of X G a8
    b__law_draw := (fun_mk (st := st__law_draw) l8 c8 k8).binds (ps := ["tape", "many"]) fun _ _ _ _ _ _ us hl => match us, hl with | [_, _], _ => rfl
    a__law_same := f9
    d__law_same := _
    F__law_same := fun_mk (st := st__law_same) l9 c9 k9
    g__law_same := PySem.W.mg_of X G a9
    b__law_same := (fun_mk (st := st__law_same) l9 c9 k9).binds (ps := ["actual", "expected"]) fun _ _ _ _ _ _ us hl => match us, hl with | [_, _], _ => rfl
    a__law_sets := f10
    d__law_sets := _
    F__law_sets := fun_mk (st := st__law_sets) l10 c10 k10
    g__law_sets := PySem.W.mg_of X G a10
    b__law_sets := (fun_mk (st := st__law_sets) l10 c10 k10).binds (ps := ["sectors"]) fun _ _ _ _ _ _ us hl => match us, hl with | [_], _ => rfl
    a__law_letters := f11
    d__law_letters := _
    F__law_letters := fun_mk (st := st__law_letters) l11 c11 k11
    g__law_letters := PySem.W.mg_of X G a11
    b__law_letters := (fun_mk (st := st__law_letters) l11 c11 k11).binds (ps := []) fun _ _ _ _ _ _ us hl => match us, hl with | [], _ => rfl
    a__law_reserved := f12
    d__law_reserved := _
    F__law_reserved := fun_mk (st := st__law_reserved) l12 c12 k12
    g__law_reserved := PySem.W.mg_of X G a12
    b__law_reserved := (fun_mk (st := st__law_reserved) l12 c12 k12).binds (ps := []) fun _ _ _ _ _ _ us hl => match us, hl with | [], _ => rfl
    a__law_run := f13
    d__law_run := _
    F__law_run := fun_mk (st := st__law_run) l13 c13 k13
    g__law_run := PySem.W.mg_of X G a13
    b__law_run := (fun_mk (st := st__law_run) l13 c13 k13).binds (ps := ["tape", "size"]) fun _ _ _ _ _ _ us hl => match us, hl with | [_, _], _ => rfl
    a__law_names := f14
    d__law_names := _
    F__law_names := fun_mk (st := st__law_names) l14 c14 k14
    g__law_names := PySem.W.mg_of X G a14
    b__law_names := (fun_mk (st := st__law_names) l14 c14 k14).binds (ps := ["tape", "many"]) fun _ _ _ _ _ _ us hl => match us, hl with | [_, _], _ => rfl
    a__law_lists := f15
    d__law_lists := _
    F__law_lists := fun_mk (st := st__law_lists) l15 c15 k15
    g__law_lists := PySem.W.mg_of X G a15
    b__law_lists := (fun_mk (st := st__law_lists) l15 c15 k15).binds (ps := ["tape", "most"]) fun _ _ _ _ _ _ us hl => match us, hl with | [_, _], _ => rfl
    a__law_leaf := f16
    d__law_leaf := _
    F__law_leaf := fun_mk (st := st__law_leaf) l16 c16 k16
    g__law_leaf := PySem.W.mg_of X G a16
    b__law_leaf := (fun_mk (st := st__law_leaf) l16 c16 k16).binds (ps := ["tape", "sectors"]) fun _ _ _ _ _ _ us hl => match us, hl with | [_, _], _ => rfl
    a__law_sector := f17
    d__law_sector := _
    F__law_sector := fun_mk (st := st__law_sector) l17 c17 k17
    g__law_sector := PySem.W.mg_of X G a17
    b__law_sector := (fun_mk (st := st__law_sector) l17 c17 k17).binds (ps := ["tape", "sectors", "size", "depth", "level"]) fun _ _ _ _ _ _ us hl => match us, hl with | [_, _, _, _, _], _ => rfl
    a__law_deep := f18
    d__law_deep := _
    F__law_deep := fun_mk (st := st__law_deep) l18 c18 k18
    g__law_deep := PySem.W.mg_of X G a18
    b__law_deep := (fun_mk (st := st__law_deep) l18 c18 k18).binds (ps := ["tape", "sectors", "depth"]) fun _ _ _ _ _ _ us hl => match us, hl with | [_, _, _], _ => rfl
    a__law_some_sector := f19
    d__law_some_sector := _
    F__law_some_sector := fun_mk (st := st__law_some_sector) l19 c19 k19
    g__law_some_sector := PySem.W.mg_of X G a19
    b__law_some_sector := (fun_mk (st := st__law_some_sector) l19 c19 k19).binds (ps := ["tape", "sectors", "size", "level"]) fun _ _ _ _ _ _ us hl => match us, hl with | [_, _, _, _], _ => rfl
    a__law_number := f20
    d__law_number := _
    F__law_number := fun_mk (st := st__law_number) l20 c20 k20
    g__law_number := PySem.W.mg_of X G a20
    b__law_number := (fun_mk (st := st__law_number) l20 c20 k20).binds (ps := ["tape", "wide"]) fun _ _ _ _ _ _ us hl => match us, hl with | [_, _], _ => rfl
    a__law_entries := f21
    d__law_entries := _
    F__law_entries := fun_mk (st := st__law_entries) l21 c21 k21
    g__law_entries := PySem.W.mg_of X G a21
    b__law_entries := (fun_mk (st := st__law_entries) l21 c21 k21).binds (ps := ["tape", "accounts", "wide"]) fun _ _ _ _ _ _ us hl => match us, hl with | [_, _, _], _ => rfl
    a__law_negated := f22
    d__law_negated := _
    F__law_negated := fun_mk (st := st__law_negated) l22 c22 k22
    g__law_negated := PySem.W.mg_of X G a22
    b__law_negated := (fun_mk (st := st__law_negated) l22 c22 k22).binds (ps := ["entries"]) fun _ _ _ _ _ _ us hl => match us, hl with | [_], _ => rfl
    a__law_kind := f23
    d__law_kind := _
    F__law_kind := fun_mk (st := st__law_kind) l23 c23 k23
    g__law_kind := PySem.W.mg_of X G a23
    b__law_kind := (fun_mk (st := st__law_kind) l23 c23 k23).binds (ps := ["tape", "name", "sectors", "accounts", "size", "wide"]) fun _ _ _ _ _ _ us hl => match us, hl with | [_, _, _, _, _, _], _ => rfl
    a__law_constraint := f24
    d__law_constraint := _
    F__law_constraint := fun_mk (st := st__law_constraint) l24 c24 k24
    g__law_constraint := PySem.W.mg_of X G a24
    b__law_constraint := (fun_mk (st := st__law_constraint) l24 c24 k24).binds (ps := ["tape", "sectors", "accounts", "many", "size", "wide"]) fun _ _ _ _ _ _ us hl => match us, hl with | [_, _, _, _, _, _], _ => rfl
    a__law_claim := f25
    d__law_claim := _
    F__law_claim := fun_mk (st := st__law_claim) l25 c25 k25
    g__law_claim := PySem.W.mg_of X G a25
    b__law_claim := (fun_mk (st := st__law_claim) l25 c25 k25).binds (ps := ["tape", "sectors", "accounts", "premises", "many", "size", "wide"]) fun _ _ _ _ _ _ us hl => match us, hl with | [_, _, _, _, _, _, _], _ => rfl
    a__law_model := f26
    d__law_model := _
    F__law_model := fun_mk (st := st__law_model) l26 c26 k26
    g__law_model := PySem.W.mg_of X G a26
    b__law_model := (fun_mk (st := st__law_model) l26 c26 k26).binds (ps := ["tape", "lists", "most", "many", "size", "wide"]) fun _ _ _ _ _ _ us hl => match us, hl with | [_, _, _, _, _, _], _ => rfl
    a__law_member := f27
    d__law_member := _
    F__law_member := fun_mk (st := st__law_member) l27 c27 k27
    g__law_member := PySem.W.mg_of X G a27
    b__law_member := (fun_mk (st := st__law_member) l27 c27 k27).binds (ps := ["sector", "names"]) fun _ _ _ _ _ _ us hl => match us, hl with | [_, _], _ => rfl
    a__law_kind_of := f28
    d__law_kind_of := _
    F__law_kind_of := fun_mk (st := st__law_kind_of) l28 c28 k28
    g__law_kind_of := PySem.W.mg_of X G a28
    b__law_kind_of := (fun_mk (st := st__law_kind_of) l28 c28 k28).binds (ps := ["model", "name"]) fun _ _ _ _ _ _ us hl => match us, hl with | [_, _], _ => rfl
    a__law_problem := f29
    d__law_problem := _
    F__law_problem := fun_mk (st := st__law_problem) l29 c29 k29
    g__law_problem := PySem.W.mg_of X G a29
    b__law_problem := (fun_mk (st := st__law_problem) l29 c29 k29).binds (ps := ["model", "ledger"]) fun _ _ _ _ _ _ us hl => match us, hl with | [_, _], _ => rfl
    a__law_members := f30
    d__law_members := _
    F__law_members := fun_mk (st := st__law_members) l30 c30 k30
    g__law_members := PySem.W.mg_of X G a30
    b__law_members := (fun_mk (st := st__law_members) l30 c30 k30).binds (ps := ["people", "sector"]) fun _ _ _ _ _ _ us hl => match us, hl with | [_, _], _ => rfl
    a__law_units := f31
    d__law_units := _
    F__law_units := fun_mk (st := st__law_units) l31 c31 k31
    g__law_units := PySem.W.mg_of X G a31
    b__law_units := (fun_mk (st := st__law_units) l31 c31 k31).binds (ps := ["model", "profile"]) fun _ _ _ _ _ _ us hl => match us, hl with | [_, _], _ => rfl
    a__law_two := f32
    d__law_two := _
    F__law_two := fun_mk (st := st__law_two) l32 c32 k32
    g__law_two := PySem.W.mg_of X G a32
    b__law_two := (fun_mk (st := st__law_two) l32 c32 k32).binds (ps := ["used", "group", "many"]) fun _ _ _ _ _ _ us hl => match us, hl with | [_, _, _], _ => rfl
    a__law_made := f33
    d__law_made := _
    F__law_made := fun_mk (st := st__law_made) l33 c33 k33
    g__law_made := PySem.W.mg_of X G a33
    b__law_made := (fun_mk (st := st__law_made) l33 c33 k33).binds (ps := ["model", "profile", "amounts"]) fun _ _ _ _ _ _ us hl => match us, hl with | [_, _, _], _ => rfl
    a__law_amount := f34
    d__law_amount := _
    F__law_amount := fun_mk (st := st__law_amount) l34 c34 k34
    g__law_amount := PySem.W.mg_of X G a34
    b__law_amount := (fun_mk (st := st__law_amount) l34 c34 k34).binds (ps := ["tape"]) fun _ _ _ _ _ _ us hl => match us, hl with | [_], _ => rfl
    a__law_amounts := f35
    d__law_amounts := _
    F__law_amounts := fun_mk (st := st__law_amounts) l35 c35 k35
    g__law_amounts := PySem.W.mg_of X G a35
    b__law_amounts := (fun_mk (st := st__law_amounts) l35 c35 k35).binds (ps := ["tape", "many"]) fun _ _ _ _ _ _ us hl => match us, hl with | [_, _], _ => rfl
    a_law := fa
    d_law := _
    F_law := fun_mk (st := st_law) l36 c36 k36
    g_law := PySem.W.mg_of X G a36
    b_law := (fun_mk (st := st_law) l36 c36 k36).binds (ps := ["script"]) fun _ _ _ _ _ _ us hl => match us, hl with | [_], _ => rfl
    m_abs := PySem.W.mg_none_of X G z0
    m_any := PySem.W.mg_none_of X G z1
    m_bool := PySem.W.mg_none_of X G z2
    m_enumerate := PySem.W.mg_none_of X G z3
    m_int := PySem.W.mg_none_of X G z4
    m_isinstance := PySem.W.mg_none_of X G z5
    m_len := PySem.W.mg_none_of X G z6
    m_list := PySem.W.mg_none_of X G z7
    m_max := PySem.W.mg_none_of X G z8
    m_min := PySem.W.mg_none_of X G z9
    m_range := PySem.W.mg_none_of X G z10
    m_reversed := PySem.W.mg_none_of X G z11
    m_str := PySem.W.mg_none_of X G z12
    m_tuple := PySem.W.mg_none_of X G z13
    m_zip := PySem.W.mg_none_of X G z14
  }
  exact ⟨T.d_law, fun s v => .of_eq rfl, fun base _ _ => law_ok rfl (ok_law T) law_true⟩
end Go
open PySem PySem.W PyProof.Rows
set_option maxHeartbeats 0 in
theorem PySem.Challenge.cw_ledgerproof_k35_made_ledgers_holds : PySem.Challenge.rw_ledgerproof_k35_made_ledgers.Holds := by
  w_on; o_law; k_head; (case hw => w_witness2)
  k_fill
  refine L2.walk_of (l := PySem.Challenge.rw_ledgerproof_k35_made_ledgers) (n := 63) (k := 32) (x := "script") (CX := fun _ => L2.CX0) (sp := fun w => Fx.spLaw _) rfl (by decide) rfl ⟨rfl, by decide, by decide⟩ (fun w h Y => PySem.W.kIn_of Y) ?F (fun _ _ a ns hl _ hS => ⟨a, ns, rfl, hS, hl, fun _ => rfl⟩) (fun _ _ _ _ _ h => h)
  case F =>
    intro w mg fa h KX G hmg
    refine' Go.all_mk Go.law_true KX G hmg ?a0 ?l0 ?c0 ?k0 ?a1 ?l1 ?c1 ?k1 ?a2 ?l2 ?c2 ?k2 ?a3 ?l3 ?c3 ?k3 ?a4 ?l4 ?c4 ?k4 ?a5 ?l5 ?c5 ?k5 ?a6 ?l6 ?c6 ?k6 ?a7 ?l7 ?c7 ?k7 ?a8 ?l8 ?c8 ?k8 ?a9 ?l9 ?c9 ?k9 ?a10 ?l10 ?c10 ?k10 ?a11 ?l11 ?c11 ?k11 ?a12 ?l12 ?c12 ?k12 ?a13 ?l13 ?c13 ?k13 ?a14 ?l14 ?c14 ?k14 ?a15 ?l15 ?c15 ?k15 ?a16 ?l16 ?c16 ?k16 ?a17 ?l17 ?c17 ?k17 ?a18 ?l18 ?c18 ?k18 ?a19 ?l19 ?c19 ?k19 ?a20 ?l20 ?c20 ?k20 ?a21 ?l21 ?c21 ?k21 ?a22 ?l22 ?c22 ?k22 ?a23 ?l23 ?c23 ?k23 ?a24 ?l24 ?c24 ?k24 ?a25 ?l25 ?c25 ?k25 ?a26 ?l26 ?c26 ?k26 ?a27 ?l27 ?c27 ?k27 ?a28 ?l28 ?c28 ?k28 ?a29 ?l29 ?c29 ?k29 ?a30 ?l30 ?c30 ?k30 ?a31 ?l31 ?c31 ?k31 ?a32 ?l32 ?c32 ?k32 ?a33 ?l33 ?c33 ?k33 ?a34 ?l34 ?c34 ?k34 ?a35 ?l35 ?c35 ?k35 ?a36 ?l36 ?c36 ?k36 ?z0 ?z1 ?z2 ?z3 ?z4 ?z5 ?z6 ?z7 ?z8 ?z9 ?z10 ?z11 ?z12 ?z13 ?z14
    (case a0 => k_is)
    (case l0 => k_is)
    (case c0 => k_is)
    (case k0 => k_is)
    (case a1 => k_is)
    (case l1 => k_is)
    (case c1 => k_is)
    (case k1 => k_is)
    (case a2 => k_is)
    (case l2 => k_is)
    (case c2 => k_is)
    (case k2 => k_is)
    (case a3 => k_is)
    (case l3 => k_is)
    (case c3 => k_is)
    (case k3 => k_is)
    (case a4 => k_is)
    (case l4 => k_is)
    (case c4 => k_is)
    (case k4 => k_is)
    (case a5 => k_is)
    (case l5 => k_is)
    (case c5 => k_is)
    (case k5 => k_is)
    (case a6 => k_is)
    (case l6 => k_is)
    (case c6 => k_is)
    (case k6 => k_is)
    (case a7 => k_is)
    (case l7 => k_is)
    (case c7 => k_is)
    (case k7 => k_is)
    (case a8 => k_is)
    (case l8 => k_is)
    (case c8 => k_is)
    (case k8 => k_is)
    (case a9 => k_is)
    (case l9 => k_is)
    (case c9 => k_is)
    (case k9 => k_is)
    (case a10 => k_is)
    (case l10 => k_is)
    (case c10 => k_is)
    (case k10 => k_is)
    (case a11 => k_is)
    (case l11 => k_is)
    (case c11 => k_is)
    (case k11 => k_is)
    (case a12 => k_is)
    (case l12 => k_is)
    (case c12 => k_is)
    (case k12 => k_is)
    (case a13 => k_is)
    (case l13 => k_is)
    (case c13 => k_is)
    (case k13 => k_is)
    (case a14 => k_is)
    (case l14 => k_is)
    (case c14 => k_is)
    (case k14 => k_is)
    (case a15 => k_is)
    (case l15 => k_is)
    (case c15 => k_is)
    (case k15 => k_is)
    (case a16 => k_is)
    (case l16 => k_is)
    (case c16 => k_is)
    (case k16 => k_is)
    (case a17 => k_is)
    (case l17 => k_is)
    (case c17 => k_is)
    (case k17 => k_is)
    (case a18 => k_is)
    (case l18 => k_is)
    (case c18 => k_is)
    (case k18 => k_is)
    (case a19 => k_is)
    (case l19 => k_is)
    (case c19 => k_is)
    (case k19 => k_is)
    (case a20 => k_is)
    (case l20 => k_is)
    (case c20 => k_is)
    (case k20 => k_is)
    (case a21 => k_is)
    (case l21 => k_is)
    (case c21 => k_is)
    (case k21 => k_is)
    (case a22 => k_is)
    (case l22 => k_is)
    (case c22 => k_is)
    (case k22 => k_is)
    (case a23 => k_is)
    (case l23 => k_is)
    (case c23 => k_is)
    (case k23 => k_is)
    (case a24 => k_is)
    (case l24 => k_is)
    (case c24 => k_is)
    (case k24 => k_is)
    (case a25 => k_is)
    (case l25 => k_is)
    (case c25 => k_is)
    (case k25 => k_is)
    (case a26 => k_is)
    (case l26 => k_is)
    (case c26 => k_is)
    (case k26 => k_is)
    (case a27 => k_is)
    (case l27 => k_is)
    (case c27 => k_is)
    (case k27 => k_is)
    (case a28 => k_is)
    (case l28 => k_is)
    (case c28 => k_is)
    (case k28 => k_is)
    (case a29 => k_is)
    (case l29 => k_is)
    (case c29 => k_is)
    (case k29 => k_is)
    (case a30 => k_is)
    (case l30 => k_is)
    (case c30 => k_is)
    (case k30 => k_is)
    (case a31 => k_is)
    (case l31 => k_is)
    (case c31 => k_is)
    (case k31 => k_is)
    (case a32 => k_is)
    (case l32 => k_is)
    (case c32 => k_is)
    (case k32 => k_is)
    (case a33 => k_is)
    (case l33 => k_is)
    (case c33 => k_is)
    (case k33 => k_is)
    (case a34 => k_is)
    (case l34 => k_is)
    (case c34 => k_is)
    (case k34 => k_is)
    (case a35 => k_is)
    (case l35 => k_is)
    (case c35 => k_is)
    (case k35 => k_is)
    (case a36 => k_is)
    (case l36 => k_is)
    (case c36 => k_is)
    (case k36 => k_is)
    (case z0 => k_is)
    (case z1 => k_is)
    (case z2 => k_is)
    (case z3 => k_is)
    (case z4 => k_is)
    (case z5 => k_is)
    (case z6 => k_is)
    (case z7 => k_is)
    (case z8 => k_is)
    (case z9 => k_is)
    (case z10 => k_is)
    (case z11 => k_is)
    (case z12 => k_is)
    (case z13 => k_is)
    (case z14 => k_is)
